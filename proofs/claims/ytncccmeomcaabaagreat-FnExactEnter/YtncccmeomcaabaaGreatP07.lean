import Derived.Laws.AppendOwnNone
import Derived.Test.YtncccmeomcaabaaGreatP06
set_option maxHeartbeats 40000000
namespace Go.Proofs.YtncccmeomcaabaaGreat
open Go.RowKit
open Go.Proofs.Tryz
set_option linter.all false
set_option maxRecDepth 100000
variable {P:PMod}{a a1 a2 a3 a5 a6 a7:qO}{base c c1 c2 c3 c5 c6 c7 g n:Nat}{bl:List Bk}{d k s:Int}{o:Oper}
theorem aIg (a:qO)(n cap:Nat)(ms:List Md)(s c k d:Int)(w:qw)(h:MSD w a n cap ms)(hn:n<=4)(hcf:cfo s c k d=true)(hv:fQ (aD ms))(hi:jS (aD ms)):
 qC 141 #[qS a n cap,.agg (qW s c k d)] w fun e w'=>qY w w'/\∃ a0 c0 xs a2 c2 a5 c5 ts,e=.returned (.agg (mG (lay (aD ms) s c k) a0 c0 xs a2 c2 a5 c5 ts))/\LayO w' w.heap.size (lay (aD ms) s c k) a0 c0 xs a2 c2 a5 c5 ts:=by
 have N0:=aM5 w s c k d (aD ms);have hl:=h.s.1;have hpl:(aD ms).length=n:=by rw [bR,hl]
 have HH:=aO h;have HI:=aO hi;have HVD:=aO hv;obtain ⟨hs0,hs1,hc0,hc1,hk0,hk1,hk2,_⟩:=of_decide_eq_true hcf;have HN:=aO N0;clear h N0 hi hcf;go_enter func141,ntmps141
 go_wp2_with fail
 go_loopw [6,7] (fun x i wr=>∃ (m:Nat) (a0:qO) (c0:Nat) (xs:List PB) (a5:qO) (c5:Nat) (ts:List TB),m<=n/\i=qI m/\x=qI (Ra (aD ms) m)/\Lst w wr s c k d #[qS a0 m c0,qI 0,qS (some (qR (w.heap.size+3) 0)) 0 0,qI (Fl (aD ms) m),qI 0,qS a5 m c5]/\Lrw w wr (aD ms) m a0 c0 xs a5 c5 ts) (fun _ i _=>n-(intOf i).toNat)
 .exact ⟨0,_,_,[],_,_,[],xC _,rfl,rfl,HN.out.1,HN.out.2⟩
 .clear HN;obtain ⟨m,a0,c0,xs,a5,c5,ts,hm,rfl,rfl,S,R⟩:=hrel;generalize wr=wo at *;by_cases hlt:m<n
  .have hlt':(m:Int)<(n:Int):=by omega
   have H:=HH.out.bw S.be;obtain ⟨b,off,rfl,q0,q1,q2,q3,q4,q5,q6,q7⟩:=H.s.at m hlt;have hmd:=H.d m hlt;have hvm:=HVD.out m (by omega);obtain ⟨P,hP⟩:=eqx ((aD ms).getD m zP);have hPM:P=(ms.getD m aK).pm:=hP.trans (cH (by omega));rw [<- hP] at hvm;have rT:=dZ hvm;have rD:=iN hvm;have rF:=cM HVD.out m (by omega);have rR:=bO HVD.out m (by omega);obtain ⟨_,_,vt,vb,vd,vs0,vs1,vbk⟩:=cA hvm;have HFS:=aO (fun k hk=>cD hvm k hk);have eT:(ms.getD m aK).tn=P.tz.length:=by rw [hPM];exact hmd.t.1.symm
   have eD:(ms.getD m aK).dn=P.dz.length:=by rw [hPM];exact hmd.d.1.symm
   have eS:(ms.getD m aK).bss=P.bss:=by rw [hPM];rfl
   have eB:(ms.getD m aK).bn=P.bl.length:=by rw [hPM];show _=(List.map _ _).length;rw [xH];exact hmd.b.1.symm
   have HBK:=aO (show ∀ j,j<P.bl.length->((ms.getD m aK).bl.getD j zB).2.1=(P.bl.getD j []).length from fun j hj=>by rw [hPM];exact (rA hmd j (by omega)).1);have HTG:=aO (xA hmd (show pP (aD ms) (ms.getD m aK).pm by have:=HI.out m (by omega);rw [<- hP,hPM] at this;exact this));have HMW:=aO (fun (W:qw) (hb:qY w W)=>(HH.out.bw hb).d m hlt);have hok:fB (ms.getD m aK).pm=0:=by rw [<- hPM];exact hvm
   have HOKM:=aO hok;have HPP:=aO hP;have HPM:=aO hPM;generalize ms.getD m aK=M at *;rw [eT] at q1;rw [eB] at q2;rw [eD] at q3;rw [eS] at q4;have HE:=aO (xA eT (xA eD (xA eS eB)));have al:qY wo (wo.alloc (.cells (qM M.nm M.ta P.tz.length M.tc M.ba P.bl.length M.bc M.da P.dz.length M.dc P.bss M.ra M.rn M.rc M.ia M.im M.ic M.ea M.en M.ec) 138)):=brf.alloc aN _;have kM:=Blk.new wo (qM M.nm M.ta P.tz.length M.tc M.ba P.bl.length M.bc M.da P.dz.length M.dc P.bss M.ra M.rn M.rc M.ia M.im M.ic M.ea M.en M.ec) 138;have S1:=S.bw al;have TT:Turn (Lg w) wo (wo.alloc (.cells (qM M.nm M.ta P.tz.length M.tc M.ba P.bl.length M.bc M.da P.dz.length M.dc P.bss M.ra M.rn M.rc M.ia M.im M.ic M.ea M.en M.ec) 138)):=aJ al;have hgw:=S.sz;have HSR:=aO (xA S R);clear H hmd hP hPM hok eT eD eS eB al S R hvm;have p3:=S1.k5.e3;obtain ⟨g0,g1,g2,g3,g4,g5,g6,g7⟩:=kM.eight;have HS1:=aO (xA S1 (xA kM TT));clear S1 kM TT;have hwd:IntKind.i64.wrap ((P.dz.length:Int)+P.bss)=(P.dz.length:Int)+P.bss:=bZ _ (by omega) (by omega);have hwr:IntKind.i64.wrap (65536+Ra (aD ms) m)=65536+Ra (aD ms) m:=bZ _ (by omega) (by omega);go_wp2_with fail
   generalize hV1:wo.alloc (.cells (qM M.nm M.ta P.tz.length M.tc M.ba P.bl.length M.bc M.da P.dz.length M.dc P.bss M.ra M.rn M.rc M.ia M.im M.ic M.ea M.en M.ec) 138)=V1 at *;have HV1:=aO (show V1.heap.size=wo.heap.size+1 by rw [<- hV1];simp);clear hV1 q0 q1 q2 q3 q4 q5 q6 q7;apply aQu (F:=fun (gp gr:Nat) (W:qw)=>(Lst w W s c k d #[qS a0 m c0,qI 0,qS (some (qR (w.heap.size+3) 0)) 0 0,qI (Fl (aD ms) m),qI 0,qS a5 m c5]/\Blk W wo.heap.size (qM M.nm M.ta P.tz.length M.tc M.ba P.bl.length M.bc M.da P.dz.length M.dc P.bss M.ra M.rn M.rc M.ia M.im M.ic M.ea M.en M.ec) 138/\Turn (Lg w) wo W/\Blk W gp #[qI (Fl (aD ms) m),qS (qP gr) 0 0,qI (65536+Ra (aD ms) m),qI (rnd ((P.dz.length:Int)+P.bss))] 171/\OG 3 1 clI W (wo.heap.size+1) (qS (qP gr) 0 0) []/\wo.heap.size+1<=gp))
   .intro REST0;have REST:=aO REST0;clear REST0
    have HFA:=aO (show (fun (gp gr:Nat) (W:qw)=>(Lst w W s c k d #[qS a0 m c0,qI 0,qS (some (qR (w.heap.size+3) 0)) 0 0,qI (Fl (aD ms) m),qI 0,qS a5 m c5]/\Blk W wo.heap.size (qM M.nm M.ta P.tz.length M.tc M.ba P.bl.length M.bc M.da P.dz.length M.dc P.bss M.ra M.rn M.rc M.ia M.im M.ic M.ea M.en M.ec) 138/\Turn (Lg w) wo W/\Blk W gp #[qI (Fl (aD ms) m),qS (qP gr) 0 0,qI (65536+Ra (aD ms) m),qI (rnd ((P.dz.length:Int)+P.bss))] 171/\OG 3 1 clI W (wo.heap.size+1) (qS (qP gr) 0 0) []/\wo.heap.size+1<=gp)) (V1.heap.size+1) V1.heap.size (((V1.alloc (.cells #[] 3)).alloc (.cells #[qI (Fl (aD ms) m),qS (qP V1.heap.size) 0 0,qI (65536+Ra (aD ms) m),qI (rnd ((P.dz.length:Int)+P.bss))] 171)).drew) from by
     obtain ⟨S1,kM,TT⟩:=HS1.out;have hv1:=HV1.out;have b1:qY V1 (V1.alloc (.cells #[] 3)):=brf.alloc aN _;have o1:=bI 3 1 clI V1 (wo.heap.size+1) (by omega);have s1:(V1.alloc (.cells #[] 3)).heap.size=V1.heap.size+1:=by simp
     generalize V1.alloc (.cells #[] 3)=V2 at *;have b2:qY V2 ((V2.alloc (.cells #[qI (Fl (aD ms) m),qS (qP V1.heap.size) 0 0,qI (65536+Ra (aD ms) m),qI (rnd ((P.dz.length:Int)+P.bss))] 171)).drew):=(brf.alloc aN _).drew;have k2:=Blk.new V2 #[qI (Fl (aD ms) m),qS (qP V1.heap.size) 0 0,qI (65536+Ra (aD ms) m),qI (rnd ((P.dz.length:Int)+P.bss))] 171;rw [s1] at k2;have b12:=b1.trans (b2.mono (by omega))
     exact ⟨S1.bw b12,kM.bw b12,TT.trans (aJ b12),k2,o1.bw b2,by omega⟩)
    have HFB:=aO (show (fun (gp gr:Nat) (W:qw)=>(Lst w W s c k d #[qS a0 m c0,qI 0,qS (some (qR (w.heap.size+3) 0)) 0 0,qI (Fl (aD ms) m),qI 0,qS a5 m c5]/\Blk W wo.heap.size (qM M.nm M.ta P.tz.length M.tc M.ba P.bl.length M.bc M.da P.dz.length M.dc P.bss M.ra M.rn M.rc M.ia M.im M.ic M.ea M.en M.ec) 138/\Turn (Lg w) wo W/\Blk W gp #[qI (Fl (aD ms) m),qS (qP gr) 0 0,qI (65536+Ra (aD ms) m),qI (rnd ((P.dz.length:Int)+P.bss))] 171/\OG 3 1 clI W (wo.heap.size+1) (qS (qP gr) 0 0) []/\wo.heap.size+1<=gp)) V1.heap.size (V1.heap.size+1) (((V1.alloc (.cells #[qI (Fl (aD ms) m),qS (some (qR (V1.heap.size+1) 0)) 0 0,qI (65536+Ra (aD ms) m),qI (rnd ((P.dz.length:Int)+P.bss))] 171)).alloc (.cells #[] 3)).drew) from by
     obtain ⟨S1,kM,TT⟩:=HS1.out;have hv1:=HV1.out;have b1:qY V1 (V1.alloc (.cells #[qI (Fl (aD ms) m),qS (some (qR (V1.heap.size+1) 0)) 0 0,qI (65536+Ra (aD ms) m),qI (rnd ((P.dz.length:Int)+P.bss))] 171)):=brf.alloc aN _;have k2:=Blk.new V1 #[qI (Fl (aD ms) m),qS (some (qR (V1.heap.size+1) 0)) 0 0,qI (65536+Ra (aD ms) m),qI (rnd ((P.dz.length:Int)+P.bss))] 171;have s1:(V1.alloc (.cells #[qI (Fl (aD ms) m),qS (some (qR (V1.heap.size+1) 0)) 0 0,qI (65536+Ra (aD ms) m),qI (rnd ((P.dz.length:Int)+P.bss))] 171)).heap.size=V1.heap.size+1:=by simp
     generalize V1.alloc (.cells #[qI (Fl (aD ms) m),qS (some (qR (V1.heap.size+1) 0)) 0 0,qI (65536+Ra (aD ms) m),qI (rnd ((P.dz.length:Int)+P.bss))] 171)=V2 at *;have b2:qY V2 ((V2.alloc (.cells #[] 3)).drew):=(brf.alloc aN _).drew;have o1:=bI 3 1 clI V2 (wo.heap.size+1) (by omega);rw [s1] at o1;have b12:=b1.trans (b2.mono (by omega));have o1':OG 3 1 clI ((V2.alloc (.cells #[] 3)).drew) (wo.heap.size+1) (qS (some (qR (V1.heap.size+1) 0)) 0 0) []:=o1.bw ((brf).drew)
     exact ⟨S1.bw b12,kM.bw b12,TT.trans (aJ b12),k2.bw b2,o1',by omega⟩)
    go_region_held3 (fun w'=>w'.cell? (qR (w.heap.size+5) 3)=some (qI (Fl (aD ms) m))/\w'.cell? (qR wo.heap.size 3)=some (qS M.da P.dz.length M.dc)/\w'.cell? (qR wo.heap.size 4)=some (qI P.bss)) (go_keep) (first
     | (go_at_call 171;refine (dM _ _ (by omega) (by omega)).mono ?_;rintro e wz ⟨rfl,rfl⟩))
    .have HFX:=HFA;clear HFA;generalize (((V1.alloc (.cells #[] 3)).alloc (.cells #[qI (Fl (aD ms) m),qS (qP V1.heap.size) 0 0,qI (65536+Ra (aD ms) m),qI (rnd ((P.dz.length:Int)+P.bss))] 171)).drew)=W' at HFX ⊢;generalize V1.heap.size+1=gp at HFX ⊢;generalize V1.heap.size=gr at HFX ⊢;exact REST.out gp gr W' HFX.out
    all_goals first|exact REST.out _ _ _ HFA.out|exact REST.out _ _ _ HFB.out
   .clear HS1 p3 g0 g1 g2 g3 g4 g5 g6 g7;rintro gp gr W' ⟨S1,kM,TT,kp,O,hgp⟩;show Exit.then _ _ _ _ _
    have p3:=S1.k5.e3;have f3:=S1.k5.frozen 3;have g1:=kM.e1;have hw4:IntKind.i64.wrap (4*(P.tz.length:Int))=4*(P.tz.length:Int):=bZ _ (by omega) (by omega);have rT':0<=rnd (4*(P.tz.length:Int))/\rnd (4*(P.tz.length:Int))<=831:=rT;have hwf:IntKind.i64.wrap (Fl (aD ms) m+rnd (4*(P.tz.length:Int)))=Fl (aD ms) m+rnd (4*(P.tz.length:Int)):=bZ _ (by omega) (by omega);have HQ:=aO (xA S1 (xA kM (xA TT (xA kp O))));clear S1 kM TT kp O;go_wp2_with fail
    apply aQd
    .intro REST0;have REST:=aO REST0;clear REST0
     go_region_law (first
      | (go_simp;go_at_call 171;refine (dM _ _ (by omega) (by omega)).mono ?_;rintro e wz ⟨rfl,rfl⟩))
     all_goals exact REST.out
    .obtain ⟨S1,kM,TT,kp,O⟩:=HQ.out;have t8:=aC W' (w.heap.size+5) 3 (qI (Fl (aD ms) m+rnd (4*(P.tz.length:Int))));have t8d:=mQ t8;have S2:Lst w ((W'.setCell (qR (w.heap.size+5) 3) (qI (Fl (aD ms) m+rnd (4*(P.tz.length:Int))))).drew) s c k d #[qS a0 m c0,qI 0,qS (some (qR (w.heap.size+3) 0)) 0 0,qI (Fl (aD ms) m+rnd (4*(P.tz.length:Int))),qI 0,qS a5 m c5]:=(S1.set 3 (qI (Fl (aD ms) m+rnd (4*(P.tz.length:Int))))).drew;have kM2:Blk ((W'.setCell (qR (w.heap.size+5) 3) (qI (Fl (aD ms) m+rnd (4*(P.tz.length:Int))))).drew) wo.heap.size (qM M.nm M.ta P.tz.length M.tc M.ba P.bl.length M.bc M.da P.dz.length M.dc P.bss M.ra M.rn M.rc M.ia M.im M.ic M.ea M.en M.ec) 138:=aF t8d kM (fun e=>by have e':wo.heap.size=w.heap.size+5:=e;omega);have TT2:Turn (Lg w) wo ((W'.setCell (qR (w.heap.size+5) 3) (qI (Fl (aD ms) m+rnd (4*(P.tz.length:Int))))).drew):=TT.trans (t8d.mono (fun j hj=>hj));have kp2:Blk ((W'.setCell (qR (w.heap.size+5) 3) (qI (Fl (aD ms) m+rnd (4*(P.tz.length:Int))))).drew) gp #[qI (Fl (aD ms) m),qS (qP gr) 0 0,qI (65536+Ra (aD ms) m),qI (rnd ((P.dz.length:Int)+P.bss))] 171:=aF t8d kp (fun e=>by have e':gp=w.heap.size+5:=e;omega);have O2:OG 3 1 clI ((W'.setCell (qR (w.heap.size+5) 3) (qI (Fl (aD ms) m+rnd (4*(P.tz.length:Int))))).drew) (wo.heap.size+1) (qS (qP gr) 0 0) []:=O.kept t8d (fun k hk e=>by have:=(O.lt k hk).1;have e':k=w.heap.size+5:=e;omega);have e0:(Fl (aD ms) m+rnd (4*(P.tz.length:Int)))=(Fl (aD ms) m+rnd (4*(P.tz.length:Int))+cB P 0):=by simp [cB]
     have HE0:=aO e0;have HQ2:=aO (xA S2 (xA kM2 (xA TT2 (xA kp2 O2))));clear S1 kM TT kp O S2 kM2 TT2 kp2 O2 t8 t8d HQ p3 f3 g1 e0;obtain ⟨iI,hiI,hz0,hz1,hz2⟩:=info_parts jP;go_wp2_with fail
     go_loopw [10] (fun i wx=>∃ (q:Nat) (ar:qO) (cr:Nat),q<=P.bl.length/\i=qI q/\Lst w wx s c k d #[qS a0 m c0,qI 0,qS (some (qR (w.heap.size+3) 0)) 0 0,qI (Fl (aD ms) m+rnd (4*(P.tz.length:Int))+cB P q),qI 0,qS a5 m c5]/\Blk wx wo.heap.size (qM M.nm M.ta P.tz.length M.tc M.ba P.bl.length M.bc M.da P.dz.length M.dc P.bss M.ra M.rn M.rc M.ia M.im M.ic M.ea M.en M.ec) 138/\Turn (Lg w) wo wx/\Blk wx gp #[qI (Fl (aD ms) m),qS ar q cr,qI (65536+Ra (aD ms) m),qI (rnd ((P.dz.length:Int)+P.bss))] 171/\OG 3 1 clI wx (wo.heap.size+1) (qS ar q cr) (bks (aD ms) m q)) (qf P.bl.length)
     .exact ⟨0,some (qR gr 0),0,xC _,rfl,(by rw [<- HE0.out];exact HQ2.out.1),HQ2.out.2.1,HQ2.out.2.2.1,HQ2.out.2.2.2.1,HQ2.out.2.2.2.2⟩
     .clear HQ2;obtain ⟨q,ar,cr,hq,rfl,S2,kM,TT,kp,O⟩:=hrel;have g2:=kM.e2;by_cases hlt2:q<P.bl.length
      .have hlt2':(q:Int)<(P.bl.length:Int):=by omega
       obtain ⟨FQ,hFQ⟩:=eqx ((Fl (aD ms) m+rnd (4*(P.tz.length:Int))+cB P q));rw [<- hFQ] at S2;have rq:=HFS.out q (by omega);have rFQ:0<=FQ/\FQ<=20000:=by omega
       have p3:=S2.k5.e3;have p1:=kp.e1;have al:qY wr (wr.alloc (.cells #[qI FQ] 3)):=brf.alloc aN _;have hTs:=TT.size;have HSU:=aO (show bks (aD ms) m (q+1)=bks (aD ms) m q++[FQ] by rw [aLm,<- HPP.out,hFQ];rfl);have HOW:=aO (show (wr.alloc (.cells #[qI FQ] 3)).ownsRow (wo.heap.size+1) 3 1 (qS ar q cr) q ((bks (aD ms) m q).flatMap clI) by have:=O.bw al;unfold OG at this;rw [nP] at this;exact this);have HQ:=aO (xA (S2.bw al) (xA (kM.bw al) (xA (TT.trans (aJ al)) (xA (kp.bw al) (O.bw al)))));have HFQ:=aO hFQ;clear S2 kM TT kp O al hFQ;go_wp2_with (at_builtin;refine wpList_append_own _ rfl _ _ 25 rfl (wo.heap.size+1) 3 iI (qI 0) 1 8 underlying25 hiI hz0 hz1 hz2 rfl (by decide) (qS ar q cr) q ((bks (aD ms) m q).flatMap clI) rfl HOW.out (qR wr.heap.size 0) 1 1 (clI FQ) rfl rfl (bT wr _ _ (clI FQ) rfl) (by intro u hu;simp [clI] at hu;subst hu;rfl) (by unfold maxLen;omega) (by omega) (by simp;omega) ?_;intro v' w4 hown hgr _;obtain ⟨S2,kM,TT,kp,O⟩:=HQ.out;have hrow:∀ j,(qS ar q cr).ownBlock=some j->wo.heap.size+1<=j:=(fun j hj=>(O.lt j hj).1);have O4:OG 3 1 clI w4 (wo.heap.size+1) v' (bks (aD ms) m (q+1)):=(by unfold OG;rw [nP,HSU.out,xU,xX];exact hown);have S4:=S2.grown hgr (fun j hj=>by have:=hrow j hj;omega);have kM4:=eM kM hgr (fun e=>by have:=hrow _ e.symm;omega);have TT4:=rO TT hgr (fun j hj=>by have:=hrow j hj;omega);have kp4:=eM kp hgr (fun e=>by obtain ⟨cs,hk⟩:=aE O e.symm;exact absurd (aI kp hk) (by decide));obtain ⟨ar',cr',rfl⟩:=aR O4;rw [nP] at O4 ⊢;have c1:w4.cell? (qR gp 1)=some (qS ar q cr):=kp4.cell 1;have f1:=kp4.frozen 1;have H4:=aO (xA S4 (xA kM4 (xA TT4 (xA kp4 O4))));clear S2 kM TT kp O hrow S4 kM4 TT4 kp4 O4 hown hgr HOW HQ p1 p3 g2)
       obtain ⟨S4,kM4,TT4,kp4,O4⟩:=H4.out;have tp:=aC w4 gp 1 (qS ar' (q+1) cr');have S5:=S4.other (g:=gp) (by omega) 1 (qS ar' (q+1) cr');have kM5:=aF tp kM4 (fun e=>by have e':wo.heap.size=gp:=e;omega);have TT5:=iC TT4 (show wo.heap.size<=gp by omega) 1 (qS ar' (q+1) cr');have kp5:=kp4.s1 (qS ar' (q+1) cr');have O5:=O4.kept tp (fun k hk e=>by have e':k=gp:=e;subst e';exact aM O4 hk kp4 (by decide));have md5:=HMW.out _ S5.be;obtain ⟨_,_,hcb,_,_⟩:=md5.b;obtain ⟨b2,off2,hba,hc⟩:=hcb (by rw [HE.out.2.2.2];omega);have cb:=hc q (by rw [HE.out.2.2.2];exact hlt2);rw [HBK.out q hlt2] at cb;have g2:=kM5.e2;rw [hba] at g2;have p3:=S5.k5.e3;have f3:=S5.k5.frozen 3;have hLq:=vbk q hlt2;obtain ⟨LQ,hLQ⟩:=eqx ((P.bl.getD q []).length);rw [<- hLQ] at cb hLq;have rL:=aQ (x:=4*(LQ:Int)) (by omega);have hw4:IntKind.i64.wrap (4*(LQ:Int))=4*(LQ:Int):=bZ _ (by omega) (by omega);have hwq:IntKind.i64.wrap (FQ+rnd (4*(LQ:Int)))=(FQ+rnd (4*(LQ:Int))):=bZ _ (by omega) (by omega);have HFE:=aO (show (FQ+rnd (4*(LQ:Int)))=Fl (aD ms) m+rnd (4*(P.tz.length:Int))+cB P (q+1) by rw [HFQ.out,hLQ];show _=Fl (aD ms) m+rnd (4*(P.tz.length:Int))+(cB P q+rnd (4*((P.bl.getD q []).length:Int)));omega);generalize M.bl.getD q zB=bq at cb;obtain ⟨bq1,bq2,bq3,bq4⟩:=bq;dsimp only at cb;have H5:=aO (xA S5 (xA kM5 (xA TT5 (xA kp5 O5))));clear S4 kM4 TT4 kp4 O4 tp S5 kM5 TT5 kp5 O5 md5 hcb hba hc hLQ H4 c1 f1;apply aQd
       .intro REST0;have REST:=aO REST0;clear REST0
        go_region_law (first
         | (go_simp;go_at_call 171;refine (dM _ _ (by omega) (by omega)).mono ?_;rintro e wz ⟨rfl,rfl⟩))
        all_goals exact REST.out
       .obtain ⟨S5,kM5,TT5,kp5,O5⟩:=H5.out;have t6:=mQ (aC (w4.setCell (qR gp 1) (qS ar' (q+1) cr')) (w.heap.size+5) 3 (qI (FQ+rnd (4*(LQ:Int)))));have S6:Lst w (((w4.setCell (qR gp 1) (qS ar' (q+1) cr')).setCell (qR (w.heap.size+5) 3) (qI (FQ+rnd (4*(LQ:Int))))).drew) s c k d #[qS a0 m c0,qI 0,qS (some (qR (w.heap.size+3) 0)) 0 0,qI (FQ+rnd (4*(LQ:Int))),qI 0,qS a5 m c5]:=(S5.set 3 (qI (FQ+rnd (4*(LQ:Int))))).drew;have kM6:=aF t6 kM5 (fun e=>by have e':wo.heap.size=w.heap.size+5:=e;omega);have TT6:=TT5.trans (t6.mono (S':=Lg w) (fun j hj=>hj));have kp6:=aF t6 kp5 (fun e=>by have e':gp=w.heap.size+5:=e;omega);have O6:=O5.kept t6 (fun k hk e=>by have:=(O5.lt k hk).1;have e':k=w.heap.size+5:=e;omega);have H6:=aO (xA S6 (xA kM6 (xA TT6 (xA kp6 O6))));clear S5 kM5 TT5 kp5 O5 t6 S6 kM6 TT6 kp6 O6 H5 p3 f3 g2 cb;go_wp2
        go_roundw
        .exact ⟨q+1,ar',cr',by omega,by go_num,(by rw [<- HFE.out];exact H6.out.1),H6.out.2.1,H6.out.2.2.1,H6.out.2.2.2.1,H6.out.2.2.2.2⟩
        .simp [qf,intOf];omega
      .have hlt2':¬ (q:Int)<(P.bl.length:Int):=by omega
       have hqe:q=P.bl.length:=by omega
       have eF:Fl (aD ms) m+rnd (4*(P.tz.length:Int))+cB P q=(Fl (aD ms) (m+1)):=by
        show _=Fl (aD ms) m+msz ((aD ms).getD m zP);rw [<- HPP.out,hqe];show _=Fl (aD ms) m+(rnd (4*(P.tz.length:Int))+cB P P.bl.length);omega
       rw [eF] at S2;have rF1:=cM HVD.out (m+1) (by omega);have rR1:=bO HVD.out (m+1) (by omega)
       have eR:Ra (aD ms) m+rnd ((P.dz.length:Int)+P.bss)=Ra (aD ms) (m+1):=by
        show _=Ra (aD ms) m+dsz ((aD ms).getD m zP);rw [<- HPP.out];rfl
       have hwra:IntKind.i64.wrap (Ra (aD ms) m+rnd ((P.dz.length:Int)+P.bss))=Ra (aD ms) (m+1):=by rw [eR];exact bZ _ (by omega) (by omega)
       have HPL:=aO (show plc (aD ms) m=⟨Fl (aD ms) m,bks (aD ms) m q,65536+Ra (aD ms) m,rnd ((P.dz.length:Int)+P.bss)⟩ by unfold plc bks;rw [<- HPP.out,hqe];rfl);have R1:=HSR.out.2.kept HSR.out.1 TT;have L1:=R1.P.lt;have hTs:=TT.size;obtain ⟨iP,hiP,hzP0,hzP1,hzP2⟩:=info_parts aOa;obtain ⟨iT,hiT,hzT0,hzT1,hzT2⟩:=info_parts aKv;obtain ⟨r0,r1,r2,r3⟩:=kp.z4;have p0:=S2.k5.e0;have al:qY wr (wr.alloc (.cells #[qI (Fl (aD ms) m),qS ar q cr,qI (65536+Ra (aD ms) m),qI (rnd ((P.dz.length:Int)+P.bss))] 171)):=brf.alloc aN _;have HOW:=aO (show (wr.alloc (.cells #[qI (Fl (aD ms) m),qS ar q cr,qI (65536+Ra (aD ms) m),qI (rnd ((P.dz.length:Int)+P.bss))] 171)).ownsRow (w.heap.size+2) 171 4 (qS a0 m c0) m (xs.flatMap clP) by have:=R1.P.head.bw al;unfold OG at this;rw [R1.pl] at this;exact this);have HCL:=aO (show clP ((⟨Fl (aD ms) m,bks (aD ms) m q,65536+Ra (aD ms) m,rnd ((P.dz.length:Int)+P.bss)⟩,ar,cr):PB)=[qI (Fl (aD ms) m),qS ar q cr,qI (65536+Ra (aD ms) m),qI (rnd ((P.dz.length:Int)+P.bss))] by simp [clP,svP,nP]);have HLO:=aO (show ∀ A∈xs,∀ j,(svP A).ownBlock=some j->j<wo.heap.size+1 from fun A hA j hj=>by have:=(HSR.out.2.P.lt.2 A hA j hj).2;omega);have HQ:=aO (xA (S2.bw al) (xA (kM.bw al) (xA (TT.trans (aJ al)) (xA (R1.bw al) (O.bw al)))));clear S2 kM TT kp O al R1 L1 eF hqe eR;go_wp2_with (at_builtin;refine wpList_append_own _ rfl _ _ 68 rfl (w.heap.size+2) 171 iP (.agg #[qI 0,qS none 0 0,qI 0,qI 0]) 4 48 underlying68 hiP hzP0 hzP1 hzP2 rfl (by decide) (qS a0 m c0) m (xs.flatMap clP) rfl HOW.out (qR wr.heap.size 0) 1 1 [qI (Fl (aD ms) m),qS ar q cr,qI (65536+Ra (aD ms) m),qI (rnd ((P.dz.length:Int)+P.bss))] rfl rfl (bT wr _ _ [qI (Fl (aD ms) m),qS ar q cr,qI (65536+Ra (aD ms) m),qI (rnd ((P.dz.length:Int)+P.bss))] rfl) (by intro u hu;simp at hu;rcases hu with rfl|rfl|rfl|rfl<;>rfl) (by unfold maxLen;omega) (by omega) (by simp;omega) ?_;intro v' w4 hown hgr _;obtain ⟨S2,kM,TT,R1,O⟩:=HQ.out;have hrow:∀ j,(qS a0 m c0).ownBlock=some j->w.heap.size+2<=j/\j≠w.heap.size+5/\j≠wo.heap.size/\j<wo.heap.size:=(fun j hj=>⟨(R1.P.lt.1 j hj).1,fun e=>by subst e;exact aM R1.P.head hj S2.k5 (by decide),fun e=>by subst e;exact aM R1.P.head hj kM (by decide),(HSR.out.2.P.lt.1 j hj).2⟩);have P4:=R1.P.push (x:=((⟨Fl (aD ms) m,bks (aD ms) m q,65536+Ra (aD ms) m,rnd ((P.dz.length:Int)+P.bss)⟩,ar,cr):PB)) R1.pl (by show OG _ _ _ _ _ (.slice ar (bks (aD ms) m q).length cr) _;rw [nP];exact O) (by omega) HLO.out (by rw [HCL.out];exact hown) hgr (by decide);have S4:=S2.grown hgr (fun j hj=>⟨(hrow j hj).1,(hrow j hj).2.1⟩);have kM4:=eM kM hgr (fun e=>(hrow _ e.symm).2.2.1 rfl);have T4:OTg w4 (w.heap.size+2) (w.heap.size+6) (qS a5 m c5) ts:=⟨R1.T.head.kept' hgr (fun k hk e=>by obtain ⟨c1,k1⟩:=aE R1.P.head e;exact aM R1.T.head hk k1 (by decide)),fun x hx=>(R1.T.rows x hx).kept' hgr (fun k hk e=>by obtain ⟨c1,k1⟩:=aE R1.P.head e;exact aM (R1.T.rows x hx) hk k1 (by decide)),R1.T.apart⟩;have Sl4:=R1.S.kept' hgr (fun k hk e=>by obtain ⟨c1,k1⟩:=aE R1.P.head e;exact aM R1.S hk k1 (by decide));obtain ⟨a0',c0',rfl⟩:=aR P4.head;rw [show (xs++[((⟨Fl (aD ms) m,bks (aD ms) m q,65536+Ra (aD ms) m,rnd ((P.dz.length:Int)+P.bss)⟩,ar,cr):PB)]).length=m+1 by rw [xI,R1.pl];rfl] at P4 ⊢;have kMx:=aF (aC w4 (w.heap.size+5) 0 (qS a0' (m+1) c0')) kM4 (fun e=>by have e':wo.heap.size=w.heap.size+5:=e;omega);have g0:(w4.setCell (qR (w.heap.size+1+1+1+1+1) 0) (qS a0' (m+1) c0')).cell? (qR wo.heap.size 0)=some (.string M.nm):=kMx.cell 0;have y0:w4.cell? (qR wo.heap.size 0)=some (.string M.nm):=kM4.cell 0;have g1:(w4.setCell (qR (w.heap.size+1+1+1+1+1) 0) (qS a0' (m+1) c0')).cell? (qR wo.heap.size 1)=some (qS M.ta P.tz.length M.tc):=kMx.cell 1;have y1:w4.cell? (qR wo.heap.size 1)=some (qS M.ta P.tz.length M.tc):=kM4.cell 1;have g2:(w4.setCell (qR (w.heap.size+1+1+1+1+1) 0) (qS a0' (m+1) c0')).cell? (qR wo.heap.size 2)=some (qS M.ba P.bl.length M.bc):=kMx.cell 2;have y2:w4.cell? (qR wo.heap.size 2)=some (qS M.ba P.bl.length M.bc):=kM4.cell 2;have g3:(w4.setCell (qR (w.heap.size+1+1+1+1+1) 0) (qS a0' (m+1) c0')).cell? (qR wo.heap.size 3)=some (qS M.da P.dz.length M.dc):=kMx.cell 3;have y3:w4.cell? (qR wo.heap.size 3)=some (qS M.da P.dz.length M.dc):=kM4.cell 3;have g4:(w4.setCell (qR (w.heap.size+1+1+1+1+1) 0) (qS a0' (m+1) c0')).cell? (qR wo.heap.size 4)=some (qI P.bss):=kMx.cell 4;have y4:w4.cell? (qR wo.heap.size 4)=some (qI P.bss):=kM4.cell 4;have g5:(w4.setCell (qR (w.heap.size+1+1+1+1+1) 0) (qS a0' (m+1) c0')).cell? (qR wo.heap.size 5)=some (qS M.ra M.rn M.rc):=kMx.cell 5;have y5:w4.cell? (qR wo.heap.size 5)=some (qS M.ra M.rn M.rc):=kM4.cell 5;have g6:(w4.setCell (qR (w.heap.size+1+1+1+1+1) 0) (qS a0' (m+1) c0')).cell? (qR wo.heap.size 6)=some (qS M.ia M.im M.ic):=kMx.cell 6;have y6:w4.cell? (qR wo.heap.size 6)=some (qS M.ia M.im M.ic):=kM4.cell 6;have g7:(w4.setCell (qR (w.heap.size+1+1+1+1+1) 0) (qS a0' (m+1) c0')).cell? (qR wo.heap.size 7)=some (qS M.ea M.en M.ec):=kMx.cell 7;have y7:w4.cell? (qR wo.heap.size 7)=some (qS M.ea M.en M.ec):=kM4.cell 7;have hnA:¬ wo.heap.size=w.heap.size+1+1+1+1+1:=(by omega);have hnB:¬ w.heap.size+1+1+1+1+1=wo.heap.size:=(by omega);clear kMx;have p4:w4.cell? (qR (w.heap.size+5) 0)=some (qS a0 m c0):=S4.k5.cell 0;have f4:=S4.k5.frozen 0;have H4:=aO (xA S4 (xA kM4 (xA P4 (xA T4 Sl4))));have HPL2:=aO (xA R1.pl (xA R1.tl (xA R1.px R1.tx)));clear S2 kM TT R1 O hrow S4 kM4 P4 T4 Sl4 hown hgr HOW HQ p0 r0 r1 r2 r3)
       obtain ⟨S4,kM4,P4,T4,Sl4⟩:=H4.out;have t6:Turn (fun j=>j=w.heap.size+5) w4 (w4.setCell (qR (w.heap.size+1+1+1+1+1) 0) (qS a0' (m+1) c0')):=aC w4 (w.heap.size+5) 0 (qS a0' (m+1) c0');have S6:Lst w (w4.setCell (qR (w.heap.size+1+1+1+1+1) 0) (qS a0' (m+1) c0')) s c k d #[qS a0' (m+1) c0',qI 0,qS (some (qR (w.heap.size+3) 0)) 0 0,qI (Fl (aD ms) (m+1)),qI 0,qS a5 m c5]:=S4.set 0 (qS a0' (m+1) c0');have kM6:=aF t6 kM4 (fun e=>by have e':wo.heap.size=w.heap.size+5:=e;omega);have P6:=P4.kept t6 (fun k hk e=>by have e':k=w.heap.size+5:=e;subst e';exact aM P4.head hk S4.k5 (by decide)) (fun x hx k hk e=>by have e':k=w.heap.size+5:=e;subst e';exact aM (P4.rows x hx) hk S4.k5 (by decide));have T6:=T4.kept t6 (fun k hk e=>by have e':k=w.heap.size+5:=e;subst e';exact aM T4.head hk S4.k5 (by decide)) (fun x hx k hk e=>by have e':k=w.heap.size+5:=e;subst e';exact aM (T4.rows x hx) hk S4.k5 (by decide));have Sl6:=Sl4.kept t6 (fun k hk e=>by have e':k=w.heap.size+5:=e;subst e';exact aM Sl4 hk S4.k5 (by decide));generalize w4.setCell (qR (w.heap.size+1+1+1+1+1) 0) (qS a0' (m+1) c0')=W6 at *;have HTA:=aO (lT (some (qR b off)) n cap ms M W6 (HH.out.bw S6.be) HVD.out hn (HMW.out _ S6.be) HOKM.out);rw [HE.out.1,HE.out.2.1,HE.out.2.2.1,HE.out.2.2.2] at HTA;have HLT:=aO (show ∀ A∈ts,∀ j,(svT A).ownBlock=some j->j<W6.heap.size from fun A hA j hj=>(T6.lt.2 A hA j hj).2);have hs6:=S6.sz;have H6:=aO (xA S6 (xA P6 (xA T6 Sl6)));clear S4 kM4 P4 T4 Sl4 t6 S6 kM6 P6 T6 Sl6 H4 p4 f4;refine HTA.out.mono ?_;rintro e w7 ⟨hb7,H7⟩;rcases H7 with ⟨hno,_⟩|⟨_,at',ct',rfl,O7⟩
       .exact absurd HTG.out.2 hno
       obtain ⟨S6,P6,T6,Sl6⟩:=H6.out;have al:qY w7 (w7.alloc (.cells #[.slice at' (tgs (aD ms) M.pm).length ct'] 190)):=brf.alloc aN _;have S7:=S6.bw hb7;have T7:=T6.bw hb7;have hs67:=hb7.size;have p5:=S7.k5.e5;have HOW:=aO (show (w7.alloc (.cells #[.slice at' (tgs (aD ms) M.pm).length ct'] 190)).ownsRow (w.heap.size+2) 190 1 (qS a5 m c5) m (ts.flatMap aBk) by have:=T7.head.bw al;unfold OG at this;rw [HPL2.out.2.1] at this;exact this);have HQ:=aO (xA (S7.bw al) (xA ((P6.bw hb7).bw al) (xA (T7.bw al) (xA ((Sl6.bw hb7).bw al) (O7.bw al)))));clear S6 P6 T6 Sl6 hb7 O7 al S7 T7 H6 HTA g0 g1 g2 g3 g4 g5 g6 g7 y0 y1 y2 y3 y4 y5 y6 y7;go_wp2_with (at_builtin;refine wpList_append_own _ rfl _ _ 69 rfl (w.heap.size+2) 190 iT (qS none 0 0) 1 24 underlying69 hiT hzT0 hzT1 hzT2 rfl (by decide) (qS a5 m c5) m (ts.flatMap aBk) rfl HOW.out (qR w7.heap.size 0) 1 1 (aBk ((tgs (aD ms) M.pm,at',ct'):TB)) rfl rfl (bT w7 _ _ (aBk ((tgs (aD ms) M.pm,at',ct'):TB)) rfl) (by intro u hu;simp [aBk,svT] at hu;subst hu;rfl) (by unfold maxLen;omega) (by omega) (by simp;omega) ?_;intro v' w8 hown hgr _;obtain ⟨S7,P7,T7,Sl7,O7⟩:=HQ.out;have hrow:∀ j,(qS a5 m c5).ownBlock=some j->w.heap.size+2<=j/\j≠w.heap.size+5:=(fun j hj=>⟨(T7.lt.1 j hj).1,fun e=>by subst e;exact aM T7.head hj S7.k5 (by decide)⟩);have T8:=T7.push (x:=((tgs (aD ms) M.pm,at',ct'):TB)) HPL2.out.2.1 O7 (by exact hs6) HLT.out hown hgr (by decide);have S8:=S7.grown hgr hrow;have P8:OPl w8 (w.heap.size+2) (w.heap.size+6) (qS a0' (m+1) c0') (xs++[((⟨Fl (aD ms) m,bks (aD ms) m q,65536+Ra (aD ms) m,rnd ((P.dz.length:Int)+P.bss)⟩,ar,cr):PB)]):=⟨P7.head.kept' hgr (fun k hk e=>by obtain ⟨c1,k1⟩:=aE T7.head e;exact aM P7.head hk k1 (by decide)),fun x hx=>(P7.rows x hx).kept' hgr (fun k hk e=>by obtain ⟨c1,k1⟩:=aE T7.head e;exact aM (P7.rows x hx) hk k1 (by decide)),P7.apart⟩;have Sl8:=Sl7.kept' hgr (fun k hk e=>by obtain ⟨c1,k1⟩:=aE T7.head e;exact aM Sl7 hk k1 (by decide));obtain ⟨a5',c5',rfl⟩:=aR T8.head;rw [show (ts++[((tgs (aD ms) M.pm,at',ct'):TB)]).length=m+1 by rw [xI,HPL2.out.2.1];rfl] at T8 ⊢;have p8:w8.cell? (qR (w.heap.size+5) 5)=some (qS a5 m c5):=S8.k5.cell 5;have f8:=S8.k5.frozen 5;have H8:=aO (xA S8 (xA P8 (xA T8 Sl8)));clear S7 P7 T7 Sl7 O7 hrow T8 S8 P8 Sl8 hown hgr HOW HQ p5)
       obtain ⟨S8,P8,T8,Sl8⟩:=H8.out;have t9:=aC w8 (w.heap.size+5) 5 (qS a5' (m+1) c5');have S9:Lst w (w8.setCell (qR (w.heap.size+5) 5) (qS a5' (m+1) c5')) s c k d #[qS a0' (m+1) c0',qI 0,qS (some (qR (w.heap.size+3) 0)) 0 0,qI (Fl (aD ms) (m+1)),qI 0,qS a5' (m+1) c5']:=S8.set 5 (qS a5' (m+1) c5');have P9:=P8.kept t9 (fun k hk e=>by have e':k=w.heap.size+5:=e;subst e';exact aM P8.head hk S8.k5 (by decide)) (fun x hx k hk e=>by have e':k=w.heap.size+5:=e;subst e';exact aM (P8.rows x hx) hk S8.k5 (by decide));have T9:=T8.kept t9 (fun k hk e=>by have e':k=w.heap.size+5:=e;subst e';exact aM T8.head hk S8.k5 (by decide)) (fun x hx k hk e=>by have e':k=w.heap.size+5:=e;subst e';exact aM (T8.rows x hx) hk S8.k5 (by decide));have Sl9:=Sl8.kept t9 (fun k hk e=>by have e':k=w.heap.size+5:=e;subst e';exact aM Sl8 hk S8.k5 (by decide));have R9:Lrw w (w8.setCell (qR (w.heap.size+5) 5) (qS a5' (m+1) c5')) (aD ms) (m+1) a0' c0' (xs++[((⟨Fl (aD ms) m,bks (aD ms) m q,65536+Ra (aD ms) m,rnd ((P.dz.length:Int)+P.bss)⟩,ar,cr):PB)]) a5' c5' (ts++[((tgs (aD ms) M.pm,at',ct'):TB)]):=⟨P9,T9,Sl9,by rw [xI,HPL2.out.1];rfl,by rw [xI,HPL2.out.2.1];rfl,by rw [List.map_append,HPL2.out.2.2.1,List.range_succ,List.map_append];simp only [List.map_cons,List.map_nil];rw [HPL.out],by rw [List.map_append,HPL2.out.2.2.2,List.range_succ,List.map_append];simp only [List.map_cons,List.map_nil];rw [<- HPP.out,HPM.out]⟩;have H9:=aO (xA S9 R9);clear S8 P8 T8 Sl8 t9 S9 P9 T9 Sl9 R9 H8 p8 f8;go_wp2
       go_roundw
       .exact ⟨m+1,a0',c0',_,a5',c5',_,by omega,by go_num,rfl,H9.out.1,H9.out.2⟩
       .simp [qf,intOf];omega
  .have hlt':¬ (m:Int)<(n:Int):=by omega
   have hmn:m=n:=by omega
   subst hmn;have rF:=cM HVD.out m (by omega);have rR:=bO HVD.out m (by omega);obtain ⟨sn,rfl⟩:∃ sn:Nat,s=(sn:Int):=⟨s.toNat,by omega⟩;obtain ⟨RW,hRW⟩:=eqx (rnd (4*c));have rRW:0<=RW/\RW<=287:=by have:=aQ (x:=4*c) (by omega);omega
   have HRW:=aO hRW;have HRD:=aO (fun W=>dM (4*c) W (by omega) (by omega));rw [<- hRW] at HRD;have hwr:IntKind.i64.wrap (65536+Ra (aD ms) m)=(65536+Ra (aD ms) m):=bZ _ (by omega) (by omega);have hwk:IntKind.i64.wrap (Ra (aD ms) m+k)=Ra (aD ms) m+k:=bZ _ (by omega) (by omega);have hwc:IntKind.i64.wrap (4*c)=4*c:=bZ _ (by omega) (by omega);have t18:Turn (fun j=>j=w.heap.size+5) wo (wo.setCell (qR (w.heap.size+1+1+1+1+1) 1) (qI (65536+Ra (aD ms) m))):=aC wo (w.heap.size+5) 1 (qI (65536+Ra (aD ms) m));have S18:Lst w (wo.setCell (qR (w.heap.size+1+1+1+1+1) 1) (qI (65536+Ra (aD ms) m))) sn c k d #[qS a0 m c0,qI (65536+Ra (aD ms) m),qS (some (qR (w.heap.size+3) 0)) 0 0,qI (Fl (aD ms) m),qI 0,qS a5 m c5]:=S.set 1 (qI (65536+Ra (aD ms) m));have P18:=R.P.kept t18 (fun k hk e=>by have e':k=w.heap.size+5:=e;subst e';exact aM R.P.head hk S.k5 (by decide)) (fun x hx k hk e=>by have e':k=w.heap.size+5:=e;subst e';exact aM (R.P.rows x hx) hk S.k5 (by decide));have T18:=R.T.kept t18 (fun k hk e=>by have e':k=w.heap.size+5:=e;subst e';exact aM R.T.head hk S.k5 (by decide)) (fun x hx k hk e=>by have e':k=w.heap.size+5:=e;subst e';exact aM (R.T.rows x hx) hk S.k5 (by decide));have O18:=R.S.kept t18 (fun k hk e=>by have e':k=w.heap.size+5:=e;subst e';exact aM R.S hk S.k5 (by decide));have p1:=S.k5.e1;have f1:=S.k5.frozen 1;have y2:=S18.k0.e2;have x2:=S.k0.e2
   have SP18:∀ j,(qS (some (qR (w.heap.size+3) 0)) 0 0).ownBlock=some j->∀ x∈xs,(svP x).ownBlock≠some j:=fun j hj x hx e=>by
    have h1:=(R.P.lt.2 x hx j e).1;simp [Value.ownBlock] at hj;omega
   have HR0:=aO (xA R.pl (xA R.tl (xA R.px R.tx)));have H18:=aO (xA S18 (xA O18 (xA P18 (xA T18 SP18))));have HZ:=aO (show Ra (aD ms) m+k=Ra (aD ms) m+k+((0:Nat):Int)*RW by simp);obtain ⟨iI,hiI,hz0,hz1,hz2⟩:=info_parts jP;clear S18 P18 T18 O18 SP18 S R t18 hRW;go_wp2_with fail
   go_loopw [6,13] (fun x i wx=>∃ (q:Nat) (a2:qO) (c2:Nat) (rq:Int),q<=sn/\i=qI q/\x=qI rq/\Hid (rq=Ra (aD ms) m+k+(q:Int)*RW)/\Lst w wx sn c k d #[qS a0 m c0,qI (65536+Ra (aD ms) m),qS a2 q c2,qI (Fl (aD ms) m),qI 0,qS a5 m c5]/\OG 3 1 clI wx (w.heap.size+2) (qS a2 q c2) ((List.range q).map (slt (aD ms) c k))/\OPl wx (w.heap.size+2) (w.heap.size+6) (qS a0 m c0) xs/\OTg wx (w.heap.size+2) (w.heap.size+6) (qS a5 m c5) ts/\(∀ j,(qS a2 q c2).ownBlock=some j->∀ x∈xs,(svP x).ownBlock≠some j)) (fun _ i _=>sn-(intOf i).toNat)
   .exact ⟨0,_,_,_,xC _,rfl,rfl,HZ,H18.out.1,H18.out.2.1,H18.out.2.2.1,H18.out.2.2.2.1,H18.out.2.2.2.2⟩
   .clear H18 p1 f1 y2 x2 HZ;obtain ⟨q,a2,c2,rq,hq,rfl,rfl,hrq,S,O,P,T,SP⟩:=hrel
    have rrq:0<=rq/\rq<=100000:=by
     have:=hrq.out;have h1:(q:Int)*RW<=4*287:=Int.mul_le_mul (by omega) (by omega) (by omega) (by omega);have h0:0<=(q:Int)*RW:=Int.mul_nonneg (by omega) (by omega);omega
    have z0:=S.k0.e0;by_cases hlt2:q<sn
    .have hlt2':(q:Int)<(sn:Int):=by omega
     have p2:=S.k5.e2;have hwq:IntKind.i64.wrap (65536+rq)=65536+rq:=bZ _ (by omega) (by omega);have hwr2:IntKind.i64.wrap (rq+RW)=rq+RW:=bZ _ (by omega) (by omega);have al:qY wr (wr.alloc (.cells #[qI (65536+rq)] 3)):=brf.alloc aN _;have hs1:=S.sz
     have HSU:=aO (show (List.range (q+1)).map (slt (aD ms) c k)=(List.range q).map (slt (aD ms) c k)++[65536+rq] by
      rw [List.range_succ,List.map_append];simp only [List.map_cons,List.map_nil];congr 2;unfold slt;rw [hpl,hrq.out,HRW.out]
      omega)
     have HLN:=aO (show ((List.range q).map (slt (aD ms) c k)).length=q by simp);have HOW:=aO (show (wr.alloc (.cells #[qI (65536+rq)] 3)).ownsRow (w.heap.size+2) 3 1 (qS a2 q c2) q (((List.range q).map (slt (aD ms) c k)).flatMap clI) by have:=O.bw al;unfold OG at this;rw [HLN.out] at this;exact this);have HLO:=aO (show ∀ x∈xs,∀ j,(svP x).ownBlock=some j->j<wr.heap.size from fun x hx j hj=>(P.lt.2 x hx j hj).2);have HNQ:=aO (show rq+RW=Ra (aD ms) m+k+((q+1:Nat):Int)*RW by rw [hrq.out];push_cast;rw [Int.add_mul];omega);have HSP:=aO SP;have HQ:=aO (xA (S.bw al) (xA (P.bw al) (xA (T.bw al) (O.bw al))));clear S O P T SP al hrq;go_wp2_with (at_builtin;refine wpList_append_lies _ rfl _ _ 25 rfl (w.heap.size+2) 3 iI (qI 0) 1 8 underlying25 hiI hz0 hz1 hz2 rfl (by decide) (qS a2 q c2) q (((List.range q).map (slt (aD ms) c k)).flatMap clI) rfl HOW.out (qR wr.heap.size 0) 1 1 (clI (65536+rq)) rfl rfl (bT wr _ _ (clI (65536+rq)) rfl) (by intro u hu;simp [clI] at hu;subst hu;rfl) (by decide) (by unfold maxLen;omega) (by omega) (by simp;omega) (wr.heap.size+1) (by simp) ?_;intro g4 c4 w4 hown hgr hat hlt4;obtain ⟨S,P,T,O⟩:=HQ.out;have hrow:∀ j,(qS a2 q c2).ownBlock=some j->w.heap.size+2<=j/\j≠w.heap.size+5:=(fun j hj=>⟨(O.lt j hj).1,fun e=>by subst e;exact aM O hj S.k5 (by decide)⟩);have O4:OG 3 1 clI w4 (w.heap.size+2) (qS (qP g4) (q+1) c4) ((List.range (q+1)).map (slt (aD ms) c k)):=(by unfold OG;rw [HSU.out,xI,HLN.out,xU,xX];exact hown);have S4:=S.grown hgr hrow;have P4:OPl w4 (w.heap.size+2) (w.heap.size+6) (qS a0 m c0) xs:=⟨P.head.kept' hgr (fun k hk e=>by obtain ⟨c1,k1⟩:=aE O e;exact aM P.head hk k1 (by decide)),fun x hx=>(P.rows x hx).kept' hgr (fun k hk e=>HSP.out k e x hx hk),P.apart⟩;have T4:OTg w4 (w.heap.size+2) (w.heap.size+6) (qS a5 m c5) ts:=⟨T.head.kept' hgr (fun k hk e=>by obtain ⟨c1,k1⟩:=aE O e;exact aM T.head hk k1 (by decide)),fun x hx=>(T.rows x hx).kept' hgr (fun k hk e=>by obtain ⟨c1,k1⟩:=aE O e;exact aM (T.rows x hx) hk k1 (by decide)),T.apart⟩;have SP4:∀ j,(qS (qP g4) (q+1) c4).ownBlock=some j->∀ x∈xs,(svP x).ownBlock≠some j:=(fun j hj x hx e=>by have hj':g4=j:=(by simpa [Value.ownBlock] using hj);subst hj';exact hat.elim (fun h1=>HSP.out g4 h1 x hx e) (fun h1=>by have:=HLO.out x hx g4 e;omega));have p4:w4.cell? (qR (w.heap.size+5) 2)=some (qS a2 q c2):=S4.k5.cell 2;have f4:=S4.k5.frozen 2;have c14:w4.cell? (qR w.heap.size 1)=some (qI c):=S4.k0.cell 1;have c15:(w4.setCell (qR (w.heap.size+1+1+1+1+1) 2) (qS (qP g4) (q+1) c4)).cell? (qR w.heap.size 1)=some (qI c):=(S4.set 2 (qS (qP g4) (q+1) c4)).k0.cell 1;have H4:=aO (xA S4 (xA P4 (xA T4 (xA O4 SP4))));clear S P T O hrow O4 S4 P4 T4 SP4 hown hgr hat HOW HQ p2 z0)
     refine (HRD.out _).mono ?_;rintro e wz ⟨rfl,rfl⟩;obtain ⟨S4,P4,T4,O4,SP4⟩:=H4.out;have t5:Turn (fun j=>j=w.heap.size+5) w4 (w4.setCell (qR (w.heap.size+1+1+1+1+1) 2) (qS (qP g4) (q+1) c4)):=aC w4 (w.heap.size+5) 2 (qS (qP g4) (q+1) c4);have S5:Lst w (w4.setCell (qR (w.heap.size+1+1+1+1+1) 2) (qS (qP g4) (q+1) c4)) sn c k d #[qS a0 m c0,qI (65536+Ra (aD ms) m),qS (qP g4) (q+1) c4,qI (Fl (aD ms) m),qI 0,qS a5 m c5]:=S4.set 2 (qS (qP g4) (q+1) c4);have P5:=P4.kept t5 (fun k hk e=>by have e':k=w.heap.size+5:=e;subst e';exact aM P4.head hk S4.k5 (by decide)) (fun x hx k hk e=>by have e':k=w.heap.size+5:=e;subst e';exact aM (P4.rows x hx) hk S4.k5 (by decide));have T5:=T4.kept t5 (fun k hk e=>by have e':k=w.heap.size+5:=e;subst e';exact aM T4.head hk S4.k5 (by decide)) (fun x hx k hk e=>by have e':k=w.heap.size+5:=e;subst e';exact aM (T4.rows x hx) hk S4.k5 (by decide));have O5:=O4.kept t5 (fun k hk e=>by have e':k=w.heap.size+5:=e;subst e';exact aM O4 hk S4.k5 (by decide));have H5:=aO (xA S5 (xA O5 (xA P5 (xA T5 SP4))));clear S4 P4 T4 O4 SP4 t5 S5 P5 T5 O5 H4 p4 f4 c14 c15;go_wp2
     go_roundw
     .exact ⟨q+1,_,_,_,by omega,by go_num,rfl,HNQ,H5.out.1,H5.out.2.1,H5.out.2.2.1,H5.out.2.2.2.1,H5.out.2.2.2.2⟩
     .simp [qf,intOf];omega
    .have hlt2':¬ (q:Int)<(sn:Int):=by omega
     have hqs:q=sn:=by omega
     have t25:Turn (fun j=>j=w.heap.size+5) wr (wr.setCell (qR (w.heap.size+1+1+1+1+1) 4) (qI rq)):=aC wr (w.heap.size+5) 4 (qI rq);have S25:Lst w (wr.setCell (qR (w.heap.size+1+1+1+1+1) 4) (qI rq)) sn c k d #[qS a0 m c0,qI (65536+Ra (aD ms) m),qS a2 q c2,qI (Fl (aD ms) m),qI rq,qS a5 m c5]:=S.set 4 (qI rq);have P25:=P.kept t25 (fun k hk e=>by have e':k=w.heap.size+5:=e;subst e';exact aM P.head hk S.k5 (by decide)) (fun x hx k hk e=>by have e':k=w.heap.size+5:=e;subst e';exact aM (P.rows x hx) hk S.k5 (by decide));have T25:=T.kept t25 (fun k hk e=>by have e':k=w.heap.size+5:=e;subst e';exact aM T.head hk S.k5 (by decide)) (fun x hx k hk e=>by have e':k=w.heap.size+5:=e;subst e';exact aM (T.rows x hx) hk S.k5 (by decide));have O25:=O.kept t25 (fun k hk e=>by have e':k=w.heap.size+5:=e;subst e';exact aM O hk S.k5 (by decide));have p4:=S.k5.e4;have f4:=S.k5.frozen 4;obtain ⟨v0,v1,v2,v3,v4,v5⟩:=S25.k5.z6;obtain ⟨u0,u1,u2,u3,u4,u5⟩:=S25.k1.z6;have n0:=S25.k1.frozen
     have HLAY:=aO (show lay (aD ms) sn c k=⟨(List.range m).map (plc (aD ms)),(65536+Ra (aD ms) m),(List.range q).map (slt (aD ms) c k),Fl (aD ms) m,rq,(List.range m).map fun i=>tgs (aD ms) ((aD ms).getD i zP)⟩ by
      unfold lay
      rw [hpl,hrq.out,HRW.out,xY,hqs])
     have t26:=cE (wr.setCell (qR (w.heap.size+1+1+1+1+1) 4) (qI rq)) (w.heap.size+1) (qS a0 m c0) (qI (65536+Ra (aD ms) m)) (qS a2 q c2) (qI (Fl (aD ms) m)) (qI rq) (qS a5 m c5);have k6:=jL S25.k1 (qS a0 m c0) (qI (65536+Ra (aD ms) m)) (qS a2 q c2) (qI (Fl (aD ms) m)) (qI rq) (qS a5 m c5);have P26:=P25.kept t26 (fun k hk e=>by have e':k=w.heap.size+1:=e;subst e';exact aM P25.head hk S25.k1 (by decide)) (fun x hx k hk e=>by have e':k=w.heap.size+1:=e;subst e';exact aM (P25.rows x hx) hk S25.k1 (by decide));have T26:=T25.kept t26 (fun k hk e=>by have e':k=w.heap.size+1:=e;subst e';exact aM T25.head hk S25.k1 (by decide)) (fun x hx k hk e=>by have e':k=w.heap.size+1:=e;subst e';exact aM (T25.rows x hx) hk S25.k1 (by decide));have O26:=O25.kept t26 (fun k hk e=>by have e':k=w.heap.size+1:=e;subst e';exact aM O25 hk S25.k1 (by decide));have B26:=aG S25.be t26 (fun j hj=>by have e':j=w.heap.size+1:=hj;omega) S25.be.size;have HFIN:=aO (xA S25.k1 (xA P26 (xA T26 (xA O26 (xA B26 SP)))));clear S25 P25 T25 O25 t25 t26 k6 P26 T26 O26 B26 S O P T SP hqs hrq;go_wp2;refine aM6 HFIN.out.1 _ _ _ _ _ _ _ _ rfl ?_;obtain ⟨_,P26,T26,O26,B26,SP⟩:=HFIN.out;refine ⟨B26,a0,c0,xs,a2,c2,a5,c5,ts,?_,?_⟩
     .unfold mG;rw [HLAY.out,HR0.out.1,HR0.out.2.1];simp
     .rw [HLAY.out];exact ⟨by rw [HR0.out.1];exact P26.mono (by omega) (by omega),HR0.out.2.2.1,by simpa using O26.mono (by omega),by rw [HR0.out.2.1];exact T26.mono (by omega) (by omega),HR0.out.2.2.2,by simpa using SP⟩
structure Kst (w W:qw)(s c k d:Int):Prop where
 be:qY w W
 k0:Blk W w.heap.size (qW s c k d) 37
 k1:Blk W (w.heap.size+1) zL 71
 k2:Blk W (w.heap.size+2) zL 71
theorem Kst.bw {w W W':qw}{c:Int}(h:Kst w W s c k d)(hb:qY W W'):Kst w W' s c k d:=⟨h.be.trans (hb.mono h.be.size),h.k0.bw hb,h.k1.bw hb,h.k2.bw hb⟩
theorem Kst.drew {w W:qw}{c:Int}(h:Kst w W s c k d):Kst w W.drew s c k d:=⟨h.be.drew,h.k0,h.k1,h.k2⟩
theorem aM8 (w:qw)(s c k d:Int):Kst w (((w.alloc (.cells (qW s c k d) 37)).alloc (.cells qz 71)).alloc (.cells qz 71)) s c k d:=by
 have k0:=Blk.new w (qW s c k d) 37;have b0:qY w (w.alloc (.cells (qW s c k d) 37)):=bal;have s0:(w.alloc (.cells (qW s c k d) 37)).heap.size=w.heap.size+1:=by simp
 generalize w.alloc (.cells (qW s c k d) 37)=W0 at *;have k1:=Blk.new W0 qz 71;have b1:qY W0 (W0.alloc (.cells qz 71)):=bal;have s1:(W0.alloc (.cells qz 71)).heap.size=w.heap.size+2:=by simp [s0]
 rw [s0] at k1;generalize W0.alloc (.cells qz 71)=W1 at *;have k2:=Blk.new W1 qz 71;have b2:qY W1 (W1.alloc (.cells qz 71)):=bal;rw [s1] at k2;have c12:=b1.trans (b2.mono (by omega));exact ⟨b0.trans (c12.mono (by omega)),k0.bw c12,k1.bw b2,k2⟩
theorem aCy {w W:qw}(k1:Blk W (w.heap.size+1) zL 71)(v0 v1 v2 v3 v4 v5:Value)(V:Int)(Q:Ending->World->Prop)(tmps:Array Value)(h4:tmps[4]?=some (.pointer (some (qR (w.heap.size+1) 0))))(h5:tmps[5]?=some (qI V))(hQ:Q (.returned (.tuple #[.agg #[v0,v1,v2,v3,v4,v5],qI V])) (st6 W (w.heap.size+1) v0 v1 v2 v3 v4 v5)):
 bodyPost prog f74 Q Exit.ret ⟨tmps,[]⟩ (st6 W (w.heap.size+1) v0 v1 v2 v3 v4 v5):=by
 have k:=jL k1 v0 v1 v2 v3 v4 v5;obtain ⟨t0,t1,t2,t3,t4,t5⟩:=k.z6;refine bodyPost_ret_by (v:=.tuple #[.agg #[v0,v1,v2,v3,v4,v5],qI V]) ?_ rfl hQ;simp [results,results74,go_sem,h4,h5,t0,t1,t2,t3,t4,t5]
theorem nD {w W:qw}{ps:List PMod}{c V:Int}(S:Kst w W s c k d)(hV:lkc ps s c k d=V)(h0:V≠0)(tmps:Array Value)(h4:tmps[4]?=some (.pointer (some (qR (w.heap.size+1) 0))))(h5:tmps[5]?=some (qI V)):
 bodyPost prog f74 (LkM w ps s c k d) Exit.ret ⟨tmps,[]⟩ (st6 W (w.heap.size+1) (qS none 0 0) (qI 0) (qS none 0 0) (qI 0) (qI 0) (qS none 0 0)):=
 aCy S.k1 _ _ _ _ _ _ V _ tmps h4 h5 (aGj (aG S.be (cE _ _ _ _ _ _ _ _) (fun j hj=>by have e:j=w.heap.size+1:=hj;omega) S.be.size) hV h0)
theorem wQ (a:qO)(n cap:Nat)(ms:List Md)(s c k d:Int)(w:qw)(h:MSD w a n cap ms):
 qC 74 #[qS a n cap,.agg (qW s c k d)] w (LkM w (aD ms) s c k d):=by
 have K0:=aM8 w s c k d;have hl:=h.s.1;have hpl:(aD ms).length=n:=by rw [bR,hl]
 have HH:=zh h;have HSND:=zh (fun (W:qw) (hb:qY w W)=>aC1 a n cap ms s c k d W (h.bw hb));obtain ⟨V,hV⟩:=eqx (dT (aD ms) s c k d);rw [<- hV] at HSND;have HV:=zh hV;have HK:=zh K0;obtain ⟨c0,c1,c2,c3⟩:=K0.k0.z4;clear h K0 hV;go_enter func74,ntmps74
 go_wp2_with fail
 refine (HSND.o _ HK.o.be).mono ?_;rintro e w1 ⟨rfl,hb1⟩;have S1:=HK.o.bw hb1;clear hb1 c0 c1 c2 c3 HK;by_cases hV0:V=0
 .have hs4:=HV.o;rw [hV0] at hs4;obtain ⟨hcf,h4,hvl⟩:=rV hs4.symm;have HS4:=zh hs4.symm;have HVL:=zh hvl;have HCF:=zh hcf;rw [hpl] at h4;subst hV0;clear hs4 hvl hcf;have HK1:=zh S1;clear S1;go_wp2;go_loopw [7] (fun i wr=>∃ m:Nat,m<=n/\i=qI m/\(∀ j,j<m->pP (aD ms) ((aD ms).getD j zP))/\Kst w wr s c k d) (qf n)
  .exact ⟨0,xC _,rfl,fun j hj=>absurd hj (by omega),HK1.o⟩
  .clear HK1;obtain ⟨m,hm,rfl,hv,S⟩:=hrel;by_cases hlt:m<n
   .have hlt':(m:Int)<(n:Int):=by omega
    have H:=HH.o.bw S.be;obtain ⟨b,off,rfl,q0,q1,q2,q3,q4,q5,q6,q7⟩:=H.s.at m hlt;have HTA:=zh (lT (some (qR b off)) n cap ms (ms.getD m aK) wr H HVL.o h4 (H.d m hlt) (by rw [<- cH];exact HVL.o m (by omega)));have HEP:=zh (cH (ms:=ms) (i:=m));have HG:=zh (xA hv S);generalize ms.getD m aK=M at *;clear H hv S;go_wp2_with fail
    refine HTA.o.mono ?_;rintro e w2 ⟨hb2,H2⟩;have S2:=HG.o.2.bw hb2;clear hb2 HTA q0 q1 q2 q3 q4 q5 q6 q7;rcases H2 with ⟨hno,v,rfl⟩|⟨hyes,at',ct',rfl,_⟩
    .have HP:=zh (aN4 (d:=d) (k:=k) (w:=c) (s:=s) HS4.o (fun hi=>hno (by rw [<- HEP.o];exact hi m (by omega))));have HS:=zh S2;obtain ⟨u0,u1,u2,u3,u4,u5⟩:=S2.k2.z6;obtain ⟨p0,p1,p2,p3,p4,p5⟩:=S2.k1.z6;have y0:=S2.k1.frozen;clear S2 hno;go_wp2;exact nD HS.o HP.o (by decide) _ rfl rfl
    .have HV2:=zh (show ∀ j,j<m+1->pP (aD ms) ((aD ms).getD j zP) from fun j hj=>by
      by_cases e:j=m
      .subst e;rw [HEP.o];exact hyes
      .exact HG.o.1 j (by omega))
     have HS:=zh S2;clear S2 hyes;go_wp2
     go_roundw
     .exact ⟨m+1,by omega,by go_num,HV2.o,HS.o⟩
     .simp [qf,intOf];omega
   .have hlt':¬ (m:Int)<(n:Int):=by omega
    have HI:Zh (jS (aD ms)):=fun i hi=>hv i (by omega);have HTL:=zh (vV a n cap ms s c k d wr (HH.o.bw S.be));obtain ⟨B,hB⟩:=eqx (decide (0<s/\¬ jV (aD ms) c));rw [<- hB] at HTL;have HB:=zh hB;have HS:=zh S;obtain ⟨c0,c1,c2,c3⟩:=S.k0.z4;clear S hv hB;go_wp2_with fail
    refine HTL.o.mono ?_;rintro e w3 ⟨rfl,hb3⟩;have S3:=HS.o.bw hb3;clear hb3 HTL HS c0 c1 c2 c3;cases B with
    | true=>
      have HP:=zh (aN3 (d:=d) (k:=k) HS4.o HI.o (of_decide_eq_true HB.o.symm));have HS:=zh S3;obtain ⟨u0,u1,u2,u3,u4,u5⟩:=S3.k2.z6;obtain ⟨p0,p1,p2,p3,p4,p5⟩:=S3.k1.z6;have y0:=S3.k1.frozen;clear S3;go_wp2;exact nD HS.o HP.o (by decide) _ rfl rfl
    | false=>
      have HN6:=zh (of_decide_eq_false HB.o.symm);have HLA:=zh (aIg a n cap ms s c k d w3 (HH.o.bw S3.be) h4 HCF.o HVL.o HI.o);have HS:=zh S3;obtain ⟨c0,c1,c2,c3⟩:=S3.k0.z4;clear S3;go_wp2_with fail
      refine HLA.o.mono ?_;rintro e w4 ⟨hb4,a0,d0,xs,a2,d2,a5,d5,ts,rfl,LO⟩;have S4:=HS.o.bw hb4;obtain ⟨L,hL⟩:=eqx (lay (aD ms) s c k);rw [<- hL] at LO ⊢;have HLL:=zh hL;have al:qY w4 (w4.alloc (.cells (qL L a0 xs.length d0 a2 L.slots.length d2 a5 ts.length d5) 71)):=bal;have kL:=Blk.new w4 (qL L a0 xs.length d0 a2 L.slots.length d2 a5 ts.length d5) 71;have S5:=S4.bw al;have LO5:LayO (w4.alloc (.cells (qL L a0 xs.length d0 a2 L.slots.length d2 a5 ts.length d5) 71)) w3.heap.size L a0 d0 xs a2 d2 a5 d5 ts:=⟨LO.p.bw al,LO.ps,LO.s.bw al,LO.t.bw al,LO.tt,LO.sp⟩;have hs34:=hb4.size;have hs3:=HS.o.k2.lt;obtain ⟨l0,l1,l2,l3,l4,l5⟩:=kL.z6;have HS5:=zh (xA S5 LO5);have hz5:(w4.alloc (.cells (qL L a0 xs.length d0 a2 L.slots.length d2 a5 ts.length d5) 71)).heap.size=w4.heap.size+1:=by simp
      clear hb4 S4 LO al kL hL HS HLA c0 c1 c2 c3;unfold mG;by_cases h7:16384<L.flash
      .have HP:=zh (aN2 (d:=d) HS4.o HI.o HN6.o (by rw [<- HLL.o];exact h7));obtain ⟨u0,u1,u2,u3,u4,u5⟩:=S5.k2.z6;obtain ⟨p0,p1,p2,p3,p4,p5⟩:=S5.k1.z6;have y0:=S5.k1.frozen;clear S5 LO5;go_wp2;exact nD HS5.o.1 HP.o (by decide) _ rfl rfl
      .have h7':¬ 16384<L.flash:=h7;by_cases h8:16384<L.ram
       .have HP:=zh (aN1 (d:=d) HS4.o HI.o HN6.o (by rw [<- HLL.o];exact h7) (by rw [<- HLL.o];exact h8));obtain ⟨u0,u1,u2,u3,u4,u5⟩:=S5.k2.z6;obtain ⟨p0,p1,p2,p3,p4,p5⟩:=S5.k1.z6;have y0:=S5.k1.frozen;clear S5 LO5;go_wp2;exact nD HS5.o.1 HP.o (by decide) _ rfl rfl
       .have HP:=zh (aN6 (d:=d) HS4.o HI.o HN6.o (by rw [<- HLL.o];exact h7) (by rw [<- HLL.o];exact h8));obtain ⟨p0,p1,p2,p3,p4,p5⟩:=S5.k1.z6;have y0:=S5.k1.frozen;clear S5 LO5;go_wp2;refine aCy HS5.o.1.k1 _ _ _ _ _ _ 0 _ _ rfl rfl ?_;obtain ⟨S5,LO5⟩:=HS5.o;have t:=cE (w4.alloc (.cells (qL L a0 xs.length d0 a2 L.slots.length d2 a5 ts.length d5) 71)) (w.heap.size+1) (qS a0 xs.length d0) (qI L.stack) (qS a2 L.slots.length d2) (qI L.flash) (qI L.ram) (qS a5 ts.length d5);refine ⟨aG S5.be t (fun j hj=>by have e:j=w.heap.size+1:=hj;omega) S5.be.size,a0,d0,xs,a2,d2,a5,d5,ts,?_,?_⟩
        .unfold lkL;rw [if_pos HP.o,HP.o,<- HLL.o];rfl
        .unfold lkL;rw [if_pos HP.o,<- HLL.o];have hno:∀ k,w3.heap.size<=k->¬ (k=w.heap.size+1):=fun k hk e=>by omega
         exact ⟨(LO5.p.kept t (fun k hk=>hno k (LO5.p.lt.1 k hk).1) (fun x hx k hk=>hno k (LO5.p.lt.2 x hx k hk).1)).mono (by omega) (by omega),LO5.ps,(LO5.s.kept t (fun k hk=>hno k (LO5.s.lt k hk).1)).mono (by omega),(LO5.t.kept t (fun k hk=>hno k (LO5.t.lt.1 k hk).1) (fun x hx k hk=>hno k (LO5.t.lt.2 x hx k hk).1)).mono (by omega) (by omega),LO5.tt,LO5.sp⟩
 .have hV0':(V !=0)=true:=by simp [hV0]
  have HP:=zh (aN5 (ps:=aD ms) HV.o.symm hV0);have HS:=zh S1;obtain ⟨u0,u1,u2,u3,u4,u5⟩:=S1.k2.z6;obtain ⟨p0,p1,p2,p3,p4,p5⟩:=S1.k1.z6;have y0:=S1.k1.frozen;obtain ⟨c0,c1,c2,c3⟩:=S1.k0.z4;clear S1;go_wp2_with fail
  go_region_law (first
   | (go_simp;go_at_call 138;refine (HSND.o _ (by first|exact HS.o.be|exact HS.o.drew.be)).mono ?_;rintro e w12 ⟨rfl,hb12⟩;have HE2:=zh (show Kst w w12 s c k d from (by first|exact HS.o.bw hb12|exact HS.o.drew.bw hb12));have vu0:w12.cell? (qR (w.heap.size+1+1) 0)=some (qS none 0 0):=HE2.o.k2.cell 0;have vu1:w12.cell? (qR (w.heap.size+1+1) 1)=some (qI 0):=HE2.o.k2.cell 1;have vu2:w12.cell? (qR (w.heap.size+1+1) 2)=some (qS none 0 0):=HE2.o.k2.cell 2;have vu3:w12.cell? (qR (w.heap.size+1+1) 3)=some (qI 0):=HE2.o.k2.cell 3;have vu4:w12.cell? (qR (w.heap.size+1+1) 4)=some (qI 0):=HE2.o.k2.cell 4;have vu5:w12.cell? (qR (w.heap.size+1+1) 5)=some (qS none 0 0):=HE2.o.k2.cell 5;have vp0:w12.cell? (qR (w.heap.size+1) 0)=some (qS none 0 0):=HE2.o.k1.cell 0;have vp1:w12.cell? (qR (w.heap.size+1) 1)=some (qI 0):=HE2.o.k1.cell 1;have vp2:w12.cell? (qR (w.heap.size+1) 2)=some (qS none 0 0):=HE2.o.k1.cell 2;have vp3:w12.cell? (qR (w.heap.size+1) 3)=some (qI 0):=HE2.o.k1.cell 3;have vp4:w12.cell? (qR (w.heap.size+1) 4)=some (qI 0):=HE2.o.k1.cell 4;have vp5:w12.cell? (qR (w.heap.size+1) 5)=some (qS none 0 0):=HE2.o.k1.cell 5;have vy0:w12.frozen? (qR (w.heap.size+1) 0)=false:=HE2.o.k1.frozen 0;have vy1:w12.frozen? (qR (w.heap.size+1) 1)=false:=HE2.o.k1.frozen 1;have vy2:w12.frozen? (qR (w.heap.size+1) 2)=false:=HE2.o.k1.frozen 2;have vy3:w12.frozen? (qR (w.heap.size+1) 3)=false:=HE2.o.k1.frozen 3;have vy4:w12.frozen? (qR (w.heap.size+1) 4)=false:=HE2.o.k1.frozen 4;have vy5:w12.frozen? (qR (w.heap.size+1) 5)=false:=HE2.o.k1.frozen 5;have vc0:w12.cell? (qR w.heap.size 0)=some (qI s):=HE2.o.k0.cell 0;have vc1:w12.cell? (qR w.heap.size 1)=some (qI c):=HE2.o.k0.cell 1;have vc2:w12.cell? (qR w.heap.size 2)=some (qI k):=HE2.o.k0.cell 2;have vc3:w12.cell? (qR w.heap.size 3)=some (qI d):=HE2.o.k0.cell 3;clear hb12))
  all_goals
   go_wp2;exact nD HE2.o HP.o hV0 _ rfl rfl
theorem lW (a:qO)(n cap:Nat)(l:Int)(w:qw)(h0:0<=l)(h1:l<=1048576)(hn:n<=maxLen)(h:l<n):
 qC 73 #[qS a n cap,qI l] w fun e w'=>e=.returned (qI (-1))/\w=w':=
 (jU a n cap l w h0 h1 hn).mono fun e w' he=>⟨by rw [he.1,if_pos h],he.2.symm⟩
theorem eA (a:qO)(n cap:Nat)(l:Int)(w:qw)(h0:0<=l)(h1:l<=1048576)(hn:n<=maxLen)(h:n<=l:=by omega):
 qC 73 #[qS a n cap,qI l] w fun e w'=>e=.returned (qI (l-n))/\w=w':=
 (jU a n cap l w h0 h1 hn).mono fun e w' he=>⟨by rw [he.1,if_neg (by omega)],he.2.symm⟩
theorem aI2 (a1 a2 a3:qO)(n1 c1 n2 c2 n3 c3:Nat)(l:Int)(w:qw)(h0:0<=l)(h1:l<=1048576)(m1:n1<=maxLen)(m2:n2<=maxLen)(m3:n3<=maxLen)(h:(n1:Int)+n2+n3<=l):
 qC 26 #[.agg (qV a1 n1 c1 a2 n2 c2 a3 n3 c3),qI l] w (qB w (qI (l-n1-n2-n3))):=by
 go_enter func26,ntmps26
 go_wp2_with fail
 refine (eA a1 n1 c1 l _ (by omega) (by omega) m1).mono ?_;rintro e w' ⟨rfl,rfl⟩;go_wp2_with fail
 refine (eA a2 n2 c2 _ _ (by omega) (by omega) m2).mono ?_;rintro e w' ⟨rfl,rfl⟩;go_wp2_with fail
 refine (eA a3 n3 c3 _ _ (by omega) (by omega) m3).mono ?_;rintro e w' ⟨rfl,rfl⟩;go_wp2;go_ret;exact ⟨rfl,bal⟩
theorem aI1 (a1 a2 a3:qO)(n1 c1 n2 c2 n3 c3:Nat)(l:Int)(w:qw)(h0:0<=l)(h1:l<=1048576)(m1:n1<=maxLen)(m2:n2<=maxLen)(m3:n3<=maxLen)(h:l<(n1:Int)+n2+n3):
 qC 26 #[.agg (qV a1 n1 c1 a2 n2 c2 a3 n3 c3),qI l] w (qB w (qI (-1))):=by
 by_cases k1:l<(n1:Int)
 .go_enter func26,ntmps26
  go_wp2_with fail
  refine (lW a1 n1 c1 l _ (by omega) (by omega) m1 (by omega)).mono ?_;rintro e w' ⟨rfl,rfl⟩;go_wp2;go_ret;exact ⟨rfl,bal⟩
 .by_cases k2:l<(n1:Int)+n2
  .go_enter func26,ntmps26
   go_wp2_with fail
   refine (eA a1 n1 c1 l _ (by omega) (by omega) m1).mono ?_;rintro e w' ⟨rfl,rfl⟩;go_wp2_with fail
   refine (lW a2 n2 c2 _ _ (by omega) (by omega) m2 (by omega)).mono ?_;rintro e w' ⟨rfl,rfl⟩;go_wp2;go_ret;exact ⟨rfl,bal⟩
  .go_enter func26,ntmps26
   go_wp2_with fail
   refine (eA a1 n1 c1 l _ (by omega) (by omega) m1).mono ?_;rintro e w' ⟨rfl,rfl⟩;go_wp2_with fail
   refine (eA a2 n2 c2 _ _ (by omega) (by omega) m2).mono ?_;rintro e w' ⟨rfl,rfl⟩;go_wp2_with fail
   refine (lW a3 n3 c3 _ _ (by omega) (by omega) m3 (by omega)).mono ?_;rintro e w' ⟨rfl,rfl⟩;go_wp2;go_ret;exact ⟨rfl,bal⟩
theorem aHe (a1 a2 a3:qO)(n1 c1 n2 c2 n3 c3:Nat)(x1 x2 x3:qi)(w:qw)(h1:BS w a1 n1 c1 x1)(h2:BS w a2 n2 c2 x2)(h3:BS w a3 n3 c3 x3)(hn:n1+n2+n3<=1048576):
 qC 35 #[.agg (qV a1 n1 c1 a2 n2 c2 a3 n3 c3)] w fun e w'=>∃ g1 g2 g3,e=.returned (.agg (qV (qP g1) n1 n1 (qP g2) n2 n2 (qP g3) n3 n3)) /\
  w.heap.size<=g1/\g1<g2/\g2<g3/\Row8 w' g1 x1/\Row8 w' g2 x2/\Row8 w' g3 x3/\qY w w':=by
 go_enter func35,ntmps35
 go_wp2_with fail
 have hB0:qY w (((w.alloc (.cells (qV a1 n1 c1 a2 n2 c2 a3 n3 c3) 30)).alloc (.cells (qV none 0 0 none 0 0 none 0 0) 39)).alloc (.cells (qV none 0 0 none 0 0 none 0 0) 39)):=
  bal.alloc (by simp) _ |>.alloc (by simp;omega) _
 refine (gM a1 n1 c1 x1 _ (h1.bw hB0)).mono ?_;rintro e w1 ⟨rfl,hr1,hb1⟩;have kb1:=(((Blk.new w (qV a1 n1 c1 a2 n2 c2 a3 n3 c3) 30).alloc (.cells (qV none 0 0 none 0 0 none 0 0) 39)).alloc (.cells (qV none 0 0 none 0 0 none 0 0) 39)).bw hb1;have kr1:=((Blk.new (w.alloc (.cells (qV a1 n1 c1 a2 n2 c2 a3 n3 c3) 30)) (qV none 0 0 none 0 0 none 0 0) 39).alloc (.cells (qV none 0 0 none 0 0 none 0 0) 39)).bw hb1;have ko1:=(Blk.new ((w.alloc (.cells (qV a1 n1 c1 a2 n2 c2 a3 n3 c3) 30)).alloc (.cells (qV none 0 0 none 0 0 none 0 0) 39)) (qV none 0 0 none 0 0 none 0 0) 39).bw hb1;have hB1:=hB0.trans (hb1.mono (by simp;omega));clear hb1 hB0;try unfold qY at *
 simp only [xF] at kb1 kr1 ko1 hr1;obtain ⟨q1,q2,q3,q4⟩:=kb1.three;obtain ⟨q5,q6,q7,q8⟩:=ko1.three;go_wp2_with fail
 have hB1':=hB1.setCell (p:=(qR (w.heap.size+1+1) 0)) (by simp;omega) (qS (some (qR (w.heap.size+1+1+1) 0)) n1 n1);refine (gM a2 n2 c2 x2 _ (h2.bw hB1')).mono ?_;rintro e w2 ⟨rfl,hr2,hb2⟩;have kb2:=(kb1.other (qR (w.heap.size+1+1) 0) (qS (some (qR (w.heap.size+1+1+1) 0)) n1 n1) (by dsimp only;omega)).bw hb2;have kr2:=(kr1.other (qR (w.heap.size+1+1) 0) (qS (some (qR (w.heap.size+1+1+1) 0)) n1 n1) (by dsimp only;omega)).bw hb2;have ko2:=(ko1.set 0 (qS (some (qR (w.heap.size+1+1+1) 0)) n1 n1)).bw hb2;have hrx:=hr1;have hr1:=(hr1.other (qR (w.heap.size+1+1) 0) (qS (some (qR (w.heap.size+1+1+1) 0)) n1 n1) (by dsimp only;omega)).bw hb2;try unfold qY at *
 rw [aL] at hr2 hb2;have hz0:=(hrx.lt);have hz1:=(Row8.lt hr1);have hz01:w1.heap.size<w2.heap.size:=hr2.lt;have hs1:=ko1.lt;have hB2:=hB1'.trans (hb2.mono (by omega));clear hb2 hB1 hB1' q1 q2 q3 q4 q5 q6 q7 q8 kb1 kr1 ko1;simp only [List.setIfInBounds_toArray,List.set_cons_zero] at ko2;obtain ⟨q1,q2,q3,q4⟩:=kb2.three;obtain ⟨q5,q6,q7,q8⟩:=ko2.three;go_wp2_with fail
 have hB2':=hB2.setCell (p:=(qR (w.heap.size+1+1) 1)) (by simp;omega) (qS (qP w1.heap.size) n2 n2);refine (gM a3 n3 c3 x3 _ (h3.bw hB2')).mono ?_;rintro e w3 ⟨rfl,hr3,hb3⟩;have kr3:=(kr2.other (qR (w.heap.size+1+1) 1) (qS (qP w1.heap.size) n2 n2) (by dsimp only;omega)).bw hb3;have ko3:=(ko2.set 1 (qS (qP w1.heap.size) n2 n2)).bw hb3;have hr1:=(hr1.other (qR (w.heap.size+1+1) 1) (qS (qP w1.heap.size) n2 n2) (by dsimp only;omega)).bw hb3;have hr2:=(hr2.other (qR (w.heap.size+1+1) 1) (qS (qP w1.heap.size) n2 n2) (by dsimp only;omega)).bw hb3;try unfold qY at *
 rw [aL] at hr3 hb3;have hz2:=hr3.lt;have hs2:=hb3.size;try unfold qY at *
 rw [aL] at hs2;have hB3:=hB2'.trans (hb3.mono (by omega));clear hb3 hB2 hB2' q1 q2 q3 q4 q5 q6 q7 q8 kb2 kr2 ko2;simp only [yA,yB,yC] at ko3;obtain ⟨q5,q6,q7,q8⟩:=ko3.three;obtain ⟨q1,q2,q3,q4⟩:=kr3.three;go_wp2;have hs3:=hr1.lt
 refine bodyPost_ret (v:=.agg (qV (some (qR (w.heap.size+1+1+1) 0)) n1 n1 (qP w1.heap.size) n2 n2 (qP w2.heap.size) n3 n3))
  (by simp [results,results35,go_sem,q1,q2,q3]) rfl ⟨w.heap.size+1+1+1,w1.heap.size,w2.heap.size,rfl,by omega,hz0,hz01,?_,?_,?_,?_⟩
 .exact (((hr1.other _ _ (by dsimp only;omega)).other _ _ (by dsimp only;omega)).other _ _ (by dsimp only;omega)).other _ _ (by dsimp only;omega)
 .exact (((hr2.other _ _ (by dsimp only;omega)).other _ _ (by dsimp only;omega)).other _ _ (by dsimp only;omega)).other _ _ (by dsimp only;omega)
 .exact (((hr3.other _ _ (by dsimp only;omega)).other _ _ (by dsimp only;omega)).other _ _ (by dsimp only;omega)).other _ _ (by dsimp only;omega)
 .exact (((hB3.setCell (by dsimp only;omega) _).setCell (by dsimp only;omega) _).setCell (by dsimp only;omega) _).setCell (by dsimp only;omega) _
theorem aIp (a1 a2 a3 b1 b2 b3:qO)(n1 c1 n2 c2 n3 c3 m1 d1 m2 d2 m3 d3:Nat)(x1 x2 x3 y1 y2 y3:qi)(w:qw)(h1:BS w a1 n1 c1 x1)(h2:BS w a2 n2 c2 x2)(h3:BS w a3 n3 c3 x3)
 (k1:BS w b1 m1 d1 y1) (k2:BS w b2 m2 d2 y2) (k3:BS w b3 m3 d3 y3):
 qC 45 #[.agg (qV a1 n1 c1 a2 n2 c2 a3 n3 c3),.agg (qV b1 m1 d1 b2 m2 d2 b3 m3 d3)] w fun e w'=>e=.returned (.bool (decide (x1=y1)&&(decide (x2=y2)&&decide (x3=y3))))/\qY w w':=by
 have hB0:qY w ((w.alloc (.cells (qV a1 n1 c1 a2 n2 c2 a3 n3 c3) 39)).alloc (.cells (qV b1 m1 d1 b2 m2 d2 b3 m3 d3) 39)):=
  bal.alloc (by simp) _
 go_enter func45,ntmps45
 go_wp2_with fail
 refine (gV a1 b1 n1 c1 m1 d1 x1 y1 _ (h1.bw hB0) (k1.bw hB0)).mono ?_;rintro e w1 ⟨rfl,hb1⟩;have hB1:=hB0.trans (hb1.mono (by simp;omega));have u1:=((Blk.new w (qV a1 n1 c1 a2 n2 c2 a3 n3 c3) 39).alloc (.cells (qV b1 m1 d1 b2 m2 d2 b3 m3 d3) 39)).bw hb1;have v1:=(Blk.new (w.alloc (.cells (qV a1 n1 c1 a2 n2 c2 a3 n3 c3) 39)) (qV b1 m1 d1 b2 m2 d2 b3 m3 d3) 39).bw hb1;try unfold qY at *
 simp only [xF] at v1;clear hb1;by_cases e1:x1=y1
 .simp only [xR e1];obtain ⟨q1,q2,q3,q4⟩:=u1.three;obtain ⟨q5,q6,q7,q8⟩:=v1.three;have E1:=zh e1;clear e1;go_wp2_with fail
  refine (gV a2 b2 n2 c2 m2 d2 x2 y2 _ (h2.bw hB1) (k2.bw hB1)).mono ?_;rintro e w2 ⟨rfl,hb2⟩;have hB2:=hB1.trans (hb2.mono hB1.size);have u2:=u1.bw hb2;have v2:=v1.bw hb2;clear hb2 q1 q2 q3 q4 q5 q6 q7 q8 u1 v1;by_cases e2:x2=y2
  .simp only [xR e2];obtain ⟨q1,q2,q3,q4⟩:=u2.three;obtain ⟨q5,q6,q7,q8⟩:=v2.three;have E2:=zh e2;clear e2;go_wp2_with fail
   refine (gV a3 b3 n3 c3 m3 d3 x3 y3 _ (h3.bw hB2) (k3.bw hB2)).mono ?_;rintro e w3 ⟨rfl,hb3⟩;have hB3:=hB2.trans (hb3.mono hB2.size);clear hb3 q1 q2 q3 q4 q5 q6 q7 q8 u2 v2;by_cases e3:x3=y3
   .simp only [xR e3];have E3:=zh e3;clear e3;go_wp2;go_ret;exact ⟨aA (by simp [nT E1,nT E2,nT E3]),hB3⟩
   .simp only [xS e3];have E3:=zh e3;clear e3;go_wp2;go_ret;exact ⟨aA (by simp [nT E3]),hB3⟩
  .simp only [xS e2];have E2:=zh e2;clear e2;go_wp2;go_ret;exact ⟨aA (by simp [nT E2]),hB2⟩
 .simp only [xS e1];have E1:=zh e1;clear e1;go_wp2;go_ret;exact ⟨aA (by simp [nT E1]),hB1⟩
theorem aFf (a1 a2 a3 b1 b2 b3:qO)(n1 c1 n2 c2 n3 c3 m1 d1 m2 d2 m3 d3:Nat)(x1 x2 x3:qi)(w:qw)(h1:BS w a1 n1 c1 x1)(h2:BS w a2 n2 c2 x2)(h3:BS w a3 n3 c3 x3)
 (k1:BS w b1 m1 d1 x1) (k2:BS w b2 m2 d2 x2) (k3:BS w b3 m3 d3 x3):
 qC 45 #[.agg (qV a1 n1 c1 a2 n2 c2 a3 n3 c3),.agg (qV b1 m1 d1 b2 m2 d2 b3 m3 d3)] w fun e w'=>e=.returned (.bool true)/\qY w w':=
 (aIp a1 a2 a3 b1 b2 b3 n1 c1 n2 c2 n3 c3 m1 d1 m2 d2 m3 d3 x1 x2 x3 x1 x2 x3 w h1 h2 h3 k1 k2 k3).mono fun e w' h=>⟨by rw [h.1];simp,h.2⟩
theorem aNy {α:Type}{f:α->List Value}(hf:∀ x,(f x).length=4):∀ (L:List α) (i:Nat) (x:α),L[i]?=some x->∀ j,j<4->(L.flatMap f)[i*4+j]?=(f x)[j]?
 | [],i,x,h,j,hj=>by simp at h
 | y::L,0,x,h,j,hj=>by
   simp at h;subst h;rw [xT,List.getElem?_append_left (by rw [hf];omega)];simp
 | y::L,i+1,x,h,j,hj=>by
   rw [xT,List.getElem?_append_right (by rw [hf];omega)];have e:(i+1)*4+j-(f y).length=i*4+j:=by rw [hf];omega
   rw [e];exact aNy hf L i x (by simpa using h) j hj
theorem aJt {α:Type}{f:α->List Value}(hf:∀ x,(f x).length=4)(x:α)(v0 v1 v2 v3:Value)(hx:f x=[v0,v1,v2,v3]):∀ (xs:List α) (i:Nat),i<xs.length->((((xs.flatMap f).set (i*4) v0).set (i*4+1) v1).set (i*4+2) v2).set (i*4+3) v3=(xs.set i x).flatMap f
 | [],i,h=>by simp at h
 | y::ys,0,h=>by
   match e:f y,hf y with
   | [a,b,c,d],_=>simp [e,hx]
 | y::ys,i+1,h=>by
   have ih:=aJt hf x v0 v1 v2 v3 hx ys i (by simpa using h)
   match e:f y,hf y with
   | [a,b,c,d],_=>
     rw [show (i+1)*4=i*4+1+1+1+1 by omega];simp only [xT,e,List.cons_append,List.nil_append,List.set_cons_succ];rw [<- ih]
theorem aAq {α:Type}{f:α->List Value}(hf:∀ x,(f x).length=4){t:TypeId}{w:qw}{xs:List α}(h:OG t 4 f w base (qS (qP g) n c) xs)(i:Nat)(hi:i<n)(x:α)(v0 v1 v2 v3:Value)(hx:f x=[v0,v1,v2,v3]):OG t 4 f ((((w.setCell (qR g (i*4)) v0).setCell (qR g (i*4+1)) v1).setCell (qR g (i*4+2)) v2).setCell (qR g (i*4+3)) v3) base (qS (qP g) n c) (xs.set i x):=by
 obtain ⟨hl,⟨h0,_⟩|⟨g',cap',cur,hv,hg,hh,h1,h2,h3,h4⟩⟩:=h
 .simp at h0
 .simp at hv;obtain ⟨rfl,rfl,rfl⟩:=hv;refine ⟨?_,.inr ⟨g,c,(((cur.setIfInBounds (i*4) v0).setIfInBounds (i*4+1) v1).setIfInBounds (i*4+2) v2).setIfInBounds (i*4+3) v3,by simp,hg,Blk.set (Blk.set (Blk.set (Blk.set (w:=w) hh _ _) _ _) _ _) _ _,by simpa using h1,h2,by simpa using h3,?_⟩⟩
  .rw [<- aJt hf x v0 v1 v2 v3 hx xs i hi];simpa using hl
  .rw [List.length_set,xW,xW,xW,xW,List.take_set,List.take_set,List.take_set,List.take_set,h4];exact aJt hf x v0 v1 v2 v3 hx xs i hi
theorem nZ {α:Type}{f:α->List Value}(hf:∀ x,(f x).length=4)(z:α){t:TypeId}{w:qw}{xs:List α}(h:OG t 4 f w base (qS a n c) xs)(m:Nat)(hm:m<n):∃ g,a=some (qR g 0)/\∀ j,j<4->∀ u,(f (xs.getD m z))[j]?=some u->w.cell? (qR g (m*4+j))=some u:=by
 obtain ⟨hl,_,_,h4⟩:=aT h;obtain ⟨g,hg,hc⟩:=h4 (by omega);have hx:xs[m]?=some (xs.getD m z):=by simp [xB,show m<xs.length by omega]
 exact ⟨g,hg,fun j hj u hu=>hc _ _ (by rw [aNy hf xs m _ hx j hj];exact hu)⟩
def lL {α:Type}(mk:Nat->α)(n:Nat):List α:=(List.range n).map mk
def pQ {α:Type}(z:α)(zs:List α)(mk:Nat->α)(m:Nat):List α:=(List.range zs.length).map fun i=>if i<m then mk i else zs.getD i z
theorem aGh {α:Type}(z:α)(mk:Nat->α)(n m:Nat)(h:m<n):(lL mk n).getD m z=mk m:=by simp [lL,xB,h]
theorem wY {α:Type}(z:α)(zs:List α)(mk:Nat->α):pQ z zs mk 0=zs:=by
 apply List.ext_getElem
 .simp [pQ]
 .intro i h1 h2;simp [pQ,h2]
theorem aCv {α:Type}(z:α)(zs:List α)(mk:Nat->α):pQ z zs mk zs.length=lL mk zs.length:=by
 apply List.ext_getElem
 .simp [pQ,lL]
 .intro i h1 h2;simp [lL] at h2;simp [pQ,lL,h2]
theorem aCu {α:Type}(z:α)(zs:List α)(mk:Nat->α)(m:Nat)(h:m<zs.length):(pQ z zs mk m).set m (mk m)=pQ z zs mk (m+1):=by
 apply List.ext_getElem
 .simp [pQ]
 .intro i h1 h2;simp only [pQ,List.getElem_set,List.getElem_map,List.getElem_range];by_cases hik:m=i
  .subst hik;simp
  .by_cases h3:i<m
   .simp [hik,h3,show i<m+1 by omega]
   .simp [hik,h3,show ¬ i<m+1 by omega]
def iQ (w:qw)(pc:Int)(n:Nat)(zs:qi)(e:Ending)(w':qw):Prop:=
 ∃ a' cap',e=.returned (.agg #[qI pc,qS a' n cap'])/\OI w' w.heap.size (qS a' n cap') zs/\qY w w'
theorem Blk.two' {w:qw}{a b:Value}{t:TypeId}(h:Blk w g #[a,b] t):w.cell? (qR g 0)=some a/\w.cell? (qR g 1)=some b/\∀ i,w.frozen? (qR g i)=false:=
 ⟨by rw [h.cell];rfl,by rw [h.cell];rfl,fun i=>h.frozen i⟩
theorem aC3 (pc:Int)(b off n cap:Nat)(zs:qi)(w:qw)(h:IS w (some (qR b off)) n cap zs)(hn0:0<n)(hn:n<=1048576):
 qC 84 #[.agg #[qI pc,qS (some (qR b off)) n cap]] w (iQ w pc n zs):=by
 obtain ⟨i0,hi,hz0,hz1,hz2⟩:=info_parts jP;have hl:=h.1;have hB0:qY w (((w.alloc (.cells #[qI pc,qS (some (qR b off)) n cap] 38)).alloc (.cells #[qI 0,qS none 0 0] 38)).alloc (.cells #[] 3)):=(bal.alloc (by simp) _).alloc (by simp;omega) _;have h':=h.bw hB0;have kr:=(Blk.new (w.alloc (.cells #[qI pc,qS (some (qR b off)) n cap] 38)) #[qI 0,qS none 0 0] 38).alloc (.cells #[] 3);try unfold qY at *
 simp only [xF] at kr;have hown:=zh (aEd ((w.alloc (.cells #[qI pc,qS (some (qR b off)) n cap] 38)).alloc (.cells #[qI 0,qS none 0 0] 38)));have hnews:=zh (aA3 h');have hone:=zh (ints_oneCell .i64 zs);have hlen:=zh (show (zs.map (Value.int .i64)).length=n*1 by simp;omega);have HB:=zh hB0;have KR:=zh kr;have HH:=zh h;have kb:=((Blk.new w #[qI pc,qS (some (qR b off)) n cap] 38).alloc (.cells #[qI 0,qS none 0 0] 38)).alloc (.cells #[] 3);have KB:=zh kb;clear hB0 kr h h' kb;try unfold qY at *
 simp only [xF] at hown;go_enter func84,ntmps84
 go_wp2
 go_region_law (first
  | (refine step_append_lies _ rfl _ _ 25 rfl (w.heap.size+1+1) 3 i0 (qI 0) 1 8 underlying25 hi hz0 hz1 hz2 rfl (by decide) (qS (some (qR (w.heap.size+1+1) 0)) 0 0) 0 [] rfl (by exact hown.o) (qR b off) n cap (zs.map (Value.int .i64)) rfl hlen.o (by exact hnews.o) hone.o hn0 (by unfold maxLen;omega) (by omega) (by simp only [heap_drew,xF];omega) _ rfl ?_;intro g cap1 w1 hown1 hgr1 hat1 hlt1;obtain ⟨c1,c2,c3⟩:=(cK hgr1 (by exact KB.o) (by intro e;have e':some w.heap.size=some (w.heap.size+1+1):=e;injection e' with e';omega)).two';have kr1:=zh (cK hgr1 (by exact KR.o) (by intro e;have e':some (w.heap.size+1)=some (w.heap.size+1+1):=e;injection e' with e';omega));obtain ⟨r1,r2,r3⟩:=kr1.o.two'))
 all_goals
  have hown2:w1.ownsRow (w.heap.size+1+1) 3 1 (qS (qP g) n cap1) n (zs.map (Value.int .i64)):=by simpa using hown1
  have o1:OI w1 (w.heap.size+1+1) (qS (qP g) n cap1) zs:=⟨by rw [hl];exact hown2,HH.o.2.2.1⟩;have hB1:qY w w1:=HB.o.drew.grown hgr1 (by simp only [heap_drew,xF];omega) (fun k hk=>by have e':some (w.heap.size+1+1)=some k:=hk;injection e' with e';omega);have hz:=(kr1.o.set 0 (qI pc)).set 1 (qS (qP g) n cap1);have o2:=((o1.other (qR (w.heap.size+1) 0) (qI pc) (by dsimp only;omega)).other (qR (w.heap.size+1) 1) (qS (qP g) n cap1) (by dsimp only;omega)).mono (base':=w.heap.size) (by omega);have hB2:=(hB1.setCell (p:=(qR (w.heap.size+1) 0)) (by dsimp only;omega) (qI pc)).setCell (p:=(qR (w.heap.size+1) 1)) (by dsimp only;omega) (qS (qP g) n cap1);have hz':Blk ((w1.setCell (qR (w.heap.size+1) 0) (qI pc)).setCell (qR (w.heap.size+1) 1) (qS (qP g) n cap1)) (w.heap.size+1) #[qI pc,qS (qP g) n cap1] 38:=by simpa using hz
  obtain ⟨p1,p2,p3⟩:=hz'.two';have HX:=zh (xA o2 hB2);clear hz hz' o1 o2 hB1 hB2 hown1 hown2 hgr1 hat1 hlt1;go_wp2;exact bodyPost_ret (v:=.agg #[qI pc,qS (qP g) n cap1]) (by simp [results,results84,go_sem,p1,p2]) rfl ⟨some (qR g 0),cap1,rfl,HX.o.1,HX.o.2⟩
theorem aHi (pc:Int)(a:qO)(n cap:Nat)(l:Int)(w:qw)(h0:0<=l)(h1:l<=1048576)(hn:n<=maxLen)(hs:(n:Int)<=l):
 qC 25 #[.agg #[qI pc,qS a n cap],qI l] w (qB w (qI (l-n))):=by
 have HZ:=zh (fun w=>gA a n cap l w h0 h1 hn);rw [if_neg (by omega)] at HZ;go_enter func25,ntmps25
 go_wp2_with (go_at_call 72;refine (HZ.o _).mono ?_;rintro e w' ⟨rfl,rfl⟩)
 go_ret;exact ⟨rfl,bal⟩
theorem aHh (pc:Int)(a:qO)(n cap:Nat)(l:Int)(w:qw)(h0:0<=l)(h1:l<=1048576)(hn:n<=maxLen)(hs:l<(n:Int)):
 qC 25 #[.agg #[qI pc,qS a n cap],qI l] w (qB w (qI (-1))):=by
 have HZ:=zh (fun w=>gA a n cap l w h0 h1 hn);rw [if_pos hs] at HZ;go_enter func25,ntmps25
 go_wp2_with (go_at_call 72;refine (HZ.o _).mono ?_;rintro e w' ⟨rfl,rfl⟩)
 go_ret;exact ⟨rfl,bal⟩
theorem aDx (pc:Int)(a:qO)(n cap:Nat)(zs:qi)(w:qw)(h:IS w a n cap zs)(hn:n<=1048576):
 qC 34 #[.agg #[qI pc,qS a n cap]] w fun e w'=>∃ g,w.heap.size<=g/\e=.returned (.agg #[qI pc,qS (qP g) n n])/\RowI w' g zs/\qY w w':=by
 have hB0:qY w (((w.alloc (.cells #[qI pc,qS a n cap] 27)).alloc (.cells #[qI 0,qS none 0 0] 38)).alloc (.cells #[qI pc,qS none 0 0] 38)):=(bal.alloc (by simp) _).alloc (by simp;omega) _;have kr:=(Blk.new (w.alloc (.cells #[qI pc,qS a n cap] 27)) #[qI 0,qS none 0 0] 38).alloc (.cells #[qI pc,qS none 0 0] 38);have ko:=Blk.new ((w.alloc (.cells #[qI pc,qS a n cap] 27)).alloc (.cells #[qI 0,qS none 0 0] 38)) #[qI pc,qS none 0 0] 38;try unfold qY at *
 simp only [xF] at kr ko;go_enter func34,ntmps34
 go_wp2_with fail
 refine (iV a n cap zs _ (h.bw hB0) hn).mono ?_;rintro e w1 ⟨rfl,r1,hb1⟩;have kr1:=kr.bw hb1;have ko1:=ko.bw hb1;have hB1:=hB0.trans (hb1.mono (by simp;omega));try unfold qY at *
 simp only [xF] at r1;obtain ⟨q1,q2,q3⟩:=kr1.two';obtain ⟨p1,p2,p3⟩:=ko1.two';have hz:=((kr1.other (qR (w.heap.size+1+1) 1) (qS (some (qR (w.heap.size+1+1+1) 0)) n n) (by dsimp only;omega)).set 0 (qI pc)).set 1 (qS (some (qR (w.heap.size+1+1+1) 0)) n n)
 have rr:RowI (((w1.setCell (qR (w.heap.size+1+1) 1) (qS (some (qR (w.heap.size+1+1+1) 0)) n n)).setCell (qR (w.heap.size+1) 0) (qI pc)).setCell (qR (w.heap.size+1) 1) (qS (some (qR (w.heap.size+1+1+1) 0)) n n)) (w.heap.size+1+1+1) zs:=by
  unfold RowI at *;rw [heap_setCell_other _ _ _ _ (by dsimp only;omega),heap_setCell_other _ _ _ _ (by dsimp only;omega),heap_setCell_other _ _ _ _ (by dsimp only;omega)];exact r1
 have hB2:=((hB1.setCell (p:=(qR (w.heap.size+1+1) 1)) (by dsimp only;omega) (qS (some (qR (w.heap.size+1+1+1) 0)) n n)).setCell (p:=(qR (w.heap.size+1) 0)) (by dsimp only;omega) (qI pc)).setCell (p:=(qR (w.heap.size+1) 1)) (by dsimp only;omega) (qS (some (qR (w.heap.size+1+1+1) 0)) n n);have hz':Blk (((w1.setCell (qR (w.heap.size+1+1) 1) (qS (some (qR (w.heap.size+1+1+1) 0)) n n)).setCell (qR (w.heap.size+1) 0) (qI pc)).setCell (qR (w.heap.size+1) 1) (qS (some (qR (w.heap.size+1+1+1) 0)) n n)) (w.heap.size+1) #[qI pc,qS (some (qR (w.heap.size+1+1+1) 0)) n n] 38:=by simpa using hz
 obtain ⟨s1,s2,s3⟩:=hz'.two';have HX:=zh (xA rr hB2);clear hz hz' rr hB2 hB1 hb1 r1 kr1 ko1 kr ko hB0;go_wp2;exact bodyPost_ret (v:=.agg #[qI pc,qS (some (qR (w.heap.size+1+1+1) 0)) n n]) (by simp [results,results34,go_sem,s1,s2]) rfl ⟨_,by omega,rfl,HX.o.1,HX.o.2⟩
theorem aDh (pc:Int)(a b:qO)(n cap cap':Nat)(zs:qi)(w:qw)(h:IS w a n cap zs)(k:IS w b n cap' zs):
 qC 44 #[.agg #[qI pc,qS a n cap],.agg #[qI pc,qS b n cap']] w (qB w (.bool true)):=by
 have hB0:qY w ((w.alloc (.cells #[qI pc,qS a n cap] 38)).alloc (.cells #[qI pc,qS b n cap'] 38)):=bal.alloc (by simp) _;have hp:(pc !=pc)=false:=by simp
 go_enter func44,ntmps44
 go_wp2_with fail
 refine (jI a b n cap n cap' zs zs _ (h.bw hB0) (k.bw hB0)).mono ?_;rw [xR rfl];rintro e w1 ⟨rfl,hb1⟩;go_wp2;go_ret;exact ⟨rfl,hB0.trans (hb1.mono (by simp;omega))⟩
theorem aFc (W:qw)(row:Option Nat):W.grownBy W row:=⟨rfl,rfl,rfl,aN,fun _ _ _=>rfl⟩
def Srd {α:Type}(f:α->List Value)(W:qw)(a:qO)(n c:Nat)(ys:List α):Prop:=ys.length=n/\((a=none/\n=0/\c=0)\/∃ g off,a=some (qR g off)/\∀ j u,(ys.flatMap f)[j]?=some u->W.cell? (qR g (off+j))=some u)
theorem Srd.bw {α:Type}{f:α->List Value}{W W':qw}{ys:List α}(h:Srd f W a n c ys)(hb:qY W W'):Srd f W' a n c ys:=by
 obtain ⟨h1,h2|⟨g,off,e,h3⟩⟩:=h
 .exact ⟨h1,.inl h2⟩
 .exact ⟨h1,.inr ⟨g,off,e,fun j u hu=>(hb.cell (xD W _ (h3 j u hu))).trans (h3 j u hu)⟩⟩
theorem aJ4 {α:Type}{t:TypeId}{sz:Nat}{f:α->List Value}{W:qw}{b:Nat}{ys:List α}(h:OG t sz f W b (qS a n c) ys):Srd f W a n c ys:=by
 obtain ⟨a',c',e⟩:=aR h;simp only [Value.slice.injEq] at e;obtain ⟨rfl,rfl,rfl⟩:=e;refine ⟨rfl,?_⟩;obtain ⟨_,⟨h0,_⟩|⟨g,cap,cur,hv,_⟩⟩:=id h
 .simp only [Value.slice.injEq] at h0;exact .inl h0
 .simp only [Value.slice.injEq] at hv;obtain ⟨rfl,-,rfl⟩:=hv;exact .inr ⟨g,0,rfl,fun j u hu=>by have q:=World.ownsRow.cells h (g:=g) rfl j u hu;rwa [bN] at q⟩
theorem aBu {α:Type}{f:α->List Value}{ac:Act}{K:Act->World->Prop}{Q:Exit->Act->World->Prop}{W:qw}(s x:Operand)(t:TypeId)
 (ho:o.op=.call { callee:=.builtin .append,args:=#[s,x],argTypes:=#[t,t] })
 (base:Nat) (e:TypeId) (i:TypeInfo) (z:Value) (size bytes:Nat) (ht:prog.underlying t=some (.slice e)) (hi:prog.info? e=some i) (hz:i.zero=some z)
 (hsize:i.size=size) (hby:i.bytes=bytes) (hzs:z.cells.size=size) (hsz:0<size)
 (v:Value) (xs:List α) (hs:ac.eval s=v) (hown:OG e size f W base v xs)
 (sa:qO) (sn sc:Nat) (ys:List α) (hx:ac.eval x=qS sa sn sc) (src:Srd f W sa sn sc ys) (hf:∀ y,(f y).length=size) (h1:∀ y,∀ u∈f y,u.oneCell'=true)
 (h63:xs.length+ys.length<=maxLen) (hbytes:(xs.length+ys.length)*bytes<=140737488355328) (hbase:base<=W.heap.size)
 (h:∀ v' w',OG e size f w' base v' (xs++ys)->W.grownBy w' v.ownBlock->K (ac.put o.dst v') w'):o.wp prog ac W K Q:=by
 have key:∀ {v':Value} {w':qw},w'.ownsRow base e size v' (xs.length+ys.length) (xs.flatMap f++ys.flatMap f)->OG e size f w' base v' (xs++ys):=fun hq=>by
  unfold OG;rw [xI,xU];exact hq
 obtain ⟨rfl,⟨rfl,hn,rfl⟩|⟨g,off,rfl,hcl⟩⟩:=src
 .obtain rfl:ys=[]:=xE hn;have hrun:=run_append_owned_none (P:=prog) (w:=W) base t o.type e i size ht hi v xs.length (xs.flatMap f) hown;unfold Oper.wp;simp [execOp,ho,resolve,invoke,builtin,hs,hx,hrun,Result.andThen];exact h v W (by rw [List.append_nil];exact hown) (aFc _ _)
 .have hl:(ys.flatMap f).length=ys.length*size:=by
   clear hcl h key hx h63 hbytes
   induction ys with
   | nil=>simp
   | cons y ys ih=>rw [xT,xI,hf,ih,List.length_cons,Nat.add_mul];omega
  refine wp_append_own W s x t ho base e i z size bytes ht hi hz hsize hby hzs hsz v xs.length (xs.flatMap f) hs hown (qR g off) ys.length sc (ys.flatMap f) hx hl (fun j u hu=>by rw [bN];exact hcl j u hu) (fun u hu=>?_) h63 hbytes hbase fun v' w' q1 q2 _=>h v' w' (key q1) q2;rw [List.mem_flatMap] at hu;obtain ⟨y,_,hu⟩:=hu;exact h1 y u hu
theorem bG {α:Type}{f:α->List Value}{ops:Array Oper}{rest:List Oper}{ac:Act}{Q:Exit->Act->World->Prop}{W:qw}(hgd:o.guard=none)(s x:Operand)(t:TypeId)
 (ho:o.op=.call { callee:=.builtin .append,args:=#[s,x],argTypes:=#[t,t] })
 (base:Nat) (e:TypeId) (i:TypeInfo) (z:Value) (size bytes:Nat) (ht:prog.underlying t=some (.slice e)) (hi:prog.info? e=some i) (hz:i.zero=some z)
 (hsize:i.size=size) (hby:i.bytes=bytes) (hzs:z.cells.size=size) (hsz:0<size)
 (v:Value) (xs:List α) (hs:ac.eval s=v) (hown:OG e size f W base v xs)
 (sa:qO) (sn sc:Nat) (ys:List α) (hx:ac.eval x=qS sa sn sc) (src:Srd f W sa sn sc ys) (hf:∀ y,(f y).length=size) (h1:∀ y,∀ u∈f y,u.oneCell'=true)
 (h63:xs.length+ys.length<=maxLen) (hbytes:(xs.length+ys.length)*bytes<=140737488355328) (hbase:base<=W.heap.size)
 (h:∀ v' w',OG e size f w' base v' (xs++ys)->W.grownBy w' v.ownBlock->wpList prog ops Q rest (ac.put o.dst v') w'):wpList prog ops Q (o::rest) ac W:=
 wpList_plain hgd fun _ hK=>aBu s x t ho base e i z size bytes ht hi hz hsize hby hzs hsz v xs hs hown sa sn sc ys hx src hf h1 h63 hbytes hbase fun v' w' q1 q2=>hK _ _ (h v' w' q1 q2)
theorem aDz {α:Type}{f:α->List Value}{ops:Array Oper}{ac:Act}{K:Act->World->Prop}{Q:Exit->Act->World->Prop}{E:Prop}{W:qw}(hgd:o.guard=none)(s x:Operand)(t:TypeId)
 (ho:o.op=.call { callee:=.builtin .append,args:=#[s,x],argTypes:=#[t,t] })
 (base:Nat) (e:TypeId) (i:TypeInfo) (z:Value) (size bytes:Nat) (ht:prog.underlying t=some (.slice e)) (hi:prog.info? e=some i) (hz:i.zero=some z)
 (hsize:i.size=size) (hby:i.bytes=bytes) (hzs:z.cells.size=size) (hsz:0<size)
 (v:Value) (xs:List α) (hs:ac.eval s=v) (hown:OG e size f W base v xs)
 (sa:qO) (sn sc:Nat) (ys:List α) (hx:ac.eval x=qS sa sn sc) (src:Srd f W sa sn sc ys) (hf:∀ y,(f y).length=size) (h1:∀ y,∀ u∈f y,u.oneCell'=true)
 (h63:xs.length+ys.length<=maxLen) (hbytes:(xs.length+ys.length)*bytes<=140737488355328) (hbase:base<=W.heap.size)
 (h:∀ v' w',OG e size f w' base v' (xs++ys)->W.grownBy w' v.ownBlock->K (ac.put o.dst v') w'):
 if Region.wanted o (yielded ops ac.tmps)=true then Oper.wp prog o ac W K Q else E:=by
 have hw:Region.wanted o (yielded ops ac.tmps)=true:=by simp [Region.wanted,hgd]
 rw [if_pos hw];exact aBu s x t ho base e i z size bytes ht hi hz hsize hby hzs hsz v xs hs hown sa sn sc ys hx src hf h1 h63 hbytes hbase h
theorem aKb {nm:ByteArray}{ta:qO}{tn tc:Nat}{tz:qi}{ba:qO}{bn bc:Nat}{da:qO}{dn dc:Nat}{dz:qi}{bss:Int}{ra:qO}{rn rc:Nat}{rz:qi}{ia:qO}{im ic:Nat}{ss:List ByteArray}{ea:qO}{en ec:Nat}{es:List Ex}{w:qw}(h:MD w nm ta tn tc tz ba bn bc bl da dn dc dz bss ra rn rc rz ia im ic ss ea en ec es):MT w nm ta tn tc tz ba bn bc bl da dn dc dz bss ra rn rc rz ia im ic ss ea en ec es where
 n:=by have:=h.n;unfold maxLen;omega
 t:=h.t
 b:=h.b
 d:=h.d
 s:=h.s
 r:=h.r
 i:=by
  obtain ⟨h1,h2,h3,h4,h5⟩:=h.i;refine ⟨h1,h2,fun i=>?_,h4,h5⟩;by_cases hi:i<ss.length
  .have:=h3 (ss.getD i zS) (by simp [xB,hi]);unfold maxLen;omega
  .rw [xB,xO (by omega)];decide
 e:=by
  obtain ⟨h1,h2,h3,h4,h5⟩:=h.e;refine ⟨h1,h2,fun i=>?_,h4,h5⟩;by_cases hi:i<es.length
  .have:=h3 (es.getD i zE) (by simp [xB,hi]);unfold maxLen;omega
  .rw [xB,xO (by omega)];decide
def bkF (bl:List Bk)(i:Nat):qO×Nat×Nat:=((bl.getD i zB).1,(bl.getD i zB).2.1,(bl.getD i zB).2.2.1)
def bkX (bl:List Bk)(i:Nat):List Int:=(bl.getD i zB).2.2.2
theorem aJ5 {w:qw}{v:Value}{xs:qi}(h:OG 3 1 clI w base v xs)(hx:∀ z∈xs,wfi z):OI w base v xs:=by
 unfold OG at h;rw [aDe] at h;exact ⟨h,hx⟩
theorem aB3 (bl:List Bk):∀ n,n<=bl.length->bJ (bkF bl) n=((bl.take n).map fun B=>B.2.1).sum
 | 0,_=>by simp [bJ]
 | n+1,h=>by
   show bJ (bkF bl) n+(bkF bl n).2.1=_;have e:(bkF bl n).2.1=(bl[n]'(by omega)).2.1:=by simp [bkF,xB,show n<bl.length by omega]
   rw [aB3 bl n (by omega),List.take_add_one,xN (by omega),e];simp only [Option.toList_some,List.map_append,List.map_cons,List.map_nil,List.sum_append,List.sum_cons,List.sum_nil,Nat.add_zero]
theorem aO7 {w:qw}(h:OBk w base (qS a bl.length c) bl)(hx:∀ B∈bl,∀ z∈B.2.2.2,wfi z):Rr w base a bl.length (bkF bl) (bkX bl):=by
 have hmem:∀ i,i<bl.length->bl.getD i zB∈bl:=fun i hi=>by simp [xB,hi]
 have rows:∀ i,i<bl.length->OI w base (.slice (bkF bl i).1 (bkF bl i).2.1 (bkF bl i).2.2) (bkX bl i):=fun i hi=>aJ5 (h.rows _ (hmem i hi)).2 (hx _ (hmem i hi));refine ⟨fun hn=>?_,rows,fun i j hi hj hij k hk=>?_⟩
 .obtain ⟨hl,⟨h0,h1⟩|⟨g,cap,cur,hv,hg,hh,h1,h2,h3,h4⟩⟩:=h.head
  .exact absurd h1 hn
  .simp at hv;refine ⟨g,cur,hv.1,fun ⟨i,hi,e⟩=>?_,hh,fun i hi=>?_⟩
   .obtain ⟨c1,k1⟩:=aE (rows i hi).1 e;exact absurd (aI k1 hh) (by decide)
   .have:(cur.toList.take (bl.length*1))[i]?=(bl.map fun B=>qS B.1 B.2.1 B.2.2.1)[i]?:=by rw [h4]
    rw [List.getElem?_take] at this;rw [if_pos (by omega)] at this;rw [<- Array.getElem?_toList,this];simp [bkF,xB,hi]
 .have hp:=List.pairwise_iff_getElem.1 h.apart;have gi:bl.getD i zB=bl[i]:=by simp [xB,hi]
  have gj:bl.getD j zB=bl[j]:=by simp [xB,hj]
  unfold bkF at hk ⊢;rw [gi] at hk;rw [gj];rcases Nat.lt_or_gt_of_ne hij with h'|h'
  .exact hp i j hi hj h' k hk
  .exact fun e=>hp j i hj hi h' k e hk
theorem ModO.m6G {W:qw}(h:ModO W base P a1 c1 a2 c2 bl a3 c3 a5 c5 a6 c6 a7 c7)(R:PmG P):
 M6 W base (qS a1 P.tz.length c1) (qS a3 P.dz.length c3) (qS a5 P.rz.length c5) (qS a6 P.ss.length c6) (qS a7 P.es.length c7) a2 bl.length (bkF bl) P.tz (bkX bl) P.dz P.rz P.ss P.es where
 t:=aJ5 h.t R.t.2
 b:=aO7 h.b (fun B hB z hz=>by
  have hm:B.2.2.2∈P.bl:=by rw [<- h.bls];exact List.mem_map.2 ⟨B,hB,rfl⟩
  exact (R.b.2 _ hm).2 z hz)
 d:=h.d
 r:=aJ5 h.r R.r.2
 i:=h.i
 e:=h.e
 tr:=h.tr
 tb:=fun k hk ⟨i,hi,e⟩=>h.tb k hk _ (by simp [xB,hi]) e
 rb:=fun k hk ⟨i,hi,e⟩=>h.br k hk _ (by simp [xB,hi]) e
theorem ModO.sum {W:qw}(h:ModO W base P a1 c1 a2 c2 bl a3 c3 a5 c5 a6 c6 a7 c7):bJ (bkF bl) bl.length=(P.bl.map List.length).sum/\bl.length=P.bl.length:=by
 refine ⟨?_,by rw [<- h.bls,xH]⟩;rw [aB3 bl bl.length aN,List.take_length,<- h.bls,List.map_map];congr 1;apply List.map_congr_left;intro B hB;exact (h.b.rows B hB).1
theorem ModO.same {W W':qw}{base':Nat}{a1':qO}{c1':Nat}{a2':qO}{c2':Nat}{bl':List Bk}{a3':qO}{c3':Nat}{a5':qO}{c5':Nat}{a6':qO}{c6':Nat}{a7':qO}{c7':Nat}(h:ModO W base P a1 c1 a2 c2 bl a3 c3 a5 c5 a6 c6 a7 c7)(h':ModO W' base' P a1' c1' a2' c2' bl' a3' c3' a5' c5' a6' c6' a7' c7'):bl.length=bl'.length/\∀ i,i<bl.length->(bl'.getD i zB).2.1=(bl.getD i zB).2.1/\(bl'.getD i zB).2.2.2=(bl.getD i zB).2.2.2:=by
 have e:bl.map (fun B=>B.2.2.2)=bl'.map (fun B=>B.2.2.2):=h.bls.trans h'.bls.symm;have hl:bl.length=bl'.length:=by have:=congrArg List.length e;simpa using this
 refine ⟨hl,fun i hi=>?_⟩
 have e2:(bl.getD i zB).2.2.2=(bl'.getD i zB).2.2.2:=by
  have:=congrArg (fun l=>l[i]?) e;simp [hi,show i<bl'.length by omega] at this;simpa [xB,hi,show i<bl'.length by omega] using this
 have m1:bl.getD i zB∈bl:=by simp [xB,hi]
 have m2:bl'.getD i zB∈bl':=by simp [xB,show i<bl'.length by omega]
 exact ⟨by rw [(h'.b.rows _ m2).1,(h.b.rows _ m1).1,e2],e2.symm⟩
theorem aKi {zs:qi}{v:Int}(h:v∈zs):∃ k,k<zs.length/\zs.getD k 0=v:=by
 obtain ⟨k,hk,e⟩:=List.mem_iff_getElem.1 h;exact ⟨k,hk,by simp [xB,hk,e]⟩
theorem yR {zs:qi}{k:Nat}(h:k<zs.length):zs.getD k 0∈zs:=by
 simp [xB,h]
theorem fX (P:Prop):∃ b:Bool,b=true ↔ P:=by
 by_cases c:P
 .exact ⟨true,fun _=>c,fun _=>rfl⟩
 .exact ⟨false,fun h=>Bool.noConfusion h,fun h=>absurd h c⟩
theorem RowI.oi {w:qw}{zs:qi}(h:RowI w g zs)(hb:base<=g)(hm:zs.length<=maxLen)(hz:∀ z∈zs,wfi z):OI w base (qS (qP g) zs.length zs.length) zs:=
 ⟨⟨by simp,.inr ⟨g,zs.length,(zs.map (Value.int .i64)).toArray,rfl,hb,h,aN,hm,by simp,by simp [xG]⟩⟩,hz⟩
