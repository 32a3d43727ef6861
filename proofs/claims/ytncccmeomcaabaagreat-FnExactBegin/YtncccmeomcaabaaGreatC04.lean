import Derived.Test.YtncccmeomcaabaaGreatC03
set_option linter.all false
set_option maxHeartbeats 40000000
namespace Go.Proofs.YtncccmeomcaabaaGreat
open Go.RowKit
set_option maxRecDepth 100000
variable {c d k s:Int}
theorem aIu (a:qO)(n cap:Nat)(ms:List Md)(s c k d:Int)(w:qw)(h:MSD w a n cap ms)(hn:n<=4)(hcf:cfo s c k d=true)(hv:fR (aE ms))(hi:jZ (aE ms)):
 qC 141 #[qS a n cap,.agg (qW s c k d)] w fun e w'=>qY w w'/\∃ a0 c0 xs a2 c2 a5 c5 ts,e=.returned (.agg (mV (lay (aE ms) s c k) a0 c0 xs a2 c2 a5 c5 ts))/\LayO w' w.heap.size (lay (aE ms) s c k) a0 c0 xs a2 c2 a5 c5 ts:=by
 have N0:=aNp w s c k d (aE ms);have hl:=h.s.1;have hpl:(aE ms).length=n:=by rw [bT,hl]
 have HH:=aO h;have HI:=aO hi;have HVD:=aO hv;obtain ⟨hs0,hs1,hc0,hc1,hk0,hk1,hk2,_⟩:=of_decide_eq_true hcf;have HN:=aO N0;clear h N0 hi hcf;go_enter Tryz.func141,Tryz.ntmps141
 go_wp2_with fail
 go_loopw [6,7] (fun x i wr=>∃ (m:Nat) (a0:qO) (c0:Nat) (xs:List PB) (a5:qO) (c5:Nat) (ts:List TB),m<=n/\i=qI m/\x=qI (Ra (aE ms) m)/\Lst w wr s c k d #[qS a0 m c0,qI 0,qS (some (qR (w.heap.size+3) 0)) 0 0,qI (Fl (aE ms) m),qI 0,qS a5 m c5]/\Lrw w wr (aE ms) m a0 c0 xs a5 c5 ts) (fun _ i _=>n-(intOf i).toNat)
 .exact ⟨0,_,_,[],_,_,[],xC _,rfl,rfl,HN.out.1,HN.out.2⟩
 .clear HN;obtain ⟨m,a0,c0,xs,a5,c5,ts,hm,rfl,rfl,S,R⟩:=hrel;generalize wr=wo at *;by_cases hlt:m<n
  .have hlt':(m:Int)<(n:Int):=by omega
   have H:=HH.out.bw S.be;obtain ⟨b,off,rfl,q0,q1,q2,q3,q4,q5,q6,q7⟩:=H.s.at m hlt;have hmd:=H.d m hlt;have hvm:=HVD.out m (by omega);obtain ⟨P,hP⟩:=eqx ((aE ms).getD m zP);have hPM:P=(ms.getD m aK).pm:=hP.trans (cI (by omega));rw [<- hP] at hvm;have rT:=eC hvm;have rD:=iL hvm;have rF:=cO HVD.out m (by omega);have rR:=bQ HVD.out m (by omega);obtain ⟨_,_,vt,vb,vd,vs0,vs1,vbk⟩:=cB hvm;have HFS:=aO (fun k hk=>cE hvm k hk);have eT:(ms.getD m aK).tn=P.tz.length:=by rw [hPM];exact hmd.t.1.symm
   have eD:(ms.getD m aK).dn=P.dz.length:=by rw [hPM];exact hmd.d.1.symm
   have eS:(ms.getD m aK).bss=P.bss:=by rw [hPM];rfl
   have eB:(ms.getD m aK).bn=P.bl.length:=by rw [hPM];show _=(List.map _ _).length;rw [xH];exact hmd.b.1.symm
   have HBK:=aO (show ∀ j,j<P.bl.length->((ms.getD m aK).bl.getD j zB).2.1=(P.bl.getD j []).length from fun j hj=>by rw [hPM];exact (rO hmd j (by omega)).1);have HTG:=aO (xA hmd (show qE (aE ms) (ms.getD m aK).pm by have:=HI.out m (by omega);rw [<- hP,hPM] at this;exact this));have HMW:=aO (fun (W:qw) (hb:qY w W)=>(HH.out.bw hb).d m hlt);have hok:fD (ms.getD m aK).pm=0:=by rw [<- hPM];exact hvm
   have HOKM:=aO hok;have HPP:=aO hP;have HPM:=aO hPM;generalize ms.getD m aK=M at *;rw [eT] at q1;rw [eB] at q2;rw [eD] at q3;rw [eS] at q4;have HE:=aO (xA eT (xA eD (xA eS eB)));have al:qY wo (wo.alloc (.cells (qM M.nm M.ta P.tz.length M.tc M.ba P.bl.length M.bc M.da P.dz.length M.dc P.bss M.ra M.rn M.rc M.ia M.im M.ic M.ea M.en M.ec) 138)):=brf.alloc aN _;have kM:=Blk.new wo (qM M.nm M.ta P.tz.length M.tc M.ba P.bl.length M.bc M.da P.dz.length M.dc P.bss M.ra M.rn M.rc M.ia M.im M.ic M.ea M.en M.ec) 138;have S1:=S.bw al;have TT:Turn (Lg w) wo (wo.alloc (.cells (qM M.nm M.ta P.tz.length M.tc M.ba P.bl.length M.bc M.da P.dz.length M.dc P.bss M.ra M.rn M.rc M.ia M.im M.ic M.ea M.en M.ec) 138)):=aJ al;have hgw:=S.sz;have HSR:=aO (xA S R);clear H hmd hP hPM hok eT eD eS eB al S R hvm;have p3:=S1.k5.e3;obtain ⟨g0,g1,g2,g3,g4,g5,g6,g7⟩:=kM.eight;have HS1:=aO (xA S1 (xA kM TT));clear S1 kM TT;have hwd:IntKind.i64.wrap ((P.dz.length:Int)+P.bss)=(P.dz.length:Int)+P.bss:=cA _ (by omega) (by omega);have hwr:IntKind.i64.wrap (65536+Ra (aE ms) m)=65536+Ra (aE ms) m:=cA _ (by omega) (by omega);go_wp2_with fail
   generalize hV1:wo.alloc (.cells (qM M.nm M.ta P.tz.length M.tc M.ba P.bl.length M.bc M.da P.dz.length M.dc P.bss M.ra M.rn M.rc M.ia M.im M.ic M.ea M.en M.ec) 138)=V1 at *;have HV1:=aO (show V1.heap.size=wo.heap.size+1 by rw [<- hV1];simp);clear hV1 q0 q1 q2 q3 q4 q5 q6 q7;apply aQv (F:=fun (gp gr:Nat) (W:qw)=>(Lst w W s c k d #[qS a0 m c0,qI 0,qS (some (qR (w.heap.size+3) 0)) 0 0,qI (Fl (aE ms) m),qI 0,qS a5 m c5]/\Blk W wo.heap.size (qM M.nm M.ta P.tz.length M.tc M.ba P.bl.length M.bc M.da P.dz.length M.dc P.bss M.ra M.rn M.rc M.ia M.im M.ic M.ea M.en M.ec) 138/\Turn (Lg w) wo W/\Blk W gp #[qI (Fl (aE ms) m),qS (qP gr) 0 0,qI (65536+Ra (aE ms) m),qI (rnd ((P.dz.length:Int)+P.bss))] 171/\OG 3 1 clI W (wo.heap.size+1) (qS (qP gr) 0 0) []/\wo.heap.size+1<=gp))
   .intro REST0;have REST:=aO REST0;clear REST0
    have HFA:=aO (show (fun (gp gr:Nat) (W:qw)=>(Lst w W s c k d #[qS a0 m c0,qI 0,qS (some (qR (w.heap.size+3) 0)) 0 0,qI (Fl (aE ms) m),qI 0,qS a5 m c5]/\Blk W wo.heap.size (qM M.nm M.ta P.tz.length M.tc M.ba P.bl.length M.bc M.da P.dz.length M.dc P.bss M.ra M.rn M.rc M.ia M.im M.ic M.ea M.en M.ec) 138/\Turn (Lg w) wo W/\Blk W gp #[qI (Fl (aE ms) m),qS (qP gr) 0 0,qI (65536+Ra (aE ms) m),qI (rnd ((P.dz.length:Int)+P.bss))] 171/\OG 3 1 clI W (wo.heap.size+1) (qS (qP gr) 0 0) []/\wo.heap.size+1<=gp)) (V1.heap.size+1) V1.heap.size (((V1.alloc (.cells #[] 3)).alloc (.cells #[qI (Fl (aE ms) m),qS (qP V1.heap.size) 0 0,qI (65536+Ra (aE ms) m),qI (rnd ((P.dz.length:Int)+P.bss))] 171)).drew) from by
     obtain ⟨S1,kM,TT⟩:=HS1.out;have hv1:=HV1.out;have b1:qY V1 (V1.alloc (.cells #[] 3)):=brf.alloc aN _;have o1:=bK 3 1 clI V1 (wo.heap.size+1) (by omega);have s1:(V1.alloc (.cells #[] 3)).heap.size=V1.heap.size+1:=by simp
     generalize V1.alloc (.cells #[] 3)=V2 at *;have b2:qY V2 ((V2.alloc (.cells #[qI (Fl (aE ms) m),qS (qP V1.heap.size) 0 0,qI (65536+Ra (aE ms) m),qI (rnd ((P.dz.length:Int)+P.bss))] 171)).drew):=(brf.alloc aN _).drew;have k2:=Blk.new V2 #[qI (Fl (aE ms) m),qS (qP V1.heap.size) 0 0,qI (65536+Ra (aE ms) m),qI (rnd ((P.dz.length:Int)+P.bss))] 171;rw [s1] at k2;have b12:=b1.trans (b2.mono (by omega))
     exact ⟨S1.bw b12,kM.bw b12,TT.trans (aJ b12),k2,o1.bw b2,by omega⟩)
    have HFB:=aO (show (fun (gp gr:Nat) (W:qw)=>(Lst w W s c k d #[qS a0 m c0,qI 0,qS (some (qR (w.heap.size+3) 0)) 0 0,qI (Fl (aE ms) m),qI 0,qS a5 m c5]/\Blk W wo.heap.size (qM M.nm M.ta P.tz.length M.tc M.ba P.bl.length M.bc M.da P.dz.length M.dc P.bss M.ra M.rn M.rc M.ia M.im M.ic M.ea M.en M.ec) 138/\Turn (Lg w) wo W/\Blk W gp #[qI (Fl (aE ms) m),qS (qP gr) 0 0,qI (65536+Ra (aE ms) m),qI (rnd ((P.dz.length:Int)+P.bss))] 171/\OG 3 1 clI W (wo.heap.size+1) (qS (qP gr) 0 0) []/\wo.heap.size+1<=gp)) V1.heap.size (V1.heap.size+1) (((V1.alloc (.cells #[qI (Fl (aE ms) m),qS (some (qR (V1.heap.size+1) 0)) 0 0,qI (65536+Ra (aE ms) m),qI (rnd ((P.dz.length:Int)+P.bss))] 171)).alloc (.cells #[] 3)).drew) from by
     obtain ⟨S1,kM,TT⟩:=HS1.out;have hv1:=HV1.out;have b1:qY V1 (V1.alloc (.cells #[qI (Fl (aE ms) m),qS (some (qR (V1.heap.size+1) 0)) 0 0,qI (65536+Ra (aE ms) m),qI (rnd ((P.dz.length:Int)+P.bss))] 171)):=brf.alloc aN _;have k2:=Blk.new V1 #[qI (Fl (aE ms) m),qS (some (qR (V1.heap.size+1) 0)) 0 0,qI (65536+Ra (aE ms) m),qI (rnd ((P.dz.length:Int)+P.bss))] 171;have s1:(V1.alloc (.cells #[qI (Fl (aE ms) m),qS (some (qR (V1.heap.size+1) 0)) 0 0,qI (65536+Ra (aE ms) m),qI (rnd ((P.dz.length:Int)+P.bss))] 171)).heap.size=V1.heap.size+1:=by simp
     generalize V1.alloc (.cells #[qI (Fl (aE ms) m),qS (some (qR (V1.heap.size+1) 0)) 0 0,qI (65536+Ra (aE ms) m),qI (rnd ((P.dz.length:Int)+P.bss))] 171)=V2 at *;have b2:qY V2 ((V2.alloc (.cells #[] 3)).drew):=(brf.alloc aN _).drew;have o1:=bK 3 1 clI V2 (wo.heap.size+1) (by omega);rw [s1] at o1;have b12:=b1.trans (b2.mono (by omega));have o1':OG 3 1 clI ((V2.alloc (.cells #[] 3)).drew) (wo.heap.size+1) (qS (some (qR (V1.heap.size+1) 0)) 0 0) []:=o1.bw ((brf).drew)
     exact ⟨S1.bw b12,kM.bw b12,TT.trans (aJ b12),k2.bw b2,o1',by omega⟩)
    go_region_held3 (fun w'=>w'.cell? (qR (w.heap.size+5) 3)=some (qI (Fl (aE ms) m))/\w'.cell? (qR wo.heap.size 3)=some (qS M.da P.dz.length M.dc)/\w'.cell? (qR wo.heap.size 4)=some (qI P.bss)) (go_keep) (first
     | (go_at_call 171;refine (dO _ _ (by omega) (by omega)).mono ?_;rintro e wz ⟨rfl,rfl⟩))
    .have HFX:=HFA;clear HFA;generalize (((V1.alloc (.cells #[] 3)).alloc (.cells #[qI (Fl (aE ms) m),qS (qP V1.heap.size) 0 0,qI (65536+Ra (aE ms) m),qI (rnd ((P.dz.length:Int)+P.bss))] 171)).drew)=W' at HFX ⊢;generalize V1.heap.size+1=gp at HFX ⊢;generalize V1.heap.size=gr at HFX ⊢;exact REST.out gp gr W' HFX.out
    all_goals first|exact REST.out _ _ _ HFA.out|exact REST.out _ _ _ HFB.out
   .clear HS1 p3 g0 g1 g2 g3 g4 g5 g6 g7;rintro gp gr W' ⟨S1,kM,TT,kp,O,hgp⟩;show Exit.then _ _ _ _ _
    have p3:=S1.k5.e3;have f3:=S1.k5.frozen 3;have g1:=kM.e1;have hw4:IntKind.i64.wrap (4*(P.tz.length:Int))=4*(P.tz.length:Int):=cA _ (by omega) (by omega);have rT':0<=rnd (4*(P.tz.length:Int))/\rnd (4*(P.tz.length:Int))<=831:=rT;have hwf:IntKind.i64.wrap (Fl (aE ms) m+rnd (4*(P.tz.length:Int)))=Fl (aE ms) m+rnd (4*(P.tz.length:Int)):=cA _ (by omega) (by omega);have HQ:=aO (xA S1 (xA kM (xA TT (xA kp O))));clear S1 kM TT kp O;go_wp2_with fail
    apply aQw
    .intro REST0;have REST:=aO REST0;clear REST0
     go_region_law (first
      | (go_simp;go_at_call 171;refine (dO _ _ (by omega) (by omega)).mono ?_;rintro e wz ⟨rfl,rfl⟩))
     all_goals exact REST.out
    .obtain ⟨S1,kM,TT,kp,O⟩:=HQ.out;have t8:=aC W' (w.heap.size+5) 3 (qI (Fl (aE ms) m+rnd (4*(P.tz.length:Int))));have t8d:=nC t8;have S2:Lst w ((W'.setCell (qR (w.heap.size+5) 3) (qI (Fl (aE ms) m+rnd (4*(P.tz.length:Int))))).drew) s c k d #[qS a0 m c0,qI 0,qS (some (qR (w.heap.size+3) 0)) 0 0,qI (Fl (aE ms) m+rnd (4*(P.tz.length:Int))),qI 0,qS a5 m c5]:=(S1.set 3 (qI (Fl (aE ms) m+rnd (4*(P.tz.length:Int))))).drew;have kM2:Blk ((W'.setCell (qR (w.heap.size+5) 3) (qI (Fl (aE ms) m+rnd (4*(P.tz.length:Int))))).drew) wo.heap.size (qM M.nm M.ta P.tz.length M.tc M.ba P.bl.length M.bc M.da P.dz.length M.dc P.bss M.ra M.rn M.rc M.ia M.im M.ic M.ea M.en M.ec) 138:=aF t8d kM (fun e=>by have e':wo.heap.size=w.heap.size+5:=e;omega);have TT2:Turn (Lg w) wo ((W'.setCell (qR (w.heap.size+5) 3) (qI (Fl (aE ms) m+rnd (4*(P.tz.length:Int))))).drew):=TT.trans (t8d.mono (fun j hj=>hj));have kp2:Blk ((W'.setCell (qR (w.heap.size+5) 3) (qI (Fl (aE ms) m+rnd (4*(P.tz.length:Int))))).drew) gp #[qI (Fl (aE ms) m),qS (qP gr) 0 0,qI (65536+Ra (aE ms) m),qI (rnd ((P.dz.length:Int)+P.bss))] 171:=aF t8d kp (fun e=>by have e':gp=w.heap.size+5:=e;omega);have O2:OG 3 1 clI ((W'.setCell (qR (w.heap.size+5) 3) (qI (Fl (aE ms) m+rnd (4*(P.tz.length:Int))))).drew) (wo.heap.size+1) (qS (qP gr) 0 0) []:=O.kept t8d (fun k hk e=>by have:=(O.lt k hk).1;have e':k=w.heap.size+5:=e;omega);have e0:(Fl (aE ms) m+rnd (4*(P.tz.length:Int)))=(Fl (aE ms) m+rnd (4*(P.tz.length:Int))+cC P 0):=by simp [cC]
     have HE0:=aO e0;have HQ2:=aO (xA S2 (xA kM2 (xA TT2 (xA kp2 O2))));clear S1 kM TT kp O S2 kM2 TT2 kp2 O2 t8 t8d HQ p3 f3 g1 e0;obtain ⟨iI,hiI,hz0,hz1,hz2⟩:=info_parts jV;go_wp2_with fail
     go_loopw [10] (fun i wx=>∃ (q:Nat) (ar:qO) (cr:Nat),q<=P.bl.length/\i=qI q/\Lst w wx s c k d #[qS a0 m c0,qI 0,qS (some (qR (w.heap.size+3) 0)) 0 0,qI (Fl (aE ms) m+rnd (4*(P.tz.length:Int))+cC P q),qI 0,qS a5 m c5]/\Blk wx wo.heap.size (qM M.nm M.ta P.tz.length M.tc M.ba P.bl.length M.bc M.da P.dz.length M.dc P.bss M.ra M.rn M.rc M.ia M.im M.ic M.ea M.en M.ec) 138/\Turn (Lg w) wo wx/\Blk wx gp #[qI (Fl (aE ms) m),qS ar q cr,qI (65536+Ra (aE ms) m),qI (rnd ((P.dz.length:Int)+P.bss))] 171/\OG 3 1 clI wx (wo.heap.size+1) (qS ar q cr) (bks (aE ms) m q)) (qf P.bl.length)
     .exact ⟨0,some (qR gr 0),0,xC _,rfl,(by rw [<- HE0.out];exact HQ2.out.1),HQ2.out.2.1,HQ2.out.2.2.1,HQ2.out.2.2.2.1,HQ2.out.2.2.2.2⟩
     .clear HQ2;obtain ⟨q,ar,cr,hq,rfl,S2,kM,TT,kp,O⟩:=hrel;have g2:=kM.e2;by_cases hlt2:q<P.bl.length
      .have hlt2':(q:Int)<(P.bl.length:Int):=by omega
       obtain ⟨FQ,hFQ⟩:=eqx ((Fl (aE ms) m+rnd (4*(P.tz.length:Int))+cC P q));rw [<- hFQ] at S2;have rq:=HFS.out q (by omega);have rFQ:0<=FQ/\FQ<=20000:=by omega
       have p3:=S2.k5.e3;have p1:=kp.e1;have al:qY wr (wr.alloc (.cells #[qI FQ] 3)):=brf.alloc aN _;have hTs:=TT.size;have HSU:=aO (show bks (aE ms) m (q+1)=bks (aE ms) m q++[FQ] by rw [aL5,<- HPP.out,hFQ];rfl);have HOW:=aO (show (wr.alloc (.cells #[qI FQ] 3)).ownsRow (wo.heap.size+1) 3 1 (qS ar q cr) q ((bks (aE ms) m q).flatMap clI) by have:=O.bw al;unfold OG at this;rw [oA] at this;exact this);have HQ:=aO (xA (S2.bw al) (xA (kM.bw al) (xA (TT.trans (aJ al)) (xA (kp.bw al) (O.bw al)))));have HFQ:=aO hFQ;clear S2 kM TT kp O al hFQ;go_wp2_with (at_builtin;refine wpList_append_own _ rfl _ _ 25 rfl (wo.heap.size+1) 3 iI (qI 0) 1 8 Tryz.underlying25 hiI hz0 hz1 hz2 rfl (by decide) (qS ar q cr) q ((bks (aE ms) m q).flatMap clI) rfl HOW.out (qR wr.heap.size 0) 1 1 (clI FQ) rfl rfl (bJ wr _ _ (clI FQ) rfl) (by intro u hu;simp [clI] at hu;subst hu;rfl) (by unfold maxLen;omega) (by omega) (by simp;omega) ?_;intro v' w4 hown hgr _;obtain ⟨S2,kM,TT,kp,O⟩:=HQ.out;have hrow:∀ j,(qS ar q cr).ownBlock=some j->wo.heap.size+1<=j:=(fun j hj=>(O.lt j hj).1);have O4:OG 3 1 clI w4 (wo.heap.size+1) v' (bks (aE ms) m (q+1)):=(by unfold OG;rw [oA,HSU.out,xU,xX];exact hown);have S4:=S2.grown hgr (fun j hj=>by have:=hrow j hj;omega);have kM4:=cM kM hgr (fun e=>by have:=hrow _ e.symm;omega);have TT4:=sA TT hgr (fun j hj=>by have:=hrow j hj;omega);have kp4:=cM kp hgr (fun e=>by obtain ⟨cs,hk⟩:=aD O e.symm;exact absurd (aH kp hk) (by decide));obtain ⟨ar',cr',rfl⟩:=aR O4;rw [oA] at O4 ⊢;have c1:w4.cell? (qR gp 1)=some (qS ar q cr):=kp4.cell 1;have f1:=kp4.frozen 1;have H4:=aO (xA S4 (xA kM4 (xA TT4 (xA kp4 O4))));clear S2 kM TT kp O hrow S4 kM4 TT4 kp4 O4 hown hgr HOW HQ p1 p3 g2)
       obtain ⟨S4,kM4,TT4,kp4,O4⟩:=H4.out;have tp:=aC w4 gp 1 (qS ar' (q+1) cr');have S5:=S4.other (g:=gp) (by omega) 1 (qS ar' (q+1) cr');have kM5:=aF tp kM4 (fun e=>by have e':wo.heap.size=gp:=e;omega);have TT5:=iC TT4 (show wo.heap.size<=gp by omega) 1 (qS ar' (q+1) cr');have kp5:=kp4.s1 (qS ar' (q+1) cr');have O5:=O4.kept tp (fun k hk e=>by have e':k=gp:=e;subst e';exact aM O4 hk kp4 (by decide));have md5:=HMW.out _ S5.be;obtain ⟨_,_,hcb,_,_⟩:=md5.b;obtain ⟨b2,off2,hba,hc⟩:=hcb (by rw [HE.out.2.2.2];omega);have cb:=hc q (by rw [HE.out.2.2.2];exact hlt2);rw [HBK.out q hlt2] at cb;have g2:=kM5.e2;rw [hba] at g2;have p3:=S5.k5.e3;have f3:=S5.k5.frozen 3;have hLq:=vbk q hlt2;obtain ⟨LQ,hLQ⟩:=eqx ((P.bl.getD q []).length);rw [<- hLQ] at cb hLq;have rL:=aQ (x:=4*(LQ:Int)) (by omega);have hw4:IntKind.i64.wrap (4*(LQ:Int))=4*(LQ:Int):=cA _ (by omega) (by omega);have hwq:IntKind.i64.wrap (FQ+rnd (4*(LQ:Int)))=(FQ+rnd (4*(LQ:Int))):=cA _ (by omega) (by omega);have HFE:=aO (show (FQ+rnd (4*(LQ:Int)))=Fl (aE ms) m+rnd (4*(P.tz.length:Int))+cC P (q+1) by rw [HFQ.out,hLQ];show _=Fl (aE ms) m+rnd (4*(P.tz.length:Int))+(cC P q+rnd (4*((P.bl.getD q []).length:Int)));omega);generalize M.bl.getD q zB=bq at cb;obtain ⟨bq1,bq2,bq3,bq4⟩:=bq;dsimp only at cb;have H5:=aO (xA S5 (xA kM5 (xA TT5 (xA kp5 O5))));clear S4 kM4 TT4 kp4 O4 tp S5 kM5 TT5 kp5 O5 md5 hcb hba hc hLQ H4 c1 f1;apply aQw
       .intro REST0;have REST:=aO REST0;clear REST0
        go_region_law (first
         | (go_simp;go_at_call 171;refine (dO _ _ (by omega) (by omega)).mono ?_;rintro e wz ⟨rfl,rfl⟩))
        all_goals exact REST.out
       .obtain ⟨S5,kM5,TT5,kp5,O5⟩:=H5.out;have t6:=nC (aC (w4.setCell (qR gp 1) (qS ar' (q+1) cr')) (w.heap.size+5) 3 (qI (FQ+rnd (4*(LQ:Int)))));have S6:Lst w (((w4.setCell (qR gp 1) (qS ar' (q+1) cr')).setCell (qR (w.heap.size+5) 3) (qI (FQ+rnd (4*(LQ:Int))))).drew) s c k d #[qS a0 m c0,qI 0,qS (some (qR (w.heap.size+3) 0)) 0 0,qI (FQ+rnd (4*(LQ:Int))),qI 0,qS a5 m c5]:=(S5.set 3 (qI (FQ+rnd (4*(LQ:Int))))).drew;have kM6:=aF t6 kM5 (fun e=>by have e':wo.heap.size=w.heap.size+5:=e;omega);have TT6:=TT5.trans (t6.mono (S':=Lg w) (fun j hj=>hj));have kp6:=aF t6 kp5 (fun e=>by have e':gp=w.heap.size+5:=e;omega);have O6:=O5.kept t6 (fun k hk e=>by have:=(O5.lt k hk).1;have e':k=w.heap.size+5:=e;omega);have H6:=aO (xA S6 (xA kM6 (xA TT6 (xA kp6 O6))));clear S5 kM5 TT5 kp5 O5 t6 S6 kM6 TT6 kp6 O6 H5 p3 f3 g2 cb;go_wp2
        go_roundw
        .exact ⟨q+1,ar',cr',by omega,by go_num,(by rw [<- HFE.out];exact H6.out.1),H6.out.2.1,H6.out.2.2.1,H6.out.2.2.2.1,H6.out.2.2.2.2⟩
        .simp [qf,intOf];omega
      .have hlt2':¬ (q:Int)<(P.bl.length:Int):=by omega
       have hqe:q=P.bl.length:=by omega
       have eF:Fl (aE ms) m+rnd (4*(P.tz.length:Int))+cC P q=(Fl (aE ms) (m+1)):=by
        show _=Fl (aE ms) m+msz ((aE ms).getD m zP);rw [<- HPP.out,hqe];show _=Fl (aE ms) m+(rnd (4*(P.tz.length:Int))+cC P P.bl.length);omega
       rw [eF] at S2;have rF1:=cO HVD.out (m+1) (by omega);have rR1:=bQ HVD.out (m+1) (by omega)
       have eR:Ra (aE ms) m+rnd ((P.dz.length:Int)+P.bss)=Ra (aE ms) (m+1):=by
        show _=Ra (aE ms) m+dsz ((aE ms).getD m zP);rw [<- HPP.out];rfl
       have hwra:IntKind.i64.wrap (Ra (aE ms) m+rnd ((P.dz.length:Int)+P.bss))=Ra (aE ms) (m+1):=by rw [eR];exact cA _ (by omega) (by omega)
       have HPL:=aO (show plc (aE ms) m=⟨Fl (aE ms) m,bks (aE ms) m q,65536+Ra (aE ms) m,rnd ((P.dz.length:Int)+P.bss)⟩ by unfold plc bks;rw [<- HPP.out,hqe];rfl);have R1:=HSR.out.2.kept HSR.out.1 TT;have L1:=R1.P.lt;have hTs:=TT.size;obtain ⟨iP,hiP,hzP0,hzP1,hzP2⟩:=info_parts aOv;obtain ⟨iT,hiT,hzT0,hzT1,hzT2⟩:=info_parts aLb;obtain ⟨r0,r1,r2,r3⟩:=kp.z4;have p0:=S2.k5.e0;have al:qY wr (wr.alloc (.cells #[qI (Fl (aE ms) m),qS ar q cr,qI (65536+Ra (aE ms) m),qI (rnd ((P.dz.length:Int)+P.bss))] 171)):=brf.alloc aN _;have HOW:=aO (show (wr.alloc (.cells #[qI (Fl (aE ms) m),qS ar q cr,qI (65536+Ra (aE ms) m),qI (rnd ((P.dz.length:Int)+P.bss))] 171)).ownsRow (w.heap.size+2) 171 4 (qS a0 m c0) m (xs.flatMap clP) by have:=R1.P.head.bw al;unfold OG at this;rw [R1.pl] at this;exact this);have HCL:=aO (show clP ((⟨Fl (aE ms) m,bks (aE ms) m q,65536+Ra (aE ms) m,rnd ((P.dz.length:Int)+P.bss)⟩,ar,cr):PB)=[qI (Fl (aE ms) m),qS ar q cr,qI (65536+Ra (aE ms) m),qI (rnd ((P.dz.length:Int)+P.bss))] by simp [clP,svP,oA]);have HLO:=aO (show ∀ A∈xs,∀ j,(svP A).ownBlock=some j->j<wo.heap.size+1 from fun A hA j hj=>by have:=(HSR.out.2.P.lt.2 A hA j hj).2;omega);have HQ:=aO (xA (S2.bw al) (xA (kM.bw al) (xA (TT.trans (aJ al)) (xA (R1.bw al) (O.bw al)))));clear S2 kM TT kp O al R1 L1 eF hqe eR;go_wp2_with (at_builtin;refine wpList_append_own _ rfl _ _ 68 rfl (w.heap.size+2) 171 iP (.agg #[qI 0,qS none 0 0,qI 0,qI 0]) 4 48 Tryz.underlying68 hiP hzP0 hzP1 hzP2 rfl (by decide) (qS a0 m c0) m (xs.flatMap clP) rfl HOW.out (qR wr.heap.size 0) 1 1 [qI (Fl (aE ms) m),qS ar q cr,qI (65536+Ra (aE ms) m),qI (rnd ((P.dz.length:Int)+P.bss))] rfl rfl (bJ wr _ _ [qI (Fl (aE ms) m),qS ar q cr,qI (65536+Ra (aE ms) m),qI (rnd ((P.dz.length:Int)+P.bss))] rfl) (by intro u hu;simp at hu;rcases hu with rfl|rfl|rfl|rfl<;>rfl) (by unfold maxLen;omega) (by omega) (by simp;omega) ?_;intro v' w4 hown hgr _;obtain ⟨S2,kM,TT,R1,O⟩:=HQ.out;have hrow:∀ j,(qS a0 m c0).ownBlock=some j->w.heap.size+2<=j/\j≠w.heap.size+5/\j≠wo.heap.size/\j<wo.heap.size:=(fun j hj=>⟨(R1.P.lt.1 j hj).1,fun e=>by subst e;exact aM R1.P.head hj S2.k5 (by decide),fun e=>by subst e;exact aM R1.P.head hj kM (by decide),(HSR.out.2.P.lt.1 j hj).2⟩);have P4:=R1.P.push (x:=((⟨Fl (aE ms) m,bks (aE ms) m q,65536+Ra (aE ms) m,rnd ((P.dz.length:Int)+P.bss)⟩,ar,cr):PB)) R1.pl (by show OG _ _ _ _ _ (.slice ar (bks (aE ms) m q).length cr) _;rw [oA];exact O) (by omega) HLO.out (by rw [HCL.out];exact hown) hgr (by decide);have S4:=S2.grown hgr (fun j hj=>⟨(hrow j hj).1,(hrow j hj).2.1⟩);have kM4:=cM kM hgr (fun e=>(hrow _ e.symm).2.2.1 rfl);have T4:OTg w4 (w.heap.size+2) (w.heap.size+6) (qS a5 m c5) ts:=⟨R1.T.head.kept' hgr (fun k hk e=>by obtain ⟨c1,k1⟩:=aD R1.P.head e;exact aM R1.T.head hk k1 (by decide)),fun x hx=>(R1.T.rows x hx).kept' hgr (fun k hk e=>by obtain ⟨c1,k1⟩:=aD R1.P.head e;exact aM (R1.T.rows x hx) hk k1 (by decide)),R1.T.apart⟩;have Sl4:=R1.S.kept' hgr (fun k hk e=>by obtain ⟨c1,k1⟩:=aD R1.P.head e;exact aM R1.S hk k1 (by decide));obtain ⟨a0',c0',rfl⟩:=aR P4.head;rw [show (xs++[((⟨Fl (aE ms) m,bks (aE ms) m q,65536+Ra (aE ms) m,rnd ((P.dz.length:Int)+P.bss)⟩,ar,cr):PB)]).length=m+1 by rw [xI,R1.pl];rfl] at P4 ⊢;have kMx:=aF (aC w4 (w.heap.size+5) 0 (qS a0' (m+1) c0')) kM4 (fun e=>by have e':wo.heap.size=w.heap.size+5:=e;omega);have g0:(w4.setCell (qR (w.heap.size+1+1+1+1+1) 0) (qS a0' (m+1) c0')).cell? (qR wo.heap.size 0)=some (.string M.nm):=kMx.cell 0;have y0:w4.cell? (qR wo.heap.size 0)=some (.string M.nm):=kM4.cell 0;have g1:(w4.setCell (qR (w.heap.size+1+1+1+1+1) 0) (qS a0' (m+1) c0')).cell? (qR wo.heap.size 1)=some (qS M.ta P.tz.length M.tc):=kMx.cell 1;have y1:w4.cell? (qR wo.heap.size 1)=some (qS M.ta P.tz.length M.tc):=kM4.cell 1;have g2:(w4.setCell (qR (w.heap.size+1+1+1+1+1) 0) (qS a0' (m+1) c0')).cell? (qR wo.heap.size 2)=some (qS M.ba P.bl.length M.bc):=kMx.cell 2;have y2:w4.cell? (qR wo.heap.size 2)=some (qS M.ba P.bl.length M.bc):=kM4.cell 2;have g3:(w4.setCell (qR (w.heap.size+1+1+1+1+1) 0) (qS a0' (m+1) c0')).cell? (qR wo.heap.size 3)=some (qS M.da P.dz.length M.dc):=kMx.cell 3;have y3:w4.cell? (qR wo.heap.size 3)=some (qS M.da P.dz.length M.dc):=kM4.cell 3;have g4:(w4.setCell (qR (w.heap.size+1+1+1+1+1) 0) (qS a0' (m+1) c0')).cell? (qR wo.heap.size 4)=some (qI P.bss):=kMx.cell 4;have y4:w4.cell? (qR wo.heap.size 4)=some (qI P.bss):=kM4.cell 4;have g5:(w4.setCell (qR (w.heap.size+1+1+1+1+1) 0) (qS a0' (m+1) c0')).cell? (qR wo.heap.size 5)=some (qS M.ra M.rn M.rc):=kMx.cell 5;have y5:w4.cell? (qR wo.heap.size 5)=some (qS M.ra M.rn M.rc):=kM4.cell 5;have g6:(w4.setCell (qR (w.heap.size+1+1+1+1+1) 0) (qS a0' (m+1) c0')).cell? (qR wo.heap.size 6)=some (qS M.ia M.im M.ic):=kMx.cell 6;have y6:w4.cell? (qR wo.heap.size 6)=some (qS M.ia M.im M.ic):=kM4.cell 6;have g7:(w4.setCell (qR (w.heap.size+1+1+1+1+1) 0) (qS a0' (m+1) c0')).cell? (qR wo.heap.size 7)=some (qS M.ea M.en M.ec):=kMx.cell 7;have y7:w4.cell? (qR wo.heap.size 7)=some (qS M.ea M.en M.ec):=kM4.cell 7;have hnA:¬ wo.heap.size=w.heap.size+1+1+1+1+1:=(by omega);have hnB:¬ w.heap.size+1+1+1+1+1=wo.heap.size:=(by omega);clear kMx;have p4:w4.cell? (qR (w.heap.size+5) 0)=some (qS a0 m c0):=S4.k5.cell 0;have f4:=S4.k5.frozen 0;have H4:=aO (xA S4 (xA kM4 (xA P4 (xA T4 Sl4))));have HPL2:=aO (xA R1.pl (xA R1.tl (xA R1.px R1.tx)));clear S2 kM TT R1 O hrow S4 kM4 P4 T4 Sl4 hown hgr HOW HQ p0 r0 r1 r2 r3)
       obtain ⟨S4,kM4,P4,T4,Sl4⟩:=H4.out;have t6:Turn (fun j=>j=w.heap.size+5) w4 (w4.setCell (qR (w.heap.size+1+1+1+1+1) 0) (qS a0' (m+1) c0')):=aC w4 (w.heap.size+5) 0 (qS a0' (m+1) c0');have S6:Lst w (w4.setCell (qR (w.heap.size+1+1+1+1+1) 0) (qS a0' (m+1) c0')) s c k d #[qS a0' (m+1) c0',qI 0,qS (some (qR (w.heap.size+3) 0)) 0 0,qI (Fl (aE ms) (m+1)),qI 0,qS a5 m c5]:=S4.set 0 (qS a0' (m+1) c0');have kM6:=aF t6 kM4 (fun e=>by have e':wo.heap.size=w.heap.size+5:=e;omega);have P6:=P4.kept t6 (fun k hk e=>by have e':k=w.heap.size+5:=e;subst e';exact aM P4.head hk S4.k5 (by decide)) (fun x hx k hk e=>by have e':k=w.heap.size+5:=e;subst e';exact aM (P4.rows x hx) hk S4.k5 (by decide));have T6:=T4.kept t6 (fun k hk e=>by have e':k=w.heap.size+5:=e;subst e';exact aM T4.head hk S4.k5 (by decide)) (fun x hx k hk e=>by have e':k=w.heap.size+5:=e;subst e';exact aM (T4.rows x hx) hk S4.k5 (by decide));have Sl6:=Sl4.kept t6 (fun k hk e=>by have e':k=w.heap.size+5:=e;subst e';exact aM Sl4 hk S4.k5 (by decide));generalize w4.setCell (qR (w.heap.size+1+1+1+1+1) 0) (qS a0' (m+1) c0')=W6 at *;have HTA:=aO (mH (some (qR b off)) n cap ms M W6 (HH.out.bw S6.be) HVD.out hn (HMW.out _ S6.be) HOKM.out);rw [HE.out.1,HE.out.2.1,HE.out.2.2.1,HE.out.2.2.2] at HTA;have HLT:=aO (show ∀ A∈ts,∀ j,(svT A).ownBlock=some j->j<W6.heap.size from fun A hA j hj=>(T6.lt.2 A hA j hj).2);have hs6:=S6.sz;have H6:=aO (xA S6 (xA P6 (xA T6 Sl6)));clear S4 kM4 P4 T4 Sl4 t6 S6 kM6 P6 T6 Sl6 H4 p4 f4;refine HTA.out.mono ?_;rintro e w7 ⟨hb7,H7⟩;rcases H7 with ⟨hno,_⟩|⟨_,at',ct',rfl,O7⟩
       .exact absurd HTG.out.2 hno
       obtain ⟨S6,P6,T6,Sl6⟩:=H6.out;have al:qY w7 (w7.alloc (.cells #[.slice at' (tgs (aE ms) M.pm).length ct'] 190)):=brf.alloc aN _;have S7:=S6.bw hb7;have T7:=T6.bw hb7;have hs67:=hb7.size;have p5:=S7.k5.e5;have HOW:=aO (show (w7.alloc (.cells #[.slice at' (tgs (aE ms) M.pm).length ct'] 190)).ownsRow (w.heap.size+2) 190 1 (qS a5 m c5) m (ts.flatMap aBx) by have:=T7.head.bw al;unfold OG at this;rw [HPL2.out.2.1] at this;exact this);have HQ:=aO (xA (S7.bw al) (xA ((P6.bw hb7).bw al) (xA (T7.bw al) (xA ((Sl6.bw hb7).bw al) (O7.bw al)))));clear S6 P6 T6 Sl6 hb7 O7 al S7 T7 H6 HTA g0 g1 g2 g3 g4 g5 g6 g7 y0 y1 y2 y3 y4 y5 y6 y7;go_wp2_with (at_builtin;refine wpList_append_own _ rfl _ _ 69 rfl (w.heap.size+2) 190 iT (qS none 0 0) 1 24 Tryz.underlying69 hiT hzT0 hzT1 hzT2 rfl (by decide) (qS a5 m c5) m (ts.flatMap aBx) rfl HOW.out (qR w7.heap.size 0) 1 1 (aBx ((tgs (aE ms) M.pm,at',ct'):TB)) rfl rfl (bJ w7 _ _ (aBx ((tgs (aE ms) M.pm,at',ct'):TB)) rfl) (by intro u hu;simp [aBx,svT] at hu;subst hu;rfl) (by unfold maxLen;omega) (by omega) (by simp;omega) ?_;intro v' w8 hown hgr _;obtain ⟨S7,P7,T7,Sl7,O7⟩:=HQ.out;have hrow:∀ j,(qS a5 m c5).ownBlock=some j->w.heap.size+2<=j/\j≠w.heap.size+5:=(fun j hj=>⟨(T7.lt.1 j hj).1,fun e=>by subst e;exact aM T7.head hj S7.k5 (by decide)⟩);have T8:=T7.push (x:=((tgs (aE ms) M.pm,at',ct'):TB)) HPL2.out.2.1 O7 (by exact hs6) HLT.out hown hgr (by decide);have S8:=S7.grown hgr hrow;have P8:OPl w8 (w.heap.size+2) (w.heap.size+6) (qS a0' (m+1) c0') (xs++[((⟨Fl (aE ms) m,bks (aE ms) m q,65536+Ra (aE ms) m,rnd ((P.dz.length:Int)+P.bss)⟩,ar,cr):PB)]):=⟨P7.head.kept' hgr (fun k hk e=>by obtain ⟨c1,k1⟩:=aD T7.head e;exact aM P7.head hk k1 (by decide)),fun x hx=>(P7.rows x hx).kept' hgr (fun k hk e=>by obtain ⟨c1,k1⟩:=aD T7.head e;exact aM (P7.rows x hx) hk k1 (by decide)),P7.apart⟩;have Sl8:=Sl7.kept' hgr (fun k hk e=>by obtain ⟨c1,k1⟩:=aD T7.head e;exact aM Sl7 hk k1 (by decide));obtain ⟨a5',c5',rfl⟩:=aR T8.head;rw [show (ts++[((tgs (aE ms) M.pm,at',ct'):TB)]).length=m+1 by rw [xI,HPL2.out.2.1];rfl] at T8 ⊢;have p8:w8.cell? (qR (w.heap.size+5) 5)=some (qS a5 m c5):=S8.k5.cell 5;have f8:=S8.k5.frozen 5;have H8:=aO (xA S8 (xA P8 (xA T8 Sl8)));clear S7 P7 T7 Sl7 O7 hrow T8 S8 P8 Sl8 hown hgr HOW HQ p5)
       obtain ⟨S8,P8,T8,Sl8⟩:=H8.out;have t9:=aC w8 (w.heap.size+5) 5 (qS a5' (m+1) c5');have S9:Lst w (w8.setCell (qR (w.heap.size+5) 5) (qS a5' (m+1) c5')) s c k d #[qS a0' (m+1) c0',qI 0,qS (some (qR (w.heap.size+3) 0)) 0 0,qI (Fl (aE ms) (m+1)),qI 0,qS a5' (m+1) c5']:=S8.set 5 (qS a5' (m+1) c5');have P9:=P8.kept t9 (fun k hk e=>by have e':k=w.heap.size+5:=e;subst e';exact aM P8.head hk S8.k5 (by decide)) (fun x hx k hk e=>by have e':k=w.heap.size+5:=e;subst e';exact aM (P8.rows x hx) hk S8.k5 (by decide));have T9:=T8.kept t9 (fun k hk e=>by have e':k=w.heap.size+5:=e;subst e';exact aM T8.head hk S8.k5 (by decide)) (fun x hx k hk e=>by have e':k=w.heap.size+5:=e;subst e';exact aM (T8.rows x hx) hk S8.k5 (by decide));have Sl9:=Sl8.kept t9 (fun k hk e=>by have e':k=w.heap.size+5:=e;subst e';exact aM Sl8 hk S8.k5 (by decide));have R9:Lrw w (w8.setCell (qR (w.heap.size+5) 5) (qS a5' (m+1) c5')) (aE ms) (m+1) a0' c0' (xs++[((⟨Fl (aE ms) m,bks (aE ms) m q,65536+Ra (aE ms) m,rnd ((P.dz.length:Int)+P.bss)⟩,ar,cr):PB)]) a5' c5' (ts++[((tgs (aE ms) M.pm,at',ct'):TB)]):=⟨P9,T9,Sl9,by rw [xI,HPL2.out.1];rfl,by rw [xI,HPL2.out.2.1];rfl,by rw [List.map_append,HPL2.out.2.2.1,List.range_succ,List.map_append];simp only [List.map_cons,List.map_nil];rw [HPL.out],by rw [List.map_append,HPL2.out.2.2.2,List.range_succ,List.map_append];simp only [List.map_cons,List.map_nil];rw [<- HPP.out,HPM.out]⟩;have H9:=aO (xA S9 R9);clear S8 P8 T8 Sl8 t9 S9 P9 T9 Sl9 R9 H8 p8 f8;go_wp2
       go_roundw
       .exact ⟨m+1,a0',c0',_,a5',c5',_,by omega,by go_num,rfl,H9.out.1,H9.out.2⟩
       .simp [qf,intOf];omega
  .have hlt':¬ (m:Int)<(n:Int):=by omega
   have hmn:m=n:=by omega
   subst hmn;have rF:=cO HVD.out m (by omega);have rR:=bQ HVD.out m (by omega);obtain ⟨sn,rfl⟩:∃ sn:Nat,s=(sn:Int):=⟨s.toNat,by omega⟩;obtain ⟨RW,hRW⟩:=eqx (rnd (4*c));have rRW:0<=RW/\RW<=287:=by have:=aQ (x:=4*c) (by omega);omega
   have HRW:=aO hRW;have HRD:=aO (fun W=>dO (4*c) W (by omega) (by omega));rw [<- hRW] at HRD;have hwr:IntKind.i64.wrap (65536+Ra (aE ms) m)=(65536+Ra (aE ms) m):=cA _ (by omega) (by omega);have hwk:IntKind.i64.wrap (Ra (aE ms) m+k)=Ra (aE ms) m+k:=cA _ (by omega) (by omega);have hwc:IntKind.i64.wrap (4*c)=4*c:=cA _ (by omega) (by omega);have t18:Turn (fun j=>j=w.heap.size+5) wo (wo.setCell (qR (w.heap.size+1+1+1+1+1) 1) (qI (65536+Ra (aE ms) m))):=aC wo (w.heap.size+5) 1 (qI (65536+Ra (aE ms) m));have S18:Lst w (wo.setCell (qR (w.heap.size+1+1+1+1+1) 1) (qI (65536+Ra (aE ms) m))) sn c k d #[qS a0 m c0,qI (65536+Ra (aE ms) m),qS (some (qR (w.heap.size+3) 0)) 0 0,qI (Fl (aE ms) m),qI 0,qS a5 m c5]:=S.set 1 (qI (65536+Ra (aE ms) m));have P18:=R.P.kept t18 (fun k hk e=>by have e':k=w.heap.size+5:=e;subst e';exact aM R.P.head hk S.k5 (by decide)) (fun x hx k hk e=>by have e':k=w.heap.size+5:=e;subst e';exact aM (R.P.rows x hx) hk S.k5 (by decide));have T18:=R.T.kept t18 (fun k hk e=>by have e':k=w.heap.size+5:=e;subst e';exact aM R.T.head hk S.k5 (by decide)) (fun x hx k hk e=>by have e':k=w.heap.size+5:=e;subst e';exact aM (R.T.rows x hx) hk S.k5 (by decide));have O18:=R.S.kept t18 (fun k hk e=>by have e':k=w.heap.size+5:=e;subst e';exact aM R.S hk S.k5 (by decide));have p1:=S.k5.e1;have f1:=S.k5.frozen 1;have y2:=S18.k0.e2;have x2:=S.k0.e2
   have SP18:∀ j,(qS (some (qR (w.heap.size+3) 0)) 0 0).ownBlock=some j->∀ x∈xs,(svP x).ownBlock≠some j:=fun j hj x hx e=>by
    have h1:=(R.P.lt.2 x hx j e).1;simp [Value.ownBlock] at hj;omega
   have HR0:=aO (xA R.pl (xA R.tl (xA R.px R.tx)));have H18:=aO (xA S18 (xA O18 (xA P18 (xA T18 SP18))));have HZ:=aO (show Ra (aE ms) m+k=Ra (aE ms) m+k+((0:Nat):Int)*RW by simp);obtain ⟨iI,hiI,hz0,hz1,hz2⟩:=info_parts jV;clear S18 P18 T18 O18 SP18 S R t18 hRW;go_wp2_with fail
   go_loopw [6,13] (fun x i wx=>∃ (q:Nat) (a2:qO) (c2:Nat) (rq:Int),q<=sn/\i=qI q/\x=qI rq/\Hid (rq=Ra (aE ms) m+k+(q:Int)*RW)/\Lst w wx sn c k d #[qS a0 m c0,qI (65536+Ra (aE ms) m),qS a2 q c2,qI (Fl (aE ms) m),qI 0,qS a5 m c5]/\OG 3 1 clI wx (w.heap.size+2) (qS a2 q c2) ((List.range q).map (slt (aE ms) c k))/\OPl wx (w.heap.size+2) (w.heap.size+6) (qS a0 m c0) xs/\OTg wx (w.heap.size+2) (w.heap.size+6) (qS a5 m c5) ts/\(∀ j,(qS a2 q c2).ownBlock=some j->∀ x∈xs,(svP x).ownBlock≠some j)) (fun _ i _=>sn-(intOf i).toNat)
   .exact ⟨0,_,_,_,xC _,rfl,rfl,HZ,H18.out.1,H18.out.2.1,H18.out.2.2.1,H18.out.2.2.2.1,H18.out.2.2.2.2⟩
   .clear H18 p1 f1 y2 x2 HZ;obtain ⟨q,a2,c2,rq,hq,rfl,rfl,hrq,S,O,P,T,SP⟩:=hrel
    have rrq:0<=rq/\rq<=100000:=by
     have:=hrq.out;have h1:(q:Int)*RW<=4*287:=Int.mul_le_mul (by omega) (by omega) (by omega) (by omega);have h0:0<=(q:Int)*RW:=Int.mul_nonneg (by omega) (by omega);omega
    have z0:=S.k0.e0;by_cases hlt2:q<sn
    .have hlt2':(q:Int)<(sn:Int):=by omega
     have p2:=S.k5.e2;have hwq:IntKind.i64.wrap (65536+rq)=65536+rq:=cA _ (by omega) (by omega);have hwr2:IntKind.i64.wrap (rq+RW)=rq+RW:=cA _ (by omega) (by omega);have al:qY wr (wr.alloc (.cells #[qI (65536+rq)] 3)):=brf.alloc aN _;have hs1:=S.sz
     have HSU:=aO (show (List.range (q+1)).map (slt (aE ms) c k)=(List.range q).map (slt (aE ms) c k)++[65536+rq] by
      rw [List.range_succ,List.map_append];simp only [List.map_cons,List.map_nil];congr 2;unfold slt;rw [hpl,hrq.out,HRW.out]
      omega)
     have HLN:=aO (show ((List.range q).map (slt (aE ms) c k)).length=q by simp);have HOW:=aO (show (wr.alloc (.cells #[qI (65536+rq)] 3)).ownsRow (w.heap.size+2) 3 1 (qS a2 q c2) q (((List.range q).map (slt (aE ms) c k)).flatMap clI) by have:=O.bw al;unfold OG at this;rw [HLN.out] at this;exact this);have HLO:=aO (show ∀ x∈xs,∀ j,(svP x).ownBlock=some j->j<wr.heap.size from fun x hx j hj=>(P.lt.2 x hx j hj).2);have HNQ:=aO (show rq+RW=Ra (aE ms) m+k+((q+1:Nat):Int)*RW by rw [hrq.out];push_cast;rw [Int.add_mul];omega);have HSP:=aO SP;have HQ:=aO (xA (S.bw al) (xA (P.bw al) (xA (T.bw al) (O.bw al))));clear S O P T SP al hrq;go_wp2_with (at_builtin;refine wpList_append_lies _ rfl _ _ 25 rfl (w.heap.size+2) 3 iI (qI 0) 1 8 Tryz.underlying25 hiI hz0 hz1 hz2 rfl (by decide) (qS a2 q c2) q (((List.range q).map (slt (aE ms) c k)).flatMap clI) rfl HOW.out (qR wr.heap.size 0) 1 1 (clI (65536+rq)) rfl rfl (bJ wr _ _ (clI (65536+rq)) rfl) (by intro u hu;simp [clI] at hu;subst hu;rfl) (by decide) (by unfold maxLen;omega) (by omega) (by simp;omega) (wr.heap.size+1) (by simp) ?_;intro g4 c4 w4 hown hgr hat hlt4;obtain ⟨S,P,T,O⟩:=HQ.out;have hrow:∀ j,(qS a2 q c2).ownBlock=some j->w.heap.size+2<=j/\j≠w.heap.size+5:=(fun j hj=>⟨(O.lt j hj).1,fun e=>by subst e;exact aM O hj S.k5 (by decide)⟩);have O4:OG 3 1 clI w4 (w.heap.size+2) (qS (qP g4) (q+1) c4) ((List.range (q+1)).map (slt (aE ms) c k)):=(by unfold OG;rw [HSU.out,xI,HLN.out,xU,xX];exact hown);have S4:=S.grown hgr hrow;have P4:OPl w4 (w.heap.size+2) (w.heap.size+6) (qS a0 m c0) xs:=⟨P.head.kept' hgr (fun k hk e=>by obtain ⟨c1,k1⟩:=aD O e;exact aM P.head hk k1 (by decide)),fun x hx=>(P.rows x hx).kept' hgr (fun k hk e=>HSP.out k e x hx hk),P.apart⟩;have T4:OTg w4 (w.heap.size+2) (w.heap.size+6) (qS a5 m c5) ts:=⟨T.head.kept' hgr (fun k hk e=>by obtain ⟨c1,k1⟩:=aD O e;exact aM T.head hk k1 (by decide)),fun x hx=>(T.rows x hx).kept' hgr (fun k hk e=>by obtain ⟨c1,k1⟩:=aD O e;exact aM (T.rows x hx) hk k1 (by decide)),T.apart⟩;have SP4:∀ j,(qS (qP g4) (q+1) c4).ownBlock=some j->∀ x∈xs,(svP x).ownBlock≠some j:=(fun j hj x hx e=>by have hj':g4=j:=(by simpa [Value.ownBlock] using hj);subst hj';exact hat.elim (fun h1=>HSP.out g4 h1 x hx e) (fun h1=>by have:=HLO.out x hx g4 e;omega));have p4:w4.cell? (qR (w.heap.size+5) 2)=some (qS a2 q c2):=S4.k5.cell 2;have f4:=S4.k5.frozen 2;have c14:w4.cell? (qR w.heap.size 1)=some (qI c):=S4.k0.cell 1;have c15:(w4.setCell (qR (w.heap.size+1+1+1+1+1) 2) (qS (qP g4) (q+1) c4)).cell? (qR w.heap.size 1)=some (qI c):=(S4.set 2 (qS (qP g4) (q+1) c4)).k0.cell 1;have H4:=aO (xA S4 (xA P4 (xA T4 (xA O4 SP4))));clear S P T O hrow O4 S4 P4 T4 SP4 hown hgr hat HOW HQ p2 z0)
     refine (HRD.out _).mono ?_;rintro e wz ⟨rfl,rfl⟩;obtain ⟨S4,P4,T4,O4,SP4⟩:=H4.out;have t5:Turn (fun j=>j=w.heap.size+5) w4 (w4.setCell (qR (w.heap.size+1+1+1+1+1) 2) (qS (qP g4) (q+1) c4)):=aC w4 (w.heap.size+5) 2 (qS (qP g4) (q+1) c4);have S5:Lst w (w4.setCell (qR (w.heap.size+1+1+1+1+1) 2) (qS (qP g4) (q+1) c4)) sn c k d #[qS a0 m c0,qI (65536+Ra (aE ms) m),qS (qP g4) (q+1) c4,qI (Fl (aE ms) m),qI 0,qS a5 m c5]:=S4.set 2 (qS (qP g4) (q+1) c4);have P5:=P4.kept t5 (fun k hk e=>by have e':k=w.heap.size+5:=e;subst e';exact aM P4.head hk S4.k5 (by decide)) (fun x hx k hk e=>by have e':k=w.heap.size+5:=e;subst e';exact aM (P4.rows x hx) hk S4.k5 (by decide));have T5:=T4.kept t5 (fun k hk e=>by have e':k=w.heap.size+5:=e;subst e';exact aM T4.head hk S4.k5 (by decide)) (fun x hx k hk e=>by have e':k=w.heap.size+5:=e;subst e';exact aM (T4.rows x hx) hk S4.k5 (by decide));have O5:=O4.kept t5 (fun k hk e=>by have e':k=w.heap.size+5:=e;subst e';exact aM O4 hk S4.k5 (by decide));have H5:=aO (xA S5 (xA O5 (xA P5 (xA T5 SP4))));clear S4 P4 T4 O4 SP4 t5 S5 P5 T5 O5 H4 p4 f4 c14 c15;go_wp2
     go_roundw
     .exact ⟨q+1,_,_,_,by omega,by go_num,rfl,HNQ,H5.out.1,H5.out.2.1,H5.out.2.2.1,H5.out.2.2.2.1,H5.out.2.2.2.2⟩
     .simp [qf,intOf];omega
    .have hlt2':¬ (q:Int)<(sn:Int):=by omega
     have hqs:q=sn:=by omega
     have t25:Turn (fun j=>j=w.heap.size+5) wr (wr.setCell (qR (w.heap.size+1+1+1+1+1) 4) (qI rq)):=aC wr (w.heap.size+5) 4 (qI rq);have S25:Lst w (wr.setCell (qR (w.heap.size+1+1+1+1+1) 4) (qI rq)) sn c k d #[qS a0 m c0,qI (65536+Ra (aE ms) m),qS a2 q c2,qI (Fl (aE ms) m),qI rq,qS a5 m c5]:=S.set 4 (qI rq);have P25:=P.kept t25 (fun k hk e=>by have e':k=w.heap.size+5:=e;subst e';exact aM P.head hk S.k5 (by decide)) (fun x hx k hk e=>by have e':k=w.heap.size+5:=e;subst e';exact aM (P.rows x hx) hk S.k5 (by decide));have T25:=T.kept t25 (fun k hk e=>by have e':k=w.heap.size+5:=e;subst e';exact aM T.head hk S.k5 (by decide)) (fun x hx k hk e=>by have e':k=w.heap.size+5:=e;subst e';exact aM (T.rows x hx) hk S.k5 (by decide));have O25:=O.kept t25 (fun k hk e=>by have e':k=w.heap.size+5:=e;subst e';exact aM O hk S.k5 (by decide));have p4:=S.k5.e4;have f4:=S.k5.frozen 4;obtain ⟨v0,v1,v2,v3,v4,v5⟩:=S25.k5.z6;obtain ⟨u0,u1,u2,u3,u4,u5⟩:=S25.k1.z6;have n0:=S25.k1.frozen
     have HLAY:=aO (show lay (aE ms) sn c k=⟨(List.range m).map (plc (aE ms)),(65536+Ra (aE ms) m),(List.range q).map (slt (aE ms) c k),Fl (aE ms) m,rq,(List.range m).map fun i=>tgs (aE ms) ((aE ms).getD i zP)⟩ by
      unfold lay
      rw [hpl,hrq.out,HRW.out,xY,hqs])
     have t26:=cF (wr.setCell (qR (w.heap.size+1+1+1+1+1) 4) (qI rq)) (w.heap.size+1) (qS a0 m c0) (qI (65536+Ra (aE ms) m)) (qS a2 q c2) (qI (Fl (aE ms) m)) (qI rq) (qS a5 m c5);have k6:=jR S25.k1 (qS a0 m c0) (qI (65536+Ra (aE ms) m)) (qS a2 q c2) (qI (Fl (aE ms) m)) (qI rq) (qS a5 m c5);have P26:=P25.kept t26 (fun k hk e=>by have e':k=w.heap.size+1:=e;subst e';exact aM P25.head hk S25.k1 (by decide)) (fun x hx k hk e=>by have e':k=w.heap.size+1:=e;subst e';exact aM (P25.rows x hx) hk S25.k1 (by decide));have T26:=T25.kept t26 (fun k hk e=>by have e':k=w.heap.size+1:=e;subst e';exact aM T25.head hk S25.k1 (by decide)) (fun x hx k hk e=>by have e':k=w.heap.size+1:=e;subst e';exact aM (T25.rows x hx) hk S25.k1 (by decide));have O26:=O25.kept t26 (fun k hk e=>by have e':k=w.heap.size+1:=e;subst e';exact aM O25 hk S25.k1 (by decide));have B26:=aG S25.be t26 (fun j hj=>by have e':j=w.heap.size+1:=hj;omega) S25.be.size;have HFIN:=aO (xA S25.k1 (xA P26 (xA T26 (xA O26 (xA B26 SP)))));clear S25 P25 T25 O25 t25 t26 k6 P26 T26 O26 B26 S O P T SP hqs hrq;go_wp2;refine aNq HFIN.out.1 _ _ _ _ _ _ _ _ rfl ?_;obtain ⟨_,P26,T26,O26,B26,SP⟩:=HFIN.out;refine ⟨B26,a0,c0,xs,a2,c2,a5,c5,ts,?_,?_⟩
     .unfold mV;rw [HLAY.out,HR0.out.1,HR0.out.2.1];simp
     .rw [HLAY.out];exact ⟨by rw [HR0.out.1];exact P26.mono (by omega) (by omega),HR0.out.2.2.1,by simpa using O26.mono (by omega),by rw [HR0.out.2.1];exact T26.mono (by omega) (by omega),HR0.out.2.2.2,by simpa using SP⟩
structure Kst (w W:qw)(s c k d:Int):Prop where
 be:qY w W
 k0:Blk W w.heap.size (qW s c k d) 37
 k1:Blk W (w.heap.size+1) zL 71
 k2:Blk W (w.heap.size+2) zL 71
theorem Kst.bw {w W W':qw}(h:Kst w W s c k d)(hb:qY W W'):Kst w W' s c k d:=⟨h.be.trans (hb.mono h.be.size),h.k0.bw hb,h.k1.bw hb,h.k2.bw hb⟩
theorem Kst.drew {w W:qw}(h:Kst w W s c k d):Kst w W.drew s c k d:=⟨h.be.drew,h.k0,h.k1,h.k2⟩
theorem aNs (w:qw)(s c k d:Int):Kst w (((w.alloc (.cells (qW s c k d) 37)).alloc (.cells qz 71)).alloc (.cells qz 71)) s c k d:=by
 have k0:=Blk.new w (qW s c k d) 37;have b0:qY w (w.alloc (.cells (qW s c k d) 37)):=bal;have s0:(w.alloc (.cells (qW s c k d) 37)).heap.size=w.heap.size+1:=by simp
 generalize w.alloc (.cells (qW s c k d) 37)=W0 at *;have k1:=Blk.new W0 qz 71;have b1:qY W0 (W0.alloc (.cells qz 71)):=bal;have s1:(W0.alloc (.cells qz 71)).heap.size=w.heap.size+2:=by simp [s0]
 rw [s0] at k1;generalize W0.alloc (.cells qz 71)=W1 at *;have k2:=Blk.new W1 qz 71;have b2:qY W1 (W1.alloc (.cells qz 71)):=bal;rw [s1] at k2;have c12:=b1.trans (b2.mono (by omega));exact ⟨b0.trans (c12.mono (by omega)),k0.bw c12,k1.bw b2,k2⟩
theorem aDb {w W:qw}(k1:Blk W (w.heap.size+1) zL 71)(v0 v1 v2 v3 v4 v5:Value)(V:Int)(Q:Ending->World->Prop)(tmps:Array Value)(h4:tmps[4]?=some (.pointer (some (qR (w.heap.size+1) 0))))(h5:tmps[5]?=some (qI V))(hQ:Q (.returned (.tuple #[.agg #[v0,v1,v2,v3,v4,v5],qI V])) (st6 W (w.heap.size+1) v0 v1 v2 v3 v4 v5)):
 bodyPost Tryz.prog Tryz.f74 Q Exit.ret ⟨tmps,[]⟩ (st6 W (w.heap.size+1) v0 v1 v2 v3 v4 v5):=by
 have k:=jR k1 v0 v1 v2 v3 v4 v5;obtain ⟨t0,t1,t2,t3,t4,t5⟩:=k.z6;refine bodyPost_ret_by (v:=.tuple #[.agg #[v0,v1,v2,v3,v4,v5],qI V]) ?_ rfl hQ;simp [results,Tryz.results74,go_sem,h4,h5,t0,t1,t2,t3,t4,t5]
theorem nN {w W:qw}{ps:List PMod}{V:Int}(S:Kst w W s c k d)(hV:lkc ps s c k d=V)(h0:V≠0)(tmps:Array Value)(h4:tmps[4]?=some (.pointer (some (qR (w.heap.size+1) 0))))(h5:tmps[5]?=some (qI V)):
 bodyPost Tryz.prog Tryz.f74 (LkM w ps s c k d) Exit.ret ⟨tmps,[]⟩ (st6 W (w.heap.size+1) (qS none 0 0) (qI 0) (qS none 0 0) (qI 0) (qI 0) (qS none 0 0)):=
 aDb S.k1 _ _ _ _ _ _ V _ tmps h4 h5 (aGy (aG S.be (cF _ _ _ _ _ _ _ _) (fun j hj=>by have e:j=w.heap.size+1:=hj;omega) S.be.size) hV h0)
theorem yJ (a:qO)(n cap:Nat)(ms:List Md)(s c k d:Int)(w:qw)(h:MSD w a n cap ms):
 qC 74 #[qS a n cap,.agg (qW s c k d)] w (LkM w (aE ms) s c k d):=by
 have K0:=aNs w s c k d;have hl:=h.s.1;have hpl:(aE ms).length=n:=by rw [bT,hl]
 have HH:=zh h;have HSND:=zh (fun (W:qw) (hb:qY w W)=>aDd a n cap ms s c k d W (h.bw hb));obtain ⟨V,hV⟩:=eqx (dU (aE ms) s c k d);rw [<- hV] at HSND;have HV:=zh hV;have HK:=zh K0;obtain ⟨c0,c1,c2,c3⟩:=K0.k0.z4;clear h K0 hV;go_enter Tryz.func74,Tryz.ntmps74
 go_wp2_with fail
 refine (HSND.o _ HK.o.be).mono ?_;rintro e w1 ⟨rfl,hb1⟩;have S1:=HK.o.bw hb1;clear hb1 c0 c1 c2 c3 HK;by_cases hV0:V=0
 .have hs4:=HV.o;rw [hV0] at hs4;obtain ⟨hcf,h4,hvl⟩:=sF hs4.symm;have HS4:=zh hs4.symm;have HVL:=zh hvl;have HCF:=zh hcf;rw [hpl] at h4;subst hV0;clear hs4 hvl hcf;have HK1:=zh S1;clear S1;go_wp2;go_loopw [7] (fun i wr=>∃ m:Nat,m<=n/\i=qI m/\(∀ j,j<m->qE (aE ms) ((aE ms).getD j zP))/\Kst w wr s c k d) (qf n)
  .exact ⟨0,xC _,rfl,fun j hj=>absurd hj (by omega),HK1.o⟩
  .clear HK1;obtain ⟨m,hm,rfl,hv,S⟩:=hrel;by_cases hlt:m<n
   .have hlt':(m:Int)<(n:Int):=by omega
    have H:=HH.o.bw S.be;obtain ⟨b,off,rfl,q0,q1,q2,q3,q4,q5,q6,q7⟩:=H.s.at m hlt;have HTA:=zh (mH (some (qR b off)) n cap ms (ms.getD m aK) wr H HVL.o h4 (H.d m hlt) (by rw [<- cI];exact HVL.o m (by omega)));have HEP:=zh (cI (ms:=ms) (i:=m));have HG:=zh (xA hv S);generalize ms.getD m aK=M at *;clear H hv S;go_wp2_with fail
    refine HTA.o.mono ?_;rintro e w2 ⟨hb2,H2⟩;have S2:=HG.o.2.bw hb2;clear hb2 HTA q0 q1 q2 q3 q4 q5 q6 q7;rcases H2 with ⟨hno,v,rfl⟩|⟨hyes,at',ct',rfl,_⟩
    .have HP:=zh (aOp (d:=d) (k:=k) (w:=c) (s:=s) HS4.o (fun hi=>hno (by rw [<- HEP.o];exact hi m (by omega))));have HS:=zh S2;obtain ⟨u0,u1,u2,u3,u4,u5⟩:=S2.k2.z6;obtain ⟨p0,p1,p2,p3,p4,p5⟩:=S2.k1.z6;have y0:=S2.k1.frozen;clear S2 hno;go_wp2;exact nN HS.o HP.o (by decide) _ rfl rfl
    .have HV2:=zh (show ∀ j,j<m+1->qE (aE ms) ((aE ms).getD j zP) from fun j hj=>by
      by_cases e:j=m
      .subst e;rw [HEP.o];exact hyes
      .exact HG.o.1 j (by omega))
     have HS:=zh S2;clear S2 hyes;go_wp2
     go_roundw
     .exact ⟨m+1,by omega,by go_num,HV2.o,HS.o⟩
     .simp [qf,intOf];omega
   .have hlt':¬ (m:Int)<(n:Int):=by omega
    have HI:Zh (jZ (aE ms)):=fun i hi=>hv i (by omega);have HTL:=zh (wH a n cap ms s c k d wr (HH.o.bw S.be));obtain ⟨B,hB⟩:=eqx (decide (0<s/\¬ kI (aE ms) c));rw [<- hB] at HTL;have HB:=zh hB;have HS:=zh S;obtain ⟨c0,c1,c2,c3⟩:=S.k0.z4;clear S hv hB;go_wp2_with fail
    refine HTL.o.mono ?_;rintro e w3 ⟨rfl,hb3⟩;have S3:=HS.o.bw hb3;clear hb3 HTL HS c0 c1 c2 c3;cases B with
    | true=>
      have HP:=zh (aOo (d:=d) (k:=k) HS4.o HI.o (of_decide_eq_true HB.o.symm));have HS:=zh S3;obtain ⟨u0,u1,u2,u3,u4,u5⟩:=S3.k2.z6;obtain ⟨p0,p1,p2,p3,p4,p5⟩:=S3.k1.z6;have y0:=S3.k1.frozen;clear S3;go_wp2;exact nN HS.o HP.o (by decide) _ rfl rfl
    | false=>
      have HN6:=zh (of_decide_eq_false HB.o.symm);have HLA:=zh (aIu a n cap ms s c k d w3 (HH.o.bw S3.be) h4 HCF.o HVL.o HI.o);have HS:=zh S3;obtain ⟨c0,c1,c2,c3⟩:=S3.k0.z4;clear S3;go_wp2_with fail
      refine HLA.o.mono ?_;rintro e w4 ⟨hb4,a0,d0,xs,a2,d2,a5,d5,ts,rfl,LO⟩;have S4:=HS.o.bw hb4;obtain ⟨L,hL⟩:=eqx (lay (aE ms) s c k);rw [<- hL] at LO ⊢;have HLL:=zh hL;have al:qY w4 (w4.alloc (.cells (qL L a0 xs.length d0 a2 L.slots.length d2 a5 ts.length d5) 71)):=bal;have kL:=Blk.new w4 (qL L a0 xs.length d0 a2 L.slots.length d2 a5 ts.length d5) 71;have S5:=S4.bw al;have LO5:LayO (w4.alloc (.cells (qL L a0 xs.length d0 a2 L.slots.length d2 a5 ts.length d5) 71)) w3.heap.size L a0 d0 xs a2 d2 a5 d5 ts:=⟨LO.p.bw al,LO.ps,LO.s.bw al,LO.t.bw al,LO.tt,LO.sp⟩;have hs34:=hb4.size;have hs3:=HS.o.k2.lt;obtain ⟨l0,l1,l2,l3,l4,l5⟩:=kL.z6;have HS5:=zh (xA S5 LO5);have hz5:(w4.alloc (.cells (qL L a0 xs.length d0 a2 L.slots.length d2 a5 ts.length d5) 71)).heap.size=w4.heap.size+1:=by simp
      clear hb4 S4 LO al kL hL HS HLA c0 c1 c2 c3;unfold mV;by_cases h7:16384<L.flash
      .have HP:=zh (aOn (d:=d) HS4.o HI.o HN6.o (by rw [<- HLL.o];exact h7));obtain ⟨u0,u1,u2,u3,u4,u5⟩:=S5.k2.z6;obtain ⟨p0,p1,p2,p3,p4,p5⟩:=S5.k1.z6;have y0:=S5.k1.frozen;clear S5 LO5;go_wp2;exact nN HS5.o.1 HP.o (by decide) _ rfl rfl
      .have h7':¬ 16384<L.flash:=h7;by_cases h8:16384<L.ram
       .have HP:=zh (aOm (d:=d) HS4.o HI.o HN6.o (by rw [<- HLL.o];exact h7) (by rw [<- HLL.o];exact h8));obtain ⟨u0,u1,u2,u3,u4,u5⟩:=S5.k2.z6;obtain ⟨p0,p1,p2,p3,p4,p5⟩:=S5.k1.z6;have y0:=S5.k1.frozen;clear S5 LO5;go_wp2;exact nN HS5.o.1 HP.o (by decide) _ rfl rfl
       .have HP:=zh (aOr (d:=d) HS4.o HI.o HN6.o (by rw [<- HLL.o];exact h7) (by rw [<- HLL.o];exact h8));obtain ⟨p0,p1,p2,p3,p4,p5⟩:=S5.k1.z6;have y0:=S5.k1.frozen;clear S5 LO5;go_wp2;refine aDb HS5.o.1.k1 _ _ _ _ _ _ 0 _ _ rfl rfl ?_;obtain ⟨S5,LO5⟩:=HS5.o;have t:=cF (w4.alloc (.cells (qL L a0 xs.length d0 a2 L.slots.length d2 a5 ts.length d5) 71)) (w.heap.size+1) (qS a0 xs.length d0) (qI L.stack) (qS a2 L.slots.length d2) (qI L.flash) (qI L.ram) (qS a5 ts.length d5);refine ⟨aG S5.be t (fun j hj=>by have e:j=w.heap.size+1:=hj;omega) S5.be.size,a0,d0,xs,a2,d2,a5,d5,ts,?_,?_⟩
        .unfold lkL;rw [if_pos HP.o,HP.o,<- HLL.o];rfl
        .unfold lkL;rw [if_pos HP.o,<- HLL.o];have hno:∀ k,w3.heap.size<=k->¬ (k=w.heap.size+1):=fun k hk e=>by omega
         exact ⟨(LO5.p.kept t (fun k hk=>hno k (LO5.p.lt.1 k hk).1) (fun x hx k hk=>hno k (LO5.p.lt.2 x hx k hk).1)).mono (by omega) (by omega),LO5.ps,(LO5.s.kept t (fun k hk=>hno k (LO5.s.lt k hk).1)).mono (by omega),(LO5.t.kept t (fun k hk=>hno k (LO5.t.lt.1 k hk).1) (fun x hx k hk=>hno k (LO5.t.lt.2 x hx k hk).1)).mono (by omega) (by omega),LO5.tt,LO5.sp⟩
 .have hV0':(V !=0)=true:=by simp [hV0]
  have HP:=zh (aOq (ps:=aE ms) HV.o.symm hV0);have HS:=zh S1;obtain ⟨u0,u1,u2,u3,u4,u5⟩:=S1.k2.z6;obtain ⟨p0,p1,p2,p3,p4,p5⟩:=S1.k1.z6;have y0:=S1.k1.frozen;obtain ⟨c0,c1,c2,c3⟩:=S1.k0.z4;clear S1;go_wp2_with fail
  go_region_law (first
   | (go_simp;go_at_call 138;refine (HSND.o _ (by first|exact HS.o.be|exact HS.o.drew.be)).mono ?_;rintro e w12 ⟨rfl,hb12⟩;have HE2:=zh (show Kst w w12 s c k d from (by first|exact HS.o.bw hb12|exact HS.o.drew.bw hb12));have vu0:w12.cell? (qR (w.heap.size+1+1) 0)=some (qS none 0 0):=HE2.o.k2.cell 0;have vu1:w12.cell? (qR (w.heap.size+1+1) 1)=some (qI 0):=HE2.o.k2.cell 1;have vu2:w12.cell? (qR (w.heap.size+1+1) 2)=some (qS none 0 0):=HE2.o.k2.cell 2;have vu3:w12.cell? (qR (w.heap.size+1+1) 3)=some (qI 0):=HE2.o.k2.cell 3;have vu4:w12.cell? (qR (w.heap.size+1+1) 4)=some (qI 0):=HE2.o.k2.cell 4;have vu5:w12.cell? (qR (w.heap.size+1+1) 5)=some (qS none 0 0):=HE2.o.k2.cell 5;have vp0:w12.cell? (qR (w.heap.size+1) 0)=some (qS none 0 0):=HE2.o.k1.cell 0;have vp1:w12.cell? (qR (w.heap.size+1) 1)=some (qI 0):=HE2.o.k1.cell 1;have vp2:w12.cell? (qR (w.heap.size+1) 2)=some (qS none 0 0):=HE2.o.k1.cell 2;have vp3:w12.cell? (qR (w.heap.size+1) 3)=some (qI 0):=HE2.o.k1.cell 3;have vp4:w12.cell? (qR (w.heap.size+1) 4)=some (qI 0):=HE2.o.k1.cell 4;have vp5:w12.cell? (qR (w.heap.size+1) 5)=some (qS none 0 0):=HE2.o.k1.cell 5;have vy0:w12.frozen? (qR (w.heap.size+1) 0)=false:=HE2.o.k1.frozen 0;have vy1:w12.frozen? (qR (w.heap.size+1) 1)=false:=HE2.o.k1.frozen 1;have vy2:w12.frozen? (qR (w.heap.size+1) 2)=false:=HE2.o.k1.frozen 2;have vy3:w12.frozen? (qR (w.heap.size+1) 3)=false:=HE2.o.k1.frozen 3;have vy4:w12.frozen? (qR (w.heap.size+1) 4)=false:=HE2.o.k1.frozen 4;have vy5:w12.frozen? (qR (w.heap.size+1) 5)=false:=HE2.o.k1.frozen 5;have vc0:w12.cell? (qR w.heap.size 0)=some (qI s):=HE2.o.k0.cell 0;have vc1:w12.cell? (qR w.heap.size 1)=some (qI c):=HE2.o.k0.cell 1;have vc2:w12.cell? (qR w.heap.size 2)=some (qI k):=HE2.o.k0.cell 2;have vc3:w12.cell? (qR w.heap.size 3)=some (qI d):=HE2.o.k0.cell 3;clear hb12))
  all_goals
   go_wp2;exact nN HE2.o HP.o hV0 _ rfl rfl
open Go Go.Maps Go.WideShapes
set_option maxRecDepth 100000
theorem gO (x:Int)(w:qw)(h0:0<=x:=by omega)(h1:x<=4294967295:=by omega):qC 212 #[qI x] w fun e w'=>e=.returned (qI (rnd x))/\w'=w:=by
 have hd:(x+31).tdiv 32=(x+31)/32:=Int.tdiv_eq_ediv_of_nonneg (by omega);go_enter Tryz.func212,Tryz.ntmps212
 go_wp2;go_ret;exact ⟨aI (by unfold rnd;rw [show x+31=x+32-1 by omega]),rfl⟩
theorem mC (a:qO)(n cap:Nat)(w:qw)(hn:n<=1048576):qC 199 #[qS a n cap] w fun e w'=>e=.returned (qI (rnd (4*(n:Int))))/\w'=w:=by
 have hw:IntKind.i64.wrap (4*(n:Int))=4*(n:Int):=cA _ (by omega) (by omega);have HR:=zh (gO (4*(n:Int)) w);go_enter Tryz.func199,Tryz.ntmps199
 go_wp2_with fail
 refine HR.o.mono ?_;rintro e w1 ⟨rfl,rfl⟩;go_wp2;go_ret;exact ⟨rfl,rfl⟩
theorem Md.okI {m:Md}{w:qw}(h:m.md w):qC 211 #[.agg (qM m.nm m.ta m.tn m.tc m.ba m.bn m.bc m.da m.dn m.dc m.bss m.ra m.rn m.rc m.ia m.im m.ic m.ea m.en m.ec)] w (qB w (qI (fD m.pm))):=by
 have:=wL _ _ _ _ _ _ _ _ _ _ _ _ _ _ _ _ _ _ _ _ _ _ _ _ _ _ w h;rw [aK0 h] at this;exact this
theorem aP5 {a b:ByteArray}:a.data.toList=b.data.toList ↔ a=b:=by
 constructor
 .intro e;cases a
  cases b
  simp at e;rw [e]
 .intro e;rw [e]
theorem aKl {ms:List Md}{n:Nat}(hl:ms.length=n):(size (fd (cU ms) n)=n) ↔ nms (aE ms):=by
 have h:=aBo (cU ms) n;have key:∀ i,i<n->((aE ms).getD i zP).nm=(ms.getD i aK).nm:=fun i hi=>by rw [cI];rfl
 constructor
 .intro e;rw [xR e] at h;intro i hi k hk;rw [bT,hl] at hi;have h':=h.symm;rw [List.all_eq_true] at h';have h1:=h' i (by simpa using hi);rw [List.all_eq_true] at h1;have h2:=h1 k (by simpa using hk);rw [key k (by omega),key i hi];intro e';have e2:cU ms k=cU ms i:=by unfold cU;rw [e']
  rw [e2] at h2;simp at h2
 .intro hn;apply of_decide_eq_true;rw [h,List.all_eq_true];intro i hi;rw [List.all_eq_true];intro k hk;have hi':i<n:=by simpa using hi
  have hk':k<i:=by simpa using hk
  have:=hn i (by rw [bT];omega) k hk';rw [key k (by omega),key i hi'] at this;have h3:cU ms k≠cU ms i:=fun e=>this (aP5.1 e);simp [h3]
end Go.Proofs.YtncccmeomcaabaaGreat
namespace Go.Proofs.YtncccmeomcaabaaGreat
open Go Go.Maps Go.WideShapes
open Go.RowKit
set_option maxRecDepth 100000
variable {B R base c1 c2 c3 c5 c6 c7 g m n q:Nat}{P:PMod}{a a1 a2 a3 a5 a6 a7:qO}{bl:List Bk}{c d fx k rx s:Int}{cs:Array Value}{f:Nat->TB}{fd:Bool}{ps:List PMod}{v:Value}
theorem wE (a:qO)(n cap:Nat)(ms:List Md)(s c k d:Int)(w:qw)(h:MSD w a n cap ms):
 qC 185 #[qS a n cap,.agg (qW s c k d)] w (qB w (qI (dU (aE ms) s c k d))):=by
 have hA:qY w (w.alloc (.cells (qW s c k d) 37)):=bal;have hl:=h.s.1;have hm1:=h.s.2.1;unfold maxLen at hm1;have hpl:=bT ms;have HH:=zh h;have HC:=zh (fun W=>wM s c k d W);clear h;go_enter Tryz.func185,Tryz.ntmps185
 go_wp2_with fail
 refine (HC.o _).mono ?_;rintro e w1 ⟨rfl,hb1⟩;have HB1:=zh (hA.trans (hb1.mono (by simp)));clear hA hb1 HC;cases hcf:cfo s c k d with
 | false=>
   have HS:=zh (aJp (ps:=aE ms) hcf);go_wp2;go_ret;exact ⟨aI HS.o.symm,HB1.o⟩
 | true=>
   by_cases hn2:n<1\/4<n
   .have HS:=zh (aJo (ps:=aE ms) hcf (by omega));by_cases hn1:n<1
    .have hn1':(n:Int)<1:=by omega
     clear hn2;go_wp2;go_ret;exact ⟨aI HS.o.symm,HB1.o⟩
    .have hn1':¬ (n:Int)<1:=by omega
     have hn4':(4:Int)<(n:Int):=by omega
     clear hn2;go_wp2;go_ret;exact ⟨aI HS.o.symm,HB1.o⟩
   have hn1':¬ (n:Int)<1:=by omega
   have hn4':¬ (4:Int)<(n:Int):=by omega
   have HN2:=zh (show ¬ ((aE ms).length<1\/4<(aE ms).length) by rw [hpl,hl];exact hn2);clear hn2;go_wp2;go_loopw [20] (fun i wr=>∃ m:Nat,m<=n/\i=qI m/\(∀ j,j<m->fD ((aE ms).getD j zP)=0)/\qY w wr) (qf n)
   .exact ⟨0,xC _,rfl,fun j hj=>absurd hj (by omega),HB1.o⟩
   .obtain ⟨m,hm,rfl,hv,B⟩:=hrel;by_cases hlt:m<n
    .have hlt':(m:Int)<(n:Int):=by omega
     have H:=HH.o.bw B;obtain ⟨b,off,rfl,q0,q1,q2,q3,q4,q5,q6,q7⟩:=H.s.at m hlt;have HOK:=zh (fun (W:qw) (hb:qY wr W)=>Md.okI (MD.bw (H.d m hlt) hb));obtain ⟨V,hV⟩:=eqx (fD (ms.getD m aK).pm);rw [<- hV] at HOK;have HVV:=zh (hV.trans (by rw [<- cI]));have HV:=zh hv;have HB:=zh B;generalize ms.getD m aK=M at *;have al:qY wr (wr.alloc (.cells (qM M.nm M.ta M.tn M.tc M.ba M.bn M.bc M.da M.dn M.dc M.bss M.ra M.rn M.rc M.ia M.im M.ic M.ea M.en M.ec) 138)):=bal;obtain ⟨g0,g1,g2,g3,g4,g5,g6,g7⟩:=(Blk.new wr (qM M.nm M.ta M.tn M.tc M.ba M.bn M.bc M.da M.dn M.dc M.bss M.ra M.rn M.rc M.ia M.im M.ic M.ea M.en M.ec) 138).eight;have HAL:=zh al;clear hv B H hV al;go_wp2_with fail
     refine (HOK.o _ HAL.o).mono ?_;rintro e w2 ⟨rfl,hb2⟩;have hb2':=HAL.o.trans (hb2.mono HAL.o.size);have HB2:=zh (HB.o.trans (hb2'.mono HB.o.size));clear hb2 hb2' HOK HB HAL q0 q1 q2 q3 q4 q5 q6 q7 g0 g1 g2 g3 g4 g5 g6 g7;by_cases hz:V=0
     .subst hz
      have HV2:=zh (show ∀ j,j<m+1->fD ((aE ms).getD j zP)=0 from fun j hj=>by
       by_cases e:j=m
       .subst e;exact HVV.o.symm
       .exact HV.o j (by omega))
      go_wp2
      go_roundw
      .exact ⟨m+1,by omega,by go_num,HV2.o,HB2.o⟩
      .simp [qf,intOf];omega
     .have hz':(V !=0)=true:=by simp [hz]
      have HS:=zh (aJn (ps:=aE ms) hcf HN2.o m (by omega) (by rw [<- HVV.o];exact hz));go_wp2;go_ret;exact ⟨aI HS.o.symm,HB2.o⟩
    .have hlt':¬ (m:Int)<(n:Int):=by omega
     have HV:Zh (fR (aE ms)):=fun i hi=>hv i (by omega);have HB:=zh B;have HF:=zh (nT a n cap ms wr (HH.o.s.bw B) (by omega));have hsz:=mX (cU ms) n;have HNS:=zh (aKl (ms:=ms) hl);obtain ⟨Sz,hSz⟩:=eqx (size (fd (cU ms) n));have HSZ:=zh hSz;rw [<- hSz] at hsz HNS;clear hv B hSz;go_wp2_with fail
     refine HF.o.mono ?_;rintro e w2 ⟨rfl,hown,hb2⟩;have hlen:∀ ty,(Builtin.len_ #[176] ty #[.map (some wr.heap.size)]).run Tryz.prog w2=.ok (qI (Sz:Int)) w2:=by intro ty;rw [HSZ.o];exact hown.len Tryz.underlying176 ty
     have HB2:=zh (HB.o.trans (hb2.mono HB.o.size));clear hown hb2 HF HB;by_cases he:Sz=n
     .have HS:=zh (aJq (d:=d) hcf HN2.o HV.o (HNS.o.1 he));subst he;have hne:((Sz:Int) !=(Sz:Int))=false:=by simp
      go_wp2;go_ret;exact ⟨aI HS.o.symm,HB2.o⟩
     .have HS:=zh (show dU (aE ms) s c k d=4 by
       unfold dU
       rw [if_neg (by rw [hcf];decide),if_neg HN2.o,if_neg (fun e=>e HV.o),if_pos (fun e=>he (HNS.o.2 e))])
      have hne:((Sz:Int) !=(n:Int))=true:=by simp;omega
      go_wp2;go_ret;exact ⟨aI HS.o.symm,HB2.o⟩
def GB (ps:List PMod)(m q R:Nat):Prop:=(∀ i,i<ps.length->∀ k,k<(ps.getD i zP).bl.length->(i<m\/(i=m/\k<q))->((ps.getD i zP).bl.getD k []).length<=R)/\(R=0\/∃ i,i<ps.length/\∃ k,k<(ps.getD i zP).bl.length/\((ps.getD i zP).bl.getD k []).length=R)
theorem aNy (ps:List PMod):GB ps 0 0 0:=⟨fun i _ k _ h=>by omega,.inl rfl⟩
theorem GB.next (h:GB ps m q R)(hq:(ps.getD m zP).bl.length<=q):GB ps (m+1) 0 R:=
 ⟨fun i hi k hk e=>h.1 i hi k hk (by
  by_cases e2:i=m
  .subst e2;right;exact ⟨rfl,by omega⟩
  .left;omega),h.2⟩
theorem GB.step (h:GB ps m q R)(hm:m<ps.length)(hq:q<(ps.getD m zP).bl.length):GB ps m (q+1) (max R ((ps.getD m zP).bl.getD q []).length):=by
 refine ⟨fun i hi k hk e=>?_,?_⟩
 .by_cases e2:i=m/\k=q
  .obtain ⟨rfl,rfl⟩:=e2;omega
  .have:=h.1 i hi k hk (by omega);omega
 .by_cases hc:((ps.getD m zP).bl.getD q []).length<=R
  .rw [show max R ((ps.getD m zP).bl.getD q []).length=R by omega];exact h.2
  .exact .inr ⟨m,hm,q,hq,by omega⟩
theorem aG4 (h:GB ps ps.length 0 R)(w:Int)(hw:1<=w):(w<(R:Int)) ↔ ¬ kI ps w:=by
 constructor
 .intro h1 hs;rcases h.2 with h2|⟨i,hi,k,hk,e⟩
  .omega
  .have:=hs i hi k hk;omega
 .intro hs;apply Classical.byContradiction;intro hn;exact hs (fun i hi k hk=>by have:=h.1 i hi k hk (.inl hi);omega)
theorem pB (a:qO)(n cap:Nat)(ms:List Md)(w:qw)(h:MSD w a n cap ms)(hv:fR (aE ms))(hn4:n<=4):
 qC 187 #[qS a n cap] w fun e w'=>∃ R:Nat,e=.returned (qI (R:Int))/\GB (aE ms) (aE ms).length 0 R/\qY w w':=by
 have hl:=h.s.1;have hpl:(aE ms).length=n:=by rw [bT,hl]
 have HH:=zh h;have HVL:=zh hv;clear h hv;go_enter Tryz.func187,Tryz.ntmps187
 go_wp2;go_loopw [3,10] (fun x i wr=>∃ (m R:Nat),m<=n/\i=qI m/\x=qI (R:Int)/\R<=64/\Hid (GB (aE ms) m 0 R)/\qY w wr) (fun _ i _=>n-(intOf i).toNat)
 .exact ⟨0,0,xC _,rfl,rfl,xC _,zh (aNy _),brf⟩
 .obtain ⟨m,R,hm,rfl,rfl,hR,hG,B⟩:=hrel;by_cases hlt:m<n
  .have hlt':(m:Int)<(n:Int):=by omega
   have H:=HH.o.bw B;obtain ⟨b,off,rfl,q0,q1,q2,q3,q4,q5,q6,q7⟩:=H.s.at m hlt;have hmd:=H.d m hlt;obtain ⟨P,hP⟩:=eqx ((aE ms).getD m zP);have hPM:P=(ms.getD m aK).pm:=hP.trans (cI);have hvm:=HVL.o m (by omega);rw [<- hP] at hvm;obtain ⟨_,_,_,vb,_,_,_,vbk⟩:=cB hvm;have eB:(ms.getD m aK).bn=P.bl.length:=by rw [hPM];show _=(List.map _ _).length;rw [xH];exact hmd.b.1.symm
   have HBK:Zh (∀ j,j<P.bl.length->((ms.getD m aK).bl.getD j zB).2.1=(P.bl.getD j []).length):=fun j hj=>by rw [hPM];exact (rO hmd j (by omega)).1
   have HMB:=zh (fun (W:qw) (hb:qY wr W)=>(MD.bw hmd hb).b);have HP:=zh hP;rw [eB] at q2;have HEB:=zh eB;have HB:=zh B;generalize ms.getD m aK=M at *;generalize M.ba=ba at *;have al:qY wr (wr.alloc (.cells (qM M.nm M.ta M.tn M.tc ba P.bl.length M.bc M.da M.dn M.dc M.bss M.ra M.rn M.rc M.ia M.im M.ic M.ea M.en M.ec) 138)):=bal;obtain ⟨g0,g1,g2,g3,g4,g5,g6,g7⟩:=(Blk.new wr (qM M.nm M.ta M.tn M.tc ba P.bl.length M.bc M.da M.dn M.dc M.bss M.ra M.rn M.rc M.ia M.im M.ic M.ea M.en M.ec) 138).eight;have HAL:=zh al;clear B H hmd hP hPM eB al hvm;generalize wr=wo at *;go_wp2_with fail
   go_loopw [3,17] (fun x i wx=>∃ (q R:Nat),q<=P.bl.length/\i=qI q/\x=qI (R:Int)/\R<=64/\Hid (GB (aE ms) m q R)/\qY wo wx) (fun _ i _=>P.bl.length-(intOf i).toNat)
   .exact ⟨0,R,xC _,rfl,rfl,hR,hG,HAL.o⟩
   .obtain ⟨q,R',hq,rfl,rfl,hR',hG',B⟩:=hrel;by_cases hlt2:q<P.bl.length
    .have hlt2':(q:Int)<(P.bl.length:Int):=by omega
     obtain ⟨_,_,hcb,_,_⟩:=HMB.o wr B;obtain ⟨b2,off2,rfl,hc⟩:=hcb (by rw [HEB.o];omega);have cb:=hc q (by rw [HEB.o];exact hlt2);rw [HBK.o q hlt2] at cb;have hLq:=vbk q hlt2;obtain ⟨LQ,hLQ⟩:=eqx ((P.bl.getD q []).length);rw [<- hLQ] at cb hLq;have HG2:=zh (show GB (aE ms) m (q+1) (max R' LQ) by rw [hLQ,HP.o];exact hG'.out.step (by omega) (by rw [<- HP.o];exact hlt2));have hmx:max (R':Int) (LQ:Int)=((max R' LQ:Nat):Int):=by omega
     have HB2:=zh B;generalize M.bl.getD q zB=bq at cb;obtain ⟨bq1,bq2,bq3,bq4⟩:=bq;dsimp only at cb;clear hcb hc hLQ B;go_wp2
     go_roundw
     .exact ⟨q+1,max R' LQ,by omega,by go_num,(by rw [<- hmx];congr 1;split<;>omega),by omega,HG2,HB2.o⟩
     .simp [intOf];omega
    .have hlt2':¬ (q:Int)<(P.bl.length:Int):=by omega
     have HG2:=zh (hG'.out.next (by rw [<- HP.o];omega));have HB2:=zh (HB.o.trans (B.mono HB.o.size));clear B;go_wp2
     go_roundw
     .exact ⟨m+1,R',by omega,by go_num,rfl,hR',HG2,HB2.o⟩
     .simp [intOf];omega
  .have hlt':¬ (m:Int)<(n:Int):=by omega
   have HG:=zh (show GB (aE ms) (aE ms).length 0 R by rw [hpl,<- show m=n by omega];exact hG.out);have HB:=zh B;clear B hG;go_wp2;go_ret;exact ⟨R,rfl,by first|exact HG.o|(have:=HG.o;rw [hpl] at this;exact this),HB.o⟩
theorem sR (g:Nat)(x:Int)(a:qO)(n cap:Nat)(w:qw)(h:Blk w g #[qI x,.func (.func 199) #[] #[]] 242)(hx0:0<=x)(hx1:x<=1000000)(hn:n<=65535):
 qC 213 #[.pointer (qP g),qS a n cap] w fun e w'=>e=.returned (qI x)/\Blk w' g #[qI (x+rnd (4*(n:Int))),.func (.func 199) #[] #[]] 242/\Turn (fun j=>j=g) w w':=by
 have c0:=h.e0;have c1:=h.e1;have f0:=h.frozen 0;have rR:=aQ (x:=4*(n:Int));obtain ⟨RR,hRR⟩:=eqx (rnd (4*(n:Int)));have HW:=zh (fun W=>mC a n cap W (by omega));rw [<- hRR] at rR HW ⊢;have hw:IntKind.i64.wrap (x+RR)=x+RR:=cA _ (by omega) (by omega);have HF:Zh (Blk ((w.setCell (qR g 0) (qI (x+RR))).drew) g #[qI (x+RR),.func (.func 199) #[] #[]] 242/\Turn (fun j=>j=g) w ((w.setCell (qR g 0) (qI (x+RR))).drew)):=⟨h.set 0 (qI (x+RR)),nC (aC w g 0 (qI (x+RR)))⟩;clear h hRR;go_enter Tryz.func213,Tryz.ntmps213
 go_wp2_with fail
 go_region_law (first
  | (go_simp;go_at_call 199;refine (HW.o _).mono ?_;rintro e wz ⟨rfl,rfl⟩))
 all_goals
  go_wp2;go_ret;exact ⟨rfl,HF.o.1,HF.o.2⟩
theorem mR (g:Nat)(x v:Int)(w:qw)(h:Blk w g #[qI x,.func (.func 212) #[] #[]] 244)(hx0:0<=x:=by omega)(hx1:x<=1000000:=by omega)(hv0:0<=v:=by omega)(hv1:v<=1000000:=by omega):
 qC 215 #[.pointer (qP g),qI v] w fun e w'=>e=.returned (qI x)/\Blk w' g #[qI (x+rnd v),.func (.func 212) #[] #[]] 244/\Turn (fun j=>j=g) w w':=by
 have c0:=h.e0;have c1:=h.e1;have f0:=h.frozen 0;have rR:=aQ hv0;obtain ⟨RR,hRR⟩:=eqx (rnd v);have HW:=zh (fun W=>gO v W hv0);rw [<- hRR] at rR HW ⊢;have hw:IntKind.i64.wrap (x+RR)=x+RR:=cA _ (by omega) (by omega);have HF:Zh (Blk ((w.setCell (qR g 0) (qI (x+RR))).drew) g #[qI (x+RR),.func (.func 212) #[] #[]] 244/\Turn (fun j=>j=g) w ((w.setCell (qR g 0) (qI (x+RR))).drew)):=⟨h.set 0 (qI (x+RR)),nC (aC w g 0 (qI (x+RR)))⟩;clear h hRR;go_enter Tryz.func215,Tryz.ntmps215
 go_wp2_with fail
 go_region_law (first
  | (go_simp;go_at_call 212;refine (HW.o _).mono ?_;rintro e wz ⟨rfl,rfl⟩))
 all_goals
  go_wp2;go_ret;exact ⟨rfl,HF.o.1,HF.o.2⟩
def bkx (P:PMod)(x:Int)(k:Nat):List Int:=(List.range k).map fun j=>x+cC P j
theorem lX (P:PMod)(x:Int)(k:Nat):(bkx P x k).length=k:=by simp [bkx]
theorem aL4 (P:PMod)(x:Int)(k:Nat):bkx P x (k+1)=bkx P x k++[x+cC P k]:=by simp [bkx,List.range_succ]
theorem aAx (g:Nat)(x:Int)(P:PMod)(ba:qO)(bc:Nat)(bl:List Bk)(w0 w:qw)(h:Blk w g #[qI x,.func (.func 199) #[] #[]] 242)(hP:fD P=0)(hx0:0<=x)(hx1:x<=900000)(hB:qY w0 w)(hg:w0.heap.size<=g)(hb:BKS w0 ba P.bl.length bc bl)(hlen:∀ j,j<P.bl.length->(bl.getD j zB).2.1=(P.bl.getD j []).length):
 qC 214 #[.pointer (qP g),qS ba P.bl.length bc] w fun e w'=>∃ a' c',e=.returned (qS a' P.bl.length c')/\OG 3 1 clI w' w.heap.size (qS a' P.bl.length c') (bkx P x P.bl.length)/\Blk w' g #[qI (x+cC P P.bl.length),.func (.func 199) #[] #[]] 242/\Turn (fun j=>j=g) w w':=by
 obtain ⟨iI,hiI,hz0,hz1,hz2⟩:=info_parts jV;obtain ⟨_,_,_,vb,_,_,_,vbk⟩:=cB hP;have HFS:=zh (fun k hk=>cE hP k hk);have HBB:=zh (fun (W:qw) (t:Turn (fun j=>j=g) w W)=>hb.bw (aG hB t (fun j hj=>by have e:j=g:=hj;omega) hB.size));have HLEN:=zh hlen;have hgl:=h.lt;have HH:=zh h;clear h hb hlen hB hP;go_enter Tryz.func214,Tryz.ntmps214
 go_wp2;go_loopw [5,10] (fun v i wr=>∃ (q:Nat) (a':qO) (c':Nat),q<=P.bl.length/\i=qI q/\v=qS a' q c'/\OG 3 1 clI wr w.heap.size (qS a' q c') (bkx P x q)/\Blk wr g #[qI (x+cC P q),.func (.func 199) #[] #[]] 242/\Turn (fun j=>j=g) w wr) (fun _ i _=>P.bl.length-(intOf i).toNat)
 .exact ⟨0,none,0,xC _,rfl,rfl,fL _ _ _ _ _,by have:=HH.o;rw [show x+cC P 0=x by simp [cC]];exact this,Turn.refl _ _⟩
 .obtain ⟨q,a',c',hq,rfl,rfl,O,B,T⟩:=hrel;by_cases hlt:q<P.bl.length
  .have hlt':(q:Int)<(P.bl.length:Int):=by omega
   obtain ⟨_,_,hcb,_,_⟩:=HBB.o wr T;obtain ⟨b2,off2,rfl,hc⟩:=hcb (by omega);have cb:=hc q hlt;rw [HLEN.o q hlt] at cb;have hLq:=vbk q hlt;obtain ⟨LQ,hLQ⟩:=eqx ((P.bl.getD q []).length);rw [<- hLQ] at cb hLq;have rq:=HFS.o q (by omega);have HFE:=zh (show x+cC P q+rnd (4*(LQ:Int))=x+cC P (q+1) by rw [hLQ];show _=x+(cC P q+rnd (4*((P.bl.getD q []).length:Int)));omega);have HSU:=zh (aL4 P x q);obtain ⟨xq,hxq⟩:=eqx (x+cC P q);rw [<- hxq] at HFE HSU B;have rxq:0<=xq/\xq<=1000000:=by omega
   generalize bl.getD q zB=bq at cb;obtain ⟨bq1,bq2,bq3,bq4⟩:=bq;dsimp only at cb;have HPL:=zh (sR g xq bq1 LQ bq3 wr B (by omega) (by omega) (by omega));have HQ:=zh (xA O T);clear hcb hc hLQ hxq O B T;go_wp2_with fail
   refine HPL.o.mono ?_;rintro e w1 ⟨rfl,B1,T1⟩;obtain ⟨O,T⟩:=HQ.o;have O1:=O.turn T1 (fun j hj=>by have e:j=g:=hj;omega);have T2:=T.trans T1;have al:qY w1 (w1.alloc (.cells #[qI xq] 3)):=bal;have HOW:=zh (show (w1.alloc (.cells #[qI xq] 3)).ownsRow w.heap.size 3 1 (qS a' q c') q ((bkx P x q).flatMap clI) by have:=O1.bw al;unfold OG at this;rw [lX] at this;exact this);have hs1:=T2.size;have HR:=zh (xA (O1.bw al) (xA (B1.bw al) (T2.trans (aJ al))));clear O T O1 T2 al B1 T1 HPL HQ cb;go_wp2_with (at_builtin;refine wpList_append_own _ rfl _ _ 25 rfl w.heap.size 3 iI (qI 0) 1 8 Tryz.underlying25 hiI hz0 hz1 hz2 rfl (by decide) (qS a' q c') q ((bkx P x q).flatMap clI) rfl HOW.o (qR w1.heap.size 0) 1 1 (clI xq) rfl rfl (bJ w1 _ _ (clI xq) rfl) (by intro u hu;simp [clI] at hu;subst hu;rfl) (by unfold maxLen;omega) (by omega) (by simp;omega) ?_;intro v' w4 hown hgr _)
   obtain ⟨O1,B1,T1⟩:=HR.o;have hrow:∀ j,(qS a' q c').ownBlock=some j->w.heap.size<=j:=fun j hj=>(O1.lt j hj).1
   have O4:OG 3 1 clI w4 w.heap.size v' (bkx P x (q+1)):=by
    unfold OG;rw [lX,HSU.o,xU,xX];exact hown
   have B4:=cM B1 hgr (fun e=>by have:=hrow _ e.symm;omega);have T4:=sA T1 hgr hrow;obtain ⟨a4,c4,rfl⟩:=aR O4;rw [lX] at O4;have HX:=zh (xA O4 (xA B4 T4));have HL:=zh (lX P x (q+1));clear O1 B1 T1 hrow O4 B4 T4 hown hgr HR HOW
   go_roundw
   .exact ⟨q+1,a4,c4,by omega,by go_num,by rw [HL.o],HX.o.1,by rw [<- HFE.o];exact HX.o.2.1,HX.o.2.2⟩
   .simp [intOf];omega
  .have hlt':¬ (q:Int)<(P.bl.length:Int):=by omega
   have e:q=P.bl.length:=by omega
   rw [e] at O B;have HX:=zh (xA O (xA B T));have HE:=zh e;clear O B T e;go_wp2;go_ret;exact ⟨a',c',by rw [<- HE.o];rfl,HX.o.1,HX.o.2.1,HX.o.2.2⟩
structure Tf (w:qw)(base g n:Nat)(f:Nat->TB):Prop where
 head:∃ cs,Blk w g cs 190/\cs.size=n/\∀ i,i<n->cs[i]?=some (svT (f i))
 rows:∀ i,i<n->OG 58 3 clG w base (svT (f i)) (f i).1
 apart:∀ i j,i<n->j<n->i≠j->∀ k,(svT (f i)).ownBlock=some k->(svT (f j)).ownBlock≠some k
theorem Tf.bw {w w':qw}(h:Tf w base g n f)(hb:qY w w'):Tf w' base g n f:=
 ⟨by obtain ⟨cs,h1,h2,h3⟩:=h.head;exact ⟨cs,h1.bw hb,h2,h3⟩,fun i hi=>(h.rows i hi).bw hb,h.apart⟩
theorem Tf.cell {w:qw}(h:Tf w base g n f)(i:Nat)(hi:i<n):w.cell? (qR g i)=some (svT (f i))/\w.frozen? (qR g i)=false:=by
 obtain ⟨cs,h1,h2,h3⟩:=h.head;exact ⟨(h1.cell i).trans (h3 i hi),h1.frozen i⟩
theorem Tf.lt {w:qw}(h:Tf w base g n f):g<w.heap.size/\∀ i,i<n->∀ k,(svT (f i)).ownBlock=some k->base<=k/\k<w.heap.size:=by
 obtain ⟨cs,h1,_⟩:=h.head;exact ⟨h1.lt,fun i hi=>(h.rows i hi).lt⟩
theorem Tf.update {W W':qw}{x:TB}{g4 c4:Nat}(h:Tf W base g n f)(hm:m<n)(hg:W.grownBy W' (svT (f m)).ownBlock)(hx:OG 58 3 clG W' base (svT x) x.1)(hs:svT x=qS (qP g4) x.1.length c4)(hat:(svT (f m)).ownBlock=some g4\/g4=W.heap.size):Tf (W'.setCell (qR g m) (svT x)) base g n (fun i=>if i=m then x else f i):=by
 obtain ⟨cs,h1,h2,h3⟩:=h.head;have hk:∀ k,(svT (f m)).ownBlock=some k->k≠g:=fun k hk e=>by subst e;exact aM (h.rows m hm) hk h1 (by decide)
 have hb:Blk W' g cs 190:=cM h1 hg (fun e=>hk g e.symm rfl);have tx:=aC W' g m (svT x)
 have hng:∀ (u:Value) (ys:List Tg),OG 58 3 clG W' base u ys->∀ k,u.ownBlock=some k->¬ (fun j=>j=g) k:=fun u ys ho k hk' e=>by
  have e':k=g:=e;subst e';exact aM ho hk' hb (by decide)
 refine ⟨⟨cs.setIfInBounds m (svT x),hb.set m (svT x),by simp [h2],fun i hi=>?_⟩,fun i hi=>?_,fun i j hi hj hij k hk1=>?_⟩
 .by_cases e:i=m
  .subst e;simp [h2,hi]
  .simp only [e,if_false];rw [Array.getElem?_setIfInBounds_ne (fun e'=>e e'.symm)];exact h3 i hi
 .by_cases e:i=m
  .simp only [e,if_true];exact hx.kept tx (hng _ _ hx)
  .simp only [e,if_false];have o:=(h.rows i hi).kept' hg (fun k hk' e'=>h.apart i m hi hm e k hk' e');exact o.kept tx (hng _ _ o)
 .have hx4:(svT x).ownBlock=some g4:=by rw [hs];rfl
  by_cases e1:i=m
  .have e2:¬ j=m:=fun e=>hij (e1.trans e.symm);simp only [e1,e2,if_true,if_false] at hk1 ⊢;rw [hx4] at hk1;simp at hk1;subst hk1;rcases hat with h5|h5
   .exact fun e=>h.apart m j hm hj (fun e'=>e2 e'.symm) g4 h5 e
   .exact fun e=>by have:=(h.lt.2 j hj g4 e).2;omega
  .by_cases e2:j=m
   .simp only [e1,e2,if_true,if_false] at hk1 ⊢;rw [hx4];intro e;simp at e;subst e;rcases hat with h5|h5
    .exact h.apart i m hi hm e1 g4 hk1 h5
    .have:=(h.lt.2 i hi g4 hk1).2;omega
   .simp only [e1,e2,if_false] at hk1 ⊢;exact h.apart i j hi hj hij k hk1
theorem aIq {w:qw}(h:w.ownsRow base 190 1 (qS (qP g) n n) n (madeCells (Value.cells (qS none 0 0)) (n*1)).toList)(lo:Nat):Tf w lo g n (fun _=>([],none,0)):=by
 obtain ⟨hl,h|⟨g',cap,cur,hv,hb,hh,h1,h2,h3,h4⟩⟩:=h
 .simp at h
 .simp at hv;obtain ⟨rfl,rfl⟩:=hv
  have e:cur.toList=(madeCells (Value.cells (qS none 0 0)) (n*1)).toList:=by
   rw [<- h4,xG (by simp [h3])]
  have e2:cur=madeCells (Value.cells (qS none 0 0)) (n*1):=Array.toList_inj.1 e;refine ⟨⟨cur,hh,by simpa using h3,fun i hi=>?_⟩,fun i hi=>fL _ _ _ _ _,fun i j _ _ _ k hk=>by simp [svT,Value.ownBlock] at hk⟩;rw [e2];simp [madeCells,Value.cells,svT,hi,Nat.mod_one]
theorem Tf.otg {w:qw}{c:Nat}(h:Tf w base g n f)(hg:base<=g)(hn:n<=maxLen)(hc:c=n):OTg w base base (.slice (qP g) ((List.range n).map f).length c) ((List.range n).map f):=by
 subst hc;obtain ⟨cs,h1,h2,h3⟩:=h.head;refine ⟨⟨?_,.inr ⟨g,c,cs,by simp,hg,h1,by simp,hn,by simpa using h2,?_⟩⟩,fun x hx=>?_,?_⟩
 .rw [show ((List.range c).map f).flatMap aBx=(List.range c).map (fun i=>svT (f i)) by rw [List.flatMap_map];exact dA _ _];simp
 .apply List.ext_getElem?;intro i;rw [show ((List.range c).map f).flatMap aBx=(List.range c).map (fun i=>svT (f i)) by rw [List.flatMap_map];exact dA _ _];by_cases hi:i<c
  .rw [List.getElem?_take,if_pos (by simpa using hi),Array.getElem?_toList,h3 i hi];simp [hi]
  .rw [xO (by simp;omega),xO (by simp;omega)]
 .simp at hx;obtain ⟨i,hi,rfl⟩:=hx;exact h.rows i hi
 .rw [List.pairwise_iff_getElem];intro i j hi hj hij k hk;simp at hi hj hk ⊢;exact h.apart i j hi hj (by omega) k hk
theorem vM (a:qO)(n cap:Nat)(ms:List Md)(w:qw)(h:MSD w a n cap ms)(hv:fR (aE ms))(hn:n<=4):
 qC 186 #[.slice a n cap] w fun e w'=>qY w w'/\((¬ jZ (aE ms)/\∃ v,e=.returned (.tuple #[v,.bool false]))\/(jZ (aE ms)/\∃ f,e=.returned (.tuple #[.slice (some (qR w.heap.size 0)) n n,.bool true])/\Tf w' w.heap.size w.heap.size n f/\∀ i,i<n->(f i).1=tgs (aE ms) ((aE ms).getD i zP))):=by
 obtain ⟨iT,hiT,hzT0,hzT1,hzT2⟩:=info_parts aLb;obtain ⟨iG,hiG,hzG0,hzG1,hzG2⟩:=info_parts aOw;have hl:=h.s.1;have hpl:(aE ms).length=n:=by rw [bT,hl]
 have HH:=zh h;have HVL:=zh hv;clear h hv;go_enter Tryz.func186,Tryz.ntmps186
 go_wp2_with (at_make;refine wpList_make_full _ rfl _ _ 69 rfl w.heap.size 190 iT (.slice none 0 0) 1 Tryz.underlying69 hiT hzT0 hzT1 .i64 .i64 _ _ n rfl rfl rfl rfl (by rw [hzT2];omega) (by unfold maxLen;omega) aN ?_;intro w1 hown hgr)
 have T0:=aIq hown w.heap.size;have B0:=aW hgr;have HT0:=zh (xA T0 B0);clear hown hgr T0 B0;go_loopw [16] (fun i wr=>∃ (m:Nat) (f:Nat->TB),m<=n/\i=.int .i64 m/\Tf wr w.heap.size w.heap.size n f/\(∀ i,i<n->(f i).1=if i<m then tgs (aE ms) ((aE ms).getD i zP) else [])/\(∀ j,j<m->qE (aE ms) ((aE ms).getD j zP))/\qY w wr) (qf n)
 .exact ⟨0,fun _=>([],none,0),xC _,rfl,HT0.o.1,fun i hi=>by simp,fun j hj=>absurd hj (by omega),HT0.o.2⟩
 .clear HT0;obtain ⟨m,f,hm,rfl,F,hf,hk,B⟩:=hrel;by_cases hlt:m<n
  .have hlt':(m:Int)<(n:Int):=by omega
   have H:=HH.o.bw B;obtain ⟨b,off,rfl,q0,q1,q2,q3,q4,q5,q6,q7⟩:=H.s.at m hlt;have hmd:=H.d m hlt;have hvm:=HVL.o m (by omega);obtain ⟨P,hP⟩:=eqx ((aE ms).getD m zP);have hPM:P=(ms.getD m aK).pm:=hP.trans (cI);rw [<- hP] at hvm;have vi:=(cB hvm).2.1;have eI:(ms.getD m aK).im=P.ss.length:=by rw [hPM];exact hmd.i.1.symm
   have eS:(ms.getD m aK).ss=P.ss:=by rw [hPM];rfl
   have HMI:=zh (fun (W:qw) (hb:qY w W)=>(HH.o.d m hlt).i.bw hb);rw [eI] at q6;rw [eI,eS] at HMI;have HP:=zh hP;have HB:=zh (xA B (xA F (xA hf hk)));generalize ms.getD m aK=M at *;generalize M.ia=ia at *;have al:qY wr (wr.alloc (.cells (qM M.nm M.ta M.tn M.tc M.ba M.bn M.bc M.da M.dn M.dc M.bss M.ra M.rn M.rc ia P.ss.length M.ic M.ea M.en M.ec) 138)):=bal;obtain ⟨g0,g1,g2,g3,g4,g5,g6,g7⟩:=(Blk.new wr (qM M.nm M.ta M.tn M.tc M.ba M.bn M.bc M.da M.dn M.dc M.bss M.ra M.rn M.rc ia P.ss.length M.ic M.ea M.en M.ec) 138).eight;have HAL:=zh (xA al (F.bw al));clear B H hmd hP hPM eI eS al hvm F hf hk;generalize wr=wo at *;go_wp2_with fail
   go_loopw [24] (fun i wx=>∃ (q:Nat) (f:Nat->TB),q<=P.ss.length/\i=.int .i64 q/\Tf wx w.heap.size w.heap.size n f/\(∀ i,i<n->(f i).1=if i<m then tgs (aE ms) ((aE ms).getD i zP) else if i=m then tgN (aE ms) P q else [])/\(∀ j,j<q->(iD (aE ms) (P.ss.getD j zS)).isSome=true)/\Turn (fun j=>w.heap.size<=j) wo wx) (qf P.ss.length)
   .exact ⟨0,f,xC _,rfl,HAL.o.2,fun i hi=>by
    rw [HB.o.2.2.1 i hi];by_cases e:i<m
    .simp [e]
    .by_cases e2:i=m
     .simp [e2,tgN]
     .simp [e,e2],fun j hj=>absurd hj (by omega),aJ HAL.o.1⟩
   .obtain ⟨q,f',hq,rfl,F,hf,hk,T⟩:=hrel;have B:=aG HB.o.1 T (fun j hj=>hj) HB.o.1.size;by_cases hlt2:q<P.ss.length
    .have hlt2':(q:Int)<(P.ss.length:Int):=by omega
     obtain ⟨hsl,_,hsz,hcs,_⟩:=HMI.o wr B;obtain ⟨b2,off2,rfl,hc⟩:=hcs (by omega);have c0:=hc q hlt2;have hss:(P.ss.getD q zS).size<=1048576:=hsz _ (by simp [xB,hlt2]);have HR:=zh ((HH.o.bw B).resI HVL.o hn (P.ss.getD q zS) hss);have HTS:=zh (fun t (h:iD (aE ms) (P.ss.getD q zS)=some t)=>aCd (ps:=aE ms) (P:=P) q h);have HBAD:=zh (fun (h:iD (aE ms) (P.ss.getD q zS)=none)=>(show ¬ jZ (aE ms) from fun hi=>by have:=hi m (by omega) q (by rw [<- HP.o];exact hlt2);rw [<- HP.o,h] at this;cases this))
     have HGO:=zh (fun t (h:iD (aE ms) (P.ss.getD q zS)=some t)=>(show ∀ j,j<q+1->(iD (aE ms) (P.ss.getD j zS)).isSome=true from fun j hj=>by
      by_cases e:j=q
      .subst e;rw [h];rfl
      .exact hk j (by omega)))
     have hX:(f' m).1=tgN (aE ms) P q:=by rw [hf m hlt,if_neg (by omega),if_pos rfl]
     have hsv:svT (f' m)=.slice (f' m).2.1 q (f' m).2.2:=by unfold svT;rw [hX,gM]
     have HQ:=zh (xA F (xA hf (xA T B)));have hgw:=HB.o.1.size;have hTs:=T.size;generalize P.ss.getD q zS=str at *;clear F hk T B hc hsz hcs;go_wp2_with fail
     refine HR.o.mono ?_;rintro e w1 ⟨rfl,hb1⟩;obtain ⟨F,hf,T,B⟩:=HQ.o;have B1:=B.trans (hb1.mono B.size);cases ho:iD (aE ms) str with
     | none=>
       have HF:=zh (xA (B1.trans (((Below.refl _ w1).alloc aN (.cells (qT 0 0 0) 58)).mono B1.size)) (HBAD.o ho));clear F hf T B hb1 B1 HQ HR HTS HBAD HGO c0 hX hsv;unfold tgV;go_wp2
       go_ret2
       exact ⟨HF.o.1,.inl ⟨HF.o.2,_,rfl⟩⟩
     | some t=>
       obtain ⟨t1,t2,t3⟩:=t;have al1:qY w1 (w1.alloc (.cells (qT t1 t2 t3) 58)):=bal;have hs1:(w1.alloc (.cells (qT t1 t2 t3) 58)).heap.size=w1.heap.size+1:=by simp
       have k1:=Blk.new w1 (qT t1 t2 t3) 58;have F1:=(F.bw hb1).bw al1;have T1:=(T.trans (aJ hb1)).trans (aJ al1);have HT2:=zh (HTS.o _ ho);have HG2:=zh (HGO.o _ ho);obtain ⟨x0,x1,x2,_⟩:=k1.three;generalize hW1:w1.alloc (.cells (qT t1 t2 t3) 58)=W1 at *;have al2:qY W1 (W1.alloc (.cells (qT t1 t2 t3) 58)):=bal;have F2a:=F1.bw al2;have F2:Tf (W1.alloc (.cells (qT t1 t2 t3) 58)).drew w.heap.size w.heap.size n f':=⟨F2a.head,F2a.rows,F2a.apart⟩;have HCN:=zh (show ∀ j u,(clG (t1,t2,t3))[j]?=some u->(W1.alloc (.cells (qT t1 t2 t3) 58)).drew.cell? (((qR (w1.heap.size+1) 0):Addr).add j)=some u by have:=bJ W1 _ 58 (clG (t1,t2,t3)) rfl;rw [hs1] at this;exact this);obtain ⟨p3,f3⟩:=F2a.cell m hlt;rw [hsv] at p3;obtain ⟨p1,f1⟩:=F1.cell m hlt;obtain ⟨p2,f2⟩:=F2.cell m hlt;have hsz1:=hb1.size;rw [hsv] at p1 p2;obtain ⟨A,hA⟩:=eqx ((f' m).2.1);obtain ⟨C,hC⟩:=eqx ((f' m).2.2);rw [<- hA,<- hC] at p1 p2 p3 hsv;have HOW:=zh (show (W1.alloc (.cells (qT t1 t2 t3) 58)).drew.ownsRow w.heap.size 58 3 (.slice A q C) q ((tgN (aE ms) P q).flatMap clG) by have:=F2.rows m hlt;unfold OG at this;rw [hsv,hX,gM] at this;exact this)
       have HHD:=zh (fun (w4:qw) (hgr:(W1.alloc (.cells (qT t1 t2 t3) 58)).drew.grownBy w4 (Value.slice A q C).ownBlock)=>(show w4.cell? (qR w.heap.size m)=some (.slice A q C)/\w4.frozen? (qR w.heap.size m)=false from by
        obtain ⟨cs,hc1,hc2,hc3⟩:=F2.head;have hb4:=cM hc1 hgr (fun e=>by have:=F2.rows m hlt;rw [hsv] at this;exact aM this e.symm hc1 (by decide))
        exact ⟨(hb4.cell m).trans ((hc3 m hlt).trans (by rw [hsv])),hb4.frozen m⟩))
       have HX:=zh (xA F2 (xA hf (xA (nC (T1.trans (aJ al2))) (xA hsv hX))));have HW1:=zh hW1;have hgl:=F1.lt.1;clear F hf T B hb1 B1 HQ HR HTS HBAD HGO c0 al1 k1 F1 T1 al2 F2 F2a hX hsv hA hC hW1;unfold tgV;go_wp2_with fail
       rw [HW1.o]
       go_region_law (first
        | (refine step_append_lies _ rfl _ _ 190 rfl w.heap.size 58 iG (.agg (qT 0 0 0)) 3 24 Tryz.underlying190 hiG hzG0 hzG1 hzG2 rfl (by decide) (.slice A q C) q ((tgN (aE ms) P q).flatMap clG) rfl HOW.o (qR (w1.heap.size+1) 0) 1 1 (clG (t1,t2,t3)) rfl rfl HCN.o (by intro u hu;simp [clG] at hu;rcases hu with rfl|rfl|rfl<;>rfl) (by decide) (by unfold maxLen;omega) (by omega) (by simp;omega) _ rfl ?_;intro g4 c4 w4 hown hgr hat hlt4;obtain ⟨p4,f4⟩:=HHD.o w4 hgr))
       all_goals
        obtain ⟨F2,hf,T2,hsv,hX⟩:=HX.o;have hgr':=hgr;rw [<- hsv] at hgr' hat
        have O4:OG 58 3 clG w4 w.heap.size (svT ((tgN (aE ms) P (q+1),some (qR g4 0),c4):TB)) (tgN (aE ms) P (q+1)):=by
         unfold OG svT;rw [gM,HT2.o,xU,xX];exact hown
        have U:=F2.update (x:=(tgN (aE ms) P (q+1),some (qR g4 0),c4)) (g4:=g4) (c4:=c4) hlt hgr' O4 rfl (by simpa using hat)
        have T5:Turn (fun j=>w.heap.size<=j) wo (w4.setCell (qR w.heap.size m) (svT ((tgN (aE ms) P (q+1),some (qR g4 0),c4):TB))):=by
         have t4:Turn (fun j=>w.heap.size<=j) _ w4:=⟨hgr.os,hgr.tape,hgr.output,hgr.size,fun j hj hs=>hgr.block j hj (fun e=>hs (by have:=(F2.lt.2 m hlt j (by rw [hsv];exact e.symm)).1;exact this))⟩;exact (T2.trans t4).trans ((aC w4 w.heap.size m _).mono (fun j hj=>by have e:j=w.heap.size:=hj;omega))
        have hsx:svT ((tgN (aE ms) P (q+1),some (qR g4 0),c4):TB)=.slice (some (qR g4 0)) (q+1) c4:=by unfold svT;rw [gM]
        rw [hsx] at U T5
        have HF:=zh (xA U (xA (show ∀ i,i<n->((fun i=>if i=m then ((tgN (aE ms) P (q+1),some (qR g4 0),c4):TB) else f' i) i).1=if i<m then tgs (aE ms) ((aE ms).getD i zP) else if i=m then tgN (aE ms) P (q+1) else [] from fun i hi=>by
         by_cases e:i=m
         .simp [e]
         .simp only [e,if_false];rw [hf i hi];simp [e]) (xA HG2.o T5)))
        clear F2 hf T2 hsv hX hgr' hgr hown hat O4 U T5 hsx HX HOW HHD p4 f4 p1 p2 p3 f1 f2 f3 HCN x0 x1 x2;go_wp2
        go_roundw
        .exact ⟨q+1,_,by omega,by go_num,HF.o.1,HF.o.2.1,HF.o.2.2.1,HF.o.2.2.2⟩
        .simp [qf,intOf];omega
    .have hlt2':¬ (q:Int)<(P.ss.length:Int):=by omega
     have hqe:q=P.ss.length:=by omega
     have HF:=zh (xA B (xA F (xA (show ∀ i,i<n->(f' i).1=if i<m+1 then tgs (aE ms) ((aE ms).getD i zP) else [] from fun i hi=>by
      rw [hf i hi];by_cases e:i<m
      .rw [if_pos e,if_pos (by omega)]
      .by_cases e2:i=m
       .rw [if_neg e,if_pos e2,if_pos (by omega),e2,<- HP.o,hqe];rfl
       .rw [if_neg e,if_neg e2,if_neg (by omega)]) (show ∀ j,j<m+1->qE (aE ms) ((aE ms).getD j zP) from fun j hj=>by
      by_cases e:j=m
      .subst e;rw [<- HP.o];intro i hi;exact hk i (by omega)
      .exact HB.o.2.2.2 j (by omega)))))
     clear F hf hk T B hqe;go_wp2
     go_roundw
     .exact ⟨m+1,f',by omega,by go_num,HF.o.2.1,HF.o.2.2.1,HF.o.2.2.2,HF.o.1⟩
     .simp [qf,intOf];omega
  .have hlt':¬ (m:Int)<(n:Int):=by omega
   have HI:Zh (jZ (aE ms)):=fun i hi=>hk i (by omega);have HF:=zh (xA B (xA F (show ∀ i,i<n->(f i).1=tgs (aE ms) ((aE ms).getD i zP) from fun i hi=>by rw [hf i hi,if_pos (by omega)])));clear B F hf hk;go_wp2
   go_ret2
   exact ⟨HF.o.1,.inr (by first|exact ⟨HI.o,f,rfl,HF.o.2.1,HF.o.2.2⟩|exact ⟨HI.o,rfl,f,HF.o.2.1,HF.o.2.2⟩)⟩
theorem aMs (x:Int):rnd (rnd x)=rnd x:=by unfold rnd;omega
theorem aH7 {x:Int}(h:x%32=0):rnd x=x:=by unfold rnd;omega
def alF (x:Int):Array Value:=#[qI x,.func (.func 199) #[] #[]]
def alR (x:Int):Array Value:=#[qI x,.func (.func 212) #[] #[]]
structure Lo (w W:qw)(s c k d fx rx:Int)(cs:Array Value):Prop where
 be:qY w W
 k0:Blk W w.heap.size (qW s c k d) 37
 k1:Blk W (w.heap.size+1) zL 71
 k2:Blk W (w.heap.size+2) (alF fx) 242
 k3:Blk W (w.heap.size+3) (alR rx) 244
 k4:Blk W (w.heap.size+4) cs 71
theorem Lo.sz {w W:qw}(h:Lo w W s c k d fx rx cs):w.heap.size+5<=W.heap.size:=h.k4.lt
theorem Lo.bw {w W W':qw}(h:Lo w W s c k d fx rx cs)(hb:qY W W'):Lo w W' s c k d fx rx cs:=⟨h.be.trans (hb.mono h.be.size),h.k0.bw hb,h.k1.bw hb,h.k2.bw hb,h.k3.bw hb,h.k4.bw hb⟩
theorem Lo.set {w W:qw}(h:Lo w W s c k d fx rx cs)(i:Nat)(v:Value):Lo w (W.setCell (qR (w.heap.size+4) i) v) s c k d fx rx (cs.setIfInBounds i v):=by
 have t:=aC W (w.heap.size+4) i v;exact ⟨aG h.be t (fun k hk=>by omega) h.be.size,aF t h.k0 (by omega),aF t h.k1 (by omega),aF t h.k2 (by omega),aF t h.k3 (by omega),h.k4.set i v⟩
theorem Lo.other {w W:qw}(h:Lo w W s c k d fx rx cs)(hg:w.heap.size+5<=g)(i:Nat)(v:Value):Lo w (W.setCell (qR g i) v) s c k d fx rx cs:=by
 have t:=aC W g i v;exact ⟨aG h.be t (fun k hk=>by omega) h.be.size,aF t h.k0 (by omega),aF t h.k1 (by omega),aF t h.k2 (by omega),aF t h.k3 (by omega),aF t h.k4 (by omega)⟩
theorem Lo.callF {w W W':qw}{fx':Int}(h:Lo w W s c k d fx rx cs)(t:Turn (fun j=>j=w.heap.size+2) W W')(k2:Blk W' (w.heap.size+2) (alF fx') 242):Lo w W' s c k d fx' rx cs:=
 ⟨aG h.be t (fun k hk=>by omega) h.be.size,aF t h.k0 (by omega),aF t h.k1 (by omega),k2,aF t h.k3 (by omega),aF t h.k4 (by omega)⟩
theorem Lo.callR {w W W':qw}{rx':Int}(h:Lo w W s c k d fx rx cs)(t:Turn (fun j=>j=w.heap.size+3) W W')(k3:Blk W' (w.heap.size+3) (alR rx') 244):Lo w W' s c k d fx rx' cs:=
 ⟨aG h.be t (fun k hk=>by omega) h.be.size,aF t h.k0 (by omega),aF t h.k1 (by omega),aF t h.k2 (by omega),k3,aF t h.k4 (by omega)⟩
theorem Lo.grown {w W W':qw}{row:Option Nat}(h:Lo w W s c k d fx rx cs)(hg:W.grownBy W' row)(hr:∀ j,row=some j->w.heap.size+5<=j):Lo w W' s c k d fx rx cs:=by
 have t:Turn (fun j=>row=some j) W W':=⟨hg.os,hg.tape,hg.output,hg.size,fun j hj hs=>hg.block j hj (fun e=>hs e.symm)⟩;exact ⟨aG h.be t (fun j hj=>by have:=hr j hj;omega) h.be.size,aF t h.k0 (fun e=>by have:=hr _ e;omega),aF t h.k1 (fun e=>by have:=hr _ e;omega),aF t h.k2 (fun e=>by have:=hr _ e;omega),aF t h.k3 (fun e=>by have:=hr _ e;omega),aF t h.k4 (fun e=>by have:=hr _ e;omega)⟩
theorem aPx (w:qw)(s c k d:Int):Lo w (((((w.alloc (.cells (qW s c k d) 37)).alloc (.cells qz 71)).alloc (.cells #[qI 0,.func (.func 199) #[] #[]] 242)).alloc (.cells #[qI 65536,.func (.func 212) #[] #[]] 244)).alloc (.cells qz 71)) s c k d 0 65536 zL:=by
 have k0:=Blk.new w (qW s c k d) 37;have b0:qY w (w.alloc (.cells (qW s c k d) 37)):=bal;have s0:(w.alloc (.cells (qW s c k d) 37)).heap.size=w.heap.size+1:=by simp
 generalize w.alloc (.cells (qW s c k d) 37)=W0 at *;have k1:=Blk.new W0 qz 71;have b1:qY W0 (W0.alloc (.cells qz 71)):=bal;have s1:(W0.alloc (.cells qz 71)).heap.size=w.heap.size+2:=by simp [s0]
 rw [s0] at k1;generalize W0.alloc (.cells qz 71)=W1 at *;have k2:=Blk.new W1 #[qI 0,.func (.func 199) #[] #[]] 242;have b2:qY W1 (W1.alloc (.cells #[qI 0,.func (.func 199) #[] #[]] 242)):=bal;have s2:(W1.alloc (.cells #[qI 0,.func (.func 199) #[] #[]] 242)).heap.size=w.heap.size+3:=by simp [s1]
 rw [s1] at k2;generalize W1.alloc (.cells #[qI 0,.func (.func 199) #[] #[]] 242)=W2 at *;have k3:=Blk.new W2 #[qI 65536,.func (.func 212) #[] #[]] 244;have b3:qY W2 (W2.alloc (.cells #[qI 65536,.func (.func 212) #[] #[]] 244)):=bal;have s3:(W2.alloc (.cells #[qI 65536,.func (.func 212) #[] #[]] 244)).heap.size=w.heap.size+4:=by simp [s2]
 rw [s2] at k3;generalize W2.alloc (.cells #[qI 65536,.func (.func 212) #[] #[]] 244)=W3 at *;have k4:=Blk.new W3 qz 71;have b4:qY W3 (W3.alloc (.cells qz 71)):=bal;rw [s3] at k4;have c34:=b4;have c24:=b3.trans (c34.mono (by omega));have c14:=b2.trans (c24.mono (by omega));have c04:=b1.trans (c14.mono (by omega));exact ⟨b0.trans (c04.mono (by omega)),k0.bw c04,k1.bw c14,k2.bw c24,k3.bw c34,k4⟩
theorem mK (a:qO)(n cap:Nat)(l:Int)(w:qw)(h0:0<=l)(h1:l<=1048576)(hn:n<=maxLen)(h:l<n):
 qC 73 #[qS a n cap,qI l] w fun e w'=>e=.returned (qI (-1))/\w=w':=
 (kH a n cap l w h0 h1 hn).mono fun e w' he=>⟨by rw [he.1,if_pos h],he.2.symm⟩
theorem eE (a:qO)(n cap:Nat)(l:Int)(w:qw)(h0:0<=l)(h1:l<=1048576)(hn:n<=maxLen)(h:n<=l:=by omega):
 qC 73 #[qS a n cap,qI l] w fun e w'=>e=.returned (qI (l-n))/\w=w':=
 (kH a n cap l w h0 h1 hn).mono fun e w' he=>⟨by rw [he.1,if_neg (by omega)],he.2.symm⟩
theorem aJh (a1 a2 a3:qO)(n1 c1 n2 c2 n3 c3:Nat)(l:Int)(w:qw)(h0:0<=l)(h1:l<=1048576)(m1:n1<=maxLen)(m2:n2<=maxLen)(m3:n3<=maxLen)(h:(n1:Int)+n2+n3<=l):
 qC 26 #[.agg (qV a1 n1 c1 a2 n2 c2 a3 n3 c3),qI l] w (qB w (qI (l-n1-n2-n3))):=by
 go_enter Tryz.func26,Tryz.ntmps26
 go_wp2_with fail
 refine (eE a1 n1 c1 l _ (by omega) (by omega) m1).mono ?_;rintro e w' ⟨rfl,rfl⟩;go_wp2_with fail
 refine (eE a2 n2 c2 _ _ (by omega) (by omega) m2).mono ?_;rintro e w' ⟨rfl,rfl⟩;go_wp2_with fail
 refine (eE a3 n3 c3 _ _ (by omega) (by omega) m3).mono ?_;rintro e w' ⟨rfl,rfl⟩;go_wp2;go_ret;exact ⟨rfl,bal⟩
theorem aJg (a1 a2 a3:qO)(n1 c1 n2 c2 n3 c3:Nat)(l:Int)(w:qw)(h0:0<=l)(h1:l<=1048576)(m1:n1<=maxLen)(m2:n2<=maxLen)(m3:n3<=maxLen)(h:l<(n1:Int)+n2+n3):
 qC 26 #[.agg (qV a1 n1 c1 a2 n2 c2 a3 n3 c3),qI l] w (qB w (qI (-1))):=by
 by_cases k1:l<(n1:Int)
 .go_enter Tryz.func26,Tryz.ntmps26
  go_wp2_with fail
  refine (mK a1 n1 c1 l _ (by omega) (by omega) m1 (by omega)).mono ?_;rintro e w' ⟨rfl,rfl⟩;go_wp2;go_ret;exact ⟨rfl,bal⟩
 .by_cases k2:l<(n1:Int)+n2
  .go_enter Tryz.func26,Tryz.ntmps26
   go_wp2_with fail
   refine (eE a1 n1 c1 l _ (by omega) (by omega) m1).mono ?_;rintro e w' ⟨rfl,rfl⟩;go_wp2_with fail
   refine (mK a2 n2 c2 _ _ (by omega) (by omega) m2 (by omega)).mono ?_;rintro e w' ⟨rfl,rfl⟩;go_wp2;go_ret;exact ⟨rfl,bal⟩
  .go_enter Tryz.func26,Tryz.ntmps26
   go_wp2_with fail
   refine (eE a1 n1 c1 l _ (by omega) (by omega) m1).mono ?_;rintro e w' ⟨rfl,rfl⟩;go_wp2_with fail
   refine (eE a2 n2 c2 _ _ (by omega) (by omega) m2).mono ?_;rintro e w' ⟨rfl,rfl⟩;go_wp2_with fail
   refine (mK a3 n3 c3 _ _ (by omega) (by omega) m3 (by omega)).mono ?_;rintro e w' ⟨rfl,rfl⟩;go_wp2;go_ret;exact ⟨rfl,bal⟩
theorem aHu (a1 a2 a3:qO)(n1 c1 n2 c2 n3 c3:Nat)(x1 x2 x3:qi)(w:qw)(h1:BS w a1 n1 c1 x1)(h2:BS w a2 n2 c2 x2)(h3:BS w a3 n3 c3 x3)(hn:n1+n2+n3<=1048576):
 qC 35 #[.agg (qV a1 n1 c1 a2 n2 c2 a3 n3 c3)] w fun e w'=>∃ g1 g2 g3,e=.returned (.agg (qV (qP g1) n1 n1 (qP g2) n2 n2 (qP g3) n3 n3)) /\
  w.heap.size<=g1/\g1<g2/\g2<g3/\Row8 w' g1 x1/\Row8 w' g2 x2/\Row8 w' g3 x3/\qY w w':=by
 go_enter Tryz.func35,Tryz.ntmps35
 go_wp2_with fail
 have hB0:qY w (((w.alloc (.cells (qV a1 n1 c1 a2 n2 c2 a3 n3 c3) 30)).alloc (.cells (qV none 0 0 none 0 0 none 0 0) 39)).alloc (.cells (qV none 0 0 none 0 0 none 0 0) 39)):=
  bal.alloc (by simp) _ |>.alloc (by simp;omega) _
 refine (gL a1 n1 c1 x1 _ (h1.bw hB0)).mono ?_;rintro e w1 ⟨rfl,hr1,hb1⟩;have kb1:=(((Blk.new w (qV a1 n1 c1 a2 n2 c2 a3 n3 c3) 30).alloc (.cells (qV none 0 0 none 0 0 none 0 0) 39)).alloc (.cells (qV none 0 0 none 0 0 none 0 0) 39)).bw hb1;have kr1:=((Blk.new (w.alloc (.cells (qV a1 n1 c1 a2 n2 c2 a3 n3 c3) 30)) (qV none 0 0 none 0 0 none 0 0) 39).alloc (.cells (qV none 0 0 none 0 0 none 0 0) 39)).bw hb1;have ko1:=(Blk.new ((w.alloc (.cells (qV a1 n1 c1 a2 n2 c2 a3 n3 c3) 30)).alloc (.cells (qV none 0 0 none 0 0 none 0 0) 39)) (qV none 0 0 none 0 0 none 0 0) 39).bw hb1;have hB1:=hB0.trans (hb1.mono (by simp;omega));clear hb1 hB0;try unfold qY at *
 simp only [xF] at kb1 kr1 ko1 hr1;obtain ⟨q1,q2,q3,q4⟩:=kb1.three;obtain ⟨q5,q6,q7,q8⟩:=ko1.three;go_wp2_with fail
 have hB1':=hB1.setCell (p:=(qR (w.heap.size+1+1) 0)) (by simp;omega) (qS (some (qR (w.heap.size+1+1+1) 0)) n1 n1);refine (gL a2 n2 c2 x2 _ (h2.bw hB1')).mono ?_;rintro e w2 ⟨rfl,hr2,hb2⟩;have kb2:=(kb1.other (qR (w.heap.size+1+1) 0) (qS (some (qR (w.heap.size+1+1+1) 0)) n1 n1) (by dsimp only;omega)).bw hb2;have kr2:=(kr1.other (qR (w.heap.size+1+1) 0) (qS (some (qR (w.heap.size+1+1+1) 0)) n1 n1) (by dsimp only;omega)).bw hb2;have ko2:=(ko1.set 0 (qS (some (qR (w.heap.size+1+1+1) 0)) n1 n1)).bw hb2;have hrx:=hr1;have hr1:=(hr1.other (qR (w.heap.size+1+1) 0) (qS (some (qR (w.heap.size+1+1+1) 0)) n1 n1) (by dsimp only;omega)).bw hb2;try unfold qY at *
 rw [aL] at hr2 hb2;have hz0:=(hrx.lt);have hz1:=(Row8.lt hr1);have hz01:w1.heap.size<w2.heap.size:=hr2.lt;have hs1:=ko1.lt;have hB2:=hB1'.trans (hb2.mono (by omega));clear hb2 hB1 hB1' q1 q2 q3 q4 q5 q6 q7 q8 kb1 kr1 ko1;simp only [List.setIfInBounds_toArray,List.set_cons_zero] at ko2;obtain ⟨q1,q2,q3,q4⟩:=kb2.three;obtain ⟨q5,q6,q7,q8⟩:=ko2.three;go_wp2_with fail
 have hB2':=hB2.setCell (p:=(qR (w.heap.size+1+1) 1)) (by simp;omega) (qS (qP w1.heap.size) n2 n2);refine (gL a3 n3 c3 x3 _ (h3.bw hB2')).mono ?_;rintro e w3 ⟨rfl,hr3,hb3⟩;have kr3:=(kr2.other (qR (w.heap.size+1+1) 1) (qS (qP w1.heap.size) n2 n2) (by dsimp only;omega)).bw hb3;have ko3:=(ko2.set 1 (qS (qP w1.heap.size) n2 n2)).bw hb3;have hr1:=(hr1.other (qR (w.heap.size+1+1) 1) (qS (qP w1.heap.size) n2 n2) (by dsimp only;omega)).bw hb3;have hr2:=(hr2.other (qR (w.heap.size+1+1) 1) (qS (qP w1.heap.size) n2 n2) (by dsimp only;omega)).bw hb3;try unfold qY at *
 rw [aL] at hr3 hb3;have hz2:=hr3.lt;have hs2:=hb3.size;try unfold qY at *
 rw [aL] at hs2;have hB3:=hB2'.trans (hb3.mono (by omega));clear hb3 hB2 hB2' q1 q2 q3 q4 q5 q6 q7 q8 kb2 kr2 ko2;simp only [yA,yB,yC] at ko3;obtain ⟨q5,q6,q7,q8⟩:=ko3.three;obtain ⟨q1,q2,q3,q4⟩:=kr3.three;go_wp2;have hs3:=hr1.lt
 refine bodyPost_ret (v:=.agg (qV (some (qR (w.heap.size+1+1+1) 0)) n1 n1 (qP w1.heap.size) n2 n2 (qP w2.heap.size) n3 n3))
  (by simp [results,Tryz.results35,go_sem,q1,q2,q3]) rfl ⟨w.heap.size+1+1+1,w1.heap.size,w2.heap.size,rfl,by omega,hz0,hz01,?_,?_,?_,?_⟩
 .exact (((hr1.other _ _ (by dsimp only;omega)).other _ _ (by dsimp only;omega)).other _ _ (by dsimp only;omega)).other _ _ (by dsimp only;omega)
 .exact (((hr2.other _ _ (by dsimp only;omega)).other _ _ (by dsimp only;omega)).other _ _ (by dsimp only;omega)).other _ _ (by dsimp only;omega)
 .exact (((hr3.other _ _ (by dsimp only;omega)).other _ _ (by dsimp only;omega)).other _ _ (by dsimp only;omega)).other _ _ (by dsimp only;omega)
 .exact (((hB3.setCell (by dsimp only;omega) _).setCell (by dsimp only;omega) _).setCell (by dsimp only;omega) _).setCell (by dsimp only;omega) _
theorem aI3 (a1 a2 a3 b1 b2 b3:qO)(n1 c1 n2 c2 n3 c3 m1 d1 m2 d2 m3 d3:Nat)(x1 x2 x3 y1 y2 y3:qi)(w:qw)(h1:BS w a1 n1 c1 x1)(h2:BS w a2 n2 c2 x2)(h3:BS w a3 n3 c3 x3)
 (k1:BS w b1 m1 d1 y1) (k2:BS w b2 m2 d2 y2) (k3:BS w b3 m3 d3 y3):
 qC 45 #[.agg (qV a1 n1 c1 a2 n2 c2 a3 n3 c3),.agg (qV b1 m1 d1 b2 m2 d2 b3 m3 d3)] w fun e w'=>e=.returned (.bool (decide (x1=y1)&&(decide (x2=y2)&&decide (x3=y3))))/\qY w w':=by
 have hB0:qY w ((w.alloc (.cells (qV a1 n1 c1 a2 n2 c2 a3 n3 c3) 39)).alloc (.cells (qV b1 m1 d1 b2 m2 d2 b3 m3 d3) 39)):=
  bal.alloc (by simp) _
 go_enter Tryz.func45,Tryz.ntmps45
 go_wp2_with fail
 refine (gU a1 b1 n1 c1 m1 d1 x1 y1 _ (h1.bw hB0) (k1.bw hB0)).mono ?_;rintro e w1 ⟨rfl,hb1⟩;have hB1:=hB0.trans (hb1.mono (by simp;omega));have u1:=((Blk.new w (qV a1 n1 c1 a2 n2 c2 a3 n3 c3) 39).alloc (.cells (qV b1 m1 d1 b2 m2 d2 b3 m3 d3) 39)).bw hb1;have v1:=(Blk.new (w.alloc (.cells (qV a1 n1 c1 a2 n2 c2 a3 n3 c3) 39)) (qV b1 m1 d1 b2 m2 d2 b3 m3 d3) 39).bw hb1;try unfold qY at *
 simp only [xF] at v1;clear hb1;by_cases e1:x1=y1
 .simp only [xR e1];obtain ⟨q1,q2,q3,q4⟩:=u1.three;obtain ⟨q5,q6,q7,q8⟩:=v1.three;have E1:=zh e1;clear e1;go_wp2_with fail
  refine (gU a2 b2 n2 c2 m2 d2 x2 y2 _ (h2.bw hB1) (k2.bw hB1)).mono ?_;rintro e w2 ⟨rfl,hb2⟩;have hB2:=hB1.trans (hb2.mono hB1.size);have u2:=u1.bw hb2;have v2:=v1.bw hb2;clear hb2 q1 q2 q3 q4 q5 q6 q7 q8 u1 v1;by_cases e2:x2=y2
  .simp only [xR e2];obtain ⟨q1,q2,q3,q4⟩:=u2.three;obtain ⟨q5,q6,q7,q8⟩:=v2.three;have E2:=zh e2;clear e2;go_wp2_with fail
   refine (gU a3 b3 n3 c3 m3 d3 x3 y3 _ (h3.bw hB2) (k3.bw hB2)).mono ?_;rintro e w3 ⟨rfl,hb3⟩;have hB3:=hB2.trans (hb3.mono hB2.size);clear hb3 q1 q2 q3 q4 q5 q6 q7 q8 u2 v2;by_cases e3:x3=y3
   .simp only [xR e3];have E3:=zh e3;clear e3;go_wp2;go_ret;exact ⟨aA (by simp [oE E1,oE E2,oE E3]),hB3⟩
   .simp only [xS e3];have E3:=zh e3;clear e3;go_wp2;go_ret;exact ⟨aA (by simp [oE E3]),hB3⟩
  .simp only [xS e2];have E2:=zh e2;clear e2;go_wp2;go_ret;exact ⟨aA (by simp [oE E2]),hB2⟩
 .simp only [xS e1];have E1:=zh e1;clear e1;go_wp2;go_ret;exact ⟨aA (by simp [oE E1]),hB1⟩
theorem aFr (a1 a2 a3 b1 b2 b3:qO)(n1 c1 n2 c2 n3 c3 m1 d1 m2 d2 m3 d3:Nat)(x1 x2 x3:qi)(w:qw)(h1:BS w a1 n1 c1 x1)(h2:BS w a2 n2 c2 x2)(h3:BS w a3 n3 c3 x3)
 (k1:BS w b1 m1 d1 x1) (k2:BS w b2 m2 d2 x2) (k3:BS w b3 m3 d3 x3):
 qC 45 #[.agg (qV a1 n1 c1 a2 n2 c2 a3 n3 c3),.agg (qV b1 m1 d1 b2 m2 d2 b3 m3 d3)] w fun e w'=>e=.returned (.bool true)/\qY w w':=
 (aI3 a1 a2 a3 b1 b2 b3 n1 c1 n2 c2 n3 c3 m1 d1 m2 d2 m3 d3 x1 x2 x3 x1 x2 x3 w h1 h2 h3 k1 k2 k3).mono fun e w' h=>⟨by rw [h.1];simp,h.2⟩
theorem uH {α:Type}(f:α -> List Value)(sz:Nat)(hf:∀ x,(f x).length=sz):∀ xs:List α,(xs.flatMap f).length=xs.length*sz
 | []=>by simp
 | x::xs=>by simp only [xT,xI,List.length_cons,uH f sz hf xs,hf x];rw [Nat.add_mul];omega
theorem uI {α:Type}(f:α -> List Value)(sz:Nat)(hf:∀ x,(f x).length=sz)(z:α):∀ (xs:List α) (i j:Nat),i<xs.length->j<sz->(xs.flatMap f)[i*sz+j]?=(f (xs.getD i z))[j]?
 | [],i,j,h,_=>by simp at h
 | x::xs,0,j,h,hj=>by simp [List.getElem?_append_left (show j<(f x).length by rw [hf];exact hj)]
 | x::xs,i+1,j,h,hj=>by
   have ih:=uI f sz hf z xs i j (by simpa using h) hj;have e:(i+1)*sz+j=(f x).length+(i*sz+j):=by rw [hf,Nat.add_mul];omega
   rw [xT,e,List.getElem?_append_right (by omega),Nat.add_sub_cancel_left,ih];simp
theorem aHv {α:Type}(f:α -> List Value)(sz:Nat)(hf:∀ x,(f x).length=sz)(z:α){xs:List α}(h:cs.size=xs.length*sz)(hs:0<sz)(hc:∀ i,i<xs.length->∀ j,j<sz->cs[i*sz+j]?=(f (xs.getD i z))[j]?):cs.toList.take (xs.length*sz)=xs.flatMap f:=by
 apply List.ext_getElem?;intro k;by_cases hk:k<xs.length*sz
 .have e:k=k/sz*sz+k%sz:=by rw [Nat.mul_comm];exact (Nat.div_add_mod k sz).symm
  have h1:k/sz<xs.length:=by rw [Nat.div_lt_iff_lt_mul hs];exact hk
  have h2:k%sz<sz:=Nat.mod_lt _ hs;rw [List.getElem?_take,if_pos hk,Array.getElem?_toList];rw [e,hc _ h1 _ h2,uI f sz hf z xs _ _ h1 h2]
 .rw [xO (by simp;omega),xO (by rw [uH f sz hf];omega)]
def RowF {α:Type}(t:TypeId)(sz:Nat)(f:α->List Value)(w:qw)(g n:Nat)(F:Nat->α):Prop:=
 ∃ cs,Blk w g cs t/\cs.size=n*sz/\∀ i,i<n->∀ j,j<sz->cs[i*sz+j]?=(f (F i))[j]?
section
variable {α:Type}{t:TypeId}{sz:Nat}{f:α->List Value}{w w':qw}{g n:Nat}{F:Nat->α}
theorem RowF.bw (h:RowF t sz f w g n F)(hb:qY w w'):RowF t sz f w' g n F:=by
 obtain ⟨cs,h1,h2,h3⟩:=h;exact ⟨cs,h1.bw hb,h2,h3⟩
theorem RowF.blk (h:RowF t sz f w g n F):∃ cs,Blk w g cs t:=by obtain ⟨cs,h1,_⟩:=h;exact ⟨cs,h1⟩
theorem RowF.cell (h:RowF t sz f w g n F)(hf:∀ x,(f x).length=sz)(i j:Nat)(hi:i<n)(hj:j<sz)(v:Value)(hv:(f (F i))[j]?=some v):w.cell? (qR g (i*sz+j))=some v:=by
 obtain ⟨cs,h1,h2,h3⟩:=h;rw [h1.cell,h3 i hi j hj,hv]
theorem RowF.og (h:RowF t sz f w g n F)(hf:∀ x,(f x).length=sz)(hs:0<sz)(hg:base<=g)(hn:n<=maxLen){xs:List α}(hl:xs.length=n)(z:α)(he:∀ i,i<n->F i=xs.getD i z):OG t sz f w base (qS (qP g) n n) xs:=by
 obtain ⟨cs,h1,h2,h3⟩:=h;subst hl;refine ⟨uH f sz hf xs,.inr ⟨g,xs.length,cs,rfl,hg,h1,aN,hn,h2,aHv f sz hf z h2 hs (fun i hi j hj=>?_)⟩⟩;rw [h3 i hi j hj,he i hi]
theorem yM (z0:α)(v:Value)(hv:v.cells.toList=f z0)(hs:sz=v.cells.size)(h:w.ownsRow base t sz (qS (qP g) n n) n (madeCells v.cells (n*sz)).toList):RowF t sz f w g n (fun _=>z0):=by
 obtain ⟨hl,h|⟨g',cap,cur,hv',hb,hh,h1,h2,h3,h4⟩⟩:=h
 .simp at h
 .simp at hv';obtain ⟨rfl,rfl⟩:=hv'
  have e:cur.toList=(madeCells v.cells (n*sz)).toList:=by
   rw [<- h4,xG (by simp [h3])]
  have e2:cur=madeCells v.cells (n*sz):=Array.toList_inj.1 e;refine ⟨cur,hh,h3,fun i hi j hj=>?_⟩
  have hlt:i*sz+j<n*sz:=by
   have:(i+1)*sz<=n*sz:=Nat.mul_le_mul_right _ (by omega);rw [Nat.add_mul] at this;omega
  have hm:(i*sz+j)%v.cells.size=j:=by rw [<- hs,Nat.mul_comm,Nat.mul_add_mod];exact Nat.mod_eq_of_lt hj
  rw [e2,<- hv];simp [madeCells,hlt,hm,show j<v.cells.size by omega]
theorem aHi {i:Nat}(h:i<cs.size):(cs.setIfInBounds i v)[i]?=some v:=by simp [h]
theorem RowF.set4 (h:RowF t 4 f w g n F)(m:Nat)(hm:m<n)(x:α)(a b c d:Value)(hx:f x=[a,b,c,d]):RowF t 4 f ((((w.setCell (qR g (m*4)) a).setCell (qR g (m*4+1)) b).setCell (qR g (m*4+2)) c).setCell (qR g (m*4+3)) d) g n (fun i=>if i=m then x else F i):=by
 obtain ⟨cs,h1,h2,h3⟩:=h;refine ⟨_,(((h1.set (m*4) a).set (m*4+1) b).set (m*4+2) c).set (m*4+3) d,by simp [h2],fun i hi j hj=>?_⟩;by_cases e:i=m
 .subst e;simp only [if_true,hx]
  match j,hj with
  | 0,_=>exact cN (cN (cN (aHi (by rw [h2];omega))))
  | 1,_=>exact cN (cN (aHi (by simp [h2];omega)))
  | 2,_=>exact cN (aHi (by simp [h2];omega))
  | 3,_=>exact aHi (by simp [h2];omega)
 .simp only [e,if_false];rw [Array.getElem?_setIfInBounds_ne (by omega),Array.getElem?_setIfInBounds_ne (by omega),Array.getElem?_setIfInBounds_ne (by omega),Array.getElem?_setIfInBounds_ne (by omega)];exact h3 i hi j hj
end
section
variable {α β:Type}{th:TypeId}{hs:Nat}{hc:α->List Value}{tr:TypeId}{rs:Nat}{rc:β->List Value}{sv:α->Value}{ct:α->List β}{w w':qw}{base g n:Nat}{f:Nat->α}
end
theorem aOj {α:Type}{f:α->List Value}(hf:∀ x,(f x).length=4):∀ (L:List α) (i:Nat) (x:α),L[i]?=some x->∀ j,j<4->(L.flatMap f)[i*4+j]?=(f x)[j]?
 | [],i,x,h,j,hj=>by simp at h
 | y::L,0,x,h,j,hj=>by
   simp at h;subst h;rw [xT,List.getElem?_append_left (by rw [hf];omega)];simp
 | y::L,i+1,x,h,j,hj=>by
   rw [xT,List.getElem?_append_right (by rw [hf];omega)];have e:(i+1)*4+j-(f y).length=i*4+j:=by rw [hf];omega
   rw [e];exact aOj hf L i x (by simpa using h) j hj
theorem aJ8 {α:Type}{f:α->List Value}(hf:∀ x,(f x).length=4)(x:α)(v0 v1 v2 v3:Value)(hx:f x=[v0,v1,v2,v3]):∀ (xs:List α) (i:Nat),i<xs.length->((((xs.flatMap f).set (i*4) v0).set (i*4+1) v1).set (i*4+2) v2).set (i*4+3) v3=(xs.set i x).flatMap f
 | [],i,h=>by simp at h
 | y::ys,0,h=>by
   match e:f y,hf y with
   | [a,b,c,d],_=>simp [e,hx]
 | y::ys,i+1,h=>by
   have ih:=aJ8 hf x v0 v1 v2 v3 hx ys i (by simpa using h)
   match e:f y,hf y with
   | [a,b,c,d],_=>
     rw [show (i+1)*4=i*4+1+1+1+1 by omega];simp only [xT,e,List.cons_append,List.nil_append,List.set_cons_succ];rw [<- ih]
theorem aA4 {α:Type}{f:α->List Value}(hf:∀ x,(f x).length=4){t:TypeId}{w:qw}{c:Nat}{xs:List α}(h:OG t 4 f w base (qS (qP g) n c) xs)(i:Nat)(hi:i<n)(x:α)(v0 v1 v2 v3:Value)(hx:f x=[v0,v1,v2,v3]):OG t 4 f ((((w.setCell (qR g (i*4)) v0).setCell (qR g (i*4+1)) v1).setCell (qR g (i*4+2)) v2).setCell (qR g (i*4+3)) v3) base (qS (qP g) n c) (xs.set i x):=by
 obtain ⟨hl,⟨h0,_⟩|⟨g',cap',cur,hv,hg,hh,h1,h2,h3,h4⟩⟩:=h
 .simp at h0
 .simp at hv;obtain ⟨rfl,rfl,rfl⟩:=hv;refine ⟨?_,.inr ⟨g,c,(((cur.setIfInBounds (i*4) v0).setIfInBounds (i*4+1) v1).setIfInBounds (i*4+2) v2).setIfInBounds (i*4+3) v3,by simp,hg,Blk.set (Blk.set (Blk.set (Blk.set (w:=w) hh _ _) _ _) _ _) _ _,by simpa using h1,h2,by simpa using h3,?_⟩⟩
  .rw [<- aJ8 hf x v0 v1 v2 v3 hx xs i hi];simpa using hl
  .rw [List.length_set,xW,xW,xW,xW,List.take_set,List.take_set,List.take_set,List.take_set,h4];exact aJ8 hf x v0 v1 v2 v3 hx xs i hi
theorem oL {α:Type}{f:α->List Value}(hf:∀ x,(f x).length=4)(z:α){t:TypeId}{w:qw}{c:Nat}{xs:List α}(h:OG t 4 f w base (qS a n c) xs)(m:Nat)(hm:m<n):∃ g,a=some (qR g 0)/\∀ j,j<4->∀ u,(f (xs.getD m z))[j]?=some u->w.cell? (qR g (m*4+j))=some u:=by
 obtain ⟨hl,_,_,h4⟩:=aS h;obtain ⟨g,hg,hc⟩:=h4 (by omega);have hx:xs[m]?=some (xs.getD m z):=by simp [xB,show m<xs.length by omega]
 exact ⟨g,hg,fun j hj u hu=>hc _ _ (by rw [aOj hf xs m _ hx j hj];exact hu)⟩
def lZ {α:Type}(mk:Nat->α)(n:Nat):List α:=(List.range n).map mk
def qF {α:Type}(z:α)(zs:List α)(mk:Nat->α)(m:Nat):List α:=(List.range zs.length).map fun i=>if i<m then mk i else zs.getD i z
theorem aGw {α:Type}(z:α)(mk:Nat->α)(n m:Nat)(h:m<n):(lZ mk n).getD m z=mk m:=by simp [lZ,xB,h]
theorem yS {α:Type}(z:α)(zs:List α)(mk:Nat->α):qF z zs mk 0=zs:=by
 apply List.ext_getElem
 .simp [qF]
 .intro i h1 h2;simp [qF,h2]
theorem aC8 {α:Type}(z:α)(zs:List α)(mk:Nat->α):qF z zs mk zs.length=lZ mk zs.length:=by
 apply List.ext_getElem
 .simp [qF,lZ]
 .intro i h1 h2;simp [lZ] at h2;simp [qF,lZ,h2]
theorem aC7 {α:Type}(z:α)(zs:List α)(mk:Nat->α)(m:Nat)(h:m<zs.length):(qF z zs mk m).set m (mk m)=qF z zs mk (m+1):=by
 apply List.ext_getElem
 .simp [qF]
 .intro i h1 h2;simp only [qF,List.getElem_set,List.getElem_map,List.getElem_range];by_cases hik:m=i
  .subst hik;simp
  .by_cases h3:i<m
   .simp [hik,h3,show i<m+1 by omega]
   .simp [hik,h3,show ¬ i<m+1 by omega]
theorem aKq {nm:ByteArray}{ta:qO}{tn tc:Nat}{tz:qi}{ba:qO}{bn bc:Nat}{da:qO}{dn dc:Nat}{dz:qi}{bss:Int}{ra:qO}{rn rc:Nat}{rz:qi}{ia:qO}{im ic:Nat}{ss:List ByteArray}{ea:qO}{en ec:Nat}{es:List Ex}{w:qw}(h:MD w nm ta tn tc tz ba bn bc bl da dn dc dz bss ra rn rc rz ia im ic ss ea en ec es):MT w nm ta tn tc tz ba bn bc bl da dn dc dz bss ra rn rc rz ia im ic ss ea en ec es where
 n:=by have:=h.n;unfold maxLen;omega
 t:=h.t
 b:=h.b
 d:=h.d
 s:=h.s
 r:=h.r
 i:=by
  obtain ⟨h1,h2,h3,h4,h5⟩:=h.i;refine ⟨h1,h2,fun i=>?_,h4,h5⟩;by_cases hi:i<ss.length
  .have:=h3 (ss.getD i zS) (by simp [xB,hi]);unfold maxLen;omega
  .rw [xB,xO (by omega)];decide
 e:=by
  obtain ⟨h1,h2,h3,h4,h5⟩:=h.e;refine ⟨h1,h2,fun i=>?_,h4,h5⟩;by_cases hi:i<es.length
  .have:=h3 (es.getD i zE) (by simp [xB,hi]);unfold maxLen;omega
  .rw [xB,xO (by omega)];decide
def bkF (bl:List Bk)(i:Nat):qO×Nat×Nat:=((bl.getD i zB).1,(bl.getD i zB).2.1,(bl.getD i zB).2.2.1)
def bkX (bl:List Bk)(i:Nat):List Int:=(bl.getD i zB).2.2.2
theorem aKk {w:qw}{xs:qi}(h:OG 3 1 clI w base v xs)(hx:∀ z∈xs,wfi z):OI w base v xs:=by
 unfold OG at h;rw [aDq] at h;exact ⟨h,hx⟩
theorem aCg (bl:List Bk):∀ n,n<=bl.length->bL (bkF bl) n=((bl.take n).map fun B=>B.2.1).sum
 | 0,_=>by simp [bL]
 | n+1,h=>by
   show bL (bkF bl) n+(bkF bl n).2.1=_;have e:(bkF bl n).2.1=(bl[n]'(by omega)).2.1:=by simp [bkF,xB,show n<bl.length by omega]
   rw [aCg bl n (by omega),List.take_add_one,xN (by omega),e];simp only [Option.toList_some,List.map_append,List.map_cons,List.map_nil,List.sum_append,List.sum_cons,List.sum_nil,Nat.add_zero]
theorem aPr {w:qw}{c:Nat}(h:OBk w base (qS a bl.length c) bl)(hx:∀ B∈bl,∀ z∈B.2.2.2,wfi z):Rr w base a bl.length (bkF bl) (bkX bl):=by
 have hmem:∀ i,i<bl.length->bl.getD i zB∈bl:=fun i hi=>by simp [xB,hi]
 have rows:∀ i,i<bl.length->OI w base (.slice (bkF bl i).1 (bkF bl i).2.1 (bkF bl i).2.2) (bkX bl i):=fun i hi=>aKk (h.rows _ (hmem i hi)).2 (hx _ (hmem i hi));refine ⟨fun hn=>?_,rows,fun i j hi hj hij k hk=>?_⟩
 .obtain ⟨hl,⟨h0,h1⟩|⟨g,cap,cur,hv,hg,hh,h1,h2,h3,h4⟩⟩:=h.head
  .exact absurd h1 hn
  .simp at hv;refine ⟨g,cur,hv.1,fun ⟨i,hi,e⟩=>?_,hh,fun i hi=>?_⟩
   .obtain ⟨c1,k1⟩:=aD (rows i hi).1 e;exact absurd (aH k1 hh) (by decide)
   .have:(cur.toList.take (bl.length*1))[i]?=(bl.map fun B=>qS B.1 B.2.1 B.2.2.1)[i]?:=by rw [h4]
    rw [List.getElem?_take] at this;rw [if_pos (by omega)] at this;rw [<- Array.getElem?_toList,this];simp [bkF,xB,hi]
 .have hp:=List.pairwise_iff_getElem.1 h.apart;have gi:bl.getD i zB=bl[i]:=by simp [xB,hi]
  have gj:bl.getD j zB=bl[j]:=by simp [xB,hj]
  unfold bkF at hk ⊢;rw [gi] at hk;rw [gj];rcases Nat.lt_or_gt_of_ne hij with h'|h'
  .exact hp i j hi hj h' k hk
  .exact fun e=>hp j i hj hi h' k e hk
theorem ModO.m6G {W:qw}(h:ModO W base P a1 c1 a2 c2 bl a3 c3 a5 c5 a6 c6 a7 c7)(R:PmG P):
 M6 W base (qS a1 P.tz.length c1) (qS a3 P.dz.length c3) (qS a5 P.rz.length c5) (qS a6 P.ss.length c6) (qS a7 P.es.length c7) a2 bl.length (bkF bl) P.tz (bkX bl) P.dz P.rz P.ss P.es where
 t:=aKk h.t R.t.2
 b:=aPr h.b (fun B hB z hz=>by
  have hm:B.2.2.2∈P.bl:=by rw [<- h.bls];exact List.mem_map.2 ⟨B,hB,rfl⟩
  exact (R.b.2 _ hm).2 z hz)
 d:=h.d
 r:=aKk h.r R.r.2
 i:=h.i
 e:=h.e
 tr:=h.tr
 tb:=fun k hk ⟨i,hi,e⟩=>h.tb k hk _ (by simp [xB,hi]) e
 rb:=fun k hk ⟨i,hi,e⟩=>h.br k hk _ (by simp [xB,hi]) e
theorem ModO.sum {W:qw}(h:ModO W base P a1 c1 a2 c2 bl a3 c3 a5 c5 a6 c6 a7 c7):bL (bkF bl) bl.length=(P.bl.map List.length).sum/\bl.length=P.bl.length:=by
 refine ⟨?_,by rw [<- h.bls,xH]⟩;rw [aCg bl bl.length aN,List.take_length,<- h.bls,List.map_map];congr 1;apply List.map_congr_left;intro B hB;exact (h.b.rows B hB).1
theorem ModO.same {W W':qw}{base':Nat}{a1':qO}{c1':Nat}{a2':qO}{c2':Nat}{bl':List Bk}{a3':qO}{c3':Nat}{a5':qO}{c5':Nat}{a6':qO}{c6':Nat}{a7':qO}{c7':Nat}(h:ModO W base P a1 c1 a2 c2 bl a3 c3 a5 c5 a6 c6 a7 c7)(h':ModO W' base' P a1' c1' a2' c2' bl' a3' c3' a5' c5' a6' c6' a7' c7'):bl.length=bl'.length/\∀ i,i<bl.length->(bl'.getD i zB).2.1=(bl.getD i zB).2.1/\(bl'.getD i zB).2.2.2=(bl.getD i zB).2.2.2:=by
 have e:bl.map (fun B=>B.2.2.2)=bl'.map (fun B=>B.2.2.2):=h.bls.trans h'.bls.symm;have hl:bl.length=bl'.length:=by have:=congrArg List.length e;simpa using this
 refine ⟨hl,fun i hi=>?_⟩
 have e2:(bl.getD i zB).2.2.2=(bl'.getD i zB).2.2.2:=by
  have:=congrArg (fun l=>l[i]?) e;simp [hi,show i<bl'.length by omega] at this;simpa [xB,hi,show i<bl'.length by omega] using this
 have m1:bl.getD i zB∈bl:=by simp [xB,hi]
 have m2:bl'.getD i zB∈bl':=by simp [xB,show i<bl'.length by omega]
 exact ⟨by rw [(h'.b.rows _ m2).1,(h.b.rows _ m1).1,e2],e2.symm⟩
def sP (x:Nat):Nat:=x%2+x/2%2+x/4%2+x/8%2+x/16%2+x/32%2+x/64%2+x/128%2
set_option maxRecDepth 100000 in
theorem tA (x:Nat)(w:qw)(h1:x<256):
 qC 264 #[.int .u8 x] w fun e w'=>e=.returned (qI (sP x))/\w=w':=by
 go_enter Tryz.func264,Tryz.ntmps264
 go_wp2;go_ret;refine ⟨aI ?_,rfl⟩;clear w
 revert x
 decide +kernel
theorem aI5:∀ o:Fin 256,(255 ^^^ (255-o.val))=o.val:=by decide +kernel
theorem aLv (q:Nat)(h:q<256):bits BinOp.xor IntKind.u8 IntKind.u8.max (255-(q:Int))=(q:Int):=by
 have hm:IntKind.u8.max=255:=by decide
 rw [hm,u8_xor 255 (255-(q:Int)) (by omega) (by omega) (by omega) (by omega)];have:=aI5 ⟨q,h⟩;simp only at this;have e:(255:Int).toNat=255:=rfl;have e2:(255-(q:Int)).toNat=255-q:=by omega
 rw [e,e2,this]
theorem aM1:∀ q,q<256->sP q<=8:=by decide +kernel
theorem aDu (b l:Int)(q:Nat)(r x y:Bool)(w:qw)(h:q<256):
 qC 265 #[.agg #[qI b,qI l,qI (255-(q:Int)),.bool r,.bool x,.bool y]] w (qB w (.int .u8 q)):=by
 have hx:=zh (aLv q h);have h0:0<=255-(q:Int):=by omega
 have h1:255-(q:Int)<=255:=by omega
 generalize 255-(q:Int)=o at *;go_enter Tryz.func265,Tryz.ntmps265
 go_wp2;go_ret;exact ⟨aI hx.o,bal⟩
theorem Blk.six' {w:qw}{a b c d e f:Value}{t:TypeId}(h:Blk w g #[a,b,c,d,e,f] t):
 w.cell? (qR g 0)=some a/\w.cell? (qR g 1)=some b/\w.cell? (qR g 2)=some c/\w.cell? (qR g 3)=some d/\w.cell? (qR g 4)=some e/\w.cell? (qR g 5)=some f/\∀ i,w.frozen? (qR g i)=false:=
 ⟨by rw [h.cell];rfl,by rw [h.cell];rfl,by rw [h.cell];rfl,by rw [h.cell];rfl,by rw [h.cell];rfl,by rw [h.cell];rfl,fun i=>h.frozen i⟩
theorem nW {n:Int}(h0:-9223372036854775808<=n:=by omega)(h1:n<=9223372036854775807:=by omega):IntKind.i64.wrap n=n:=by
 simp only [IntKind.wrap,IntKind.bits,IntKind.signed];simp;omega
def cnt (l:Int)(q:Nat):Int:=(sP q:Int)*(2:Int)^(l-3).toNat
theorem eN (b l:Int)(q:Nat)(r x y:Bool)(w:qw)(h:q<256)(hl:5<=l)(hl':l<=14):
 qC 253 #[.agg #[qI b,qI l,qI (255-(q:Int)),.bool r,.bool x,.bool y]] w (qB w (qI (cnt l q))):=by
 have hp:=aM1 q h;have hpw:=sN (l-3).toNat;have hpw0:=pow_pos (l-3).toNat
 have hmul:(sP q:Int)*(2:Int)^(l-3).toNat<=8*1048576:=by
  have h1:(sP q:Int)*(2:Int)^(l-3).toNat<=8*(2:Int)^(l-3).toNat:=Int.mul_le_mul_of_nonneg_right (by omega) (by omega);omega
 have hmul0:0<=(sP q:Int)*(2:Int)^(l-3).toNat:=Int.mul_nonneg (by omega) (by omega);have hw2:IntKind.i64.wrap (l-3)=l-3:=nW;have HC:Zh (cnt l q=(sP q:Int)*(2:Int)^(l-3).toNat):=rfl;have kb:=Blk.new w #[qI b,qI l,qI (255-(q:Int)),.bool r,.bool x,.bool y] 214;have hB0:qY w (w.alloc (.cells #[qI b,qI l,qI (255-(q:Int)),.bool r,.bool x,.bool y] 214)):=bal;have HM:=zh (xA hmul0 hmul);clear hmul hmul0;have HP:=zh (tA q);go_enter Tryz.func253,Tryz.ntmps253
 go_wp2
 go_region_held3 (fun w'=>w'.cell? (qR w.heap.size 0)=some (qI b)/\w'.cell? (qR w.heap.size 1)=some (qI l)/\w'.cell? (qR w.heap.size 2)=some (qI (255-(q:Int)))/\w'.cell? (qR w.heap.size 3)=some (.bool r)/\w'.cell? (qR w.heap.size 4)=some (.bool x)/\w'.cell? (qR w.heap.size 5)=some (.bool y)) (go_keep)
  (first
    | (go_at_call 265;refine (aDu b l q r x y _ h).mono ?_;rintro e w1 ⟨rfl,hb1⟩;obtain ⟨q1,q2,q3,q4,q5,q6,q7⟩:=(Blk.bw (by exact kb) hb1).six')
    | (go_at_call 264;refine (HP.o _ h).mono ?_;rintro e w2 ⟨rfl,rfl⟩))
 go_wp2;go_ret;refine ⟨aI ?_,hB0.drew.trans (hb1.mono (by simp))⟩;rw [HC.o];exact nW (by have:=HM.o;omega) (by have:=HM.o;omega)
theorem aRg:∀ (q i:Nat),q<256->i<8->(q ||| 2^i)<256:=by
 intro q i hq hi;exact Nat.or_lt_two_pow (n:=8) hq (Nat.pow_lt_pow_right (by omega) hi)
theorem aJa (q i:Nat)(w:qw)(h:q<256)(hi:i<8):
 qC 267 #[.int .u8 q,qI i] w fun e w'=>e=.returned (.int .u8 ((q ||| 2^i:Nat):Int))/\w=w':=by
 go_enter Tryz.func267,Tryz.ntmps267
 go_wp2;go_ret;refine ⟨aI ?_,rfl⟩;have hp:(2:Nat)^i<256:=Nat.pow_lt_pow_right (by omega) hi
 have e:(2:Int)^i%256=((2^i:Nat):Int):=by
  have:((2^i:Nat):Int)=(2:Int)^i:=by simp
  have:=pow_pos i;omega
 rw [e];exact u8_or_nat q (2^i) h hp
def cm (l:Int)(q:Nat)(l':Int)(q':Nat):Bool:=decide (cnt l' q'<cnt l q\/(cnt l q=cnt l' q'/\l<l'))
theorem uU (b l b' l':Int)(q q':Nat)(w:qw)(h:q<256)(h':q'<256)(hl:5<=l)(hl2:l<=14)(hl':5<=l')(hl2':l'<=14):
 qC 262 #[.agg #[qI b,qI l,qI (255-(q:Int)),.bool false,.bool false,.bool false],.agg #[qI b',qI l',qI (255-(q':Int)),.bool false,.bool false,.bool false]] w (qB w (.bool (cm l q l' q'))):=by
 have ka:=(Blk.new w #[qI b,qI l,qI (255-(q:Int)),.bool false,.bool false,.bool false] 214).alloc (.cells #[qI b',qI l',qI (255-(q':Int)),.bool false,.bool false,.bool false] 214);have kb:=Blk.new (w.alloc (.cells #[qI b,qI l,qI (255-(q:Int)),.bool false,.bool false,.bool false] 214)) #[qI b',qI l',qI (255-(q':Int)),.bool false,.bool false,.bool false] 214;try unfold qY at *
 simp only [xF] at kb;have hB0:qY w ((w.alloc (.cells #[qI b,qI l,qI (255-(q:Int)),.bool false,.bool false,.bool false] 214)).alloc (.cells #[qI b',qI l',qI (255-(q':Int)),.bool false,.bool false,.bool false] 214)):=bal.alloc (by simp) _;have A1:=zh (eN b l q false false false);have A2:=zh (eN b' l' q' false false false);obtain ⟨o,ho⟩:=eqx (255-(q:Int));obtain ⟨o',ho'⟩:=eqx (255-(q':Int));have HM:Zh (cm l q l' q'=decide (cnt l' q'<cnt l q\/(cnt l q=cnt l' q'/\l<l'))):=rfl;rw [<- ho] at A1 ka kb hB0 ⊢;rw [<- ho'] at A2 ka kb hB0 ⊢;clear ho ho';generalize cnt l q=c1 at *;generalize cnt l' q'=c2 at *;go_enter Tryz.func262,Tryz.ntmps262
 go_wp2
 go_region_held3 (fun w'=>w'.cell? (qR w.heap.size 0)=some (qI b)/\w'.cell? (qR w.heap.size 1)=some (qI l)/\w'.cell? (qR w.heap.size 2)=some (qI o)/\w'.cell? (qR w.heap.size 3)=some (.bool false)/\w'.cell? (qR w.heap.size 4)=some (.bool false)/\w'.cell? (qR w.heap.size 5)=some (.bool false)/\w'.cell? (qR (w.heap.size+1) 0)=some (qI b')/\w'.cell? (qR (w.heap.size+1) 1)=some (qI l')/\w'.cell? (qR (w.heap.size+1) 2)=some (qI o')/\w'.cell? (qR (w.heap.size+1) 3)=some (.bool false)/\w'.cell? (qR (w.heap.size+1) 4)=some (.bool false)/\w'.cell? (qR (w.heap.size+1) 5)=some (.bool false)) (go_keep)
  (first
    | (go_at_call_of 253 (qI l);refine (A1.o _ h hl hl2).mono ?_;rintro e w1 ⟨rfl,hb1⟩;replace hb1:=dH hb1;obtain ⟨q1,q2,q3,q4,q5,q6,q7⟩:=(ka.bw hb1).six';obtain ⟨p1,p2,p3,p4,p5,p6,p7⟩:=(kb.bw hb1).six')
    | (go_at_call_of 253 (qI l');refine (A2.o _ h' hl' hl2').mono ?_;rintro e w2 ⟨rfl,hb2⟩;replace hb2:=hb1.trans (hb2.mono hb1.size);obtain ⟨q1,q2,q3,q4,q5,q6,q7⟩:=(ka.bw hb2).six';obtain ⟨p1,p2,p3,p4,p5,p6,p7⟩:=(kb.bw hb2).six'))
 have ka2:=ka.bw hb2;have kb2:=kb.bw hb2;have hB2:=hB0.trans (hb2.mono hB0.size);clear hb1 hb2 ka kb hB0;by_cases hc:c1=c2
 .subst hc;have hne:(c1 !=c1)=false:=by simp
  have HF:=zh (show decide (c1<c1\/(c1=c1/\l<l'))=decide (l<l') from by simp);obtain ⟨q1,q2,q3,q4,q5,q6,q7⟩:=ka2.six';obtain ⟨p1,p2,p3,p4,p5,p6,p7⟩:=kb2.six';go_wp2;go_ret;exact ⟨aA (by rw [HM.o,HF.o]),hB2⟩
 .have hne:(c1 !=c2)=true:=by simpa using hc
  have HF:=zh (show decide (c2<c1\/(c1=c2/\l<l'))=decide (c2<c1) from by simp [hc]);clear hc;obtain ⟨q1,q2,q3,q4,q5,q6,q7⟩:=ka2.six';obtain ⟨p1,p2,p3,p4,p5,p6,p7⟩:=kb2.six';go_wp2
  go_region_held3 (fun w'=>w'.cell? (qR w.heap.size 0)=some (qI b)/\w'.cell? (qR w.heap.size 1)=some (qI l)/\w'.cell? (qR w.heap.size 2)=some (qI o)/\w'.cell? (qR w.heap.size 3)=some (.bool false)/\w'.cell? (qR w.heap.size 4)=some (.bool false)/\w'.cell? (qR w.heap.size 5)=some (.bool false)/\w'.cell? (qR (w.heap.size+1) 0)=some (qI b')/\w'.cell? (qR (w.heap.size+1) 1)=some (qI l')/\w'.cell? (qR (w.heap.size+1) 2)=some (qI o')/\w'.cell? (qR (w.heap.size+1) 3)=some (.bool false)/\w'.cell? (qR (w.heap.size+1) 4)=some (.bool false)/\w'.cell? (qR (w.heap.size+1) 5)=some (.bool false)) (go_keep)
   (first
     | (go_at_call_of 253 (qI l);refine (A1.o _ h hl hl2).mono ?_;rintro e w3 ⟨rfl,hb1⟩;replace hb1:=dH hb1;obtain ⟨q1,q2,q3,q4,q5,q6,q7⟩:=(ka2.bw hb1).six';obtain ⟨p1,p2,p3,p4,p5,p6,p7⟩:=(kb2.bw hb1).six')
     | (go_at_call_of 253 (qI l');refine (A2.o _ h' hl' hl2').mono ?_;rintro e w4 ⟨rfl,hb2⟩;replace hb2:=hb1.trans (hb2.mono hb1.size);obtain ⟨q1,q2,q3,q4,q5,q6,q7⟩:=(ka2.bw hb2).six';obtain ⟨p1,p2,p3,p4,p5,p6,p7⟩:=(kb2.bw hb2).six'))
  have hB4:=hB2.trans (hb2.mono hB2.size);clear hb1 hb2 q1 q2 q3 q4 q5 q6 q7 p1 p2 p3 p4 p5 p6 p7;go_wp2;go_ret;exact ⟨aA (by rw [HM.o,HF.o]),hB4⟩
def Bst (w:qw)(B:Nat)(fd:Bool)(b l o:Int):Prop:=
 Blk w B #[.func (Fn.func 262) #[] #[],.bool fd,qI b,qI l,qI o,.bool false,.bool false,.bool false] 281
theorem Bst.cells {w:qw}{b l o:Int}(h:Bst w B fd b l o):
 w.cell? (qR B 0)=some (.func (Fn.func 262) #[] #[])/\w.cell? (qR B 1)=some (.bool fd)/\w.cell? (qR B 2)=some (qI b)/\w.cell? (qR B 3)=some (qI l)/\w.cell? (qR B 4)=some (qI o)/\w.cell? (qR B 5)=some (.bool false)/\w.cell? (qR B 6)=some (.bool false)/\w.cell? (qR B 7)=some (.bool false)/\∀ i,w.frozen? (qR B i)=false:=
 ⟨by rw [Blk.cell h];rfl,by rw [Blk.cell h];rfl,by rw [Blk.cell h];rfl,by rw [Blk.cell h];rfl,by rw [Blk.cell h];rfl,by rw [Blk.cell h];rfl,by rw [Blk.cell h];rfl,by rw [Blk.cell h];rfl,fun i=>Blk.frozen h i⟩
theorem aHt {S:Nat->Prop}{a W:qw}(h:Turn S a W)(n:Nat):Turn S a (W.drewN n):=⟨h.os,h.tape,h.output,h.size,h.block⟩
def aGf (W:qw)(B:Nat)(b l o:Int):World:=
 ((((((W.setCell (qR B 1) (.bool true)).setCell (qR B 2) (qI b)).setCell (qR B 3) (qI l)).setCell (qR B 4) (qI o)).setCell (qR B 5) (.bool false)).setCell (qR B 6) (.bool false)).setCell (qR B 7) (.bool false)
theorem yG {W:qw}{b' l' o':Int}(h:Bst W B fd b' l' o')(b l o:Int):Bst (aGf W B b l o) B true b l o:=by
 have:=((((((Blk.set h 1 (.bool true)).set 2 (qI b)).set 3 (qI l)).set 4 (qI o)).set 5 (.bool false)).set 6 (.bool false)).set 7 (.bool false);unfold Bst aGf;simpa using this
theorem sB (W:qw)(B:Nat)(b l o:Int):Turn (fun j=>j=B) W (aGf W B b l o):=by
 have T:∀ (X:qw) (i:Nat) (v:Value),Turn (fun j=>j=B) X (X.setCell (qR B i) v):=fun X i v=>⟨rfl,rfl,rfl,by rw [aL];exact aN,fun j hj hn=>heap_setCell_other _ _ _ _ hn⟩;unfold aGf;exact ((((((T _ _ _).trans (T _ _ _)).trans (T _ _ _)).trans (T _ _ _)).trans (T _ _ _)).trans (T _ _ _)).trans (T _ _ _)
theorem aIg (B:Nat)(b l o b' l' o':Int)(w:qw)(h:Bst w B false b' l' o'):
 qC 268 #[.pointer (qP B),.agg #[qI b,qI l,qI o,.bool false,.bool false,.bool false]] w fun e w'=>e=.returned (.tuple #[])/\Bst w' B true b l o/\Turn (fun j=>j=B) w w':=by
 have hlt:=Blk.lt h;obtain ⟨q1,q2,q3,q4,q5,q6,q7,q8,q9⟩:=h.cells;have HF:Zh (Bst (w.alloc (.cells #[qI b,qI l,qI o,.bool false,.bool false,.bool false] 214)) B false b' l' o'):=Blk.alloc h _;have HT:=zh (iW (S:=fun j=>j=B) w (.cells #[qI b,qI l,qI o,.bool false,.bool false,.bool false] 214));clear h;go_enter Tryz.func268,Tryz.ntmps268
 go_wp2
 go_quiet (fail)
 go_wp2
 go_end0
 exact ⟨rfl,yG (W:=(w.alloc (.cells #[qI b,qI l,qI o,.bool false,.bool false,.bool false] 214)).drewN _) HF.o b l o,(aHt HT.o _).trans (sB _ B b l o)⟩
def aQy (w:qw)(B:Nat)(t:Bool)(b l o b' l' o':Int):Prop:=Bst w B true (if t then b else b') (if t then l else l') (if t then o else o')
theorem aIh (B:Nat)(b l b' l':Int)(q q':Nat)(w:qw)(h:Bst w B true b' l' (255-(q':Int)))(hq:q<256)(hq':q'<256)(hl:5<=l)(hl2:l<=14)(hl':5<=l')(hl2':l'<=14):
 qC 268 #[.pointer (qP B),.agg #[qI b,qI l,qI (255-(q:Int)),.bool false,.bool false,.bool false]] w fun e w'=>e=.returned (.tuple #[])/\aQy w' B (cm l q l' q') b l (255-(q:Int)) b' l' (255-(q':Int))/\Turn (fun j=>j=B) w w':=by
 have hlt:=Blk.lt h;have C1:=zh (uU b l b' l' q q');have kb:=Blk.new w #[qI b,qI l,qI (255-(q:Int)),.bool false,.bool false,.bool false] 214;have hb:Bst (w.alloc (.cells #[qI b,qI l,qI (255-(q:Int)),.bool false,.bool false,.bool false] 214)) B true b' l' (255-(q':Int)):=Blk.alloc h _;have HT:=zh (iW (S:=fun j=>j=B) w (.cells #[qI b,qI l,qI (255-(q:Int)),.bool false,.bool false,.bool false] 214));obtain ⟨o,ho⟩:=eqx (255-(q:Int));obtain ⟨o',ho'⟩:=eqx (255-(q':Int));rw [<- ho] at C1 kb hb HT ⊢;rw [<- ho'] at C1 hb ⊢;clear ho ho' h;obtain ⟨q1,q2,q3,q4,q5,q6,q7,q8,q9⟩:=hb.cells;generalize cm l q l' q'=t at *;go_enter Tryz.func268,Tryz.ntmps268
 go_wp2
 go_region_held3 (fun w'=>w'.cell? (qR w.heap.size 0)=some (qI b)/\w'.cell? (qR w.heap.size 1)=some (qI l)/\w'.cell? (qR w.heap.size 2)=some (qI o)/\w'.cell? (qR w.heap.size 3)=some (.bool false)/\w'.cell? (qR w.heap.size 4)=some (.bool false)/\w'.cell? (qR w.heap.size 5)=some (.bool false)/\w'.cell? (qR B 0)=some (.func (Fn.func 262) #[] #[])/\w'.cell? (qR B 1)=some (.bool true)/\w'.cell? (qR B 2)=some (qI b')/\w'.cell? (qR B 3)=some (qI l')/\w'.cell? (qR B 4)=some (qI o')/\w'.cell? (qR B 5)=some (.bool false)/\w'.cell? (qR B 6)=some (.bool false)/\w'.cell? (qR B 7)=some (.bool false)) (go_keep)
  (first
    | (go_at_call 262;refine (C1.o _ hq hq' hl hl2 hl' hl2').mono ?_;rintro e w1 ⟨rfl,hb1⟩;replace hb1:=dH hb1;obtain ⟨p1,p2,p3,p4,p5,p6,p7⟩:=(kb.bw hb1).six';obtain ⟨q1,q2,q3,q4,q5,q6,q7,q8,q9⟩:=Bst.cells (show Bst w1 B true b' l' o' from Blk.bw hb hb1)))
 have hb':Bst w1 B true b' l' o':=Blk.bw hb hb1;have T1:=HT.o.trans (aJ (S:=fun j=>j=B) hb1);cases t
 .go_wp2
  go_end0
  exact ⟨rfl,hb',T1⟩
 .go_wp2
  go_end0
  exact ⟨rfl,yG hb' b l o,T1.trans (sB _ B b l o)⟩
def bM (i0 j:Nat):Nat:=2^(i0+j)-2^i0
theorem yK (i0:Nat):bM i0 0=0:=by simp [bM]
theorem aH2:∀ i0,i0<8->∀ j,j<8->i0+j<8->(bM i0 j ||| 2^(i0+j))=bM i0 (j+1):=by decide +kernel
theorem lQ:∀ i0,i0<8->∀ j,j<9->i0+j<=8->bM i0 j<256:=by decide +kernel
theorem aJz:∀ i0,i0<8->∀ j,j<9->i0+j<=8->sP (bM i0 j)=j:=by decide +kernel
theorem aH3:∀ i0,i0<8->∀ j,j<9->i0+j<=8->(bM i0 j=255 ↔ j=8):=by decide +kernel
abbrev CSt:=Option (Int×Int×Nat)
def mP:CSt->Int
 | none=>0
 | some (b,l,q)=>cnt l q
def aP7 (s:CSt)(L:Int):Prop:=∀ b l q,s=some (b,l,q)->5<=l/\l<L/\q<256/\0<cnt l q
def gV (w:qw)(B:Nat):CSt->Prop
 | none=>Bst w B false 0 0 0
 | some (b,l,q)=>Bst w B true b l (255-(q:Int))
def keep (s:CSt)(b L:Int)(q:Nat):CSt:=if mP s<cnt L q then some (b,L,q) else s
theorem nX (l:Int)(P:Int)(hP:(2:Int)^(l-3).toNat=P)(i0 j:Nat)(h0:i0<8)(h:i0+j<=8):cnt l (bM i0 j)=j*P:=by
 unfold cnt;rw [hP,aJz i0 h0 j (by omega) h]
theorem aEq (B:Nat)(b l:Int)(q:Nat)(w:qw)(h:gV w B none):
 qC 268 #[.pointer (qP B),.agg #[qI b,qI l,qI (255-(q:Int)),.bool false,.bool false,.bool false]] w fun e w'=>e=.returned (.tuple #[])/\gV w' B (some (b,l,q))/\Turn (fun j=>j=B) w w':=
 aIg B b l (255-(q:Int)) 0 0 0 w h
theorem tC (B:Nat)(b l b' l':Int)(q q':Nat)(w:qw)(h:gV w B (some (b',l',q')))(hq:q<256)(hq':q'<256)(hl:5<=l)(hl2:l<=14)(hl':5<=l')(hl2':l'<=14):
 qC 268 #[.pointer (qP B),.agg #[qI b,qI l,qI (255-(q:Int)),.bool false,.bool false,.bool false]] w fun e w'=>e=.returned (.tuple #[])/\gV w' B (if cm l q l' q' then some (b,l,q) else some (b',l',q'))/\Turn (fun j=>j=B) w w':=
 (aIh B b l b' l' q q' w h hq hq' hl hl2 hl' hl2').mono fun e w' he=>⟨he.1,by
   have:=he.2.1;cases hc:cm l q l' q'
   .rw [hc] at this;exact this
   .rw [hc] at this;exact this,he.2.2⟩
def stJ (s:CSt)(b l:Int)(i0 j:Nat):CSt:=if 8<=l\/j=8 then keep s b l (bM i0 j) else s
theorem aJk (s:CSt)(b l P:Int)(hP:(2:Int)^(l-3).toNat=P)(i0:Nat)(h0:i0<8)(hs:0<=mP s):stJ s b l i0 0=s:=by
 unfold stJ keep;rw [nX l P hP i0 0 h0 (by omega)];simp;omega
theorem aEp (B:Nat)(s:CSt)(b l P:Int)(hP:(2:Int)^(l-3).toNat=P)(hP0:0<P)(i0 j:Nat)(w:qw)(h0:i0<8)(hj:i0+j<8)(hl:5<=l)(hl2:l<=14)(hs:aP7 s l)(hs0:0<=mP s)(h8:8<=l\/j+1=8)(h:gV w B (stJ s b l i0 j)):
 qC 268 #[.pointer (qP B),.agg #[qI b,qI l,qI (255-(bM i0 (j+1):Int)),.bool false,.bool false,.bool false]] w fun e w'=>e=.returned (.tuple #[])/\gV w' B (stJ s b l i0 (j+1))/\Turn (fun j=>j=B) w w':=by
 have hq1:=lQ i0 h0 (j+1) (by omega) (by omega);have hc1:=nX l P hP i0 (j+1) h0 (by omega);have hc0:=nX l P hP i0 j h0 (by omega);have hmul:((j+1:Nat):Int)*P=(j:Int)*P+P:=by rw [Int.natCast_add,Int.add_mul];simp
 have hjP:0<=(j:Int)*P:=Int.mul_nonneg (by omega) (by omega);have e1:stJ s b l i0 (j+1)=keep s b l (bM i0 (j+1)):=by unfold stJ;rw [if_pos h8]
 rw [e1];by_cases hk:8<=l/\mP s<cnt l (bM i0 j)
 .have e0:stJ s b l i0 j=some (b,l,bM i0 j):=by unfold stJ keep;rw [if_pos (Or.inl hk.1),if_pos hk.2]
  rw [e0] at h;refine (tC B b l b l (bM i0 (j+1)) (bM i0 j) w h hq1 (lQ i0 h0 j (by omega) (by omega)) hl hl2 hl hl2).mono fun e w' he=>?_;have hcm:cm l (bM i0 (j+1)) l (bM i0 j)=true:=by unfold cm;rw [hc1,hc0,hmul];simp;omega
  have ek:keep s b l (bM i0 (j+1))=some (b,l,bM i0 (j+1)):=by unfold keep;rw [if_pos (by rw [hc1,hmul];rw [hc0] at hk;omega)]
  rw [hcm] at he;rw [ek];exact he
 .have e0:stJ s b l i0 j=s:=by
   unfold stJ;by_cases h8':8<=l
   .rw [if_pos (Or.inl h8')];unfold keep;rw [if_neg (fun e=>hk ⟨h8',e⟩)]
   .rw [if_neg (by omega)]
  rw [e0] at h
  match s,h,hs,hs0,hk with
  | none,h,_,_,_=>
    have ek:keep none b l (bM i0 (j+1))=some (b,l,bM i0 (j+1)):=by unfold keep;rw [if_pos (by rw [hc1,hmul];simp [mP];omega)]
    rw [ek];exact aEq B b l (bM i0 (j+1)) w h
  | some (b',l',q'),h,hs,hs0,hk=>
    obtain ⟨g1,g2,g3,g4⟩:=hs b' l' q' rfl;refine (tC B b l b' l' (bM i0 (j+1)) q' w h hq1 g3 hl hl2 g1 (by omega)).mono fun e w' he=>?_
    have hcm:cm l (bM i0 (j+1)) l' q'=decide (cnt l' q'<cnt l (bM i0 (j+1))):=by
     unfold cm;rw [xJ];simp;intro _ h;omega
    rw [hcm] at he;by_cases hlt:cnt l' q'<cnt l (bM i0 (j+1))
    .have ek:keep (some (b',l',q')) b l (bM i0 (j+1))=some (b,l,bM i0 (j+1)):=by
      show (if cnt l' q'<cnt l (bM i0 (j+1)) then some (b,l,bM i0 (j+1)) else some (b',l',q'))=_;rw [if_pos hlt]
     rw [ek];simp only [xR hlt,if_true] at he;exact he
    .have ek:keep (some (b',l',q')) b l (bM i0 (j+1))=some (b',l',q'):=by
      show (if cnt l' q'<cnt l (bM i0 (j+1)) then some (b,l,bM i0 (j+1)) else some (b',l',q'))=_;rw [if_neg hlt]
     rw [ek];simp only [xS hlt] at he;exact he
