import Derived.Below
import Derived.Orders
import Derived.Test.YtcimaholejajpaaGreatF04
set_option linter.all false
set_option maxHeartbeats 40000000
namespace Go.Proofs.YtcimaholejajpaaGreat
open Go.RowKit
set_option maxRecDepth 100000
variable {c d k s:Int}
theorem aFa (a:qO)(n cap:Nat)(ms:List Md)(s c k d:Int)(w:qw)(h:MSD w a n cap ms)(hn:n<=4)(hcf:cfo s c k d=true)(hv:fV (aF ms))(hi:kI (aF ms)):
 qC 44 #[qS a n cap,.agg (qW s c k d)] w fun e w'=>qY w w'/\∃ a0 c0 xs a2 c2 a5 c5 ts,e=.returned (.agg (mC (lay (aF ms) s c k) a0 c0 xs a2 c2 a5 c5 ts))/\LayO w' w.heap.size (lay (aF ms) s c k) a0 c0 xs a2 c2 a5 c5 ts:=by
 have N0:=aKa w s c k d (aF ms);have hl:=h.s.1;have hpl:(aF ms).length=n:=by rw [bQ,hl]
 have HH:=aT h;have HI:=aT hi;have HVD:=aT hv;obtain ⟨hs0,hs1,hc0,hc1,hk0,hk1,hk2,_⟩:=of_decide_eq_true hcf;have HN:=aT N0;clear h N0 hi hcf;go_enter Tryz.func44,Tryz.ntmps44
 go_wp2_with fail
 go_loopw [6,7] (fun x i wr=>∃ (m:Nat) (a0:qO) (c0:Nat) (xs:List PB) (a5:qO) (c5:Nat) (ts:List TB),m<=n/\i=qI m/\x=qI (Ra (aF ms) m)/\Lst w wr s c k d #[qS a0 m c0,qI 0,qS (some (qR (w.heap.size+3) 0)) 0 0,qI (Fl (aF ms) m),qI 0,qS a5 m c5]/\Lrw w wr (aF ms) m a0 c0 xs a5 c5 ts) (fun _ i _=>n-(intOf i).toNat)
 .exact ⟨0,_,_,[],_,_,[],xC _,rfl,rfl,HN.out.1,HN.out.2⟩
 .clear HN;obtain ⟨m,a0,c0,xs,a5,c5,ts,hm,rfl,rfl,S,R⟩:=hrel;generalize wr=wo at *;by_cases hlt:m<n
  .have hlt':(m:Int)<(n:Int):=by omega
   have H:=HH.out.bw S.be;obtain ⟨b,off,rfl,q0,q1,q2,q3,q4,q5,q6,q7⟩:=H.s.at m hlt;have hmd:=H.d m hlt;have hvm:=HVD.out m (by omega);obtain ⟨P,hP⟩:=eqx ((aF ms).getD m zP);have hPM:P=(ms.getD m zMd).pm:=hP.trans (cD (by omega));rw [<- hP] at hvm;have rT:=fB hvm;have rD:=hY hvm;have rF:=cN HVD.out m (by omega);have rR:=bP HVD.out m (by omega);obtain ⟨_,_,vt,vb,vd,vs0,vs1,vbk⟩:=bS hvm;have HFS:=aT (fun k hk=>cL hvm k hk);have eT:(ms.getD m zMd).tn=P.tz.length:=by rw [hPM];exact hmd.t.1.symm
   have eD:(ms.getD m zMd).dn=P.dz.length:=by rw [hPM];exact hmd.d.1.symm
   have eS:(ms.getD m zMd).bss=P.bss:=by rw [hPM];rfl
   have eB:(ms.getD m zMd).bn=P.bl.length:=by rw [hPM];show _=(List.map _ _).length;rw [xH];exact hmd.b.1.symm
   have HBK:=aT (show ∀ j,j<P.bl.length->((ms.getD m zMd).bl.getD j zB).2.1=(P.bl.getD j []).length from fun j hj=>by rw [hPM];exact (oW hmd j (by omega)).1);have HTG:=aT (xA hmd (show tN (aF ms) (ms.getD m zMd).pm by have:=HI.out m (by omega);rw [<- hP,hPM] at this;exact this));have HMW:=aT (fun (W:qw) (hb:qY w W)=>(HH.out.bw hb).d m hlt);have hok:bI (ms.getD m zMd).pm=0:=by rw [<- hPM];exact hvm
   have HOKM:=aT hok;have HPP:=aT hP;have HPM:=aT hPM;generalize ms.getD m zMd=M at *;rw [eT] at q1;rw [eB] at q2;rw [eD] at q3;rw [eS] at q4;have HE:=aT (xA eT (xA eD (xA eS eB)));have al:qY wo (wo.alloc (.cells (qM M.nm M.ta P.tz.length M.tc M.ba P.bl.length M.bc M.da P.dz.length M.dc P.bss M.ra M.rn M.rc M.ia M.im M.ic M.ea M.en M.ec) 53)):=brf.alloc aL _;have kM:=Blk.new wo (qM M.nm M.ta P.tz.length M.tc M.ba P.bl.length M.bc M.da P.dz.length M.dc P.bss M.ra M.rn M.rc M.ia M.im M.ic M.ea M.en M.ec) 53;have S1:=S.bw al;have TT:Turn (Lg w) wo (wo.alloc (.cells (qM M.nm M.ta P.tz.length M.tc M.ba P.bl.length M.bc M.da P.dz.length M.dc P.bss M.ra M.rn M.rc M.ia M.im M.ic M.ea M.en M.ec) 53)):=aJ al;have hgw:=S.sz;have HSR:=aT (xA S R);clear H hmd hP hPM hok eT eD eS eB al S R hvm;have p3:=S1.k5.e3;obtain ⟨g0,g1,g2,g3,g4,g5,g6,g7⟩:=kM.eight;have HS1:=aT (xA S1 (xA kM TT));clear S1 kM TT;have hwd:IntKind.i64.wrap ((P.dz.length:Int)+P.bss)=(P.dz.length:Int)+P.bss:=bC _ (by omega) (by omega);have hwr:IntKind.i64.wrap (65536+Ra (aF ms) m)=65536+Ra (aF ms) m:=bC _ (by omega) (by omega);go_wp2_with fail
   generalize hV1:wo.alloc (.cells (qM M.nm M.ta P.tz.length M.tc M.ba P.bl.length M.bc M.da P.dz.length M.dc P.bss M.ra M.rn M.rc M.ia M.im M.ic M.ea M.en M.ec) 53)=V1 at *;have HV1:=aT (show V1.heap.size=wo.heap.size+1 by rw [<- hV1];simp);clear hV1 q0 q1 q2 q3 q4 q5 q6 q7;apply aOw (F:=fun (gp gr:Nat) (W:qw)=>(Lst w W s c k d #[qS a0 m c0,qI 0,qS (some (qR (w.heap.size+3) 0)) 0 0,qI (Fl (aF ms) m),qI 0,qS a5 m c5]/\Blk W wo.heap.size (qM M.nm M.ta P.tz.length M.tc M.ba P.bl.length M.bc M.da P.dz.length M.dc P.bss M.ra M.rn M.rc M.ia M.im M.ic M.ea M.en M.ec) 53/\Turn (Lg w) wo W/\Blk W gp #[qI (Fl (aF ms) m),qS (qP gr) 0 0,qI (65536+Ra (aF ms) m),qI (rnd ((P.dz.length:Int)+P.bss))] 136/\OG 3 1 clI W (wo.heap.size+1) (qS (qP gr) 0 0) []/\wo.heap.size+1<=gp))
   .intro REST0;have REST:=aT REST0;clear REST0
    have HFA:=aT (show (fun (gp gr:Nat) (W:qw)=>(Lst w W s c k d #[qS a0 m c0,qI 0,qS (some (qR (w.heap.size+3) 0)) 0 0,qI (Fl (aF ms) m),qI 0,qS a5 m c5]/\Blk W wo.heap.size (qM M.nm M.ta P.tz.length M.tc M.ba P.bl.length M.bc M.da P.dz.length M.dc P.bss M.ra M.rn M.rc M.ia M.im M.ic M.ea M.en M.ec) 53/\Turn (Lg w) wo W/\Blk W gp #[qI (Fl (aF ms) m),qS (qP gr) 0 0,qI (65536+Ra (aF ms) m),qI (rnd ((P.dz.length:Int)+P.bss))] 136/\OG 3 1 clI W (wo.heap.size+1) (qS (qP gr) 0 0) []/\wo.heap.size+1<=gp)) (V1.heap.size+1) V1.heap.size (((V1.alloc (.cells #[] 3)).alloc (.cells #[qI (Fl (aF ms) m),qS (qP V1.heap.size) 0 0,qI (65536+Ra (aF ms) m),qI (rnd ((P.dz.length:Int)+P.bss))] 136)).drew) from by
     obtain ⟨S1,kM,TT⟩:=HS1.out;have hv1:=HV1.out;have b1:qY V1 (V1.alloc (.cells #[] 3)):=brf.alloc aL _;have o1:=cJ 3 1 clI V1 (wo.heap.size+1) (by omega);have s1:(V1.alloc (.cells #[] 3)).heap.size=V1.heap.size+1:=by simp
     generalize V1.alloc (.cells #[] 3)=V2 at *;have b2:qY V2 ((V2.alloc (.cells #[qI (Fl (aF ms) m),qS (qP V1.heap.size) 0 0,qI (65536+Ra (aF ms) m),qI (rnd ((P.dz.length:Int)+P.bss))] 136)).drew):=(brf.alloc aL _).drew;have k2:=Blk.new V2 #[qI (Fl (aF ms) m),qS (qP V1.heap.size) 0 0,qI (65536+Ra (aF ms) m),qI (rnd ((P.dz.length:Int)+P.bss))] 136;rw [s1] at k2;have b12:=b1.trans (b2.mono (by omega))
     exact ⟨S1.bw b12,kM.bw b12,TT.trans (aJ b12),k2,o1.bw b2,by omega⟩)
    have HFB:=aT (show (fun (gp gr:Nat) (W:qw)=>(Lst w W s c k d #[qS a0 m c0,qI 0,qS (some (qR (w.heap.size+3) 0)) 0 0,qI (Fl (aF ms) m),qI 0,qS a5 m c5]/\Blk W wo.heap.size (qM M.nm M.ta P.tz.length M.tc M.ba P.bl.length M.bc M.da P.dz.length M.dc P.bss M.ra M.rn M.rc M.ia M.im M.ic M.ea M.en M.ec) 53/\Turn (Lg w) wo W/\Blk W gp #[qI (Fl (aF ms) m),qS (qP gr) 0 0,qI (65536+Ra (aF ms) m),qI (rnd ((P.dz.length:Int)+P.bss))] 136/\OG 3 1 clI W (wo.heap.size+1) (qS (qP gr) 0 0) []/\wo.heap.size+1<=gp)) V1.heap.size (V1.heap.size+1) (((V1.alloc (.cells #[qI (Fl (aF ms) m),qS (some (qR (V1.heap.size+1) 0)) 0 0,qI (65536+Ra (aF ms) m),qI (rnd ((P.dz.length:Int)+P.bss))] 136)).alloc (.cells #[] 3)).drew) from by
     obtain ⟨S1,kM,TT⟩:=HS1.out;have hv1:=HV1.out;have b1:qY V1 (V1.alloc (.cells #[qI (Fl (aF ms) m),qS (some (qR (V1.heap.size+1) 0)) 0 0,qI (65536+Ra (aF ms) m),qI (rnd ((P.dz.length:Int)+P.bss))] 136)):=brf.alloc aL _;have k2:=Blk.new V1 #[qI (Fl (aF ms) m),qS (some (qR (V1.heap.size+1) 0)) 0 0,qI (65536+Ra (aF ms) m),qI (rnd ((P.dz.length:Int)+P.bss))] 136;have s1:(V1.alloc (.cells #[qI (Fl (aF ms) m),qS (some (qR (V1.heap.size+1) 0)) 0 0,qI (65536+Ra (aF ms) m),qI (rnd ((P.dz.length:Int)+P.bss))] 136)).heap.size=V1.heap.size+1:=by simp
     generalize V1.alloc (.cells #[qI (Fl (aF ms) m),qS (some (qR (V1.heap.size+1) 0)) 0 0,qI (65536+Ra (aF ms) m),qI (rnd ((P.dz.length:Int)+P.bss))] 136)=V2 at *;have b2:qY V2 ((V2.alloc (.cells #[] 3)).drew):=(brf.alloc aL _).drew;have o1:=cJ 3 1 clI V2 (wo.heap.size+1) (by omega);rw [s1] at o1;have b12:=b1.trans (b2.mono (by omega));have o1':OG 3 1 clI ((V2.alloc (.cells #[] 3)).drew) (wo.heap.size+1) (qS (some (qR (V1.heap.size+1) 0)) 0 0) []:=o1.bw ((brf).drew)
     exact ⟨S1.bw b12,kM.bw b12,TT.trans (aJ b12),k2.bw b2,o1',by omega⟩)
    go_region_held3 (fun w'=>w'.cell? (qR (w.heap.size+5) 3)=some (qI (Fl (aF ms) m))/\w'.cell? (qR wo.heap.size 3)=some (qS M.da P.dz.length M.dc)/\w'.cell? (qR wo.heap.size 4)=some (qI P.bss)) (go_keep) (first
     | (go_at_call 78;refine (eE _ _ (by omega) (by omega)).mono ?_;rintro e wz ⟨rfl,rfl⟩))
    .have HFX:=HFA;clear HFA;generalize (((V1.alloc (.cells #[] 3)).alloc (.cells #[qI (Fl (aF ms) m),qS (qP V1.heap.size) 0 0,qI (65536+Ra (aF ms) m),qI (rnd ((P.dz.length:Int)+P.bss))] 136)).drew)=W' at HFX ⊢;generalize V1.heap.size+1=gp at HFX ⊢;generalize V1.heap.size=gr at HFX ⊢;exact REST.out gp gr W' HFX.out
    all_goals first|exact REST.out _ _ _ HFA.out|exact REST.out _ _ _ HFB.out
   .clear HS1 p3 g0 g1 g2 g3 g4 g5 g6 g7;rintro gp gr W' ⟨S1,kM,TT,kp,O,hgp⟩;show Exit.then _ _ _ _ _
    have p3:=S1.k5.e3;have f3:=S1.k5.frozen 3;have g1:=kM.e1;have hw4:IntKind.i64.wrap (4*(P.tz.length:Int))=4*(P.tz.length:Int):=bC _ (by omega) (by omega);have rT':0<=rnd (4*(P.tz.length:Int))/\rnd (4*(P.tz.length:Int))<=831:=rT;have hwf:IntKind.i64.wrap (Fl (aF ms) m+rnd (4*(P.tz.length:Int)))=Fl (aF ms) m+rnd (4*(P.tz.length:Int)):=bC _ (by omega) (by omega);have HQ:=aT (xA S1 (xA kM (xA TT (xA kp O))));clear S1 kM TT kp O;go_wp2_with fail
    apply aN4
    .intro REST0;have REST:=aT REST0;clear REST0
     go_region_law (first
      | (go_simp;go_at_call 78;refine (eE _ _ (by omega) (by omega)).mono ?_;rintro e wz ⟨rfl,rfl⟩))
     all_goals exact REST.out
    .obtain ⟨S1,kM,TT,kp,O⟩:=HQ.out;have t8:=aC W' (w.heap.size+5) 3 (qI (Fl (aF ms) m+rnd (4*(P.tz.length:Int))));have t8d:=lK t8;have S2:Lst w ((W'.setCell (qR (w.heap.size+5) 3) (qI (Fl (aF ms) m+rnd (4*(P.tz.length:Int))))).drew) s c k d #[qS a0 m c0,qI 0,qS (some (qR (w.heap.size+3) 0)) 0 0,qI (Fl (aF ms) m+rnd (4*(P.tz.length:Int))),qI 0,qS a5 m c5]:=(S1.set 3 (qI (Fl (aF ms) m+rnd (4*(P.tz.length:Int))))).drew;have kM2:Blk ((W'.setCell (qR (w.heap.size+5) 3) (qI (Fl (aF ms) m+rnd (4*(P.tz.length:Int))))).drew) wo.heap.size (qM M.nm M.ta P.tz.length M.tc M.ba P.bl.length M.bc M.da P.dz.length M.dc P.bss M.ra M.rn M.rc M.ia M.im M.ic M.ea M.en M.ec) 53:=aA t8d kM (fun e=>by have e':wo.heap.size=w.heap.size+5:=e;omega);have TT2:Turn (Lg w) wo ((W'.setCell (qR (w.heap.size+5) 3) (qI (Fl (aF ms) m+rnd (4*(P.tz.length:Int))))).drew):=TT.trans (t8d.mono (fun j hj=>hj));have kp2:Blk ((W'.setCell (qR (w.heap.size+5) 3) (qI (Fl (aF ms) m+rnd (4*(P.tz.length:Int))))).drew) gp #[qI (Fl (aF ms) m),qS (qP gr) 0 0,qI (65536+Ra (aF ms) m),qI (rnd ((P.dz.length:Int)+P.bss))] 136:=aA t8d kp (fun e=>by have e':gp=w.heap.size+5:=e;omega);have O2:OG 3 1 clI ((W'.setCell (qR (w.heap.size+5) 3) (qI (Fl (aF ms) m+rnd (4*(P.tz.length:Int))))).drew) (wo.heap.size+1) (qS (qP gr) 0 0) []:=O.kept t8d (fun k hk e=>by have:=(O.lt k hk).1;have e':k=w.heap.size+5:=e;omega);have e0:(Fl (aF ms) m+rnd (4*(P.tz.length:Int)))=(Fl (aF ms) m+rnd (4*(P.tz.length:Int))+cB P 0):=by simp [cB]
     have HE0:=aT e0;have HQ2:=aT (xA S2 (xA kM2 (xA TT2 (xA kp2 O2))));clear S1 kM TT kp O S2 kM2 TT2 kp2 O2 t8 t8d HQ p3 f3 g1 e0;obtain ⟨iI,hiI,hz0,hz1,hz2⟩:=info_parts gG;go_wp2_with fail
     go_loopw [10] (fun i wx=>∃ (q:Nat) (ar:qO) (cr:Nat),q<=P.bl.length/\i=qI q/\Lst w wx s c k d #[qS a0 m c0,qI 0,qS (some (qR (w.heap.size+3) 0)) 0 0,qI (Fl (aF ms) m+rnd (4*(P.tz.length:Int))+cB P q),qI 0,qS a5 m c5]/\Blk wx wo.heap.size (qM M.nm M.ta P.tz.length M.tc M.ba P.bl.length M.bc M.da P.dz.length M.dc P.bss M.ra M.rn M.rc M.ia M.im M.ic M.ea M.en M.ec) 53/\Turn (Lg w) wo wx/\Blk wx gp #[qI (Fl (aF ms) m),qS ar q cr,qI (65536+Ra (aF ms) m),qI (rnd ((P.dz.length:Int)+P.bss))] 136/\OG 3 1 clI wx (wo.heap.size+1) (qS ar q cr) (bks (aF ms) m q)) (qf P.bl.length)
     .exact ⟨0,some (qR gr 0),0,xC _,rfl,(by rw [<- HE0.out];exact HQ2.out.1),HQ2.out.2.1,HQ2.out.2.2.1,HQ2.out.2.2.2.1,HQ2.out.2.2.2.2⟩
     .clear HQ2;obtain ⟨q,ar,cr,hq,rfl,S2,kM,TT,kp,O⟩:=hrel;have g2:=kM.e2;by_cases hlt2:q<P.bl.length
      .have hlt2':(q:Int)<(P.bl.length:Int):=by omega
       obtain ⟨FQ,hFQ⟩:=eqx ((Fl (aF ms) m+rnd (4*(P.tz.length:Int))+cB P q));rw [<- hFQ] at S2;have rq:=HFS.out q (by omega);have rFQ:0<=FQ/\FQ<=20000:=by omega
       have p3:=S2.k5.e3;have p1:=kp.e1;have al:qY wr (wr.alloc (.cells #[qI FQ] 3)):=brf.alloc aL _;have hTs:=TT.size;have HSU:=aT (show bks (aF ms) m (q+1)=bks (aF ms) m q++[FQ] by rw [aIf,<- HPP.out,hFQ];rfl);have HOW:=aT (show (wr.alloc (.cells #[qI FQ] 3)).ownsRow (wo.heap.size+1) 3 1 (qS ar q cr) q ((bks (aF ms) m q).flatMap clI) by have:=O.bw al;unfold OG at this;rw [mW] at this;exact this);have HQ:=aT (xA (S2.bw al) (xA (kM.bw al) (xA (TT.trans (aJ al)) (xA (kp.bw al) (O.bw al)))));have HFQ:=aT hFQ;clear S2 kM TT kp O al hFQ;go_wp2_with (at_builtin;refine wpList_append_own _ rfl _ _ 29 rfl (wo.heap.size+1) 3 iI (qI 0) 1 8 Tryz.underlying29 hiI hz0 hz1 hz2 rfl (by decide) (qS ar q cr) q ((bks (aF ms) m q).flatMap clI) rfl HOW.out (qR wr.heap.size 0) 1 1 (clI FQ) rfl rfl (aN wr _ _ (clI FQ) rfl) (by intro u hu;simp [clI] at hu;subst hu;rfl) (by unfold maxLen;omega) (by omega) (by simp;omega) ?_;intro v' w4 hown hgr _;obtain ⟨S2,kM,TT,kp,O⟩:=HQ.out;have hrow:∀ j,(qS ar q cr).ownBlock=some j->wo.heap.size+1<=j:=(fun j hj=>(O.lt j hj).1);have O4:OG 3 1 clI w4 (wo.heap.size+1) v' (bks (aF ms) m (q+1)):=(by unfold OG;rw [mW,HSU.out,xU,xX];exact hown);have S4:=S2.grown hgr (fun j hj=>by have:=hrow j hj;omega);have kM4:=dV kM hgr (fun e=>by have:=hrow _ e.symm;omega);have TT4:=bO TT hgr (fun j hj=>by have:=hrow j hj;omega);have kp4:=dV kp hgr (fun e=>by obtain ⟨cs,hk⟩:=aM O e.symm;exact absurd (aW kp hk) (by decide));obtain ⟨ar',cr',rfl⟩:=aO O4;rw [mW] at O4 ⊢;have c1:w4.cell? (qR gp 1)=some (qS ar q cr):=kp4.cell 1;have f1:=kp4.frozen 1;have H4:=aT (xA S4 (xA kM4 (xA TT4 (xA kp4 O4))));clear S2 kM TT kp O hrow S4 kM4 TT4 kp4 O4 hown hgr HOW HQ p1 p3 g2)
       obtain ⟨S4,kM4,TT4,kp4,O4⟩:=H4.out;have tp:=aC w4 gp 1 (qS ar' (q+1) cr');have S5:=S4.other (g:=gp) (by omega) 1 (qS ar' (q+1) cr');have kM5:=aA tp kM4 (fun e=>by have e':wo.heap.size=gp:=e;omega);have TT5:=bB TT4 (show wo.heap.size<=gp by omega) 1 (qS ar' (q+1) cr');have kp5:=kp4.s1 (qS ar' (q+1) cr');have O5:=O4.kept tp (fun k hk e=>by have e':k=gp:=e;subst e';exact aP O4 hk kp4 (by decide));have md5:=HMW.out _ S5.be;obtain ⟨_,_,hcb,_,_⟩:=md5.b;obtain ⟨b2,off2,hba,hc⟩:=hcb (by rw [HE.out.2.2.2];omega);have cb:=hc q (by rw [HE.out.2.2.2];exact hlt2);rw [HBK.out q hlt2] at cb;have g2:=kM5.e2;rw [hba] at g2;have p3:=S5.k5.e3;have f3:=S5.k5.frozen 3;have hLq:=vbk q hlt2;obtain ⟨LQ,hLQ⟩:=eqx ((P.bl.getD q []).length);rw [<- hLQ] at cb hLq;have rL:=bA (x:=4*(LQ:Int)) (by omega);have hw4:IntKind.i64.wrap (4*(LQ:Int))=4*(LQ:Int):=bC _ (by omega) (by omega);have hwq:IntKind.i64.wrap (FQ+rnd (4*(LQ:Int)))=(FQ+rnd (4*(LQ:Int))):=bC _ (by omega) (by omega);have HFE:=aT (show (FQ+rnd (4*(LQ:Int)))=Fl (aF ms) m+rnd (4*(P.tz.length:Int))+cB P (q+1) by rw [HFQ.out,hLQ];show _=Fl (aF ms) m+rnd (4*(P.tz.length:Int))+(cB P q+rnd (4*((P.bl.getD q []).length:Int)));omega);generalize M.bl.getD q zB=bq at cb;obtain ⟨bq1,bq2,bq3,bq4⟩:=bq;dsimp only at cb;have H5:=aT (xA S5 (xA kM5 (xA TT5 (xA kp5 O5))));clear S4 kM4 TT4 kp4 O4 tp S5 kM5 TT5 kp5 O5 md5 hcb hba hc hLQ H4 c1 f1;apply aN4
       .intro REST0;have REST:=aT REST0;clear REST0
        go_region_law (first
         | (go_simp;go_at_call 78;refine (eE _ _ (by omega) (by omega)).mono ?_;rintro e wz ⟨rfl,rfl⟩))
        all_goals exact REST.out
       .obtain ⟨S5,kM5,TT5,kp5,O5⟩:=H5.out;have t6:=lK (aC (w4.setCell (qR gp 1) (qS ar' (q+1) cr')) (w.heap.size+5) 3 (qI (FQ+rnd (4*(LQ:Int)))));have S6:Lst w (((w4.setCell (qR gp 1) (qS ar' (q+1) cr')).setCell (qR (w.heap.size+5) 3) (qI (FQ+rnd (4*(LQ:Int))))).drew) s c k d #[qS a0 m c0,qI 0,qS (some (qR (w.heap.size+3) 0)) 0 0,qI (FQ+rnd (4*(LQ:Int))),qI 0,qS a5 m c5]:=(S5.set 3 (qI (FQ+rnd (4*(LQ:Int))))).drew;have kM6:=aA t6 kM5 (fun e=>by have e':wo.heap.size=w.heap.size+5:=e;omega);have TT6:=TT5.trans (t6.mono (S':=Lg w) (fun j hj=>hj));have kp6:=aA t6 kp5 (fun e=>by have e':gp=w.heap.size+5:=e;omega);have O6:=O5.kept t6 (fun k hk e=>by have:=(O5.lt k hk).1;have e':k=w.heap.size+5:=e;omega);have H6:=aT (xA S6 (xA kM6 (xA TT6 (xA kp6 O6))));clear S5 kM5 TT5 kp5 O5 t6 S6 kM6 TT6 kp6 O6 H5 p3 f3 g2 cb;go_wp2
        go_roundw
        .exact ⟨q+1,ar',cr',by omega,by go_num,(by rw [<- HFE.out];exact H6.out.1),H6.out.2.1,H6.out.2.2.1,H6.out.2.2.2.1,H6.out.2.2.2.2⟩
        .simp [qf,intOf];omega
      .have hlt2':¬ (q:Int)<(P.bl.length:Int):=by omega
       have hqe:q=P.bl.length:=by omega
       have eF:Fl (aF ms) m+rnd (4*(P.tz.length:Int))+cB P q=(Fl (aF ms) (m+1)):=by
        show _=Fl (aF ms) m+msz ((aF ms).getD m zP);rw [<- HPP.out,hqe];show _=Fl (aF ms) m+(rnd (4*(P.tz.length:Int))+cB P P.bl.length);omega
       rw [eF] at S2;have rF1:=cN HVD.out (m+1) (by omega);have rR1:=bP HVD.out (m+1) (by omega)
       have eR:Ra (aF ms) m+rnd ((P.dz.length:Int)+P.bss)=Ra (aF ms) (m+1):=by
        show _=Ra (aF ms) m+dsz ((aF ms).getD m zP);rw [<- HPP.out];rfl
       have hwra:IntKind.i64.wrap (Ra (aF ms) m+rnd ((P.dz.length:Int)+P.bss))=Ra (aF ms) (m+1):=by rw [eR];exact bC _ (by omega) (by omega)
       have HPL:=aT (show plc (aF ms) m=⟨Fl (aF ms) m,bks (aF ms) m q,65536+Ra (aF ms) m,rnd ((P.dz.length:Int)+P.bss)⟩ by unfold plc bks;rw [<- HPP.out,hqe];rfl);have R1:=HSR.out.2.kept HSR.out.1 TT;have L1:=R1.P.lt;have hTs:=TT.size;obtain ⟨iP,hiP,hzP0,hzP1,hzP2⟩:=info_parts aLk;obtain ⟨iT,hiT,hzT0,hzT1,hzT2⟩:=info_parts aHs;obtain ⟨r0,r1,r2,r3⟩:=kp.z4;have p0:=S2.k5.e0;have al:qY wr (wr.alloc (.cells #[qI (Fl (aF ms) m),qS ar q cr,qI (65536+Ra (aF ms) m),qI (rnd ((P.dz.length:Int)+P.bss))] 136)):=brf.alloc aL _;have HOW:=aT (show (wr.alloc (.cells #[qI (Fl (aF ms) m),qS ar q cr,qI (65536+Ra (aF ms) m),qI (rnd ((P.dz.length:Int)+P.bss))] 136)).ownsRow (w.heap.size+2) 136 4 (qS a0 m c0) m (xs.flatMap clP) by have:=R1.P.head.bw al;unfold OG at this;rw [R1.pl] at this;exact this);have HCL:=aT (show clP ((⟨Fl (aF ms) m,bks (aF ms) m q,65536+Ra (aF ms) m,rnd ((P.dz.length:Int)+P.bss)⟩,ar,cr):PB)=[qI (Fl (aF ms) m),qS ar q cr,qI (65536+Ra (aF ms) m),qI (rnd ((P.dz.length:Int)+P.bss))] by simp [clP,svP,mW]);have HLO:=aT (show ∀ A∈xs,∀ j,(svP A).ownBlock=some j->j<wo.heap.size+1 from fun A hA j hj=>by have:=(HSR.out.2.P.lt.2 A hA j hj).2;omega);have HQ:=aT (xA (S2.bw al) (xA (kM.bw al) (xA (TT.trans (aJ al)) (xA (R1.bw al) (O.bw al)))));clear S2 kM TT kp O al R1 L1 eF hqe eR;go_wp2_with (at_builtin;refine wpList_append_own _ rfl _ _ 61 rfl (w.heap.size+2) 136 iP (.agg #[qI 0,qS none 0 0,qI 0,qI 0]) 4 48 Tryz.underlying61 hiP hzP0 hzP1 hzP2 rfl (by decide) (qS a0 m c0) m (xs.flatMap clP) rfl HOW.out (qR wr.heap.size 0) 1 1 [qI (Fl (aF ms) m),qS ar q cr,qI (65536+Ra (aF ms) m),qI (rnd ((P.dz.length:Int)+P.bss))] rfl rfl (aN wr _ _ [qI (Fl (aF ms) m),qS ar q cr,qI (65536+Ra (aF ms) m),qI (rnd ((P.dz.length:Int)+P.bss))] rfl) (by intro u hu;simp at hu;rcases hu with rfl|rfl|rfl|rfl<;>rfl) (by unfold maxLen;omega) (by omega) (by simp;omega) ?_;intro v' w4 hown hgr _;obtain ⟨S2,kM,TT,R1,O⟩:=HQ.out;have hrow:∀ j,(qS a0 m c0).ownBlock=some j->w.heap.size+2<=j/\j≠w.heap.size+5/\j≠wo.heap.size/\j<wo.heap.size:=(fun j hj=>⟨(R1.P.lt.1 j hj).1,fun e=>by subst e;exact aP R1.P.head hj S2.k5 (by decide),fun e=>by subst e;exact aP R1.P.head hj kM (by decide),(HSR.out.2.P.lt.1 j hj).2⟩);have P4:=R1.P.push (x:=((⟨Fl (aF ms) m,bks (aF ms) m q,65536+Ra (aF ms) m,rnd ((P.dz.length:Int)+P.bss)⟩,ar,cr):PB)) R1.pl (by show OG _ _ _ _ _ (.slice ar (bks (aF ms) m q).length cr) _;rw [mW];exact O) (by omega) HLO.out (by rw [HCL.out];exact hown) hgr (by decide);have S4:=S2.grown hgr (fun j hj=>⟨(hrow j hj).1,(hrow j hj).2.1⟩);have kM4:=dV kM hgr (fun e=>(hrow _ e.symm).2.2.1 rfl);have T4:OTg w4 (w.heap.size+2) (w.heap.size+6) (qS a5 m c5) ts:=⟨R1.T.head.kept' hgr (fun k hk e=>by obtain ⟨c1,k1⟩:=aM R1.P.head e;exact aP R1.T.head hk k1 (by decide)),fun x hx=>(R1.T.rows x hx).kept' hgr (fun k hk e=>by obtain ⟨c1,k1⟩:=aM R1.P.head e;exact aP (R1.T.rows x hx) hk k1 (by decide)),R1.T.apart⟩;have Sl4:=R1.S.kept' hgr (fun k hk e=>by obtain ⟨c1,k1⟩:=aM R1.P.head e;exact aP R1.S hk k1 (by decide));obtain ⟨a0',c0',rfl⟩:=aO P4.head;rw [show (xs++[((⟨Fl (aF ms) m,bks (aF ms) m q,65536+Ra (aF ms) m,rnd ((P.dz.length:Int)+P.bss)⟩,ar,cr):PB)]).length=m+1 by rw [xI,R1.pl];rfl] at P4 ⊢;have kMx:=aA (aC w4 (w.heap.size+5) 0 (qS a0' (m+1) c0')) kM4 (fun e=>by have e':wo.heap.size=w.heap.size+5:=e;omega);have g0:(w4.setCell (qR (w.heap.size+1+1+1+1+1) 0) (qS a0' (m+1) c0')).cell? (qR wo.heap.size 0)=some (.string M.nm):=kMx.cell 0;have y0:w4.cell? (qR wo.heap.size 0)=some (.string M.nm):=kM4.cell 0;have g1:(w4.setCell (qR (w.heap.size+1+1+1+1+1) 0) (qS a0' (m+1) c0')).cell? (qR wo.heap.size 1)=some (qS M.ta P.tz.length M.tc):=kMx.cell 1;have y1:w4.cell? (qR wo.heap.size 1)=some (qS M.ta P.tz.length M.tc):=kM4.cell 1;have g2:(w4.setCell (qR (w.heap.size+1+1+1+1+1) 0) (qS a0' (m+1) c0')).cell? (qR wo.heap.size 2)=some (qS M.ba P.bl.length M.bc):=kMx.cell 2;have y2:w4.cell? (qR wo.heap.size 2)=some (qS M.ba P.bl.length M.bc):=kM4.cell 2;have g3:(w4.setCell (qR (w.heap.size+1+1+1+1+1) 0) (qS a0' (m+1) c0')).cell? (qR wo.heap.size 3)=some (qS M.da P.dz.length M.dc):=kMx.cell 3;have y3:w4.cell? (qR wo.heap.size 3)=some (qS M.da P.dz.length M.dc):=kM4.cell 3;have g4:(w4.setCell (qR (w.heap.size+1+1+1+1+1) 0) (qS a0' (m+1) c0')).cell? (qR wo.heap.size 4)=some (qI P.bss):=kMx.cell 4;have y4:w4.cell? (qR wo.heap.size 4)=some (qI P.bss):=kM4.cell 4;have g5:(w4.setCell (qR (w.heap.size+1+1+1+1+1) 0) (qS a0' (m+1) c0')).cell? (qR wo.heap.size 5)=some (qS M.ra M.rn M.rc):=kMx.cell 5;have y5:w4.cell? (qR wo.heap.size 5)=some (qS M.ra M.rn M.rc):=kM4.cell 5;have g6:(w4.setCell (qR (w.heap.size+1+1+1+1+1) 0) (qS a0' (m+1) c0')).cell? (qR wo.heap.size 6)=some (qS M.ia M.im M.ic):=kMx.cell 6;have y6:w4.cell? (qR wo.heap.size 6)=some (qS M.ia M.im M.ic):=kM4.cell 6;have g7:(w4.setCell (qR (w.heap.size+1+1+1+1+1) 0) (qS a0' (m+1) c0')).cell? (qR wo.heap.size 7)=some (qS M.ea M.en M.ec):=kMx.cell 7;have y7:w4.cell? (qR wo.heap.size 7)=some (qS M.ea M.en M.ec):=kM4.cell 7;have hnA:¬ wo.heap.size=w.heap.size+1+1+1+1+1:=(by omega);have hnB:¬ w.heap.size+1+1+1+1+1=wo.heap.size:=(by omega);clear kMx;have p4:w4.cell? (qR (w.heap.size+5) 0)=some (qS a0 m c0):=S4.k5.cell 0;have f4:=S4.k5.frozen 0;have H4:=aT (xA S4 (xA kM4 (xA P4 (xA T4 Sl4))));have HPL2:=aT (xA R1.pl (xA R1.tl (xA R1.px R1.tx)));clear S2 kM TT R1 O hrow S4 kM4 P4 T4 Sl4 hown hgr HOW HQ p0 r0 r1 r2 r3)
       obtain ⟨S4,kM4,P4,T4,Sl4⟩:=H4.out;have t6:Turn (fun j=>j=w.heap.size+5) w4 (w4.setCell (qR (w.heap.size+1+1+1+1+1) 0) (qS a0' (m+1) c0')):=aC w4 (w.heap.size+5) 0 (qS a0' (m+1) c0');have S6:Lst w (w4.setCell (qR (w.heap.size+1+1+1+1+1) 0) (qS a0' (m+1) c0')) s c k d #[qS a0' (m+1) c0',qI 0,qS (some (qR (w.heap.size+3) 0)) 0 0,qI (Fl (aF ms) (m+1)),qI 0,qS a5 m c5]:=S4.set 0 (qS a0' (m+1) c0');have kM6:=aA t6 kM4 (fun e=>by have e':wo.heap.size=w.heap.size+5:=e;omega);have P6:=P4.kept t6 (fun k hk e=>by have e':k=w.heap.size+5:=e;subst e';exact aP P4.head hk S4.k5 (by decide)) (fun x hx k hk e=>by have e':k=w.heap.size+5:=e;subst e';exact aP (P4.rows x hx) hk S4.k5 (by decide));have T6:=T4.kept t6 (fun k hk e=>by have e':k=w.heap.size+5:=e;subst e';exact aP T4.head hk S4.k5 (by decide)) (fun x hx k hk e=>by have e':k=w.heap.size+5:=e;subst e';exact aP (T4.rows x hx) hk S4.k5 (by decide));have Sl6:=Sl4.kept t6 (fun k hk e=>by have e':k=w.heap.size+5:=e;subst e';exact aP Sl4 hk S4.k5 (by decide));generalize w4.setCell (qR (w.heap.size+1+1+1+1+1) 0) (qS a0' (m+1) c0')=W6 at *;have HTA:=aT (kS (some (qR b off)) n cap ms M W6 (HH.out.bw S6.be) HVD.out hn (HMW.out _ S6.be) HOKM.out);rw [HE.out.1,HE.out.2.1,HE.out.2.2.1,HE.out.2.2.2] at HTA;have HLT:=aT (show ∀ A∈ts,∀ j,(svT A).ownBlock=some j->j<W6.heap.size from fun A hA j hj=>(T6.lt.2 A hA j hj).2);have hs6:=S6.sz;have H6:=aT (xA S6 (xA P6 (xA T6 Sl6)));clear S4 kM4 P4 T4 Sl4 t6 S6 kM6 P6 T6 Sl6 H4 p4 f4;refine HTA.out.mono ?_;rintro e w7 ⟨hb7,H7⟩;rcases H7 with ⟨hno,_⟩|⟨_,at',ct',rfl,O7⟩
       .exact absurd HTG.out.2 hno
       obtain ⟨S6,P6,T6,Sl6⟩:=H6.out;have al:qY w7 (w7.alloc (.cells #[.slice at' (tgs (aF ms) M.pm).length ct'] 98)):=brf.alloc aL _;have S7:=S6.bw hb7;have T7:=T6.bw hb7;have hs67:=hb7.size;have p5:=S7.k5.e5;have HOW:=aT (show (w7.alloc (.cells #[.slice at' (tgs (aF ms) M.pm).length ct'] 98)).ownsRow (w.heap.size+2) 98 1 (qS a5 m c5) m (ts.flatMap zF) by have:=T7.head.bw al;unfold OG at this;rw [HPL2.out.2.1] at this;exact this);have HQ:=aT (xA (S7.bw al) (xA ((P6.bw hb7).bw al) (xA (T7.bw al) (xA ((Sl6.bw hb7).bw al) (O7.bw al)))));clear S6 P6 T6 Sl6 hb7 O7 al S7 T7 H6 HTA g0 g1 g2 g3 g4 g5 g6 g7 y0 y1 y2 y3 y4 y5 y6 y7;go_wp2_with (at_builtin;refine wpList_append_own _ rfl _ _ 62 rfl (w.heap.size+2) 98 iT (qS none 0 0) 1 24 Tryz.underlying62 hiT hzT0 hzT1 hzT2 rfl (by decide) (qS a5 m c5) m (ts.flatMap zF) rfl HOW.out (qR w7.heap.size 0) 1 1 (zF ((tgs (aF ms) M.pm,at',ct'):TB)) rfl rfl (aN w7 _ _ (zF ((tgs (aF ms) M.pm,at',ct'):TB)) rfl) (by intro u hu;simp [zF,svT] at hu;subst hu;rfl) (by unfold maxLen;omega) (by omega) (by simp;omega) ?_;intro v' w8 hown hgr _;obtain ⟨S7,P7,T7,Sl7,O7⟩:=HQ.out;have hrow:∀ j,(qS a5 m c5).ownBlock=some j->w.heap.size+2<=j/\j≠w.heap.size+5:=(fun j hj=>⟨(T7.lt.1 j hj).1,fun e=>by subst e;exact aP T7.head hj S7.k5 (by decide)⟩);have T8:=T7.push (x:=((tgs (aF ms) M.pm,at',ct'):TB)) HPL2.out.2.1 O7 (by exact hs6) HLT.out hown hgr (by decide);have S8:=S7.grown hgr hrow;have P8:OPl w8 (w.heap.size+2) (w.heap.size+6) (qS a0' (m+1) c0') (xs++[((⟨Fl (aF ms) m,bks (aF ms) m q,65536+Ra (aF ms) m,rnd ((P.dz.length:Int)+P.bss)⟩,ar,cr):PB)]):=⟨P7.head.kept' hgr (fun k hk e=>by obtain ⟨c1,k1⟩:=aM T7.head e;exact aP P7.head hk k1 (by decide)),fun x hx=>(P7.rows x hx).kept' hgr (fun k hk e=>by obtain ⟨c1,k1⟩:=aM T7.head e;exact aP (P7.rows x hx) hk k1 (by decide)),P7.apart⟩;have Sl8:=Sl7.kept' hgr (fun k hk e=>by obtain ⟨c1,k1⟩:=aM T7.head e;exact aP Sl7 hk k1 (by decide));obtain ⟨a5',c5',rfl⟩:=aO T8.head;rw [show (ts++[((tgs (aF ms) M.pm,at',ct'):TB)]).length=m+1 by rw [xI,HPL2.out.2.1];rfl] at T8 ⊢;have p8:w8.cell? (qR (w.heap.size+5) 5)=some (qS a5 m c5):=S8.k5.cell 5;have f8:=S8.k5.frozen 5;have H8:=aT (xA S8 (xA P8 (xA T8 Sl8)));clear S7 P7 T7 Sl7 O7 hrow T8 S8 P8 Sl8 hown hgr HOW HQ p5)
       obtain ⟨S8,P8,T8,Sl8⟩:=H8.out;have t9:=aC w8 (w.heap.size+5) 5 (qS a5' (m+1) c5');have S9:Lst w (w8.setCell (qR (w.heap.size+5) 5) (qS a5' (m+1) c5')) s c k d #[qS a0' (m+1) c0',qI 0,qS (some (qR (w.heap.size+3) 0)) 0 0,qI (Fl (aF ms) (m+1)),qI 0,qS a5' (m+1) c5']:=S8.set 5 (qS a5' (m+1) c5');have P9:=P8.kept t9 (fun k hk e=>by have e':k=w.heap.size+5:=e;subst e';exact aP P8.head hk S8.k5 (by decide)) (fun x hx k hk e=>by have e':k=w.heap.size+5:=e;subst e';exact aP (P8.rows x hx) hk S8.k5 (by decide));have T9:=T8.kept t9 (fun k hk e=>by have e':k=w.heap.size+5:=e;subst e';exact aP T8.head hk S8.k5 (by decide)) (fun x hx k hk e=>by have e':k=w.heap.size+5:=e;subst e';exact aP (T8.rows x hx) hk S8.k5 (by decide));have Sl9:=Sl8.kept t9 (fun k hk e=>by have e':k=w.heap.size+5:=e;subst e';exact aP Sl8 hk S8.k5 (by decide));have R9:Lrw w (w8.setCell (qR (w.heap.size+5) 5) (qS a5' (m+1) c5')) (aF ms) (m+1) a0' c0' (xs++[((⟨Fl (aF ms) m,bks (aF ms) m q,65536+Ra (aF ms) m,rnd ((P.dz.length:Int)+P.bss)⟩,ar,cr):PB)]) a5' c5' (ts++[((tgs (aF ms) M.pm,at',ct'):TB)]):=⟨P9,T9,Sl9,by rw [xI,HPL2.out.1];rfl,by rw [xI,HPL2.out.2.1];rfl,by rw [List.map_append,HPL2.out.2.2.1,List.range_succ,List.map_append];simp only [List.map_cons,List.map_nil];rw [HPL.out],by rw [List.map_append,HPL2.out.2.2.2,List.range_succ,List.map_append];simp only [List.map_cons,List.map_nil];rw [<- HPP.out,HPM.out]⟩;have H9:=aT (xA S9 R9);clear S8 P8 T8 Sl8 t9 S9 P9 T9 Sl9 R9 H8 p8 f8;go_wp2
       go_roundw
       .exact ⟨m+1,a0',c0',_,a5',c5',_,by omega,by go_num,rfl,H9.out.1,H9.out.2⟩
       .simp [qf,intOf];omega
  .have hlt':¬ (m:Int)<(n:Int):=by omega
   have hmn:m=n:=by omega
   subst hmn;have rF:=cN HVD.out m (by omega);have rR:=bP HVD.out m (by omega);obtain ⟨sn,rfl⟩:∃ sn:Nat,s=(sn:Int):=⟨s.toNat,by omega⟩;obtain ⟨RW,hRW⟩:=eqx (rnd (4*c));have rRW:0<=RW/\RW<=287:=by have:=bA (x:=4*c) (by omega);omega
   have HRW:=aT hRW;have HRD:=aT (fun W=>eE (4*c) W (by omega) (by omega));rw [<- hRW] at HRD;have hwr:IntKind.i64.wrap (65536+Ra (aF ms) m)=(65536+Ra (aF ms) m):=bC _ (by omega) (by omega);have hwk:IntKind.i64.wrap (Ra (aF ms) m+k)=Ra (aF ms) m+k:=bC _ (by omega) (by omega);have hwc:IntKind.i64.wrap (4*c)=4*c:=bC _ (by omega) (by omega);have t18:Turn (fun j=>j=w.heap.size+5) wo (wo.setCell (qR (w.heap.size+1+1+1+1+1) 1) (qI (65536+Ra (aF ms) m))):=aC wo (w.heap.size+5) 1 (qI (65536+Ra (aF ms) m));have S18:Lst w (wo.setCell (qR (w.heap.size+1+1+1+1+1) 1) (qI (65536+Ra (aF ms) m))) sn c k d #[qS a0 m c0,qI (65536+Ra (aF ms) m),qS (some (qR (w.heap.size+3) 0)) 0 0,qI (Fl (aF ms) m),qI 0,qS a5 m c5]:=S.set 1 (qI (65536+Ra (aF ms) m));have P18:=R.P.kept t18 (fun k hk e=>by have e':k=w.heap.size+5:=e;subst e';exact aP R.P.head hk S.k5 (by decide)) (fun x hx k hk e=>by have e':k=w.heap.size+5:=e;subst e';exact aP (R.P.rows x hx) hk S.k5 (by decide));have T18:=R.T.kept t18 (fun k hk e=>by have e':k=w.heap.size+5:=e;subst e';exact aP R.T.head hk S.k5 (by decide)) (fun x hx k hk e=>by have e':k=w.heap.size+5:=e;subst e';exact aP (R.T.rows x hx) hk S.k5 (by decide));have O18:=R.S.kept t18 (fun k hk e=>by have e':k=w.heap.size+5:=e;subst e';exact aP R.S hk S.k5 (by decide));have p1:=S.k5.e1;have f1:=S.k5.frozen 1;have y2:=S18.k0.e2;have x2:=S.k0.e2
   have SP18:∀ j,(qS (some (qR (w.heap.size+3) 0)) 0 0).ownBlock=some j->∀ x∈xs,(svP x).ownBlock≠some j:=fun j hj x hx e=>by
    have h1:=(R.P.lt.2 x hx j e).1;simp [Value.ownBlock] at hj;omega
   have HR0:=aT (xA R.pl (xA R.tl (xA R.px R.tx)));have H18:=aT (xA S18 (xA O18 (xA P18 (xA T18 SP18))));have HZ:=aT (show Ra (aF ms) m+k=Ra (aF ms) m+k+((0:Nat):Int)*RW by simp);obtain ⟨iI,hiI,hz0,hz1,hz2⟩:=info_parts gG;clear S18 P18 T18 O18 SP18 S R t18 hRW;go_wp2_with fail
   go_loopw [6,13] (fun x i wx=>∃ (q:Nat) (a2:qO) (c2:Nat) (rq:Int),q<=sn/\i=qI q/\x=qI rq/\Hid (rq=Ra (aF ms) m+k+(q:Int)*RW)/\Lst w wx sn c k d #[qS a0 m c0,qI (65536+Ra (aF ms) m),qS a2 q c2,qI (Fl (aF ms) m),qI 0,qS a5 m c5]/\OG 3 1 clI wx (w.heap.size+2) (qS a2 q c2) ((List.range q).map (slt (aF ms) c k))/\OPl wx (w.heap.size+2) (w.heap.size+6) (qS a0 m c0) xs/\OTg wx (w.heap.size+2) (w.heap.size+6) (qS a5 m c5) ts/\(∀ j,(qS a2 q c2).ownBlock=some j->∀ x∈xs,(svP x).ownBlock≠some j)) (fun _ i _=>sn-(intOf i).toNat)
   .exact ⟨0,_,_,_,xC _,rfl,rfl,HZ,H18.out.1,H18.out.2.1,H18.out.2.2.1,H18.out.2.2.2.1,H18.out.2.2.2.2⟩
   .clear H18 p1 f1 y2 x2 HZ;obtain ⟨q,a2,c2,rq,hq,rfl,rfl,hrq,S,O,P,T,SP⟩:=hrel
    have rrq:0<=rq/\rq<=100000:=by
     have:=hrq.out;have h1:(q:Int)*RW<=4*287:=Int.mul_le_mul (by omega) (by omega) (by omega) (by omega);have h0:0<=(q:Int)*RW:=Int.mul_nonneg (by omega) (by omega);omega
    have z0:=S.k0.e0;by_cases hlt2:q<sn
    .have hlt2':(q:Int)<(sn:Int):=by omega
     have p2:=S.k5.e2;have hwq:IntKind.i64.wrap (65536+rq)=65536+rq:=bC _ (by omega) (by omega);have hwr2:IntKind.i64.wrap (rq+RW)=rq+RW:=bC _ (by omega) (by omega);have al:qY wr (wr.alloc (.cells #[qI (65536+rq)] 3)):=brf.alloc aL _;have hs1:=S.sz
     have HSU:=aT (show (List.range (q+1)).map (slt (aF ms) c k)=(List.range q).map (slt (aF ms) c k)++[65536+rq] by
      rw [List.range_succ,List.map_append];simp only [List.map_cons,List.map_nil];congr 2;unfold slt;rw [hpl,hrq.out,HRW.out]
      omega)
     have HLN:=aT (show ((List.range q).map (slt (aF ms) c k)).length=q by simp);have HOW:=aT (show (wr.alloc (.cells #[qI (65536+rq)] 3)).ownsRow (w.heap.size+2) 3 1 (qS a2 q c2) q (((List.range q).map (slt (aF ms) c k)).flatMap clI) by have:=O.bw al;unfold OG at this;rw [HLN.out] at this;exact this);have HLO:=aT (show ∀ x∈xs,∀ j,(svP x).ownBlock=some j->j<wr.heap.size from fun x hx j hj=>(P.lt.2 x hx j hj).2);have HNQ:=aT (show rq+RW=Ra (aF ms) m+k+((q+1:Nat):Int)*RW by rw [hrq.out];push_cast;rw [Int.add_mul];omega);have HSP:=aT SP;have HQ:=aT (xA (S.bw al) (xA (P.bw al) (xA (T.bw al) (O.bw al))));clear S O P T SP al hrq;go_wp2_with (at_builtin;refine wpList_append_lies _ rfl _ _ 29 rfl (w.heap.size+2) 3 iI (qI 0) 1 8 Tryz.underlying29 hiI hz0 hz1 hz2 rfl (by decide) (qS a2 q c2) q (((List.range q).map (slt (aF ms) c k)).flatMap clI) rfl HOW.out (qR wr.heap.size 0) 1 1 (clI (65536+rq)) rfl rfl (aN wr _ _ (clI (65536+rq)) rfl) (by intro u hu;simp [clI] at hu;subst hu;rfl) (by decide) (by unfold maxLen;omega) (by omega) (by simp;omega) (wr.heap.size+1) (by simp) ?_;intro g4 c4 w4 hown hgr hat hlt4;obtain ⟨S,P,T,O⟩:=HQ.out;have hrow:∀ j,(qS a2 q c2).ownBlock=some j->w.heap.size+2<=j/\j≠w.heap.size+5:=(fun j hj=>⟨(O.lt j hj).1,fun e=>by subst e;exact aP O hj S.k5 (by decide)⟩);have O4:OG 3 1 clI w4 (w.heap.size+2) (qS (qP g4) (q+1) c4) ((List.range (q+1)).map (slt (aF ms) c k)):=(by unfold OG;rw [HSU.out,xI,HLN.out,xU,xX];exact hown);have S4:=S.grown hgr hrow;have P4:OPl w4 (w.heap.size+2) (w.heap.size+6) (qS a0 m c0) xs:=⟨P.head.kept' hgr (fun k hk e=>by obtain ⟨c1,k1⟩:=aM O e;exact aP P.head hk k1 (by decide)),fun x hx=>(P.rows x hx).kept' hgr (fun k hk e=>HSP.out k e x hx hk),P.apart⟩;have T4:OTg w4 (w.heap.size+2) (w.heap.size+6) (qS a5 m c5) ts:=⟨T.head.kept' hgr (fun k hk e=>by obtain ⟨c1,k1⟩:=aM O e;exact aP T.head hk k1 (by decide)),fun x hx=>(T.rows x hx).kept' hgr (fun k hk e=>by obtain ⟨c1,k1⟩:=aM O e;exact aP (T.rows x hx) hk k1 (by decide)),T.apart⟩;have SP4:∀ j,(qS (qP g4) (q+1) c4).ownBlock=some j->∀ x∈xs,(svP x).ownBlock≠some j:=(fun j hj x hx e=>by have hj':g4=j:=(by simpa [Value.ownBlock] using hj);subst hj';exact hat.elim (fun h1=>HSP.out g4 h1 x hx e) (fun h1=>by have:=HLO.out x hx g4 e;omega));have p4:w4.cell? (qR (w.heap.size+5) 2)=some (qS a2 q c2):=S4.k5.cell 2;have f4:=S4.k5.frozen 2;have c14:w4.cell? (qR w.heap.size 1)=some (qI c):=S4.k0.cell 1;have c15:(w4.setCell (qR (w.heap.size+1+1+1+1+1) 2) (qS (qP g4) (q+1) c4)).cell? (qR w.heap.size 1)=some (qI c):=(S4.set 2 (qS (qP g4) (q+1) c4)).k0.cell 1;have H4:=aT (xA S4 (xA P4 (xA T4 (xA O4 SP4))));clear S P T O hrow O4 S4 P4 T4 SP4 hown hgr hat HOW HQ p2 z0)
     refine (HRD.out _).mono ?_;rintro e wz ⟨rfl,rfl⟩;obtain ⟨S4,P4,T4,O4,SP4⟩:=H4.out;have t5:Turn (fun j=>j=w.heap.size+5) w4 (w4.setCell (qR (w.heap.size+1+1+1+1+1) 2) (qS (qP g4) (q+1) c4)):=aC w4 (w.heap.size+5) 2 (qS (qP g4) (q+1) c4);have S5:Lst w (w4.setCell (qR (w.heap.size+1+1+1+1+1) 2) (qS (qP g4) (q+1) c4)) sn c k d #[qS a0 m c0,qI (65536+Ra (aF ms) m),qS (qP g4) (q+1) c4,qI (Fl (aF ms) m),qI 0,qS a5 m c5]:=S4.set 2 (qS (qP g4) (q+1) c4);have P5:=P4.kept t5 (fun k hk e=>by have e':k=w.heap.size+5:=e;subst e';exact aP P4.head hk S4.k5 (by decide)) (fun x hx k hk e=>by have e':k=w.heap.size+5:=e;subst e';exact aP (P4.rows x hx) hk S4.k5 (by decide));have T5:=T4.kept t5 (fun k hk e=>by have e':k=w.heap.size+5:=e;subst e';exact aP T4.head hk S4.k5 (by decide)) (fun x hx k hk e=>by have e':k=w.heap.size+5:=e;subst e';exact aP (T4.rows x hx) hk S4.k5 (by decide));have O5:=O4.kept t5 (fun k hk e=>by have e':k=w.heap.size+5:=e;subst e';exact aP O4 hk S4.k5 (by decide));have H5:=aT (xA S5 (xA O5 (xA P5 (xA T5 SP4))));clear S4 P4 T4 O4 SP4 t5 S5 P5 T5 O5 H4 p4 f4 c14 c15;go_wp2
     go_roundw
     .exact ⟨q+1,_,_,_,by omega,by go_num,rfl,HNQ,H5.out.1,H5.out.2.1,H5.out.2.2.1,H5.out.2.2.2.1,H5.out.2.2.2.2⟩
     .simp [qf,intOf];omega
    .have hlt2':¬ (q:Int)<(sn:Int):=by omega
     have hqs:q=sn:=by omega
     have t25:Turn (fun j=>j=w.heap.size+5) wr (wr.setCell (qR (w.heap.size+1+1+1+1+1) 4) (qI rq)):=aC wr (w.heap.size+5) 4 (qI rq);have S25:Lst w (wr.setCell (qR (w.heap.size+1+1+1+1+1) 4) (qI rq)) sn c k d #[qS a0 m c0,qI (65536+Ra (aF ms) m),qS a2 q c2,qI (Fl (aF ms) m),qI rq,qS a5 m c5]:=S.set 4 (qI rq);have P25:=P.kept t25 (fun k hk e=>by have e':k=w.heap.size+5:=e;subst e';exact aP P.head hk S.k5 (by decide)) (fun x hx k hk e=>by have e':k=w.heap.size+5:=e;subst e';exact aP (P.rows x hx) hk S.k5 (by decide));have T25:=T.kept t25 (fun k hk e=>by have e':k=w.heap.size+5:=e;subst e';exact aP T.head hk S.k5 (by decide)) (fun x hx k hk e=>by have e':k=w.heap.size+5:=e;subst e';exact aP (T.rows x hx) hk S.k5 (by decide));have O25:=O.kept t25 (fun k hk e=>by have e':k=w.heap.size+5:=e;subst e';exact aP O hk S.k5 (by decide));have p4:=S.k5.e4;have f4:=S.k5.frozen 4;obtain ⟨v0,v1,v2,v3,v4,v5⟩:=S25.k5.z6;obtain ⟨u0,u1,u2,u3,u4,u5⟩:=S25.k1.z6;have n0:=S25.k1.frozen
     have HLAY:=aT (show lay (aF ms) sn c k=⟨(List.range m).map (plc (aF ms)),(65536+Ra (aF ms) m),(List.range q).map (slt (aF ms) c k),Fl (aF ms) m,rq,(List.range m).map fun i=>tgs (aF ms) ((aF ms).getD i zP)⟩ by
      unfold lay
      rw [hpl,hrq.out,HRW.out,xY,hqs])
     have t26:=dI (wr.setCell (qR (w.heap.size+1+1+1+1+1) 4) (qI rq)) (w.heap.size+1) (qS a0 m c0) (qI (65536+Ra (aF ms) m)) (qS a2 q c2) (qI (Fl (aF ms) m)) (qI rq) (qS a5 m c5);have k6:=kF S25.k1 (qS a0 m c0) (qI (65536+Ra (aF ms) m)) (qS a2 q c2) (qI (Fl (aF ms) m)) (qI rq) (qS a5 m c5);have P26:=P25.kept t26 (fun k hk e=>by have e':k=w.heap.size+1:=e;subst e';exact aP P25.head hk S25.k1 (by decide)) (fun x hx k hk e=>by have e':k=w.heap.size+1:=e;subst e';exact aP (P25.rows x hx) hk S25.k1 (by decide));have T26:=T25.kept t26 (fun k hk e=>by have e':k=w.heap.size+1:=e;subst e';exact aP T25.head hk S25.k1 (by decide)) (fun x hx k hk e=>by have e':k=w.heap.size+1:=e;subst e';exact aP (T25.rows x hx) hk S25.k1 (by decide));have O26:=O25.kept t26 (fun k hk e=>by have e':k=w.heap.size+1:=e;subst e';exact aP O25 hk S25.k1 (by decide));have B26:=aI S25.be t26 (fun j hj=>by have e':j=w.heap.size+1:=hj;omega) S25.be.size;have HFIN:=aT (xA S25.k1 (xA P26 (xA T26 (xA O26 (xA B26 SP)))));clear S25 P25 T25 O25 t25 t26 k6 P26 T26 O26 B26 S O P T SP hqs hrq;go_wp2;refine aKb HFIN.out.1 _ _ _ _ _ _ _ _ rfl ?_;obtain ⟨_,P26,T26,O26,B26,SP⟩:=HFIN.out;refine ⟨B26,a0,c0,xs,a2,c2,a5,c5,ts,?_,?_⟩
     .unfold mC;rw [HLAY.out,HR0.out.1,HR0.out.2.1];simp
     .rw [HLAY.out];exact ⟨by rw [HR0.out.1];exact P26.mono (by omega) (by omega),HR0.out.2.2.1,by simpa using O26.mono (by omega),by rw [HR0.out.2.1];exact T26.mono (by omega) (by omega),HR0.out.2.2.2,by simpa using SP⟩
structure Kst (w W:qw)(s c k d:Int):Prop where
 be:qY w W
 k0:Blk W w.heap.size (qW s c k d) 25
 k1:Blk W (w.heap.size+1) zL 64
 k2:Blk W (w.heap.size+2) zL 64
theorem Kst.bw {w W W':qw}(h:Kst w W s c k d)(hb:qY W W'):Kst w W' s c k d:=⟨h.be.trans (hb.mono h.be.size),h.k0.bw hb,h.k1.bw hb,h.k2.bw hb⟩
theorem Kst.drew {w W:qw}(h:Kst w W s c k d):Kst w W.drew s c k d:=⟨h.be.drew,h.k0,h.k1,h.k2⟩
theorem aKg (w:qw)(s c k d:Int):Kst w (((w.alloc (.cells (qW s c k d) 25)).alloc (.cells qz 64)).alloc (.cells qz 64)) s c k d:=by
 have k0:=Blk.new w (qW s c k d) 25;have b0:qY w (w.alloc (.cells (qW s c k d) 25)):=bal;have s0:(w.alloc (.cells (qW s c k d) 25)).heap.size=w.heap.size+1:=by simp
 generalize w.alloc (.cells (qW s c k d) 25)=W0 at *;have k1:=Blk.new W0 qz 64;have b1:qY W0 (W0.alloc (.cells qz 64)):=bal;have s1:(W0.alloc (.cells qz 64)).heap.size=w.heap.size+2:=by simp [s0]
 rw [s0] at k1;generalize W0.alloc (.cells qz 64)=W1 at *;have k2:=Blk.new W1 qz 64;have b2:qY W1 (W1.alloc (.cells qz 64)):=bal;rw [s1] at k2;have c12:=b1.trans (b2.mono (by omega));exact ⟨b0.trans (c12.mono (by omega)),k0.bw c12,k1.bw b2,k2⟩
theorem aAs {w W:qw}(k1:Blk W (w.heap.size+1) zL 64)(v0 v1 v2 v3 v4 v5:Value)(V:Int)(Q:Ending->World->Prop)(tmps:Array Value)(h4:tmps[4]?=some (.pointer (some (qR (w.heap.size+1) 0))))(h5:tmps[5]?=some (qI V))(hQ:Q (.returned (.tuple #[.agg #[v0,v1,v2,v3,v4,v5],qI V])) (st6 W (w.heap.size+1) v0 v1 v2 v3 v4 v5)):
 bodyPost Tryz.prog Tryz.f19 Q Exit.ret ⟨tmps,[]⟩ (st6 W (w.heap.size+1) v0 v1 v2 v3 v4 v5):=by
 have k:=kF k1 v0 v1 v2 v3 v4 v5;obtain ⟨t0,t1,t2,t3,t4,t5⟩:=k.z6;refine bodyPost_ret_by (v:=.tuple #[.agg #[v0,v1,v2,v3,v4,v5],qI V]) ?_ rfl hQ;simp [results,Tryz.results19,go_sem,h4,h5,t0,t1,t2,t3,t4,t5]
theorem mB {w W:qw}{ps:List PMod}{V:Int}(S:Kst w W s c k d)(hV:lkc ps s c k d=V)(h0:V≠0)(tmps:Array Value)(h4:tmps[4]?=some (.pointer (some (qR (w.heap.size+1) 0))))(h5:tmps[5]?=some (qI V)):
 bodyPost Tryz.prog Tryz.f19 (LkM w ps s c k d) Exit.ret ⟨tmps,[]⟩ (st6 W (w.heap.size+1) (qS none 0 0) (qI 0) (qS none 0 0) (qI 0) (qI 0) (qS none 0 0)):=
 aAs S.k1 _ _ _ _ _ _ V _ tmps h4 h5 (aDq (aI S.be (dI _ _ _ _ _ _ _ _) (fun j hj=>by have e:j=w.heap.size+1:=hj;omega) S.be.size) hV h0)
theorem uO (a:qO)(n cap:Nat)(ms:List Md)(s c k d:Int)(w:qw)(h:MSD w a n cap ms):
 qC 19 #[qS a n cap,.agg (qW s c k d)] w (LkM w (aF ms) s c k d):=by
 have K0:=aKg w s c k d;have hl:=h.s.1;have hpl:(aF ms).length=n:=by rw [bQ,hl]
 have HH:=zh h;have HSND:=zh (fun (W:qw) (hb:qY w W)=>aAu a n cap ms s c k d W (h.bw hb));obtain ⟨V,hV⟩:=eqx (dB (aF ms) s c k d);rw [<- hV] at HSND;have HV:=zh hV;have HK:=zh K0;obtain ⟨c0,c1,c2,c3⟩:=K0.k0.z4;clear h K0 hV;go_enter Tryz.func19,Tryz.ntmps19
 go_wp2_with fail
 refine (HSND.o _ HK.o.be).mono ?_;rintro e w1 ⟨rfl,hb1⟩;have S1:=HK.o.bw hb1;clear hb1 c0 c1 c2 c3 HK;by_cases hV0:V=0
 .have hs4:=HV.o;rw [hV0] at hs4;obtain ⟨hcf,h4,hvl⟩:=pV hs4.symm;have HS4:=zh hs4.symm;have HVL:=zh hvl;have HCF:=zh hcf;rw [hpl] at h4;subst hV0;clear hs4 hvl hcf;have HK1:=zh S1;clear S1;go_wp2;go_loopw [7] (fun i wr=>∃ m:Nat,m<=n/\i=qI m/\(∀ j,j<m->tN (aF ms) ((aF ms).getD j zP))/\Kst w wr s c k d) (qf n)
  .exact ⟨0,xC _,rfl,fun j hj=>absurd hj (by omega),HK1.o⟩
  .clear HK1;obtain ⟨m,hm,rfl,hv,S⟩:=hrel;by_cases hlt:m<n
   .have hlt':(m:Int)<(n:Int):=by omega
    have H:=HH.o.bw S.be;obtain ⟨b,off,rfl,q0,q1,q2,q3,q4,q5,q6,q7⟩:=H.s.at m hlt;have HTA:=zh (kS (some (qR b off)) n cap ms (ms.getD m zMd) wr H HVL.o h4 (H.d m hlt) (by rw [<- cD];exact HVL.o m (by omega)));have HEP:=zh (cD (ms:=ms) (i:=m));have HG:=zh (xA hv S);generalize ms.getD m zMd=M at *;clear H hv S;go_wp2_with fail
    refine HTA.o.mono ?_;rintro e w2 ⟨hb2,H2⟩;have S2:=HG.o.2.bw hb2;clear hb2 HTA q0 q1 q2 q3 q4 q5 q6 q7;rcases H2 with ⟨hno,v,rfl⟩|⟨hyes,at',ct',rfl,_⟩
    .have HP:=zh (aLg (d:=d) (k:=k) (w:=c) (s:=s) HS4.o (fun hi=>hno (by rw [<- HEP.o];exact hi m (by omega))));have HS:=zh S2;obtain ⟨u0,u1,u2,u3,u4,u5⟩:=S2.k2.z6;obtain ⟨p0,p1,p2,p3,p4,p5⟩:=S2.k1.z6;have y0:=S2.k1.frozen;clear S2 hno;go_wp2;exact mB HS.o HP.o (by decide) _ rfl rfl
    .have HV2:=zh (show ∀ j,j<m+1->tN (aF ms) ((aF ms).getD j zP) from fun j hj=>by
      by_cases e:j=m
      .subst e;rw [HEP.o];exact hyes
      .exact HG.o.1 j (by omega))
     have HS:=zh S2;clear S2 hyes;go_wp2
     go_roundw
     .exact ⟨m+1,by omega,by go_num,HV2.o,HS.o⟩
     .simp [qf,intOf];omega
   .have hlt':¬ (m:Int)<(n:Int):=by omega
    have HI:Zh (kI (aF ms)):=fun i hi=>hv i (by omega);have HTL:=zh (uC a n cap ms s c k d wr (HH.o.bw S.be));obtain ⟨B,hB⟩:=eqx (decide (0<s/\¬ lB (aF ms) c));rw [<- hB] at HTL;have HB:=zh hB;have HS:=zh S;obtain ⟨c0,c1,c2,c3⟩:=S.k0.z4;clear S hv hB;go_wp2_with fail
    refine HTL.o.mono ?_;rintro e w3 ⟨rfl,hb3⟩;have S3:=HS.o.bw hb3;clear hb3 HTL HS c0 c1 c2 c3;cases B with
    | true=>
      have HP:=zh (aLf (d:=d) (k:=k) HS4.o HI.o (of_decide_eq_true HB.o.symm));have HS:=zh S3;obtain ⟨u0,u1,u2,u3,u4,u5⟩:=S3.k2.z6;obtain ⟨p0,p1,p2,p3,p4,p5⟩:=S3.k1.z6;have y0:=S3.k1.frozen;clear S3;go_wp2;exact mB HS.o HP.o (by decide) _ rfl rfl
    | false=>
      have HN6:=zh (of_decide_eq_false HB.o.symm);have HLA:=zh (aFa a n cap ms s c k d w3 (HH.o.bw S3.be) h4 HCF.o HVL.o HI.o);have HS:=zh S3;obtain ⟨c0,c1,c2,c3⟩:=S3.k0.z4;clear S3;go_wp2_with fail
      refine HLA.o.mono ?_;rintro e w4 ⟨hb4,a0,d0,xs,a2,d2,a5,d5,ts,rfl,LO⟩;have S4:=HS.o.bw hb4;obtain ⟨L,hL⟩:=eqx (lay (aF ms) s c k);rw [<- hL] at LO ⊢;have HLL:=zh hL;have al:qY w4 (w4.alloc (.cells (qL L a0 xs.length d0 a2 L.slots.length d2 a5 ts.length d5) 64)):=bal;have kL:=Blk.new w4 (qL L a0 xs.length d0 a2 L.slots.length d2 a5 ts.length d5) 64;have S5:=S4.bw al;have LO5:LayO (w4.alloc (.cells (qL L a0 xs.length d0 a2 L.slots.length d2 a5 ts.length d5) 64)) w3.heap.size L a0 d0 xs a2 d2 a5 d5 ts:=⟨LO.p.bw al,LO.ps,LO.s.bw al,LO.t.bw al,LO.tt,LO.sp⟩;have hs34:=hb4.size;have hs3:=HS.o.k2.lt;obtain ⟨l0,l1,l2,l3,l4,l5⟩:=kL.z6;have HS5:=zh (xA S5 LO5);have hz5:(w4.alloc (.cells (qL L a0 xs.length d0 a2 L.slots.length d2 a5 ts.length d5) 64)).heap.size=w4.heap.size+1:=by simp
      clear hb4 S4 LO al kL hL HS HLA c0 c1 c2 c3;unfold mC;by_cases h7:16384<L.flash
      .have HP:=zh (aLe (d:=d) HS4.o HI.o HN6.o (by rw [<- HLL.o];exact h7));obtain ⟨u0,u1,u2,u3,u4,u5⟩:=S5.k2.z6;obtain ⟨p0,p1,p2,p3,p4,p5⟩:=S5.k1.z6;have y0:=S5.k1.frozen;clear S5 LO5;go_wp2;exact mB HS5.o.1 HP.o (by decide) _ rfl rfl
      .have h7':¬ 16384<L.flash:=h7;by_cases h8:16384<L.ram
       .have HP:=zh (aLd (d:=d) HS4.o HI.o HN6.o (by rw [<- HLL.o];exact h7) (by rw [<- HLL.o];exact h8));obtain ⟨u0,u1,u2,u3,u4,u5⟩:=S5.k2.z6;obtain ⟨p0,p1,p2,p3,p4,p5⟩:=S5.k1.z6;have y0:=S5.k1.frozen;clear S5 LO5;go_wp2;exact mB HS5.o.1 HP.o (by decide) _ rfl rfl
       .have HP:=zh (aLi (d:=d) HS4.o HI.o HN6.o (by rw [<- HLL.o];exact h7) (by rw [<- HLL.o];exact h8));obtain ⟨p0,p1,p2,p3,p4,p5⟩:=S5.k1.z6;have y0:=S5.k1.frozen;clear S5 LO5;go_wp2;refine aAs HS5.o.1.k1 _ _ _ _ _ _ 0 _ _ rfl rfl ?_;obtain ⟨S5,LO5⟩:=HS5.o;have t:=dI (w4.alloc (.cells (qL L a0 xs.length d0 a2 L.slots.length d2 a5 ts.length d5) 64)) (w.heap.size+1) (qS a0 xs.length d0) (qI L.stack) (qS a2 L.slots.length d2) (qI L.flash) (qI L.ram) (qS a5 ts.length d5);refine ⟨aI S5.be t (fun j hj=>by have e:j=w.heap.size+1:=hj;omega) S5.be.size,a0,d0,xs,a2,d2,a5,d5,ts,?_,?_⟩
        .unfold lkL;rw [if_pos HP.o,HP.o,<- HLL.o];rfl
        .unfold lkL;rw [if_pos HP.o,<- HLL.o];have hno:∀ k,w3.heap.size<=k->¬ (k=w.heap.size+1):=fun k hk e=>by omega
         exact ⟨(LO5.p.kept t (fun k hk=>hno k (LO5.p.lt.1 k hk).1) (fun x hx k hk=>hno k (LO5.p.lt.2 x hx k hk).1)).mono (by omega) (by omega),LO5.ps,(LO5.s.kept t (fun k hk=>hno k (LO5.s.lt k hk).1)).mono (by omega),(LO5.t.kept t (fun k hk=>hno k (LO5.t.lt.1 k hk).1) (fun x hx k hk=>hno k (LO5.t.lt.2 x hx k hk).1)).mono (by omega) (by omega),LO5.tt,LO5.sp⟩
 .have hV0':(V !=0)=true:=by simp [hV0]
  have HP:=zh (aLh (ps:=aF ms) HV.o.symm hV0);have HS:=zh S1;obtain ⟨u0,u1,u2,u3,u4,u5⟩:=S1.k2.z6;obtain ⟨p0,p1,p2,p3,p4,p5⟩:=S1.k1.z6;have y0:=S1.k1.frozen;obtain ⟨c0,c1,c2,c3⟩:=S1.k0.z4;clear S1;go_wp2_with fail
  go_region_law (first
   | (go_simp;go_at_call 41;refine (HSND.o _ (by first|exact HS.o.be|exact HS.o.drew.be)).mono ?_;rintro e w12 ⟨rfl,hb12⟩;have HE2:=zh (show Kst w w12 s c k d from (by first|exact HS.o.bw hb12|exact HS.o.drew.bw hb12));have vu0:w12.cell? (qR (w.heap.size+1+1) 0)=some (qS none 0 0):=HE2.o.k2.cell 0;have vu1:w12.cell? (qR (w.heap.size+1+1) 1)=some (qI 0):=HE2.o.k2.cell 1;have vu2:w12.cell? (qR (w.heap.size+1+1) 2)=some (qS none 0 0):=HE2.o.k2.cell 2;have vu3:w12.cell? (qR (w.heap.size+1+1) 3)=some (qI 0):=HE2.o.k2.cell 3;have vu4:w12.cell? (qR (w.heap.size+1+1) 4)=some (qI 0):=HE2.o.k2.cell 4;have vu5:w12.cell? (qR (w.heap.size+1+1) 5)=some (qS none 0 0):=HE2.o.k2.cell 5;have vp0:w12.cell? (qR (w.heap.size+1) 0)=some (qS none 0 0):=HE2.o.k1.cell 0;have vp1:w12.cell? (qR (w.heap.size+1) 1)=some (qI 0):=HE2.o.k1.cell 1;have vp2:w12.cell? (qR (w.heap.size+1) 2)=some (qS none 0 0):=HE2.o.k1.cell 2;have vp3:w12.cell? (qR (w.heap.size+1) 3)=some (qI 0):=HE2.o.k1.cell 3;have vp4:w12.cell? (qR (w.heap.size+1) 4)=some (qI 0):=HE2.o.k1.cell 4;have vp5:w12.cell? (qR (w.heap.size+1) 5)=some (qS none 0 0):=HE2.o.k1.cell 5;have vy0:w12.frozen? (qR (w.heap.size+1) 0)=false:=HE2.o.k1.frozen 0;have vy1:w12.frozen? (qR (w.heap.size+1) 1)=false:=HE2.o.k1.frozen 1;have vy2:w12.frozen? (qR (w.heap.size+1) 2)=false:=HE2.o.k1.frozen 2;have vy3:w12.frozen? (qR (w.heap.size+1) 3)=false:=HE2.o.k1.frozen 3;have vy4:w12.frozen? (qR (w.heap.size+1) 4)=false:=HE2.o.k1.frozen 4;have vy5:w12.frozen? (qR (w.heap.size+1) 5)=false:=HE2.o.k1.frozen 5;have vc0:w12.cell? (qR w.heap.size 0)=some (qI s):=HE2.o.k0.cell 0;have vc1:w12.cell? (qR w.heap.size 1)=some (qI c):=HE2.o.k0.cell 1;have vc2:w12.cell? (qR w.heap.size 2)=some (qI k):=HE2.o.k0.cell 2;have vc3:w12.cell? (qR w.heap.size 3)=some (qI d):=HE2.o.k0.cell 3;clear hb12))
  all_goals
   go_wp2;exact mB HE2.o HP.o hV0 _ rfl rfl
open Go Go.Maps Go.WideShapes
set_option maxRecDepth 100000
theorem gB (x:Int)(w:qw)(h0:0<=x:=by omega)(h1:x<=4294967295:=by omega):qC 95 #[qI x] w fun e w'=>e=.returned (qI (rnd x))/\w'=w:=by
 have hd:(x+31).tdiv 32=(x+31)/32:=Int.tdiv_eq_ediv_of_nonneg (by omega);go_enter Tryz.func95,Tryz.ntmps95
 go_wp2;go_ret;exact ⟨aQ (by unfold rnd;rw [show x+31=x+32-1 by omega]),rfl⟩
theorem kK (a:qO)(n cap:Nat)(w:qw)(hn:n<=1048576):qC 94 #[qS a n cap] w fun e w'=>e=.returned (qI (rnd (4*(n:Int))))/\w'=w:=by
 have hw:IntKind.i64.wrap (4*(n:Int))=4*(n:Int):=bC _ (by omega) (by omega);have HR:=zh (gB (4*(n:Int)) w);go_enter Tryz.func94,Tryz.ntmps94
 go_wp2_with fail
 refine HR.o.mono ?_;rintro e w1 ⟨rfl,rfl⟩;go_wp2;go_ret;exact ⟨rfl,rfl⟩
theorem Md.okI {m:Md}{w:qw}(h:m.md w):qC 90 #[.agg (qM m.nm m.ta m.tn m.tc m.ba m.bn m.bc m.da m.dn m.dc m.bss m.ra m.rn m.rc m.ia m.im m.ic m.ea m.en m.ec)] w (qB w (qI (bI m.pm))):=by
 have:=kX _ _ _ _ _ _ _ _ _ _ _ _ _ _ _ _ _ _ _ _ _ _ _ _ _ _ w h;rw [wY h] at this;exact this
theorem aM3 {a b:ByteArray}:a.data.toList=b.data.toList ↔ a=b:=by
 constructor
 .intro e;cases a
  cases b
  simp at e;rw [e]
 .intro e;rw [e]
theorem aGv {ms:List Md}{n:Nat}(hl:ms.length=n):(size (fd (cQ ms) n)=n) ↔ nms (aF ms):=by
 have h:=yT (cQ ms) n;have key:∀ i,i<n->((aF ms).getD i zP).nm=(ms.getD i zMd).nm:=fun i hi=>by rw [cD];rfl
 constructor
 .intro e;rw [xR e] at h;intro i hi k hk;rw [bQ,hl] at hi;have h':=h.symm;rw [List.all_eq_true] at h';have h1:=h' i (by simpa using hi);rw [List.all_eq_true] at h1;have h2:=h1 k (by simpa using hk);rw [key k (by omega),key i hi];intro e';have e2:cQ ms k=cQ ms i:=by unfold cQ;rw [e']
  rw [e2] at h2;simp at h2
 .intro hn;apply of_decide_eq_true;rw [h,List.all_eq_true];intro i hi;rw [List.all_eq_true];intro k hk;have hi':i<n:=by simpa using hi
  have hk':k<i:=by simpa using hk
  have:=hn i (by rw [bQ];omega) k hk';rw [key k (by omega),key i hi'] at this;have h3:cQ ms k≠cQ ms i:=fun e=>this (aM3.1 e);simp [h3]
end Go.Proofs.YtcimaholejajpaaGreat
namespace Go.Proofs.YtcimaholejajpaaGreat
open Go Go.Maps Go.WideShapes
open Go.RowKit
set_option maxRecDepth 100000
variable {K:Act->World->Prop}{L:Lay}{P:Program}{Q:Exit->Act->World->Prop}{R b base c0 c2 c5 cap f g i m n q s:Nat}{S:Nat->Prop}{a:Act}{a0 a2 a5:qO}{args:Array Value}{d k w:Int}{listed:Array Bool}{md:Region.Mode}{o:Oper}{ops:Array Oper}{ps:List PMod}{st:Option (List Int)}{ts:List TB}{v:Value}{xs:List PB}
theorem tZ (a:qO)(n cap:Nat)(ms:List Md)(s c k d:Int)(w:qw)(h:MSD w a n cap ms):
 qC 52 #[qS a n cap,.agg (qW s c k d)] w (qB w (qI (dB (aF ms) s c k d))):=by
 have hA:qY w (w.alloc (.cells (qW s c k d) 25)):=bal;have hl:=h.s.1;have hm1:=h.s.2.1;unfold maxLen at hm1;have hpl:=bQ ms;have HH:=zh h;have HC:=zh (fun W=>kY s c k d W);clear h;go_enter Tryz.func52,Tryz.ntmps52
 go_wp2_with fail
 refine (HC.o _).mono ?_;rintro e w1 ⟨rfl,hb1⟩;have HB1:=zh (hA.trans (hb1.mono (by simp)));clear hA hb1 HC;cases hcf:cfo s c k d with
 | false=>
   have HS:=zh (aF6 (ps:=aF ms) hcf);go_wp2;go_ret;exact ⟨aQ HS.o.symm,HB1.o⟩
 | true=>
   by_cases hn2:n<1\/4<n
   .have HS:=zh (aF5 (ps:=aF ms) hcf (by omega));by_cases hn1:n<1
    .have hn1':(n:Int)<1:=by omega
     clear hn2;go_wp2;go_ret;exact ⟨aQ HS.o.symm,HB1.o⟩
    .have hn1':¬ (n:Int)<1:=by omega
     have hn4':(4:Int)<(n:Int):=by omega
     clear hn2;go_wp2;go_ret;exact ⟨aQ HS.o.symm,HB1.o⟩
   have hn1':¬ (n:Int)<1:=by omega
   have hn4':¬ (4:Int)<(n:Int):=by omega
   have HN2:=zh (show ¬ ((aF ms).length<1\/4<(aF ms).length) by rw [hpl,hl];exact hn2);clear hn2;go_wp2;go_loopw [20] (fun i wr=>∃ m:Nat,m<=n/\i=qI m/\(∀ j,j<m->bI ((aF ms).getD j zP)=0)/\qY w wr) (qf n)
   .exact ⟨0,xC _,rfl,fun j hj=>absurd hj (by omega),HB1.o⟩
   .obtain ⟨m,hm,rfl,hv,B⟩:=hrel;by_cases hlt:m<n
    .have hlt':(m:Int)<(n:Int):=by omega
     have H:=HH.o.bw B;obtain ⟨b,off,rfl,q0,q1,q2,q3,q4,q5,q6,q7⟩:=H.s.at m hlt;have HOK:=zh (fun (W:qw) (hb:qY wr W)=>Md.okI (MD.bw (H.d m hlt) hb));obtain ⟨V,hV⟩:=eqx (bI (ms.getD m zMd).pm);rw [<- hV] at HOK;have HVV:=zh (hV.trans (by rw [<- cD]));have HV:=zh hv;have HB:=zh B;generalize ms.getD m zMd=M at *;have al:qY wr (wr.alloc (.cells (qM M.nm M.ta M.tn M.tc M.ba M.bn M.bc M.da M.dn M.dc M.bss M.ra M.rn M.rc M.ia M.im M.ic M.ea M.en M.ec) 53)):=bal;obtain ⟨g0,g1,g2,g3,g4,g5,g6,g7⟩:=(Blk.new wr (qM M.nm M.ta M.tn M.tc M.ba M.bn M.bc M.da M.dn M.dc M.bss M.ra M.rn M.rc M.ia M.im M.ic M.ea M.en M.ec) 53).eight;have HAL:=zh al;clear hv B H hV al;go_wp2_with fail
     refine (HOK.o _ HAL.o).mono ?_;rintro e w2 ⟨rfl,hb2⟩;have hb2':=HAL.o.trans (hb2.mono HAL.o.size);have HB2:=zh (HB.o.trans (hb2'.mono HB.o.size));clear hb2 hb2' HOK HB HAL q0 q1 q2 q3 q4 q5 q6 q7 g0 g1 g2 g3 g4 g5 g6 g7;by_cases hz:V=0
     .subst hz
      have HV2:=zh (show ∀ j,j<m+1->bI ((aF ms).getD j zP)=0 from fun j hj=>by
       by_cases e:j=m
       .subst e;exact HVV.o.symm
       .exact HV.o j (by omega))
      go_wp2
      go_roundw
      .exact ⟨m+1,by omega,by go_num,HV2.o,HB2.o⟩
      .simp [qf,intOf];omega
     .have hz':(V !=0)=true:=by simp [hz]
      have HS:=zh (aF4 (ps:=aF ms) hcf HN2.o m (by omega) (by rw [<- HVV.o];exact hz));go_wp2;go_ret;exact ⟨aQ HS.o.symm,HB2.o⟩
    .have hlt':¬ (m:Int)<(n:Int):=by omega
     have HV:Zh (fV (aF ms)):=fun i hi=>hv i (by omega);have HB:=zh B;have HF:=zh (mN a n cap ms wr (HH.o.s.bw B) (by omega));have hsz:=lG (cQ ms) n;have HNS:=zh (aGv (ms:=ms) hl);obtain ⟨Sz,hSz⟩:=eqx (size (fd (cQ ms) n));have HSZ:=zh hSz;rw [<- hSz] at hsz HNS;clear hv B hSz;go_wp2_with fail
     refine HF.o.mono ?_;rintro e w2 ⟨rfl,hown,hb2⟩;have hlen:∀ ty,(Builtin.len_ #[148] ty #[.map (some wr.heap.size)]).run Tryz.prog w2=.ok (qI (Sz:Int)) w2:=by intro ty;rw [HSZ.o];exact hown.len Tryz.underlying148 ty
     have HB2:=zh (HB.o.trans (hb2.mono HB.o.size));clear hown hb2 HF HB;by_cases he:Sz=n
     .have HS:=zh (aF7 (d:=d) hcf HN2.o HV.o (HNS.o.1 he));subst he;have hne:((Sz:Int) !=(Sz:Int))=false:=by simp
      go_wp2;go_ret;exact ⟨aQ HS.o.symm,HB2.o⟩
     .have HS:=zh (show dB (aF ms) s c k d=4 by
       unfold dB
       rw [if_neg (by rw [hcf];decide),if_neg HN2.o,if_neg (fun e=>e HV.o),if_pos (fun e=>he (HNS.o.2 e))])
      have hne:((Sz:Int) !=(n:Int))=true:=by simp;omega
      go_wp2;go_ret;exact ⟨aQ HS.o.symm,HB2.o⟩
def GB (ps:List PMod)(m q R:Nat):Prop:=(∀ i,i<ps.length->∀ k,k<(ps.getD i zP).bl.length->(i<m\/(i=m/\k<q))->((ps.getD i zP).bl.getD k []).length<=R)/\(R=0\/∃ i,i<ps.length/\∃ k,k<(ps.getD i zP).bl.length/\((ps.getD i zP).bl.getD k []).length=R)
theorem aKj (ps:List PMod):GB ps 0 0 0:=⟨fun i _ k _ h=>by omega,.inl rfl⟩
theorem GB.next (h:GB ps m q R)(hq:(ps.getD m zP).bl.length<=q):GB ps (m+1) 0 R:=
 ⟨fun i hi k hk e=>h.1 i hi k hk (by
  by_cases e2:i=m
  .subst e2;right;exact ⟨rfl,by omega⟩
  .left;omega),h.2⟩
theorem GB.step (h:GB ps m q R)(hm:m<ps.length)(hq:q<(ps.getD m zP).bl.length):GB ps m (q+1) (max R ((ps.getD m zP).bl.getD q []).length):=by
 refine ⟨fun i hi k hk e=>?_,?_⟩
 .by_cases e2:i=m/\k=q
  .obtain ⟨rfl,rfl⟩:=e2;omega
  .have:=h.1 i hi k hk (by omega);omega
 .by_cases hc:((ps.getD m zP).bl.getD q []).length<=R
  .rw [show max R ((ps.getD m zP).bl.getD q []).length=R by omega];exact h.2
  .exact .inr ⟨m,hm,q,hq,by omega⟩
theorem aD0 (h:GB ps ps.length 0 R)(w:Int)(hw:1<=w):(w<(R:Int)) ↔ ¬ lB ps w:=by
 constructor
 .intro h1 hs;rcases h.2 with h2|⟨i,hi,k,hk,e⟩
  .omega
  .have:=hs i hi k hk;omega
 .intro hs;apply Classical.byContradiction;intro hn;exact hs (fun i hi k hk=>by have:=h.1 i hi k hk (.inl hi);omega)
theorem nK (a:qO)(n cap:Nat)(ms:List Md)(w:qw)(h:MSD w a n cap ms)(hv:fV (aF ms))(hn4:n<=4):
 qC 54 #[qS a n cap] w fun e w'=>∃ R:Nat,e=.returned (qI (R:Int))/\GB (aF ms) (aF ms).length 0 R/\qY w w':=by
 have hl:=h.s.1;have hpl:(aF ms).length=n:=by rw [bQ,hl]
 have HH:=zh h;have HVL:=zh hv;clear h hv;go_enter Tryz.func54,Tryz.ntmps54
 go_wp2;go_loopw [3,10] (fun x i wr=>∃ (m R:Nat),m<=n/\i=qI m/\x=qI (R:Int)/\R<=64/\Hid (GB (aF ms) m 0 R)/\qY w wr) (fun _ i _=>n-(intOf i).toNat)
 .exact ⟨0,0,xC _,rfl,rfl,xC _,zh (aKj _),brf⟩
 .obtain ⟨m,R,hm,rfl,rfl,hR,hG,B⟩:=hrel;by_cases hlt:m<n
  .have hlt':(m:Int)<(n:Int):=by omega
   have H:=HH.o.bw B;obtain ⟨b,off,rfl,q0,q1,q2,q3,q4,q5,q6,q7⟩:=H.s.at m hlt;have hmd:=H.d m hlt;obtain ⟨P,hP⟩:=eqx ((aF ms).getD m zP);have hPM:P=(ms.getD m zMd).pm:=hP.trans (cD);have hvm:=HVL.o m (by omega);rw [<- hP] at hvm;obtain ⟨_,_,_,vb,_,_,_,vbk⟩:=bS hvm;have eB:(ms.getD m zMd).bn=P.bl.length:=by rw [hPM];show _=(List.map _ _).length;rw [xH];exact hmd.b.1.symm
   have HBK:Zh (∀ j,j<P.bl.length->((ms.getD m zMd).bl.getD j zB).2.1=(P.bl.getD j []).length):=fun j hj=>by rw [hPM];exact (oW hmd j (by omega)).1
   have HMB:=zh (fun (W:qw) (hb:qY wr W)=>(MD.bw hmd hb).b);have HP:=zh hP;rw [eB] at q2;have HEB:=zh eB;have HB:=zh B;generalize ms.getD m zMd=M at *;generalize M.ba=ba at *;have al:qY wr (wr.alloc (.cells (qM M.nm M.ta M.tn M.tc ba P.bl.length M.bc M.da M.dn M.dc M.bss M.ra M.rn M.rc M.ia M.im M.ic M.ea M.en M.ec) 53)):=bal;obtain ⟨g0,g1,g2,g3,g4,g5,g6,g7⟩:=(Blk.new wr (qM M.nm M.ta M.tn M.tc ba P.bl.length M.bc M.da M.dn M.dc M.bss M.ra M.rn M.rc M.ia M.im M.ic M.ea M.en M.ec) 53).eight;have HAL:=zh al;clear B H hmd hP hPM eB al hvm;generalize wr=wo at *;go_wp2_with fail
   go_loopw [3,17] (fun x i wx=>∃ (q R:Nat),q<=P.bl.length/\i=qI q/\x=qI (R:Int)/\R<=64/\Hid (GB (aF ms) m q R)/\qY wo wx) (fun _ i _=>P.bl.length-(intOf i).toNat)
   .exact ⟨0,R,xC _,rfl,rfl,hR,hG,HAL.o⟩
   .obtain ⟨q,R',hq,rfl,rfl,hR',hG',B⟩:=hrel;by_cases hlt2:q<P.bl.length
    .have hlt2':(q:Int)<(P.bl.length:Int):=by omega
     obtain ⟨_,_,hcb,_,_⟩:=HMB.o wr B;obtain ⟨b2,off2,rfl,hc⟩:=hcb (by rw [HEB.o];omega);have cb:=hc q (by rw [HEB.o];exact hlt2);rw [HBK.o q hlt2] at cb;have hLq:=vbk q hlt2;obtain ⟨LQ,hLQ⟩:=eqx ((P.bl.getD q []).length);rw [<- hLQ] at cb hLq;have HG2:=zh (show GB (aF ms) m (q+1) (max R' LQ) by rw [hLQ,HP.o];exact hG'.out.step (by omega) (by rw [<- HP.o];exact hlt2));have hmx:max (R':Int) (LQ:Int)=((max R' LQ:Nat):Int):=by omega
     have HB2:=zh B;generalize M.bl.getD q zB=bq at cb;obtain ⟨bq1,bq2,bq3,bq4⟩:=bq;dsimp only at cb;clear hcb hc hLQ B;go_wp2
     go_roundw
     .exact ⟨q+1,max R' LQ,by omega,by go_num,(by rw [<- hmx];congr 1;split<;>omega),by omega,HG2,HB2.o⟩
     .simp [intOf];omega
    .have hlt2':¬ (q:Int)<(P.bl.length:Int):=by omega
     have HG2:=zh (hG'.out.next (by rw [<- HP.o];omega));have HB2:=zh (HB.o.trans (B.mono HB.o.size));clear B;go_wp2
     go_roundw
     .exact ⟨m+1,R',by omega,by go_num,rfl,hR',HG2,HB2.o⟩
     .simp [intOf];omega
  .have hlt':¬ (m:Int)<(n:Int):=by omega
   have HG:=zh (show GB (aF ms) (aF ms).length 0 R by rw [hpl,<- show m=n by omega];exact hG.out);have HB:=zh B;clear B hG;go_wp2;go_ret;exact ⟨R,rfl,by first|exact HG.o|(have:=HG.o;rw [hpl] at this;exact this),HB.o⟩
structure LayR (L:Lay):Prop where
 p:∀ x∈L.places,∀ z∈x.banks,wfi z
 s:∀ z∈L.slots,wfi z
 n:L.places.length<=1048576/\L.targets.length<=1048576/\∀ x∈L.targets,x.length<=1048576
structure RdS (W:qw)(g b n cap:Nat)(zs:qi)(st:Option (List Int)):Prop where
 pos:∃ k,k<=n/\Blk W g #[qS (qP b) n cap,qI k,.bool st.isNone] 85/\∀ r,st=some r->r=zs.drop k
 bs:BS W (qP b) n cap zs
 ne:b≠g
 small:n<=1048576
theorem RdS.bw {W W':qw}{zs:qi}(h:RdS W g b n cap zs st)(hb:qY W W'):RdS W' g b n cap zs st:=by
 obtain ⟨k,h1,h2,h3⟩:=h.pos;exact ⟨⟨k,h1,h2.bw hb,h3⟩,h.bs.bw hb,h.ne,h.small⟩
theorem RdS.turn {W W':qw}{zs:qi}(h:RdS W g b n cap zs st)(t:Turn S W W')(hg:¬ S g)(hb:¬ S b):RdS W' g b n cap zs st:=by
 obtain ⟨k',p1,p3,p4⟩:=h.pos;exact ⟨⟨k',p1,aA t p3 hg,p4⟩,dK t h.bs (fun j hj b' off e=>by simp at e;intro e';apply hb;rw [e.1,e'];exact hj),h.ne,h.small⟩
theorem RdS.range {W:qw}{zs r:qi}(h:RdS W g b n cap zs (some r)):Byt r:=by
 obtain ⟨k,h1,h2,h3⟩:=h.pos;rw [h3 r rfl];exact fun z hz=>h.bs.2.2.1 z (List.mem_of_mem_drop hz)
def oN (s:Nat):Option (List Int)->Int×Option (List Int)
 | none=>(0,none)
 | some zs=>match pN s zs with
   | none=>(0,none)
   | some x=>(x.1,some x.2)
theorem wT {zs r:qi}{x:Int}(h:pN s zs=some (x,r)):oN s (some zs)=(x,some r):=by show (match pN s zs with|none=>_|some x=>_)=_;rw [h]
theorem wU {zs:qi}(h:pN s zs=none):oN s (some zs)=(0,none):=by show (match pN s zs with|none=>_|some x=>_)=_;rw [h]
theorem RdS.short {W:qw}{zs:qi}(h:RdS W g b n cap zs st):RdS (W.setCell (qR g 2) (.bool true)) g b n cap zs none:=by
 obtain ⟨k,h1,h2,h3⟩:=h.pos;refine ⟨⟨k,h1,?_,fun r e=>by cases e⟩,dK (aC W g 2 _) h.bs (fun j hj b' off e=>by simp at e;rw [hj,<- e.1];exact h.ne),h.ne,h.small⟩;simpa using h2.set 2 (.bool true)
theorem RdS.go {W:qw}{zs r:qi}{k:Nat}(h:RdS W g b n cap zs (some r))(hk:Blk W g #[qS (qP b) n cap,qI k,.bool false] 85)(hr:r=zs.drop k)(hs:k+s<=n)(v:Value)(hv:v=qI ((k+s:Nat):Int)):RdS (W.setCell (qR g 1) v) g b n cap zs (some (r.drop s)):=by
 refine ⟨⟨k+s,hs,?_,fun r' e=>by simp at e;rw [<- e,hr,List.drop_drop]⟩,dK (aC W g 1 _) h.bs (fun j hj b' off e=>by simp at e;rw [hj,<- e.1];exact h.ne),h.ne,h.small⟩;subst hv;simpa using hk.set 1 (qI ((k+s:Nat):Int))
theorem RdS.drewN {W:qw}{zs:qi}(h:RdS W g b n cap zs st)(m:Nat):RdS (W.drewN m) g b n cap zs st:=⟨h.pos,h.bs,h.ne,h.small⟩
theorem RdS.drew {W:qw}{zs:qi}(h:RdS W g b n cap zs st):RdS W.drew g b n cap zs st:=⟨h.pos,h.bs,h.ne,h.small⟩
theorem aC4 {a W:qw}(h:Turn S a W)(n:Nat):Turn S a (W.drewN n):=⟨h.os,h.tape,h.output,h.size,h.block⟩
theorem jQ {a W:qw}(h:Turn S a W):Turn S a W.drew:=⟨h.os,h.tape,h.output,h.size,h.block⟩
theorem rO (g b n cap:Nat)(zs:qi)(st:Option (List Int))(s:Nat)(w:qw)(h:RdS w g b n cap zs st)(hs:s=1\/s=2\/s=4):
 qC 34 #[.pointer (qP g),qI s] w fun e w'=>e=.returned (qI (oN s st).1)/\RdS w' g b n cap zs (oN s st).2/\Turn (fun j=>j=g) w w':=by
 obtain ⟨k,hk,hb,hr⟩:=h.pos;have hs4:s<=4:=by omega
 have hs1:1<=s:=by omega
 have hl:=h.bs.1;have hsm:=h.small;cases st with
 | none=>
   obtain ⟨q0,q1,q2,_⟩:=hb.three;simp at q2;have HH:=zh h;clear h hb hr hs;go_enter Tryz.func34,Tryz.ntmps34
   go_wp2_with fail
   go_quiet (fail)
   have R1:=HH.o.drewN nq;have T1:=aC4 (Turn.refl (fun j=>j=g) w) nq;generalize w.drewN nq=W1 at *;obtain ⟨k1,_,hb1,_⟩:=R1.pos;have u2:=hb1.cell 2;have f2:=hb1.frozen 2;simp at u2;have HF:=zh (xA (RdS.short R1) (T1.trans (aC W1 g 2 (.bool true))));clear R1 T1 hb1 q0 q1 q2;go_wp2;go_ret;exact ⟨rfl,HF.o.1,HF.o.2⟩
 | some r=>
   have hr':=hr r rfl;have hrl:r.length=n-k:=by rw [hr',List.length_drop,hl]
   obtain ⟨q0,q1,q2,_⟩:=hb.three;simp at q2;by_cases c:s<=r.length
   .rw [wT (oX c)];obtain ⟨m,hm⟩:=eqx (k+s);have hwr:IntKind.i64.wrap ((k:Int)+(s:Int))=(m:Int):=by rw [hm];push_cast;exact bC _ (by omega) (by omega)
    have hcc:¬ ((n:Int)<(m:Int)):=by omega
    have hks:k+s<=n:=by omega
    have hcap:=h.bs.2.2.2.2;have HH:=zh (xA h (xA hb hr'));have HLO:=zh (show low (r.take s)=low ((zs.drop k).take s) by rw [hr']);have hw1:IntKind.i64.wrap ((m:Int)-(s:Int))=(k:Int):=by rw [hm];push_cast;rw [show (k:Int)+s-s=k by omega];exact bC _ (by omega) (by omega)
    have hi1:(k:Int)<=(m:Int):=by omega
    have hi2:(m:Int)<=(cap:Int):=by omega
    have hz1:¬ cap=k:=by omega
    have hz4:m-k=s:=by omega
    have HLOW:=zh (fun (W:qw) (hB:BS W (qP b) n cap zs)=>vA b k s (cap-k) ((zs.drop k).take s) W (by have:=(hB.drop k hk).take s (by omega);rw [Nat.zero_add] at this;exact this) hs4);have HMK:=zh hm;clear h hb hr hs hr' hrl c hm;go_enter Tryz.func34,Tryz.ntmps34
    go_wp2_with fail
    go_region_held3 (fun w'=>w'.cell? (qR g 0)=some (qS (qP b) n cap)/\w'.cell? (qR g 1)=some (qI k)/\w'.cell? (qR g 2)=some (.bool false)) (go_keep) (first|fail)
    obtain ⟨h,hb,hr'⟩:=HH.o;have hb0:Blk w.drew g #[qS (qP b) n cap,qI k,.bool false] 85:=hb;have R1:=h.drew;have T1:=jQ (Turn.refl (fun j=>j=g) w);generalize w.drew=W1 at *;clear q0 q1 q2;obtain ⟨q0,q1,q2,_⟩:=hb0.three;have f1:=hb0.frozen 1;have R2:=R1.go hb0 hr' hks (qI (m:Int)) (by rw [HMK.o]);have k2:=hb0.set 1 (qI (m:Int));have T2:=T1.trans (aC W1 g 1 (qI (m:Int)));simp at k2;obtain ⟨u0,u1,u2,_⟩:=k2.three;have hB:=R2.bs;have HF:=zh (xA R2 T2);clear h hb hr' hb0 R1 T1 k2 R2 T2;go_wp2_with fail
    go_region_held3 (fun w'=>w'.cell? (qR g 0)=some (qS (qP b) n cap)/\w'.cell? (qR g 1)=some (qI (m:Int))) (go_keep) (first
     | (go_at_call 67;refine (HLOW.o _ (by first|exact hB|exact hB.bw brf.drew)).mono ?_;rintro e w9 ⟨rfl,rfl⟩))
    have HF2:=zh (xA HF.o.1.drew (jQ HF.o.2));have HL2:=zh HLO.o.symm;clear HF HLO hB HLOW q0 q1 q2 u0 u1 u2 f1;go_wp2;go_ret;exact ⟨aQ HL2.o,HF2.o.1,HF2.o.2⟩
   .rw [wU (wK c)];have hwr:IntKind.i64.wrap ((k:Int)+(s:Int))=(k:Int)+s:=bC _ (by omega) (by omega);have hcc:(n:Int)<(k:Int)+(s:Int):=by omega
    have HH:=zh h;clear h hb hr hs hr' hrl c;go_enter Tryz.func34,Tryz.ntmps34
    go_wp2_with fail
    go_region_held3 (fun w'=>w'.cell? (qR g 0)=some (qS (qP b) n cap)/\w'.cell? (qR g 1)=some (qI k)/\w'.cell? (qR g 2)=some (.bool false)) (go_keep) (first|fail)
    have R1:=HH.o.drew;have T1:=jQ (Turn.refl (fun j=>j=g) w);generalize w.drew=W1 at *;obtain ⟨k1,_,hb1,_⟩:=R1.pos;have v2:=hb1.cell 2;have f2:=hb1.frozen 2;simp at v2;have HF:=zh (xA (RdS.short R1) (T1.trans (aC W1 g 2 (.bool true))));clear R1 T1 hb1 q0 q1 q2;go_wp2;go_ret;exact ⟨rfl,HF.o.1,HF.o.2⟩
structure LayB (L:Lay):Prop where
 r:LayR L
 p:L.places.length<=4/\∀ x∈L.places,x.banks.length<=4
 s:L.slots.length<=4
 t:L.targets.length<=4/\∀ x∈L.targets,x.length<=16
theorem aE9:LayB L0:=⟨⟨by simp [L0],by simp [L0],by simp [L0]⟩,by simp [L0],by simp [L0],by simp [L0]⟩
theorem fC {s:Int}(h:lkc ps s w k d=0):cfo s w k d=true/\1<=ps.length/\ps.length<=4/\fV ps/\kI ps:=by
 unfold lkc at h;split at h
 .rename_i h1;exact absurd h h1
 rename_i h1;split at h
 .exact absurd h (by decide)
 rename_i h2;simp at h1;unfold dB at h1;split at h1
 .exact absurd h1 (by decide)
 rename_i h3;split at h1
 .exact absurd h1 (by decide)
 rename_i h4;split at h1
 .exact absurd h1 (by decide)
 rename_i h5;exact ⟨by simpa using h3,by omega,by omega,xZ.1 h5,xZ.1 h2⟩
theorem aHb {s:Int}(h:lkc ps s w k d=0):LayB (lay ps s w k):=by
 obtain ⟨hc,h1,h2,hv,_⟩:=fC h;unfold cfo at hc;simp at hc;obtain ⟨c1,c2,c3,c4,c5,c6,_⟩:=hc;have hmem:∀ i,i<ps.length->bI (ps.getD i zP)=0:=hv;refine ⟨⟨fun x hx z hz=>?_,fun z hz=>?_,?_,?_,fun x hx=>?_⟩,⟨?_,fun x hx=>?_⟩,?_,⟨?_,fun x hx=>?_⟩⟩
 .simp only [lay,List.mem_map,List.mem_range] at hx;obtain ⟨i,hi,rfl⟩:=hx;simp only [plc,List.mem_map,List.mem_range] at hz;obtain ⟨q,hq,rfl⟩:=hz;have a1:=cN hv i (by omega);have a2:=cL (hmem i hi) q (by omega);have a3:=bS (hmem i hi);have a4:=bA (x:=4*((ps.getD i zP).tz.length:Int));have a5:tsz (ps.getD i zP)=rnd (4*((ps.getD i zP).tz.length:Int)):=rfl;rw [a5];unfold wfi;omega
 .simp only [lay,List.mem_map,List.mem_range] at hz;obtain ⟨i,hi,rfl⟩:=hz;have a1:=bP hv ps.length aL;have a4:=bA (x:=4*w);have a5:(0:Int)<=(i:Int)*rnd (4*w):=Int.mul_nonneg (by omega) (by omega);have a6:(i:Int)*rnd (4*w)<=4*287:=Int.mul_le_mul (by omega) (by omega) (by omega) (by omega);unfold slt wfi;omega
 .simp [lay];omega
 .simp [lay];omega
 .simp only [lay,List.mem_map,List.mem_range] at hx;obtain ⟨i,hi,rfl⟩:=hx;have a3:=bS (hmem i hi);simp only [tgs,xH,List.length_range];omega
 .simp [lay];omega
 .simp only [lay,List.mem_map,List.mem_range] at hx;obtain ⟨i,hi,rfl⟩:=hx;have a3:=bS (hmem i hi);simp only [plc,xH,List.length_range];omega
 .simp [lay];omega
 .simp [lay];omega
 .simp only [lay,List.mem_map,List.mem_range] at hx;obtain ⟨i,hi,rfl⟩:=hx;have a3:=bS (hmem i hi);simp only [tgs,xH,List.length_range];omega
theorem mE (ps:List PMod)(s w k d:Int):LayB (lkL ps s w k d):=by
 unfold lkL;by_cases h:lkc ps s w k d=0
 .rw [if_pos h];exact aHb h
 .rw [if_neg h];exact aE9
theorem aMk {W:qw}(hp:OPl W base base (qS a0 xs.length c0) xs)(hps:xs.map (fun x=>x.1)=L.places)(hs:OG 3 1 clI W base (qS a2 L.slots.length c2) L.slots)(ht:OTg W base base (qS a5 ts.length c5) ts)(htt:ts.map (fun x=>x.1)=L.targets)(R:LayR L)(hv:wfi L.stack/\wfi L.flash/\wfi L.ram):LyT W L a0 c0 xs a2 c2 a5 c5 ts where
 p:=by
  obtain ⟨_,h2,h3,h4⟩:=bG hp.head;refine ⟨rfl,by omega,fun hn=>?_,fun i hi=>?_,by omega⟩
  .obtain ⟨g,hg,_⟩:=h4 hn;refine ⟨g,0,hg,fun i hi=>?_⟩;obtain ⟨g',hg',q1,q2,q3,q4,_⟩:=aGr hp i hi;rw [hg] at hg';simp at hg';subst hg';simp only [Nat.zero_add];exact ⟨q1,q2,q3,q4⟩
  .obtain ⟨_,_,_,_,_,_,o⟩:=aGr hp i hi;exact lV o (R.p _ (by rw [<- hps];exact List.mem_map.2 ⟨xs.getD i zPB,by simp [xB,hi],rfl⟩))
 ps:=hps
 s:=lV hs R.s
 t:=by
  obtain ⟨_,h2,h3,h4⟩:=bG ht.head;refine ⟨rfl,by omega,fun hn=>?_,fun i hi=>?_,by omega⟩
  .obtain ⟨g,hg,_⟩:=h4 hn;refine ⟨g,0,hg,fun i hi=>?_⟩;obtain ⟨g',hg',q1,_⟩:=aGp ht i hi;rw [hg] at hg';simp at hg';subst hg';simp only [Nat.zero_add];exact q1
  .obtain ⟨_,_,_,o⟩:=aGp ht i hi;obtain ⟨k1,k2,k3,k4⟩:=bG o;refine ⟨k1,by omega,fun hn=>?_,by omega⟩;obtain ⟨g,hg,_⟩:=k4 hn;refine ⟨g,0,hg,fun j hj=>?_⟩;obtain ⟨g',hg',u0,u1,u2⟩:=aMd o j hj;rw [hg] at hg';simp at hg';subst hg';simp only [Nat.zero_add];exact ⟨u0,u1,u2⟩
 tt:=htt
 v:=hv
theorem LayO.lyt {W:qw}(h:LayO W base L a0 c0 xs a2 c2 a5 c5 ts)(R:LayR L)(hv:wfi L.stack/\wfi L.flash/\wfi L.ram):LyT W L a0 c0 xs a2 c2 a5 c5 ts:=aMk h.p h.ps h.s h.t h.tt R hv
theorem aNv {s:Int}(h:lkc ps s w k d=0):wfi (lay ps s w k).stack/\wfi (lay ps s w k).flash/\wfi (lay ps s w k).ram:=by
 obtain ⟨hc,h1,h2,hv,_⟩:=fC h;unfold cfo at hc;simp at hc;obtain ⟨c1,c2,c3,c4,c5,c6,_⟩:=hc;have a1:=bP hv ps.length aL;have a2:=cN hv ps.length aL;have a4:=bA (x:=4*w);have a5:(0:Int)<=(s.toNat:Int)*rnd (4*w):=Int.mul_nonneg (by omega) (by omega);have a6:(s.toNat:Int)*rnd (4*w)<=4*287:=Int.mul_le_mul (by omega) (by omega) (by omega) (by omega);simp only [lay];unfold wfi;omega
theorem aAr (ps:List PMod)(s w k d:Int):wfi (lkL ps s w k d).stack/\wfi (lkL ps s w k d).flash/\wfi (lkL ps s w k d).ram:=by
 unfold lkL;by_cases h:lkc ps s w k d=0
 .rw [if_pos h];exact aNv h
 .rw [if_neg h];unfold L0 wfi;simp
def cV (L:Lay):Int:=if L.slots=[] then wrap64 (65536+L.ram) else L.slots.getD 0 0
theorem sC (L:Lay)(a0:qO)(c0:Nat)(xs:List PB)(a2:qO)(c2:Nat)(a5:qO)(c5:Nat)(ts:List TB)(w:qw)(h:LyT w L a0 c0 xs a2 c2 a5 c5 ts):
 qC 79 #[.agg (qL L a0 xs.length c0 a2 L.slots.length c2 a5 ts.length c5)] w (qB w (qI (cV L))):=by
 have HB:Zh (qY w (w.alloc (.cells (qL L a0 xs.length c0 a2 L.slots.length c2 a5 ts.length c5) 64))):=brf.alloc aL _;have hs:=h.s.bw HB.o;have hmx:=h.s.2.1;unfold maxLen at hmx;unfold cV;by_cases c:L.slots=[]
 .rw [if_pos c];have hl:L.slots.length=0:=by rw [c];rfl
  rw [hl];rw [hl] at HB;go_enter Tryz.func79,Tryz.ntmps79
  go_wp2;go_ret;exact ⟨rfl,HB.o⟩
 .rw [if_neg c];have hl:0<L.slots.length:=List.length_pos_iff.2 c;have hl':(0:Int)<(L.slots.length:Int):=by omega
  obtain ⟨b,off,rfl,hc⟩:=hs.2.2.2.1 (by omega);have q:=hc 0 hl;rw [Nat.add_zero] at q;generalize L.slots.length=n at *;generalize L.slots.getD 0 0=z at *;clear hs hc c;go_enter Tryz.func79,Tryz.ntmps79
  go_wp2;go_ret;exact ⟨rfl,HB.o⟩
def cfQ (L:Lay):Int:=wrap64 ((wrap64 (wrap64 (65536+L.ram)-L.slots.getD 0 0)).tdiv (L.slots.length:Int))
def cfW (L:Lay):Int:=if L.slots=[] then 1 else wrap64 ((cfQ L).tdiv 4)
def cfK (L:Lay):Int:=wrap64 (cV L-L.stack)
theorem zC (L:Lay)(a0:qO)(c0:Nat)(xs:List PB)(a2:qO)(c2:Nat)(a5:qO)(c5:Nat)(ts:List TB)(w:qw)(h:LyT w L a0 c0 xs a2 c2 a5 c5 ts):
 qC 145 #[.agg (qL L a0 xs.length c0 a2 L.slots.length c2 a5 ts.length c5)] w (qB w (.agg (qW L.slots.length (cfW L) (cfK L) 0))):=by
 have hmx:=h.s.2.1;unfold maxLen at hmx;by_cases c:L.slots=[]
 .have hl:L.slots.length=0:=by rw [c];rfl
  have hW:=zh (show cfW L=1 by unfold cfW;rw [if_pos c]);have hK:=zh (show cfK L=wrap64 (wrap64 (65536+L.ram)-L.stack) by unfold cfK cV;rw [if_pos c]);rw [hW.o,hK.o,hl];go_enter Tryz.func145,Tryz.ntmps145
  go_wp2;refine bodyPost_ret (v:=.agg #[qI 0,qI 1,qI (wrap64 (wrap64 (65536+L.ram)-L.stack)),qI 0]) (by simp [results,Tryz.results145,go_sem]) rfl ⟨rfl,?_⟩;exact (brf.alloc aL _).alloc (by simp) _
 .have hl:0<L.slots.length:=List.length_pos_iff.2 c;have hl':(0:Int)<(L.slots.length:Int):=by omega
  have he:((L.slots.length:Int)==0)=false:=by simp;omega
  have hW:=zh (show cfW L=wrap64 ((cfQ L).tdiv 4) by unfold cfW;rw [if_neg c]);have hK:=zh (show cfK L=wrap64 (L.slots.getD 0 0-L.stack) by unfold cfK cV;rw [if_neg c]);rw [hW.o,hK.o];have hQ:Zh (cfQ L=wrap64 ((wrap64 (wrap64 (65536+L.ram)-L.slots.getD 0 0)).tdiv (L.slots.length:Int))):=rfl;clear hW hK;obtain ⟨b,off,rfl,hc⟩:=h.s.2.2.2.1 (by omega);have q:=hc 0 hl;have qlt:=xD _ _ q;rw [Nat.add_zero] at q;generalize L.slots.length=n at *;generalize L.slots.getD 0 0=z at *;generalize cfQ L=Q at *;clear hc c h;have B0:qY w ((w.alloc (.cells (qL L a0 xs.length c0 (some (qR b off)) n c2 a5 ts.length c5) 64)).alloc (.cells (qW 0 0 0 0) 25)):=(brf.alloc aL _).alloc (by simp) _;have u:=(Blk.new w (qL L a0 xs.length c0 (some (qR b off)) n c2 a5 ts.length c5) 64).alloc (.cells (qW 0 0 0 0) 25);have v:=Blk.new (w.alloc (.cells (qL L a0 xs.length c0 (some (qR b off)) n c2 a5 ts.length c5) 64)) (qW 0 0 0 0) 25;try unfold qY at *
  simp only [xF] at v;have HF:=zh (fun (nq:Nat)=>xA (below_drewN B0 nq) (xA (u.bw (below_drewN brf nq)) (v.bw (below_drewN brf nq))));clear B0 u v;go_enter Tryz.func145,Tryz.ntmps145
  go_wp2
  go_quiet (fail)
  rw [<- hQ.o];go_wp2;obtain ⟨B1,u,v⟩:=HF.o nq;clear HF;generalize (((w.alloc (.cells (qL L a0 xs.length c0 (some (qR b off)) n c2 a5 ts.length c5) 64)).alloc (.cells (qW 0 0 0 0) 25)).drewN nq)=W at *;have q':=aE B1 q;have p1:=u.e1;have p2:=u.e2;obtain ⟨v0,v1,v2,v3⟩:=v.z4;have vf:=v.frozen;have nb:b≠w.heap.size+1:=by omega
  have nb':w.heap.size+1≠b:=by omega
  have HB1:=zh (xA B1 v);clear u v B1
  go_region_held3 (fun w'=>w'.cell? (qR w.heap.size 1)=some (qI L.stack)/\w'.cell? (qR w.heap.size 2)=some (qS (some (qR b off)) n c2)/\w'.cell? (qR b off)=some (qI z)) (go_keep) (fail)
  simp only [xP];have kz:=(((HB1.o.2.set 0 (qI n)).set 1 (qI (wrap64 (Q.tdiv 4)))).set 2 (qI (wrap64 (z-L.stack)))).set 3 (qI 0);have T:Turn (fun j=>j=w.heap.size+1) W ((((W.setCell (qR (w.heap.size+1) 0) (qI n)).setCell (qR (w.heap.size+1) 1) (qI (wrap64 (Q.tdiv 4)))).setCell (qR (w.heap.size+1) 2) (qI (wrap64 (z-L.stack)))).setCell (qR (w.heap.size+1) 3) (qI 0)):=(((aC _ _ _ _).trans (aC _ _ _ _)).trans (aC _ _ _ _)).trans (aC _ _ _ _);have HB2:=zh (aI HB1.o.1 T (fun k e=>by omega) HB1.o.1.size);simp only [yA,yB,yC] at kz;generalize ((((W.setCell (qR (w.heap.size+1) 0) (qI n)).setCell (qR (w.heap.size+1) 1) (qI (wrap64 (Q.tdiv 4)))).setCell (qR (w.heap.size+1) 2) (qI (wrap64 (z-L.stack)))).setCell (qR (w.heap.size+1) 3) (qI 0))=W2 at *;obtain ⟨s0,s1,s2,s3⟩:=kz.z4;clear T kz HB1;go_wp2;exact bodyPost_ret (v:=.agg (qW n (wrap64 (Q.tdiv 4)) (wrap64 (z-L.stack)) 0)) (by simp [results,Tryz.results145,go_sem,s0,s1,s2,s3]) rfl ⟨rfl,HB2.o.drew⟩
def Lok (ps:List PMod)(L:Lay):Prop:=lkc ps (L.slots.length:Int) (cfW L) (cfK L) 0=0/\lkL ps (L.slots.length:Int) (cfW L) (cfK L) 0=L
def plE (a b:Pl):Decidable (a=b):=decidable_of_iff (a.text=b.text/\a.banks=b.banks/\a.data=b.data/\a.size=b.size) (by cases a;cases b;simp)
def aOp (a b:Lay):Decidable (a=b):=
 have:DecidableEq Pl:=plE
 decidable_of_iff (a.places=b.places/\a.stack=b.stack/\a.slots=b.slots/\a.flash=b.flash/\a.ram=b.ram/\a.targets=b.targets) (by cases a;cases b;simp)
def aMm (ps:List PMod)(L:Lay):Decidable (Lok ps L):=@instDecidableAnd _ _ _ (aOp _ _)
theorem aOj {w w':qw}(h:(execOp a.eval o).run P w=.ok (.value v) w')(hk:K (a.put o.dst v) w'):o.wp P a w K Q:=by
 unfold Oper.wp;rw [h];exact hk
theorem aOk {w w':qw}(h:(execOp a.eval o).run P w=.ok .skip w')(hk:K (a.put o.dst undef) w'):o.wp P a w K Q:=by
 unfold Oper.wp;rw [h];exact hk
theorem aOl {w w':qw}(h:(execOp a.eval o).run P w=.ok (.enter f args) w'){R:Ending->World->Prop}(hc:Calls P f args w' R)(hk:∀ e w'',R e w''->∃ v,e=.returned v/\K (a.put o.dst v) w''):o.wp P a w K Q:=by
 unfold Oper.wp;rw [h];refine hc.mono fun e w'' hr=>?_;obtain ⟨v,rfl,hv⟩:=hk e w'' hr;exact hv
theorem aLo {w:qw}(ho:ops[i]?=some o)(hg:o.guard=none)(h:o.wp P a w K Q):wpOp P ops Q i K a w:=by
 unfold wpOp;rw [ho];simp only [Region.wanted,hg];exact .inl h
theorem tL {w w':qw}(ho:ops[i]?=some o)(hg:o.guard=none)(h:(execOp a.eval o).run P w=.ok (.value v) w')(hk:K (a.put o.dst v) w'):wpOp P ops Q i K a w:=
 aLo ho hg (aOj h hk)
theorem aOf {w w':qw}(ho:ops[i]?=some o)(hg:o.guard=none)(h:(execOp a.eval o).run P w=.ok .skip w')(hk:K (a.put o.dst undef) w'):wpOp P ops Q i K a w:=
 aLo ho hg (aOk h hk)
theorem aOg {w w':qw}(ho:ops[i]?=some o)(hg:o.guard=none)(h:(execOp a.eval o).run P w=.ok (.enter f args) w'){R:Ending->World->Prop}(hc:Calls P f args w' R)(hk:∀ e w'',R e w''->∃ v,e=.returned v/\K (a.put o.dst v) w''):wpOp P ops Q i K a w:=
 aLo ho hg (aOl h hc hk)
theorem bJ (hi:i∈Region.ready md ops listed)(ho:ops[i]?=some o)(e:Edge)(he:e∈o.after)(hb:Region.binds md e=true):listed.getD e.on false=true:=by
 obtain ⟨_,o',ho',h⟩:=mem_ready.1 hi;rw [ho] at ho';injection ho' with e'
 subst e';exact h e he hb
theorem aGf (hr:Region.ready md ops listed=[])(i:Nat)(o:Oper)(ho:ops[i]?=some o)(hp:∀ e∈o.after,Region.binds md e=true->listed.getD e.on false=true):listed.getD i true=true:=by
 cases h:listed.getD i true
 .have:i∈Region.ready md ops listed:=mem_ready.2 ⟨h,o,ho,hp⟩;rw [hr] at this;cases this
 .rfl
