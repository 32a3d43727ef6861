import Derived.Test.YtcimaholejajpaaGreatF09
set_option linter.all false
namespace Go.Proofs.YtcimaholejajpaaGreat
open Go.RowKit Classical
set_option maxRecDepth 100000
variable {P:PMod}{b m:Int}{k s:Nat}{xs:List SlT}
theorem aOv {S F:Nat->Nat->Nat->World->Prop}{G:Prop}(main:(∀ a b c W,F a b c W->S a b c W)->G)(pf:∀ a b c W,F a b c W->S a b c W):G:=main pf
structure Mk3 (N:Nat)(w1 W:qw)(ZF ZR:Array Value)(F R gf gr gm:Nat):Prop where
 be:Below N w1 W
 f:Blk W gf ZF 5
 r:Blk W gr ZR 5
 m:Blk W gm (qV (qP gf) F F (qP gr) R R none 0 0) 33
 lo:N<=gf/\N<=gr/\N<=gm
 ne:gf≠gr
structure ImT (w:qw)(V:Array Value)(F R gf gr gm:Nat)(fz rz:qi)(W:qw):Prop where
 be:qY w W
 kl:Blk W w.heap.size V 64
 kr:Blk W (w.heap.size+1) (qV none 0 0 none 0 0 none 0 0) 33
 km:Blk W gm (qV (qP gf) F F (qP gr) R R none 0 0) 33
 f:OB W w.heap.size (qS (qP gf) F F) fz
 r:OB W w.heap.size (qS (qP gr) R R) rz
 lo:w.heap.size+1<gf/\w.heap.size+1<gr/\w.heap.size+1<gm
 ne:gf≠gr
structure It5 (w:qw)(V:Array Value)(F R gf gr gm gp:Nat)(PV:Array Value)(fz rz:qi)(W:qw):Prop where
 s:ImT w V F R gf gr gm fz rz W
 p:Blk W gp PV 136
section
variable {w:qw}{V:Array Value}{F R gf gr gm gp:Nat}{PV:Array Value}{fz rz:qi}{W W':qw}
theorem ImT.bw (h:ImT w V F R gf gr gm fz rz W)(hb:qY W W'):ImT w V F R gf gr gm fz rz W':=⟨h.be.trans (hb.mono h.be.size),h.kl.bw hb,h.kr.bw hb,h.km.bw hb,h.f.bw hb,h.r.bw hb,h.lo,h.ne⟩
theorem ImT.mf (h:ImT w V F R gf gr gm fz rz W):gm≠gf/\gm≠gr:=by
 obtain ⟨c1,k1⟩:=gK h.f;obtain ⟨c2,k2⟩:=gK h.r;exact ⟨fun e=>by subst e;exact absurd (aW h.km k1) (by decide),fun e=>by subst e;exact absurd (aW h.km k2) (by decide)⟩
theorem ImT.setf (h:ImT w V F R gf gr gm fz rz W){fz':qi}(O:OB W' w.heap.size (qS (qP gf) F F) fz')(T:Turn (fun j=>j=gf) W W'):ImT w V F R gf gr gm fz' rz W':=
 have lo:=h.lo;have ne:=h.ne
 ⟨aI h.be T (fun k e=>by omega) h.be.size,aA T h.kl (by omega),aA T h.kr (by omega),aA T h.km h.mf.1,O,cC T h.r (fun k hk e=>by simp [Value.ownBlock] at hk;omega),lo,ne⟩
theorem ImT.setr (h:ImT w V F R gf gr gm fz rz W){rz':qi}(O:OB W' w.heap.size (qS (qP gr) R R) rz')(T:Turn (fun j=>j=gr) W W'):ImT w V F R gf gr gm fz rz' W':=
 have lo:=h.lo;have ne:=h.ne
 ⟨aI h.be T (fun k e=>by omega) h.be.size,aA T h.kl (by omega),aA T h.kr (by omega),aA T h.km h.mf.2,cC T h.f (fun k hk e=>by simp [Value.ownBlock] at hk;omega),O,lo,ne⟩
theorem It5.bw (h:It5 w V F R gf gr gm gp PV fz rz W)(hb:qY W W'):It5 w V F R gf gr gm gp PV fz rz W':=⟨h.s.bw hb,h.p.bw hb⟩
theorem It5.drew (h:It5 w V F R gf gr gm gp PV fz rz W):It5 w V F R gf gr gm gp PV fz rz W.drew:=h.bw brf.drew
theorem It5.pf (h:It5 w V F R gf gr gm gp PV fz rz W):gp≠gf/\gp≠gr:=by
 obtain ⟨c1,k1⟩:=gK h.s.f;obtain ⟨c2,k2⟩:=gK h.s.r;exact ⟨fun e=>by subst e;exact absurd (aW h.p k1) (by decide),fun e=>by subst e;exact absurd (aW h.p k2) (by decide)⟩
theorem It5.setf (h:It5 w V F R gf gr gm gp PV fz rz W){fz':qi}(O:OB W' w.heap.size (qS (qP gf) F F) fz')(T:Turn (fun j=>j=gf) W W'):It5 w V F R gf gr gm gp PV fz' rz W':=⟨h.s.setf O T,aA T h.p h.pf.1⟩
theorem It5.setr (h:It5 w V F R gf gr gm gp PV fz rz W){rz':qi}(O:OB W' w.heap.size (qS (qP gr) R R) rz')(T:Turn (fun j=>j=gr) W W'):It5 w V F R gf gr gm gp PV fz rz' W':=⟨h.s.setr O T,aA T h.p h.pf.2⟩
end
set_option maxHeartbeats 16000000 in
theorem sJ (a:qO)(n cap:Nat)(ms:List Md)(L:Lay)(a0:qO)(c0:Nat)(xs:List PB)(a2:qO)(c2:Nat)(a5:qO)(c5:Nat)(ts:List TB)(w:qw)(h:MSD w a n cap ms)(hL:LyT w L a0 c0 xs a2 c2 a5 c5 ts):
 qC 58 #[qS a n cap,.agg (qJ L a0 xs c0 a2 c2 a5 ts c5)] w (ImM w (aF ms) L):=by
 have B0:qY w ((w.alloc (.cells (qJ L a0 xs c0 a2 c2 a5 ts c5) 64)).alloc (.cells (qV none 0 0 none 0 0 none 0 0) 33)):=bal.alloc (by simp) _;have kl:=(Blk.new w (qJ L a0 xs c0 a2 c2 a5 ts c5) 64).alloc (.cells (qV none 0 0 none 0 0 none 0 0) 33);have kr:=Blk.new (w.alloc (.cells (qJ L a0 xs c0 a2 c2 a5 ts c5) 64)) (qV none 0 0 none 0 0 none 0 0) 33;try unfold qY at *
 simp only [xF] at kr;have HRL:=zh (fun (W:qw) (hb:qY w W)=>yI a n cap ms L a0 c0 xs a2 c2 a5 c5 ts W (h.bw hb) (hL.bw hb));have HM:=zh h;have HL:=zh hL;clear h hL;go_enter Tryz.func58,Tryz.ntmps58
 go_wp2_with fail
 refine (HRL.o _ B0).mono ?_;rintro e w1 ⟨rfl,hb1⟩;have B1:=B0.trans (hb1.mono B0.size);have kl1:=kl.bw hb1;have kr1:=kr.bw hb1;clear B0 kl kr hb1;by_cases hok:Lok (aF ms) L
 .rw [xR hok];have K:=jG hok;obtain ⟨F,hF⟩:∃ F:Nat,L.flash=(F:Int):=⟨L.flash.toNat,by have:=K.fr;omega⟩;obtain ⟨R,hR⟩:∃ R:Nat,L.ram=(R:Int):=⟨L.ram.toNat,by have:=K.rr;omega⟩;have hF1:F<=16384:=by have:=K.fr;omega
  have hR1:R<=16384:=by have:=K.rr;omega
  have hmF:=aAq F hF1;have hmR:=aAq R hR1;have x3:w1.cell? (qR w.heap.size 3)=some (qI (F:Int)):=by rw [<- hF];exact kl1.cell 3
  have x4:w1.cell? (qR w.heap.size 4)=some (qI (R:Int)):=by rw [<- hR];exact kl1.cell 4
  have hw1:w.heap.size<w1.heap.size:=kl1.lt;generalize hZF:zby F=ZF at *;generalize hZR:zby R=ZR at *;have HZ:=zh (xA hZF hZR);clear hZF hZR;have HK1:=zh (xA B1 (xA kl1 kr1));have HFR:=zh (xA hF hR);have HKN:=zh K;have HOK:=zh hok;clear HRL;clear B1 kl1 kr1 hF hR K hok;go_wp2_with fail
  obtain ⟨N,hN⟩:=eqx (w1.heap.size);have hNw:N<=w1.heap.size:=by omega
  rename_i K hK;apply aOv (F:=fun gf gr gm W=>Mk3 N w1 W ZF ZR F R gf gr gm) (S:=fun gf gr gm W=>Exit.then K (bodyPost Tryz.prog Tryz.f58 (ImM w (aF ms) L)) .normal ⟨#[qS a n cap,.agg (qJ L a0 xs c0 a2 c2 a5 ts c5),undef,.pointer (qP w.heap.size),.pointer (some (qR (w.heap.size+1) 0)),.bool false,.pointer (qP gm),undef,undef,qS a n cap,.agg (qJ L a0 xs c0 a2 c2 a5 ts c5),.bool true,.bool false,undef,.pointer (some (qR w.heap.size 3)),qI (F:Int),qS (qP gf) F F,.pointer (some (qR w.heap.size 4)),qI (R:Int),qS (qP gr) R R,.agg (qV (qP gf) F F (qP gr) R R none 0 0),undef,undef,undef,undef,undef,undef,undef,undef,undef,undef,undef,undef,undef,undef,undef,undef,undef,undef,undef,undef,undef,undef,undef,undef,undef,undef,undef,undef,undef,undef,undef],[]⟩ W)
  .intro REST0;have REST:=zh REST0;clear REST0
   go_region_held3 (fun w'=>w'.cell? (qR w.heap.size 3)=some (qI (F:Int))/\w'.cell? (qR w.heap.size 4)=some (qI (R:Int))) ((refine xA ?_ ?_)<;>(repeat (first|exact x3|exact x4|apply tH|apply oK|(apply vJ (by omega))))) (fail)
   all_goals
    refine REST.o _ _ _ _ ?_;exact ⟨(by repeat (first|with_reducible exact brf|with_reducible apply aBk|with_reducible apply vL hNw|with_reducible apply aEa (by omega))),(by repeat (first|with_reducible apply fT|with_reducible exact fS (by simp only [xF,fQ])|with_reducible apply cX|with_reducible apply dE (by omega)|with_reducible apply Blk.alloc)),(by repeat (first|with_reducible apply fT|with_reducible exact fS (by simp only [xF,fQ])|with_reducible apply cX|with_reducible apply dE (by omega)|with_reducible apply Blk.alloc)),(by repeat (first|with_reducible apply fT|with_reducible exact fS (by simp only [xF,fQ])|with_reducible apply cX|with_reducible apply dE (by omega)|with_reducible apply Blk.alloc)),(by omega),(by omega)⟩
  .rintro gf gr gm W hF;show Exit.then _ _ _ _ _
   subst hN;have hpl:(aF ms).length=n:=by rw [bQ];exact HM.o.s.1
   have hn4:n<=4:=by have:=HKN.o.n;omega
   have HXL:=zh (show xs.length=n from by
    have h1:=congrArg List.length HL.o.ps;rw [HKN.o.pl] at h1;simp at h1
    omega)
   have hx4:xs.length<=4:=by have:=HXL.o;omega
   have S0:ImT w (qJ L a0 xs c0 a2 c2 a5 ts c5) F R gf gr gm (flB (aF ms) L 0) (raB (aF ms) L 0) W:=by
    obtain ⟨B1,kl1,kr1⟩:=HK1.o;have h1:=kr1.lt;have h2:=hF.lo;have e1:flB (aF ms) L 0=List.replicate F 0:=by show List.replicate L.flash.toNat 0=_;rw [HFR.o.1];rfl
    have e2:raB (aF ms) L 0=List.replicate R 0:=by show List.replicate L.ram.toNat 0=_;rw [HFR.o.2];rfl
    rw [e1,e2];refine ⟨B1.trans (hF.be.mono B1.size),kl1.bw hF.be,kr1.bw hF.be,hF.m,pH (by rw [HZ.o.1];exact hF.f) (by omega) hF1,pH (by rw [HZ.o.2];exact hF.r) (by omega) hR1,by omega,hF.ne⟩
   have HS0:=zh S0;have c0':=S0.kl.cell 0;simp only [List.getElem?_toArray,List.getElem?_cons_zero] at c0';clear S0 hF HK1 x3 x4 hw1 hmF hmR HZ hNw;go_wp2;clear c0';go_loopw [24] (fun i wr=>∃ m:Nat,m<=n/\i=qI m/\ImT w (qJ L a0 xs c0 a2 c2 a5 ts c5) F R gf gr gm (flB (aF ms) L m) (raB (aF ms) L m) wr) (qf n)
   .exact ⟨0,xC _,rfl,HS0.o⟩
   .clear HS0;obtain ⟨m,hm,rfl,S⟩:=hrel;generalize wr=wo at *;by_cases hlt:m<n
    .have hlt':(m:Int)<(n:Int):=by omega
     have hml':(m:Int)<(xs.length:Int):=by have:=HXL.o;omega
     obtain ⟨b,off,rfl,y0,y1,y2,y3,y4,y5,y6,y7⟩:=HM.o.s.at m hlt;obtain ⟨pb,po,rfl,z0,z1,z2,z3⟩:=HL.o.p.at m (by have:=HXL.o;omega);have HPB:=zh (HL.o.p.2.2.2.1 m (by have:=HXL.o;omega));have HMD:=zh (HM.o.d m hlt);have HPM:Zh ((aF ms).getD m zP=(ms.getD m zMd).pm):=cD (by have:=HM.o.s.1;omega)
     have HPP:=zh (show (xs.getD m zPB).1=plc (aF ms) m from by
      rw [<- HKN.o.place m (by omega),<- HL.o.ps,bK _ _ _ zPB _ (by have:=HXL.o;omega)])
     have HAT:=zh (HKN.o.at m (by omega));have HFL:Zh (flB (aF ms) L (m+1)=cH (flB (aF ms) L m) ((aF ms).getD m zP) (L.places.getD m zPB.1) ((aF ms).getD m zP).bl.length):=rfl;have HRA:Zh (raB (aF ms) L (m+1)=gQ (ovr (raB (aF ms) L m) ((L.places.getD m zPB.1).data-65536).toNat ((aF ms).getD m zP).dz) ((L.places.getD m zPB.1).data-65536).toNat ((aF ms).getD m zP).rz (L.places.getD m zPB.1).data ((aF ms).getD m zP).rz.length):=rfl;have HVL:=zh (HKN.o.v m (by omega));rw [HKN.o.place m (by omega),<- HPP.o,HPM.o] at HFL HRA;rw [<- HPP.o,HPM.o,HFR.o.1,HFR.o.2] at HAT;rw [HPM.o] at HVL;clear HPM HPP;generalize hFZ:flB (aF ms) L (m+1)=FZ at HFL;generalize hRZ:raB (aF ms) L (m+1)=RZ at HRA;have HFZ:=zh (xA hFZ hRZ);clear hFZ hRZ;generalize flB (aF ms) L m=fz at *;generalize raB (aF ms) L m=rz at *;unfold svP at z1;generalize xs.getD m zPB=x at *;obtain ⟨⟨xt,xb,xd,xz⟩,xa,xc⟩:=x;generalize ms.getD m zMd=M at *;obtain ⟨P,hP⟩:=eqx (M.pm);rw [<- hP] at HFL HRA HAT HVL;have HPE:=zh (show P.tz=M.tz/\P.bl=M.bl.map (fun B=>B.2.2.2)/\P.dz=M.dz/\P.rz=M.rz by rw [hP];exact ⟨rfl,rfl,rfl,rfl⟩);clear hP;obtain ⟨nm,ta,tn,tc,tz,ba,bn,bc,bl,da,dn,dc,dz,bss,ra,rn,rc,rrz,ia,im,ic,ss,ea,en,ec,es⟩:=M;dsimp only at z0 z1 z2 z3 HPB HFL HRA HAT HMD HPE y0 y1 y2 y3 y4 y5 y6 y7;obtain ⟨kt,hkt⟩:∃ kt:Nat,xt=(kt:Int):=⟨xt.toNat,by have:=HAT.o.1.1;omega⟩;obtain ⟨f,hf⟩:∃ f:Nat,xd=65536+(f:Int):=⟨(xd-65536).toNat,by have:=HAT.o.2.2.2.1;omega⟩;subst hkt hf;have HIT:Zh (IS w ta tn tc tz/\BKS w ba bn bc bl/\BS w da dn dc dz/\IS w ra rn rc rrz):=zh ⟨HMD.o.t,HMD.o.b,HMD.o.d,HMD.o.r⟩;have hbl:bl.length=bn:=HIT.o.2.1.1;have htl:tz.length=tn:=HIT.o.1.1;have hdl:dz.length=dn:=HIT.o.2.2.1.1;have hrl:rrz.length=rn:=HIT.o.2.2.2.1;have hPl:P.bl.length=bn:=by rw [HPE.o.2.1,xH];exact hbl
     have hbn4:bn<=4:=by have h1:=(bS HVL.o).2.2.2.1;omega
     have hrn:rn<=16:=by
      have V:=fA (by simp [dO]) (show mdo P.nm P.tz.length P.tz P.bl.length (dO P.bl) P.dz.length P.bss P.rz.length P.rz P.ss.length P.ss P.es.length P.es=0 from HVL.o);have h1:=V.r;rw [HPE.o.2.2.2] at h1;omega
     have hfd:f+dn<=R:=by
      have h1:=HAT.o.2.2.2.2;rw [HPE.o.2.2.1] at h1;omega
     have HRLB:=zh (show ∀ q,q<rn->0<=rrz.getD q 0/\rrz.getD q 0+4<=(dn:Int) from fun q hq=>by
      have h1:=aFt HVL.o q (by rw [HPE.o.2.2.2];omega);rw [HPE.o.2.2.2,HPE.o.2.2.1] at h1
      omega)
     have HPC:=zh (fun (X:qw) (I:It5 w (qL L (some (qR pb po)) xs.length c0 a2 L.slots.length c2 a5 ts.length c5) F R gf gr gm wo.heap.size #[qI (kt:Int),qS xa xb.length xc,qI (65536+(f:Int)),qI xz] fz rz X)=>show qC 104 #[qS (qP gf) F F,.agg (qM nm ta tn tc ba bn bc da dn dc bss ra rn rc ia im ic ea en ec),.agg #[qI (kt:Int),qS xa xb.length xc,qI (65536+(f:Int)),qI xz]] X fun e w'=>e=.returned (.tuple #[])/\It5 w (qL L (some (qR pb po)) xs.length c0 a2 L.slots.length c2 a5 ts.length c5) F R gf gr gm wo.heap.size #[qI (kt:Int),qS xa xb.length xc,qI (65536+(f:Int)),qI xz] FZ rz w' from
      (aAd gf F nm ta tn tc tz ba bn bc bl da dn dc bss ra rn rc ia im ic ea en ec P kt xa xb xc (65536+(f:Int)) xz fz w.heap.size X w HIT.o.1 HIT.o.2.1 HPE.o.1 HPE.o.2.1 HPB.o I.s.be (by have:=I.s.lo;omega) I.s.f hF1 hbn4 (by have h1:=HAT.o.1.2;rw [HPE.o.1] at h1;omega) (by have h1:=HAT.o.2.1;omega) (fun j hj=>by
        have h1:=HAT.o.2.2.1 j (by omega);rw [HPE.o.2.1,eH _ _ _ zB _] at h1;rw [(HIT.o.2.1.2.2.2.1 j hj).1] at h1
        exact h1)).mono (fun e w' he=>⟨he.1,by rw [HFL.o];exact I.setf he.2.1 he.2.2⟩))
     have HPD:=zh (fun (bp:qO) (bl':Nat) (hbp:(f<R/\bp=some (qR gr f)/\bl'=R-f)\/(f=R/\bp=some (qR gr 0)/\bl'=0)) (X:qw) (I:It5 w (qL L (some (qR pb po)) xs.length c0 a2 L.slots.length c2 a5 ts.length c5) F R gf gr gm wo.heap.size #[qI (kt:Int),qS xa xb.length xc,qI (65536+(f:Int)),qI xz] FZ rz X)=>show qC 105 #[qS bp bl' bl',.agg (qM nm ta tn tc ba bn bc da dn dc bss ra rn rc ia im ic ea en ec),qI (65536+(f:Int))] X fun e w'=>e=.returned (.tuple #[])/\It5 w (qL L (some (qR pb po)) xs.length c0 a2 L.slots.length c2 a5 ts.length c5) F R gf gr gm wo.heap.size #[qI (kt:Int),qS xa xb.length xc,qI (65536+(f:Int)),qI xz] FZ RZ w' from
      (aAc gr R f bp bl' nm ta tn tc ba bn bc da dn dc dz bss ra rn rc rrz ia im ic ea en ec rz w.heap.size X w HIT.o.2.2.1 HIT.o.2.2.2 I.s.be (by have:=I.s.lo;omega) I.s.r hR1 hrn hfd HRLB.o hbp).mono (fun e w' he=>⟨he.1,by
        rw [HRA.o,HPE.o.2.2.1,HPE.o.2.2.2,hrl,show ((65536:Int)+(f:Int)-65536).toNat=f by omega]
        exact I.setr he.2.1 he.2.2⟩))
     have I1:It5 w (qL L (some (qR pb po)) xs.length c0 a2 L.slots.length c2 a5 ts.length c5) F R gf gr gm wo.heap.size #[qI (kt:Int),qS xa xb.length xc,qI (65536+(f:Int)),qI xz] fz rz (wo.alloc (.cells #[qI (kt:Int),qS xa xb.length xc,qI (65536+(f:Int)),qI xz] 136)):=⟨S.bw (show qY wo (wo.alloc (.cells #[qI (kt:Int),qS xa xb.length xc,qI (65536+(f:Int)),qI xz] 136)) from bal),Blk.new _ _ _⟩;have HI1:=zh I1;have zz0:=aE S.be z0;have zz1:=aE S.be z1;have zz2:=aE S.be z2;have zz3:=aE S.be z3
     have HCL:=zh (fun (fz rz:qi) (X:qw) (I:It5 w (qL L (some (qR pb po)) xs.length c0 a2 L.slots.length c2 a5 ts.length c5) F R gf gr gm wo.heap.size #[qI (kt:Int),qS xa xb.length xc,qI (65536+(f:Int)),qI xz] fz rz X)=>show (X.cell? (qR b (off+m*8))=some (.string nm)/\X.cell? (qR b (off+m*8+1))=some (qS ta tn tc)/\X.cell? (qR b (off+m*8+2))=some (qS ba bn bc)/\X.cell? (qR b (off+m*8+3))=some (qS da dn dc)/\X.cell? (qR b (off+m*8+4))=some (qI bss)/\X.cell? (qR b (off+m*8+5))=some (qS ra rn rc)/\X.cell? (qR b (off+m*8+6))=some (qS ia im ic)/\X.cell? (qR b (off+m*8+7))=some (qS ea en ec))/\(X.cell? (qR wo.heap.size 0)=some (qI (kt:Int))/\X.cell? (qR wo.heap.size 1)=some (qS xa xb.length xc)/\X.cell? (qR wo.heap.size 2)=some (qI (65536+(f:Int)))/\X.cell? (qR wo.heap.size 3)=some (qI xz))/\X.cell? (qR gm 0)=some (qS (qP gf) F F)/\X.cell? (qR gm 1)=some (qS (qP gr) R R) from
      ⟨⟨aE I.s.be y0,aE I.s.be y1,aE I.s.be y2,aE I.s.be y3,aE I.s.be y4,aE I.s.be y5,aE I.s.be y6,aE I.s.be y7⟩,⟨I.p.cell 0,I.p.cell 1,I.p.cell 2,I.p.cell 3⟩,I.s.km.cell 0,I.s.km.cell 1⟩)
     clear S I1 HAT HVL HPE HMD hbl htl hdl hrl hPl;go_wp2_with fail
     generalize hW1:wo.alloc (.cells #[qI (kt:Int),qS xa xb.length xc,qI (65536+(f:Int)),qI xz] 136)=W1 at *;clear hW1 zz0 zz1 zz2 zz3;obtain ⟨⟨v0,v1,v2,v3,v4,v5,v6,v7⟩,⟨p0,p1,p2,p3⟩,q0,q1⟩:=HCL.o _ _ _ HI1.o
     go_region_held3 (fun w'=>w'.cell? (qR gm 0)=some (qS (qP gf) F F)/\w'.cell? (qR b (off+m*8))=some (.string nm)/\w'.cell? (qR b (off+m*8+1))=some (qS ta tn tc)/\w'.cell? (qR b (off+m*8+2))=some (qS ba bn bc)/\w'.cell? (qR b (off+m*8+3))=some (qS da dn dc)/\w'.cell? (qR b (off+m*8+4))=some (qI bss)/\w'.cell? (qR b (off+m*8+5))=some (qS ra rn rc)/\w'.cell? (qR b (off+m*8+6))=some (qS ia im ic)/\w'.cell? (qR b (off+m*8+7))=some (qS ea en ec)/\w'.cell? (qR wo.heap.size 0)=some (qI (kt:Int))/\w'.cell? (qR wo.heap.size 1)=some (qS xa xb.length xc)/\w'.cell? (qR wo.heap.size 2)=some (qI (65536+(f:Int)))/\w'.cell? (qR wo.heap.size 3)=some (qI xz)) (go_keep)
      (first
        | (go_at_call 104;first
            | with_reducible refine (HPC.o _ HI1.o).mono ?_
            | with_reducible refine (HPC.o _ HI1.o.drew).mono ?_
           rintro e w2 ⟨rfl,hI2⟩;have HI2:=zh hI2;clear hI2
           obtain ⟨⟨r0,r1,r2,r3,r4,r5,r6,r7⟩,⟨t0,t1,t2,t3⟩,u0,u1⟩:=HCL.o _ _ _ HI2.o))
     clear v0 v1 v2 v3 v4 v5 v6 v7 p0 p1 p2 p3 q0 q1 u0;have hff:(65536:Int)+(f:Int)-65536=(f:Int):=by omega
     have hffw:IntKind.i64.wrap ((65536:Int)+(f:Int)-65536)=(f:Int):=by rw [xP,xQ _ (by omega)];omega
     have hffw2:IntKind.i64.wrap (f:Int)=(f:Int):=by rw [xP,xQ _ (by omega)]
     have f0':(0:Int)<=(f:Int):=by omega
     have f1':(f:Int)<=(R:Int):=by omega
     by_cases hfl:f<R
     .have hfl':(f:Int)<(R:Int):=by omega
      have hfn:¬ (R=f):=by omega
      have HPD0:=zh (HPD.o (some (qR gr f)) (R-f) (.inl ⟨hfl,rfl,rfl⟩));clear HPD;go_wp2_with fail
      go_region_held3 (fun w'=>w'.cell? (qR gm 1)=some (qS (qP gr) R R)/\w'.cell? (qR b (off+m*8))=some (.string nm)/\w'.cell? (qR b (off+m*8+1))=some (qS ta tn tc)/\w'.cell? (qR b (off+m*8+2))=some (qS ba bn bc)/\w'.cell? (qR b (off+m*8+3))=some (qS da dn dc)/\w'.cell? (qR b (off+m*8+4))=some (qI bss)/\w'.cell? (qR b (off+m*8+5))=some (qS ra rn rc)/\w'.cell? (qR b (off+m*8+6))=some (qS ia im ic)/\w'.cell? (qR b (off+m*8+7))=some (qS ea en ec)/\w'.cell? (qR wo.heap.size 2)=some (qI (65536+(f:Int)))) (go_keep)
       (first
         | (go_at_call 105;first
             | with_reducible refine (HPD0.o _ HI2.o).mono ?_
             | with_reducible refine (HPD0.o _ HI2.o.drew).mono ?_
            rintro e w3 ⟨rfl,hI3⟩;have HI3:=zh hI3;clear hI3
            obtain ⟨⟨a0',a1',a2',a3',a4',a5',a6',a7'⟩,⟨b0',b1',b2',b3'⟩,c0',c1'⟩:=HCL.o _ _ _ HI3.o))
      clear a0' a1' a2' a3' a4' a5' a6' a7' b0' b1' b2' b3' c0' c1' r0 r1 r2 r3 r4 r5 r6 r7 t0 t1 t2 t3 u1 hff hffw hffw2;go_wp2
      go_roundw
      .exact ⟨m+1,by omega,by go_num,by rw [HFZ.o.1,HFZ.o.2];exact HI3.o.s⟩
      .simp [qf,intOf];omega
     .obtain rfl:R=f:=by omega
      have HPD0:=zh (HPD.o (qP gr) 0 (.inr ⟨rfl,rfl,rfl⟩));clear HPD;go_wp2_with fail
      go_region_held3 (fun w'=>w'.cell? (qR gm 1)=some (qS (qP gr) R R)/\w'.cell? (qR b (off+m*8))=some (.string nm)/\w'.cell? (qR b (off+m*8+1))=some (qS ta tn tc)/\w'.cell? (qR b (off+m*8+2))=some (qS ba bn bc)/\w'.cell? (qR b (off+m*8+3))=some (qS da dn dc)/\w'.cell? (qR b (off+m*8+4))=some (qI bss)/\w'.cell? (qR b (off+m*8+5))=some (qS ra rn rc)/\w'.cell? (qR b (off+m*8+6))=some (qS ia im ic)/\w'.cell? (qR b (off+m*8+7))=some (qS ea en ec)/\w'.cell? (qR wo.heap.size 2)=some (qI (65536+(R:Int)))) (go_keep)
       (first
         | (go_at_call 105;first
             | with_reducible refine (HPD0.o _ HI2.o).mono ?_
             | with_reducible refine (HPD0.o _ HI2.o.drew).mono ?_
            rintro e w3 ⟨rfl,hI3⟩;have HI3:=zh hI3;clear hI3
            obtain ⟨⟨a0',a1',a2',a3',a4',a5',a6',a7'⟩,⟨b0',b1',b2',b3'⟩,c0',c1'⟩:=HCL.o _ _ _ HI3.o))
      clear a0' a1' a2' a3' a4' a5' a6' a7' b0' b1' b2' b3' c0' c1' r0 r1 r2 r3 r4 r5 r6 r7 t0 t1 t2 t3 u1 hff hffw hffw2;go_wp2
      go_roundw
      .exact ⟨m+1,by omega,by go_num,by rw [HFZ.o.1,HFZ.o.2];exact HI3.o.s⟩
      .simp [qf,intOf];omega
    .have e:Zh (m=n):=by show m=n;omega
     obtain ⟨q0,q1,q2⟩:wo.cell? ⟨gm,0,none⟩=some (qS (qP gf) F F)/\wo.cell? ⟨gm,1,none⟩=some (qS (qP gr) R R)/\wo.cell? ⟨gm,2,none⟩=some (qS none 0 0):=⟨S.km.cell 0,S.km.cell 1,S.km.cell 2⟩;obtain ⟨p0,p1,p2⟩:wo.cell? ⟨w.heap.size+1,0,none⟩=some (qS none 0 0)/\wo.cell? ⟨w.heap.size+1,1,none⟩=some (qS none 0 0)/\wo.cell? ⟨w.heap.size+1,2,none⟩=some (qS none 0 0):=⟨S.kr.cell 0,S.kr.cell 1,S.kr.cell 2⟩;have pf:=S.kr.frozen;have hmx:¬ ((m:Int)<(xs.length:Int)):=by have:=HXL.o;omega
     have T:Turn (fun j=>j=w.heap.size+1) wo (((wo.setCell (qR (w.heap.size+1) 0) (qS (qP gf) F F)).setCell (qR (w.heap.size+1) 1) (qS (qP gr) R R)).setCell (qR (w.heap.size+1) 2) (qS none 0 0)):=((aC _ _ _ _).trans (aC _ _ _ _)).trans (aC _ _ _ _)
     have HE:=zh (show ImM w (aF ms) L (.returned (.tuple #[.agg (qV (qP gf) F F (qP gr) R R none 0 0),.bool true])) (((wo.setCell (qR (w.heap.size+1) 0) (qS (qP gf) F F)).setCell (qR (w.heap.size+1) 1) (qS (qP gr) R R)).setCell (qR (w.heap.size+1) 2) (qS none 0 0)) from by
      have hlo:=S.lo;refine ⟨aI S.be T (fun k e=>by omega) S.be.size,some (qR gf 0),F,F,some (qR gr 0),R,R,none,0,0,by rw [xR HOK.o],?_⟩;unfold imF imR;rw [if_pos HOK.o,if_pos HOK.o,hpl,<- e.o];refine ⟨cC T S.f (fun k hk s=>by simp [Value.ownBlock] at hk;omega),cC T S.r (fun k hk s=>by simp [Value.ownBlock] at hk;omega),⟨⟨rfl,.inl ⟨rfl,rfl⟩⟩,by simp⟩,?_,?_,?_⟩
      all_goals
       intro k hk;have hne:=S.ne;simp [Value.ownBlock] at hk ⊢
       try omega)
     have k3:=cX (v0:=qS (qP gf) F F) (v1:=qS (qP gr) R R) (v2:=qS none 0 0) S.kr;have s0:=k3.cell 0;have s1:=k3.cell 1;have s2:=k3.cell 2;simp only [List.getElem?_toArray,List.getElem?_cons_zero,List.getElem?_cons_succ] at s0 s1 s2;clear S T k3;go_wp2;exact bodyPost_ret (v:=.tuple #[.agg (qV (qP gf) F F (qP gr) R R none 0 0),.bool true]) (by simp [results,Tryz.results58,go_sem,s0,s1,s2]) rfl HE.o
 .rw [xS hok]
  have HE:=zh (show ∀ W',qY w W'->ImM w (aF ms) L (.returned (.tuple #[.agg (qV none 0 0 none 0 0 none 0 0),.bool false])) W' from fun W' hb=>by
   refine ⟨hb,none,0,0,none,0,0,none,0,0,by rw [xS hok],?_⟩;unfold imF imR;rw [if_neg hok,if_neg hok];refine ⟨⟨⟨rfl,.inl ⟨rfl,rfl⟩⟩,by simp⟩,⟨⟨rfl,.inl ⟨rfl,rfl⟩⟩,by simp⟩,⟨⟨rfl,.inl ⟨rfl,rfl⟩⟩,by simp⟩,?_,?_,?_⟩
   all_goals
    intro k hk
    simp [Value.ownBlock] at hk)
  have k3:=cX (v0:=qS none 0 0) (v1:=qS none 0 0) (v2:=qS none 0 0) kr1;have s0:=k3.cell 0;have s1:=k3.cell 1;have s2:=k3.cell 2;simp only [List.getElem?_toArray,List.getElem?_cons_zero,List.getElem?_cons_succ] at s0 s1 s2;have T:Turn (fun j=>j=w.heap.size+1) w1 (((w1.setCell (qR (w.heap.size+1) 0) (qS none 0 0)).setCell (qR (w.heap.size+1) 1) (qS none 0 0)).setCell (qR (w.heap.size+1) 2) (qS none 0 0)):=((aC _ _ _ _).trans (aC _ _ _ _)).trans (aC _ _ _ _);have HB:=zh (aI B1 T (fun k e=>by omega) B1.size);obtain ⟨p0,p1,p2⟩:w1.cell? ⟨w.heap.size+1,0,none⟩=some (qS none 0 0)/\w1.cell? ⟨w.heap.size+1,1,none⟩=some (qS none 0 0)/\w1.cell? ⟨w.heap.size+1,2,none⟩=some (qS none 0 0):=⟨kr1.cell 0,kr1.cell 1,kr1.cell 2⟩;have pf:=kr1.frozen;clear T k3 kl1 kr1 B1 hok HRL HM HL;go_wp2;exact bodyPost_ret (v:=.tuple #[.agg (qV none 0 0 none 0 0 none 0 0),.bool false]) (by simp [results,Tryz.results58,go_sem,s0,s1,s2]) rfl (HE.o _ HB.o)
structure MnD (w:qw)(M:Mn):Prop where
 m:MSD w M.ma M.mn M.mc M.ms
 k:IS w M.ka M.kn M.kc M.kz
 f:BS w M.fa M.fn M.fc M.fz
 r:BS w M.ra M.rn M.rc M.rz
 o:BS w M.oa M.on M.oc M.oz
 l:QS aCx zSl w M.la M.ln M.lc M.lz
 h:QS aMy zFr w M.ha M.hn M.hc M.hz
theorem MnD.bw {w w':qw}{M:Mn}(h:MnD w M)(hb:qY w w'):MnD w' M:=⟨h.m.bw hb,h.k.bw hb,h.f.bw hb,h.r.bw hb,h.o.bw hb,h.l.bw hb,h.h.bw hb⟩
abbrev usd (m b:Int)(x:SlT):Prop:=x.1=true/\x.2.1=m/\x.2.2.1=b
def yP (m b:Int):Nat->List SlT->Int
 | _,[]=>-1
 | i,x::xs=>if usd m b x then (i:Int) else yP m b (i+1) xs
def hld (xs:List SlT)(m b:Int):Int:=yP m b 0 xs
theorem aD8 {α:Type}(xs:List α)(z:α)(k:Nat)(h:k<xs.length):xs.drop k=xs.getD k z::xs.drop (k+1):=by
 rw [List.drop_eq_getElem_cons h];simp [xB,h]
theorem aHx (h:k<xs.length)(hu:usd m b (xs.getD k zSl)):yP m b k (xs.drop k)=k:=by
 rw [aD8 xs zSl k h,yP,if_pos hu]
theorem aFh (h:k<xs.length)(hu:¬ usd m b (xs.getD k zSl)):yP m b k (xs.drop k)=yP m b (k+1) (xs.drop (k+1)):=by
 rw [aD8 xs zSl k h,yP,if_neg hu]
def Und {α:Type}(p:List Int->Option (α×List Int))(e:α->List Int)(D:α->Prop):Prop:=∀ x r,D x->p (e x++r)=some (x,r)
def aNi (s:Nat):Prop:=s=1\/s=2\/s=4
theorem aG5 (hs:aNi s){v:Int}(h0:0<=v)(h1:v<(256:Int)^s):low (bM v s)=v:=by
 rcases hs with rfl|rfl|rfl
 .have h1':v<256:=h1;show low [v/(256:Int)^0%256]=v;simp only [low,show (256:Int)^0=1 from rfl];omega
 .have h1':v<65536:=h1;show low [v/(256:Int)^0%256,v/(256:Int)^1%256]=v;simp only [low,show (256:Int)^0=1 from rfl,show (256:Int)^1=256 from rfl];omega
 .have h1':v<4294967296:=h1;show low [v/(256:Int)^0%256,v/(256:Int)^1%256,v/(256:Int)^2%256,v/(256:Int)^3%256]=v;simp only [low,show (256:Int)^0=1 from rfl,show (256:Int)^1=256 from rfl,show (256:Int)^2=65536 from rfl,show (256:Int)^3=16777216 from rfl];omega
theorem iZ (hs:aNi s):Und (pN s) (fun v=>bM v s) (fun v=>0<=v/\v<(256:Int)^s):=fun x r h=>by
 show pN s (bM x s++r)=_;rw [oX (by simp [bE]),List.take_left' (bE x s),List.drop_left' (bE x s),aG5 hs h.1 h.2]
theorem aKz (n:Nat):Und (pB n) (fun x=>x) (fun x=>x.length=n):=fun x r h=>by
 show pB n (x++r)=_;rw [lS (by simp;omega),List.take_left' h,List.drop_left' h]
theorem aBq (s:ByteArray):eQ (nA s)=s:=by
 obtain ⟨⟨l⟩⟩:=s;unfold eQ nA;simp only [List.map_map]
 have:l.map ((fun z:Int=>UInt8.ofNat z.toNat) ∘ fun b:UInt8=>(b.toNat:Int))=l:=by
  conv=>rhs;rw [<- List.map_id l]
  exact List.map_congr_left (fun b _=>by simp)
 rw [this]
theorem aFv:Und pT iS (fun s=>s.size<=255):=fun s r h=>by
 unfold pT iS;rw [List.append_assoc,iZ (Or.inl rfl) (s.size:Int) (nA s++r) ⟨by omega,by show (s.size:Int)<256;omega⟩];simp only [Option.bind_some];rw [Int.toNat_natCast,aKz s.size (nA s) r (lM s)];simp only [Option.map_some,aBq]
theorem aKx {α:Type}{p:List Int->Option (α×List Int)}{e:α->List Int}{D:α->Prop}(h:Und p e D)(xs:List α)(hD:∀ x∈xs,D x):∀ (k:Nat) (r:List Int),k<=xs.length->pM p k ((xs.take k).flatMap e++r)=some (xs.take k,r)
 | 0,r,_=>by simp [pM]
 | k+1,r,hk=>by
   have hk':k<xs.length:=by omega
   rw [List.take_succ_eq_append_getElem hk',List.flatMap_append,List.append_assoc,gD (aKx h xs hD k _ (by omega))];simp only [List.flatMap_cons,List.flatMap_nil,List.append_nil];rw [h _ _ (hD _ (List.getElem_mem hk'))];rfl
theorem pK {α:Type}{p:List Int->Option (α×List Int)}{e:α->List Int}{D:α->Prop}(h:Und p e D)(xs:List α)(hD:∀ x∈xs,D x)(r:List Int):pM p xs.length (xs.flatMap e++r)=some (xs,r):=by
 have:=aKx h xs hD xs.length r (Nat.le_refl _)
 rwa [List.take_length] at this
theorem aBd (s:Nat)(zs:List Int):dT s zs zs.length=zs.flatMap fun z=>bM z s:=by
 unfold dT;rw [List.take_length]
abbrev okW (z:Int):Prop:=0<=z/\z<=4294967295
theorem aKy:Und pL jC (fun zs=>zs.length<=65535/\∀ z∈zs,okW z):=fun zs r h=>by
 unfold pL jC;rw [aBd,List.append_assoc,iZ (Or.inr (Or.inl rfl)) (zs.length:Int) _ ⟨by omega,by show (zs.length:Int)<65536;omega⟩];simp only [Option.bind_some];rw [Int.toNat_natCast];exact pK (iZ (Or.inr (Or.inr rfl))) zs (fun z hz=>⟨(h.2 z hz).1,by show z<4294967296;have:=(h.2 z hz).2;omega⟩) r
def okX (x:Ex):Prop:=x.1.size<=255/\-1<=x.2.1/\x.2.1<=254/\0<=x.2.2/\x.2.2<=65535
theorem aNe:Und pX yV okX:=fun x r h=>by
 obtain ⟨s,b,a⟩:=x;obtain ⟨h1,h2,h3,h4,h5⟩:=h;dsimp only at h1 h2 h3 h4 h5;unfold pX yV;rw [List.append_assoc,List.append_assoc,aFv s _ h1];simp only [Option.bind_some];rw [iZ (Or.inl rfl) (b+1) _ ⟨by omega,by show b+1<256;omega⟩];simp only [Option.bind_some];rw [iZ (Or.inr (Or.inl rfl)) a r ⟨by omega,by show a<65536;omega⟩];simp only [Option.map_some];rw [show b+1-1=b by omega]
def yW (P:PMod):List Int:=iS P.nm++(jC P.tz++(bM P.bl.length 1++(P.bl.flatMap jC++(bM P.dz.length 2++(P.dz++(bM P.bss 2++(bM P.rz.length 1++(P.rz.flatMap (fun z=>bM z 2)++(bM P.ss.length 1++(P.ss.flatMap iS++(bM P.es.length 1++P.es.flatMap yV)))))))))))
def nP (P:PMod):List Int:=aFm P.nm P.tz P.bl.length (dO P.bl) P.dz.length P.dz P.bss P.rz.length P.rz P.ss.length P.ss P.es.length P.es
theorem mQ (P:PMod):nP P=[88,77]++yW P:=by
 have e1:gZ (dO P.bl) P.bl.length=P.bl.flatMap jC:=by
  unfold gZ dO;rw [List.take_of_length_le (by simp),List.flatMap_map]
 unfold nP aFm aBf yX yY aBg aKl yW oG mP;rw [e1,aBd,List.take_length,List.take_length];simp only [List.append_assoc]
structure Vp (P:PMod):Prop where
 n:P.nm.size<=12
 t:P.tz.length<=200
 tw:∀ z∈P.tz,okW z
 b:P.bl.length<=4
 bw:∀ l∈P.bl,l.length<=64/\∀ z∈l,okW z
 d:P.dz.length<=512
 s:0<=P.bss/\P.bss<=512
 r:P.rz.length<=16
 rw:∀ z∈P.rz,0<=z/\z<=512
 i:P.ss.length<=16
 iw:∀ s∈P.ss,s.size<=25
 e:P.es.length<=16
 ew:∀ x∈P.es,x.1.size<=12/\-1<=x.2.1/\x.2.1<=4/\0<=x.2.2/\x.2.2<=200
theorem aFs (h:bI P=0):Vp P:=by
 unfold bI at h;have V:=fA (by simp [dO]) h;refine ⟨V.n,V.t,V.tw,V.b,fun l hl=>?_,V.d,V.s,V.r,fun z hz=>?_,V.i,fun s hs=>?_,V.e,fun x hx=>?_⟩
 .obtain ⟨i,hi,rfl⟩:=List.getElem_of_mem hl;have:=V.bw i (by simp [dO];exact hi);simpa [dO,List.getD_eq_getElem?_getD,hi] using this
 .obtain ⟨i,hi,rfl⟩:=List.getElem_of_mem hz;have:=V.rw i hi;simpa [List.getD_eq_getElem?_getD,hi] using this
 .obtain ⟨i,hi,rfl⟩:=List.getElem_of_mem hs;have:=V.iw i hi;simpa [List.getD_eq_getElem?_getD,hi] using this
 .obtain ⟨i,hi,rfl⟩:=List.getElem_of_mem hx;have:=V.ew i hi;simpa [List.getD_eq_getElem?_getD,hi] using this
theorem aGn (V:Vp P)(r:List Int):cZ (yW P++r)=some (P,r):=by
 obtain ⟨nm,tz,bl,dz,bss,rz,ss,es⟩:=P;obtain ⟨v1,v2,v3,v4,v5,v6,v7,v8,v9,v10,v11,v12,v13⟩:=V;dsimp only at v1 v2 v3 v4 v5 v6 v7 v8 v9 v10 v11 v12 v13;unfold cZ yW;simp only [List.append_assoc];rw [aFv nm _ (by omega)];simp only [Option.bind_some];rw [aKy tz _ ⟨by omega,v3⟩];simp only [Option.bind_some];rw [iZ (Or.inl rfl) (bl.length:Int) _ ⟨by omega,by show (bl.length:Int)<256;omega⟩];simp only [Option.bind_some,Int.toNat_natCast];rw [pK aKy bl (fun l hl=>⟨by have:=(v5 l hl).1;omega,(v5 l hl).2⟩)];simp only [Option.bind_some];rw [iZ (Or.inr (Or.inl rfl)) (dz.length:Int) _ ⟨by omega,by show (dz.length:Int)<65536;omega⟩];simp only [Option.bind_some,Int.toNat_natCast];rw [aKz dz.length dz _ rfl];simp only [Option.bind_some];rw [iZ (Or.inr (Or.inl rfl)) bss _ ⟨by omega,by show bss<65536;omega⟩];simp only [Option.bind_some];rw [iZ (Or.inl rfl) (rz.length:Int) _ ⟨by omega,by show (rz.length:Int)<256;omega⟩];simp only [Option.bind_some,Int.toNat_natCast];rw [pK (iZ (Or.inr (Or.inl rfl))) rz (fun z hz=>⟨(v9 z hz).1,by show z<65536;have:=(v9 z hz).2;omega⟩)];simp only [Option.bind_some];rw [iZ (Or.inl rfl) (ss.length:Int) _ ⟨by omega,by show (ss.length:Int)<256;omega⟩];simp only [Option.bind_some,Int.toNat_natCast];rw [pK aFv ss (fun s hs=>by have:=v11 s hs;omega)];simp only [Option.bind_some];rw [iZ (Or.inl rfl) (es.length:Int) _ ⟨by omega,by show (es.length:Int)<256;omega⟩];simp only [Option.bind_some,Int.toNat_natCast];rw [pK aNe es (fun x hx=>by have:=v13 x hx;unfold okX;omega)];rfl
theorem aH0 {α:Type}(e:α->List Int)(m:Nat):∀ (xs:List α),(∀ x∈xs,(e x).length<=m)->(xs.flatMap e).length<=xs.length*m
 | [],_=>by simp
 | x::xs,h=>by
   have h1:=h x (by simp);have h2:=aH0 e m xs (fun y hy=>h y (by simp [hy]));simp only [List.flatMap_cons,List.length_append,List.length_cons];rw [Nat.add_mul];omega
theorem sZ (V:Vp P):(yW P).length<=4000:=by
 have h1:=aH0 jC 258 P.bl (fun l hl=>by have:=(V.bw l hl).1;rw [jJ];omega);have h2:=aH0 (fun z=>bM z 2) 2 P.rz (fun z _=>by simp [bE]);have h3:=aH0 iS 26 P.ss (fun s hs=>by have:=V.iw s hs;rw [fP];omega);have h4:=aH0 yV 16 P.es (fun x hx=>by have:=(V.ew x hx).1;unfold yV;simp only [List.length_append,fP,bE];omega);have v1:=V.n;have v2:=V.t;have v4:=V.b;have v6:=V.d;have v8:=V.r;have v10:=V.i;have v12:=V.e;unfold yW;simp only [List.length_append,fP,bE,jJ];omega
theorem aH7 (hd:Byt P.dz):Byt (yW P):=by
 have hT:∀ s,Byt (iS s):=fun s=>bF (aV _ _) (pS _);have hL:∀ l,Byt (jC l):=fun l=>bF (aV _ _) (sX _ _ _)
 have hM:∀ {α:Type} (e:α->List Int),(∀ x,Byt (e x))->∀ xs:List α,Byt (xs.flatMap e):=fun e he xs z hz=>by
  rw [List.mem_flatMap] at hz;obtain ⟨x,_,hx⟩:=hz;exact he x z hx
 unfold yW;exact bF (hT _) (bF (hL _) (bF (aV _ _) (bF (hM _ hL _) (bF (aV _ _) (bF hd (bF (aV _ _) (bF (aV _ _) (bF (hM _ (fun x=>aV _ _) _) (bF (aV _ _) (bF (hM _ hT _) (bF (aV _ _) (hM _ (fun x=>bF (hT _) (bF (aV _ _) (aV _ _))) _))))))))))))
theorem aBe (hd:Byt P.dz):Byt (nP P):=by
 rw [mQ];exact bF (fun z hz=>by simp at hz;omega) (aH7 hd)
theorem aI7 (h:bI P=0)(hd:Byt P.dz):prs (nP P)=(0,some P):=by
 have V:=aFs h;have hl:=sZ V;have hb:=aBe hd;have e:=mQ P;have hm:lY (nP P)=true:=(wZ hb).2 (by rw [e];exact ⟨by simp,rfl,rfl⟩)
 have hp:cZ ((nP P).drop 2)=some (P,[]):=by
  have:=aGn V [];rw [List.append_nil] at this;rw [e];exact this
 unfold prs;rw [if_neg (by rw [e];simp;omega),if_neg (by rw [hm];decide),hp];dsimp only;rw [if_neg (by simp),if_neg (by rw [h];simp)]
end Go.Proofs.YtcimaholejajpaaGreat
namespace Go.Proofs.YtcimaholejajpaaGreat
open Go
variable {P:Program}{i:Nat}{listed:Array Bool}{ops:Array Oper}
def rY (n:Nat)(listed:Array Bool):Nat:=((List.range n).filter fun i=>!listed.getD i true).length
theorem aFk {l:List Nat}{p q:Nat->Bool}(h:∀ x∈l,q x=true->p x=true)(hi:i∈l)(hp:p i=true)(hq:q i=false):(l.filter q).length<(l.filter p).length:=by
 induction l with
 | nil=>cases hi
 | cons x xs ih=>
   have hle:(xs.filter q).length<=(xs.filter p).length:=by
    clear ih hi
    induction xs with
    | nil=>simp
    | cons y ys ih2=>
      have h2:=ih2 (fun z hz=>h z (by simp only [List.mem_cons] at hz ⊢;rcases hz with e|e;exact .inl e;exact .inr (.inr e)));have h3:=h y (by simp);cases hq':q y with
      | false=>cases hp':p y<;>simp [List.filter_cons,hq',hp']<;>omega
      | true=>simp [List.filter_cons,hq',h3 hq'];omega
   have h1:=h x (by simp);rcases List.mem_cons.1 hi with e|e
   .subst e;simp [List.filter_cons,hp,hq];omega
   .have h4:=ih (fun z hz=>h z (by simp [hz])) e;cases hq':q x with
    | false=>cases hp':p x<;>simp [List.filter_cons,hq',hp']<;>omega
    | true=>simp [List.filter_cons,hq',h1 hq'];omega
theorem uY {n:Nat}(hi:i<n)(h:listed.getD i true=false):rY n (listed.setIfInBounds i true)<rY n listed:=by
 have hs:i<listed.size:=by
  rcases Nat.lt_or_ge i listed.size with h'|h'
  .exact h'
  .simp [Array.getElem?_eq_none h'] at h
 refine aFk (i:=i) (fun x _ hx=>?_) (by simpa using hi) (by rw [h];rfl) (by simp [hs]);by_cases hxi:i=x
 .subst hxi;rw [h];rfl
 .rw [getD_set_ne true hxi] at hx;exact hx
theorem aEi {P:Program}{ops:Array Oper}{Q:Exit->Act->World->Prop}{md:Region.Mode}(Inv:Array Bool->Act->World->Prop)
 (hstep:∀ (listed:Array Bool) (a:Act) (w:qw) (i:Nat) (K:Act->World->Prop),Inv listed a w->i∈Region.ready md ops listed->(∀ a' w',Inv (listed.setIfInBounds i true) a' w'->K a' w')->wpOp P ops Q i K a w)
 (hend:∀ (listed:Array Bool) (a:Act) (w:qw),Inv listed a w->Region.ready md ops listed=[]->Q .normal a w):
 ∀ (fuel:Nat) (listed:Array Bool) (a:Act) (w:qw),rY ops.size listed<=fuel->Inv listed a w->wpAny P md ops Q fuel listed a w:=by
 intro fuel
 induction fuel with
 | zero=>
   intro listed a w hf h
   have hr:Region.ready md ops listed=[]:=by
    rw [List.eq_nil_iff_forall_not_mem];intro i hi;obtain ⟨h0,o,ho,_⟩:=mem_ready.1 hi;have:=uY (n:=ops.size) (Array.getElem?_eq_some_iff.1 ho).1 h0;omega
   exact ⟨hr,hend _ _ _ h hr⟩
 | succ fuel ih=>
   intro listed a w hf h;refine ⟨fun hr=>hend _ _ _ h hr,fun i hi=>hstep listed a w i _ h hi fun a' w' h'=>ih _ a' w' ?_ h'⟩;obtain ⟨h0,o,ho,_⟩:=mem_ready.1 hi;have:=uY (n:=ops.size) (Array.getElem?_eq_some_iff.1 ho).1 h0;omega
theorem aE8 (n:Nat)(listed:Array Bool):rY n listed<=n:=by
 unfold rY;exact xM (List.length_filter_le _ _) (by simp)
theorem tM {Q:Exit->Act->World->Prop}{id:Nat}{a:Act}{w:qw}(hm:P.follows .mixedOrders=true)(Inv:Array Bool->Act->World->Prop)
 (h0:Inv (Array.replicate ops.size false) a { w with drawn:=w.drawn+1 })
 (hstep:∀ (listed:Array Bool) (a:Act) (w:qw) (i:Nat) (K:Act->World->Prop),Inv listed a w->i∈Region.ready .any ops listed->(∀ a' w',Inv (listed.setIfInBounds i true) a' w'->K a' w')->wpOp P ops Q i K a w)
 (hend:∀ (listed:Array Bool) (a:Act) (w:qw),Inv listed a w->Region.ready .any ops listed=[]->Q .normal a w):(Code.region id ops true).wp P Q a w:=
 wp_region_any hm (aEi Inv hstep hend _ _ _ _ (aE8 _ _) h0)
theorem pI {Q:Exit->Act->World->Prop}{id:Nat}{A:Act}{w:qw}(hm:P.follows .mixedOrders=true)(Inv:Act->Array Bool->Act->World->Prop)
 (h0:Inv A (Array.replicate ops.size false) A w.drew)
 (hstep:∀ (listed:Array Bool) (a:Act) (w:qw) (i:Nat) (K:Act->World->Prop),Inv A listed a w->i∈Region.ready .any ops listed->(∀ a' w',Inv A (listed.setIfInBounds i true) a' w'->K a' w')->wpOp P ops Q i K a w)
 (hend:∀ (listed:Array Bool) (a:Act) (w:qw),Inv A listed a w->Region.ready .any ops listed=[]->Q .normal a w):(Code.region id ops true).wp P Q A w:=
 tM hm (Inv A) h0 hstep hend
theorem aOn (hs:i<listed.size)(b:Bool):listed.getD i b=listed.getD i false:=by simp [hs]
theorem aKu {md:Region.Mode}(hr:Region.ready md ops listed=[])(h:((List.range ops.size).all fun i=>match ops[i]? with|some o=>o.after.all (fun e=>!Region.binds md e || decide (e.on<i))|none=>true)=true)(hs:listed.size=ops.size):∀ i,i<ops.size->listed.getD i false=true:=by
 intro i
 induction i using Nat.strongRecOn with
 | _ i ih=>
   intro hi;have h1:=List.all_eq_true.1 h i (List.mem_range.2 hi);rw [Array.getElem?_eq_getElem hi] at h1;dsimp only at h1;refine (aOn (by omega) true).symm.trans (aGf hr i ops[i] (Array.getElem?_eq_getElem hi) fun e he hb=>?_);have h2:=Array.all_eq_true'.1 h1 e he;rw [hb] at h2;simp at h2;exact ih e.on h2 (by omega)
