import Derived.Test.YtncccmeomcaabaaGreatR21
import Derived.Test.YtncccmeomcaabaaGreatR24
set_option linter.all false
set_option maxHeartbeats 16000000
namespace Go.Proofs.YtncccmeomcaabaaGreat
open Go.RowKit Classical
open Go.Proofs.Tryz
set_option maxRecDepth 100000
variable {M:Mn}{cd:Int}{k n:Nat}{ps:List PMod}{xs:List FrT}
theorem aP6 {S F:Nat->Nat->Nat->World->Prop}{G:Prop}(main:(∀ a b c W,F a b c W->S a b c W)->G)(pf:∀ a b c W,F a b c W->S a b c W):G:=main pf
structure Mk3 (N:Nat)(w1 W:qw)(ZF ZR:Array Value)(F R gf gr gm:Nat):Prop where
 be:Below N w1 W
 f:Blk W gf ZF 5
 r:Blk W gr ZR 5
 m:Blk W gm (qV (qP gf) F F (qP gr) R R none 0 0) 39
 lo:N<=gf/\N<=gr/\N<=gm
 ne:gf≠gr
structure ImT (w:qw)(V:Array Value)(F R gf gr gm:Nat)(fz rz:qi)(W:qw):Prop where
 be:qY w W
 kl:Blk W w.heap.size V 71
 kr:Blk W (w.heap.size+1) (qV none 0 0 none 0 0 none 0 0) 39
 km:Blk W gm (qV (qP gf) F F (qP gr) R R none 0 0) 39
 f:OB W w.heap.size (qS (qP gf) F F) fz
 r:OB W w.heap.size (qS (qP gr) R R) rz
 lo:w.heap.size+1<gf/\w.heap.size+1<gr/\w.heap.size+1<gm
 ne:gf≠gr
structure It5 (w:qw)(V:Array Value)(F R gf gr gm gp:Nat)(PV:Array Value)(fz rz:qi)(W:qw):Prop where
 s:ImT w V F R gf gr gm fz rz W
 p:Blk W gp PV 171
section
variable {w:qw}{V:Array Value}{F R gf gr gm gp:Nat}{PV:Array Value}{fz rz:qi}{W W':qw}
theorem ImT.bw (h:ImT w V F R gf gr gm fz rz W)(hb:qY W W'):ImT w V F R gf gr gm fz rz W':=⟨h.be.trans (hb.mono h.be.size),h.kl.bw hb,h.kr.bw hb,h.km.bw hb,h.f.bw hb,h.r.bw hb,h.lo,h.ne⟩
theorem ImT.mf (h:ImT w V F R gf gr gm fz rz W):gm≠gf/\gm≠gr:=by
 obtain ⟨c1,k1⟩:=gX h.f;obtain ⟨c2,k2⟩:=gX h.r;exact ⟨fun e=>by subst e;exact absurd (aI h.km k1) (by decide),fun e=>by subst e;exact absurd (aI h.km k2) (by decide)⟩
theorem ImT.setf (h:ImT w V F R gf gr gm fz rz W){fz':qi}(O:OB W' w.heap.size (qS (qP gf) F F) fz')(T:Turn (fun j=>j=gf) W W'):ImT w V F R gf gr gm fz' rz W':=
 have lo:=h.lo;have ne:=h.ne
 ⟨aG h.be T (fun k e=>by omega) h.be.size,aF T h.kl (by omega),aF T h.kr (by omega),aF T h.km h.mf.1,O,aU T h.r (fun k hk e=>by simp [Value.ownBlock] at hk;omega),lo,ne⟩
theorem ImT.setr (h:ImT w V F R gf gr gm fz rz W){rz':qi}(O:OB W' w.heap.size (qS (qP gr) R R) rz')(T:Turn (fun j=>j=gr) W W'):ImT w V F R gf gr gm fz rz' W':=
 have lo:=h.lo;have ne:=h.ne
 ⟨aG h.be T (fun k e=>by omega) h.be.size,aF T h.kl (by omega),aF T h.kr (by omega),aF T h.km h.mf.2,aU T h.f (fun k hk e=>by simp [Value.ownBlock] at hk;omega),O,lo,ne⟩
theorem It5.bw (h:It5 w V F R gf gr gm gp PV fz rz W)(hb:qY W W'):It5 w V F R gf gr gm gp PV fz rz W':=⟨h.s.bw hb,h.p.bw hb⟩
theorem It5.drew (h:It5 w V F R gf gr gm gp PV fz rz W):It5 w V F R gf gr gm gp PV fz rz W.drew:=h.bw brf.drew
theorem It5.pf (h:It5 w V F R gf gr gm gp PV fz rz W):gp≠gf/\gp≠gr:=by
 obtain ⟨c1,k1⟩:=gX h.s.f;obtain ⟨c2,k2⟩:=gX h.s.r;exact ⟨fun e=>by subst e;exact absurd (aI h.p k1) (by decide),fun e=>by subst e;exact absurd (aI h.p k2) (by decide)⟩
theorem It5.setf (h:It5 w V F R gf gr gm gp PV fz rz W){fz':qi}(O:OB W' w.heap.size (qS (qP gf) F F) fz')(T:Turn (fun j=>j=gf) W W'):It5 w V F R gf gr gm gp PV fz' rz W':=⟨h.s.setf O T,aF T h.p h.pf.1⟩
theorem It5.setr (h:It5 w V F R gf gr gm gp PV fz rz W){rz':qi}(O:OB W' w.heap.size (qS (qP gr) R R) rz')(T:Turn (fun j=>j=gr) W W'):It5 w V F R gf gr gm gp PV fz rz' W':=⟨h.s.setr O T,aF T h.p h.pf.2⟩
end
theorem aEq (a:qO)(n cap:Nat)(ms:List Md)(L:Lay)(a0:qO)(c0:Nat)(xs:List PB)(a2:qO)(c2:Nat)(a5:qO)(c5:Nat)(ts:List TB)(w:qw)(h:MSD w a n cap ms)(hL:LyT w L a0 c0 xs a2 c2 a5 c5 ts):
 qC 191 #[qS a n cap,.agg (qJ L a0 xs c0 a2 c2 a5 ts c5)] w (ImM w (aE ms) L):=by
 have B0:qY w ((w.alloc (.cells (qJ L a0 xs c0 a2 c2 a5 ts c5) 71)).alloc (.cells (qV none 0 0 none 0 0 none 0 0) 39)):=bal.alloc (by simp) _;have kl:=(Blk.new w (qJ L a0 xs c0 a2 c2 a5 ts c5) 71).alloc (.cells (qV none 0 0 none 0 0 none 0 0) 39);have kr:=Blk.new (w.alloc (.cells (qJ L a0 xs c0 a2 c2 a5 ts c5) 71)) (qV none 0 0 none 0 0 none 0 0) 39;try unfold qY at *
 simp only [xF] at kr;have HRL:=zh (fun (W:qw) (hb:qY w W)=>aAm a n cap ms L a0 c0 xs a2 c2 a5 c5 ts W (h.bw hb) (hL.bw hb));have HM:=zh h;have HL:=zh hL;clear h hL;go_enter func191,ntmps191
 go_wp2_with fail
 refine (HRL.o _ B0).mono ?_;rintro e w1 ⟨rfl,hb1⟩;have B1:=B0.trans (hb1.mono B0.size);have kl1:=kl.bw hb1;have kr1:=kr.bw hb1;clear B0 kl kr hb1;by_cases hok:Lok (aE ms) L
 .rw [xR hok];have K:=jZ hok;obtain ⟨F,hF⟩:∃ F:Nat,L.flash=(F:Int):=⟨L.flash.toNat,by have:=K.fr;omega⟩;obtain ⟨R,hR⟩:∃ R:Nat,L.ram=(R:Int):=⟨L.ram.toNat,by have:=K.rr;omega⟩;have hF1:F<=16384:=by have:=K.fr;omega
  have hR1:R<=16384:=by have:=K.rr;omega
  have hmF:=wO F hF1;have hmR:=wO R hR1;have x3:w1.cell? (qR w.heap.size 3)=some (qI (F:Int)):=by rw [<- hF];exact kl1.cell 3
  have x4:w1.cell? (qR w.heap.size 4)=some (qI (R:Int)):=by rw [<- hR];exact kl1.cell 4
  have hw1:w.heap.size<w1.heap.size:=kl1.lt;generalize hZF:zby F=ZF at *;generalize hZR:zby R=ZR at *;have HZ:=zh (xA hZF hZR);clear hZF hZR;have HK1:=zh (xA B1 (xA kl1 kr1));have HFR:=zh (xA hF hR);have HKN:=zh K;have HOK:=zh hok;clear HRL;clear B1 kl1 kr1 hF hR K hok;go_wp2_with fail
  obtain ⟨N,hN⟩:=eqx (w1.heap.size);have hNw:N<=w1.heap.size:=by omega
  rename_i K hK;apply aP6 (F:=fun gf gr gm W=>Mk3 N w1 W ZF ZR F R gf gr gm) (S:=fun gf gr gm W=>Exit.then K (bodyPost prog f191 (ImM w (aE ms) L)) .normal ⟨#[qS a n cap,.agg (qJ L a0 xs c0 a2 c2 a5 ts c5),undef,.pointer (qP w.heap.size),.pointer (some (qR (w.heap.size+1) 0)),.bool false,.pointer (qP gm),undef,undef,qS a n cap,.agg (qJ L a0 xs c0 a2 c2 a5 ts c5),.bool true,.bool false,undef,.pointer (some (qR w.heap.size 3)),qI (F:Int),qS (qP gf) F F,.pointer (some (qR w.heap.size 4)),qI (R:Int),qS (qP gr) R R,.agg (qV (qP gf) F F (qP gr) R R none 0 0),undef,undef,undef,undef,undef,undef,undef,undef,undef,undef,undef,undef,undef,undef,undef,undef,undef,undef,undef,undef,undef,undef,undef,undef,undef,undef,undef,undef,undef,undef,undef],[]⟩ W)
  .intro REST0;have REST:=zh REST0;clear REST0
   go_region_held3 (fun w'=>w'.cell? (qR w.heap.size 3)=some (qI (F:Int))/\w'.cell? (qR w.heap.size 4)=some (qI (R:Int))) ((refine xA ?_ ?_)<;>(repeat (first|exact x3|exact x4|apply uF|apply pG|(apply yH (by omega))))) (fail)
   all_goals
    refine REST.o _ _ _ _ ?_;exact ⟨(by repeat (first|with_reducible exact brf|with_reducible apply aDc|with_reducible apply yI hNw|with_reducible apply aGk (by omega))),(by repeat (first|with_reducible apply gK|with_reducible exact gJ (by simp only [xF,gH])|with_reducible apply dB|with_reducible apply dJ (by omega)|with_reducible apply Blk.alloc)),(by repeat (first|with_reducible apply gK|with_reducible exact gJ (by simp only [xF,gH])|with_reducible apply dB|with_reducible apply dJ (by omega)|with_reducible apply Blk.alloc)),(by repeat (first|with_reducible apply gK|with_reducible exact gJ (by simp only [xF,gH])|with_reducible apply dB|with_reducible apply dJ (by omega)|with_reducible apply Blk.alloc)),(by omega),(by omega)⟩
  .rintro gf gr gm W hF;show Exit.then _ _ _ _ _
   subst hN;have hpl:(aE ms).length=n:=by rw [bQ];exact HM.o.s.1
   have hn4:n<=4:=by have:=HKN.o.n;omega
   have HXL:=zh (show xs.length=n from by
    have h1:=congrArg List.length HL.o.ps;rw [HKN.o.pl] at h1;simp at h1
    omega)
   have hx4:xs.length<=4:=by have:=HXL.o;omega
   have S0:ImT w (qJ L a0 xs c0 a2 c2 a5 ts c5) F R gf gr gm (flB (aE ms) L 0) (raB (aE ms) L 0) W:=by
    obtain ⟨B1,kl1,kr1⟩:=HK1.o;have h1:=kr1.lt;have h2:=hF.lo;have e1:flB (aE ms) L 0=List.replicate F 0:=by show List.replicate L.flash.toNat 0=_;rw [HFR.o.1];rfl
    have e2:raB (aE ms) L 0=List.replicate R 0:=by show List.replicate L.ram.toNat 0=_;rw [HFR.o.2];rfl
    rw [e1,e2];refine ⟨B1.trans (hF.be.mono B1.size),kl1.bw hF.be,kr1.bw hF.be,hF.m,nM (by rw [HZ.o.1];exact hF.f) (by omega) hF1,nM (by rw [HZ.o.2];exact hF.r) (by omega) hR1,by omega,hF.ne⟩
   have HS0:=zh S0;have c0':=S0.kl.cell 0;simp only [List.getElem?_toArray,List.getElem?_cons_zero] at c0';clear S0 hF HK1 x3 x4 hw1 hmF hmR HZ hNw;go_wp2;clear c0';go_loopw [24] (fun i wr=>∃ m:Nat,m<=n/\i=qI m/\ImT w (qJ L a0 xs c0 a2 c2 a5 ts c5) F R gf gr gm (flB (aE ms) L m) (raB (aE ms) L m) wr) (qf n)
   .exact ⟨0,xC _,rfl,HS0.o⟩
   .clear HS0;obtain ⟨m,hm,rfl,S⟩:=hrel;generalize wr=wo at *;by_cases hlt:m<n
    .have hlt':(m:Int)<(n:Int):=by omega
     have hml':(m:Int)<(xs.length:Int):=by have:=HXL.o;omega
     obtain ⟨b,off,rfl,y0,y1,y2,y3,y4,y5,y6,y7⟩:=HM.o.s.at m hlt;obtain ⟨pb,po,rfl,z0,z1,z2,z3⟩:=HL.o.p.at m (by have:=HXL.o;omega);have HPB:=zh (HL.o.p.2.2.2.1 m (by have:=HXL.o;omega));have HMD:=zh (HM.o.d m hlt);have HPM:Zh ((aE ms).getD m zP=(ms.getD m aK).pm):=cG (by have:=HM.o.s.1;omega)
     have HPP:=zh (show (xs.getD m zPB).1=plc (aE ms) m from by
      rw [<- HKN.o.place m (by omega),<- HL.o.ps,bD _ _ _ zPB _ (by have:=HXL.o;omega)])
     have HAT:=zh (HKN.o.at m (by omega));have HFL:Zh (flB (aE ms) L (m+1)=cM (flB (aE ms) L m) ((aE ms).getD m zP) (L.places.getD m zPB.1) ((aE ms).getD m zP).bl.length):=rfl;have HRA:Zh (raB (aE ms) L (m+1)=iC (ovr (raB (aE ms) L m) ((L.places.getD m zPB.1).data-65536).toNat ((aE ms).getD m zP).dz) ((L.places.getD m zPB.1).data-65536).toNat ((aE ms).getD m zP).rz (L.places.getD m zPB.1).data ((aE ms).getD m zP).rz.length):=rfl;have HVL:=zh (HKN.o.v m (by omega));rw [HKN.o.place m (by omega),<- HPP.o,HPM.o] at HFL HRA;rw [<- HPP.o,HPM.o,HFR.o.1,HFR.o.2] at HAT;rw [HPM.o] at HVL;clear HPM HPP;generalize hFZ:flB (aE ms) L (m+1)=FZ at HFL;generalize hRZ:raB (aE ms) L (m+1)=RZ at HRA;have HFZ:=zh (xA hFZ hRZ);clear hFZ hRZ;generalize flB (aE ms) L m=fz at *;generalize raB (aE ms) L m=rz at *;unfold svP at z1;generalize xs.getD m zPB=x at *;obtain ⟨⟨xt,xb,xd,xz⟩,xa,xc⟩:=x;generalize ms.getD m aK=M at *;obtain ⟨P,hP⟩:=eqx (M.pm);rw [<- hP] at HFL HRA HAT HVL;have HPE:=zh (show P.tz=M.tz/\P.bl=M.bl.map (fun B=>B.2.2.2)/\P.dz=M.dz/\P.rz=M.rz by rw [hP];exact ⟨rfl,rfl,rfl,rfl⟩);clear hP;obtain ⟨nm,ta,tn,tc,tz,ba,bn,bc,bl,da,dn,dc,dz,bss,ra,rn,rc,rrz,ia,im,ic,ss,ea,en,ec,es⟩:=M;dsimp only at z0 z1 z2 z3 HPB HFL HRA HAT HMD HPE y0 y1 y2 y3 y4 y5 y6 y7;obtain ⟨kt,hkt⟩:∃ kt:Nat,xt=(kt:Int):=⟨xt.toNat,by have:=HAT.o.1.1;omega⟩;obtain ⟨f,hf⟩:∃ f:Nat,xd=65536+(f:Int):=⟨(xd-65536).toNat,by have:=HAT.o.2.2.2.1;omega⟩;subst hkt hf;have HIT:Zh (IS w ta tn tc tz/\BKS w ba bn bc bl/\BS w da dn dc dz/\IS w ra rn rc rrz):=zh ⟨HMD.o.t,HMD.o.b,HMD.o.d,HMD.o.r⟩;have hbl:bl.length=bn:=HIT.o.2.1.1;have htl:tz.length=tn:=HIT.o.1.1;have hdl:dz.length=dn:=HIT.o.2.2.1.1;have hrl:rrz.length=rn:=HIT.o.2.2.2.1;have hPl:P.bl.length=bn:=by rw [HPE.o.2.1,xH];exact hbl
     have hbn4:bn<=4:=by have h1:=(bZ HVL.o).2.2.2.1;omega
     have hrn:rn<=16:=by
      have V:=kY (by simp [lM]) (show mdo P.nm P.tz.length P.tz P.bl.length (lM P.bl) P.dz.length P.bss P.rz.length P.rz P.ss.length P.ss P.es.length P.es=0 from HVL.o);have h1:=V.r;rw [HPE.o.2.2.2] at h1;omega
     have hfd:f+dn<=R:=by
      have h1:=HAT.o.2.2.2.2;rw [HPE.o.2.2.1] at h1;omega
     have HRLB:=zh (show ∀ q,q<rn->0<=rrz.getD q 0/\rrz.getD q 0+4<=(dn:Int) from fun q hq=>by
      have h1:=aIc HVL.o q (by rw [HPE.o.2.2.2];omega);rw [HPE.o.2.2.2,HPE.o.2.2.1] at h1
      omega)
     have HPC:=zh (fun (X:qw) (I:It5 w (qL L (some (qR pb po)) xs.length c0 a2 L.slots.length c2 a5 ts.length c5) F R gf gr gm wo.heap.size #[qI (kt:Int),qS xa xb.length xc,qI (65536+(f:Int)),qI xz] fz rz X)=>show qC 217 #[qS (qP gf) F F,.agg (qM nm ta tn tc ba bn bc da dn dc bss ra rn rc ia im ic ea en ec),.agg #[qI (kt:Int),qS xa xb.length xc,qI (65536+(f:Int)),qI xz]] X fun e w'=>e=.returned (.tuple #[])/\It5 w (qL L (some (qR pb po)) xs.length c0 a2 L.slots.length c2 a5 ts.length c5) F R gf gr gm wo.heap.size #[qI (kt:Int),qS xa xb.length xc,qI (65536+(f:Int)),qI xz] FZ rz w' from
      (aB5 gf F nm ta tn tc tz ba bn bc bl da dn dc bss ra rn rc ia im ic ea en ec P kt xa xb xc (65536+(f:Int)) xz fz w.heap.size X w HIT.o.1 HIT.o.2.1 HPE.o.1 HPE.o.2.1 HPB.o I.s.be (by have:=I.s.lo;omega) I.s.f hF1 hbn4 (by have h1:=HAT.o.1.2;rw [HPE.o.1] at h1;omega) (by have h1:=HAT.o.2.1;omega) (fun j hj=>by
        have h1:=HAT.o.2.2.1 j (by omega);rw [HPE.o.2.1,fC _ _ _ zB _] at h1;rw [(HIT.o.2.1.2.2.2.1 j hj).1] at h1
        exact h1)).mono (fun e w' he=>⟨he.1,by rw [HFL.o];exact I.setf he.2.1 he.2.2⟩))
     have HPD:=zh (fun (bp:qO) (bl':Nat) (hbp:(f<R/\bp=some (qR gr f)/\bl'=R-f)\/(f=R/\bp=some (qR gr 0)/\bl'=0)) (X:qw) (I:It5 w (qL L (some (qR pb po)) xs.length c0 a2 L.slots.length c2 a5 ts.length c5) F R gf gr gm wo.heap.size #[qI (kt:Int),qS xa xb.length xc,qI (65536+(f:Int)),qI xz] FZ rz X)=>show qC 218 #[qS bp bl' bl',.agg (qM nm ta tn tc ba bn bc da dn dc bss ra rn rc ia im ic ea en ec),qI (65536+(f:Int))] X fun e w'=>e=.returned (.tuple #[])/\It5 w (qL L (some (qR pb po)) xs.length c0 a2 L.slots.length c2 a5 ts.length c5) F R gf gr gm wo.heap.size #[qI (kt:Int),qS xa xb.length xc,qI (65536+(f:Int)),qI xz] FZ RZ w' from
      (aB4 gr R f bp bl' nm ta tn tc ba bn bc da dn dc dz bss ra rn rc rrz ia im ic ea en ec rz w.heap.size X w HIT.o.2.2.1 HIT.o.2.2.2 I.s.be (by have:=I.s.lo;omega) I.s.r hR1 hrn hfd HRLB.o hbp).mono (fun e w' he=>⟨he.1,by
        rw [HRA.o,HPE.o.2.2.1,HPE.o.2.2.2,hrl,show ((65536:Int)+(f:Int)-65536).toNat=f by omega]
        exact I.setr he.2.1 he.2.2⟩))
     have I1:It5 w (qL L (some (qR pb po)) xs.length c0 a2 L.slots.length c2 a5 ts.length c5) F R gf gr gm wo.heap.size #[qI (kt:Int),qS xa xb.length xc,qI (65536+(f:Int)),qI xz] fz rz (wo.alloc (.cells #[qI (kt:Int),qS xa xb.length xc,qI (65536+(f:Int)),qI xz] 171)):=⟨S.bw (show qY wo (wo.alloc (.cells #[qI (kt:Int),qS xa xb.length xc,qI (65536+(f:Int)),qI xz] 171)) from bal),Blk.new _ _ _⟩;have HI1:=zh I1;have zz0:=aB S.be z0;have zz1:=aB S.be z1;have zz2:=aB S.be z2;have zz3:=aB S.be z3
     have HCL:=zh (fun (fz rz:qi) (X:qw) (I:It5 w (qL L (some (qR pb po)) xs.length c0 a2 L.slots.length c2 a5 ts.length c5) F R gf gr gm wo.heap.size #[qI (kt:Int),qS xa xb.length xc,qI (65536+(f:Int)),qI xz] fz rz X)=>show (X.cell? (qR b (off+m*8))=some (.string nm)/\X.cell? (qR b (off+m*8+1))=some (qS ta tn tc)/\X.cell? (qR b (off+m*8+2))=some (qS ba bn bc)/\X.cell? (qR b (off+m*8+3))=some (qS da dn dc)/\X.cell? (qR b (off+m*8+4))=some (qI bss)/\X.cell? (qR b (off+m*8+5))=some (qS ra rn rc)/\X.cell? (qR b (off+m*8+6))=some (qS ia im ic)/\X.cell? (qR b (off+m*8+7))=some (qS ea en ec))/\(X.cell? (qR wo.heap.size 0)=some (qI (kt:Int))/\X.cell? (qR wo.heap.size 1)=some (qS xa xb.length xc)/\X.cell? (qR wo.heap.size 2)=some (qI (65536+(f:Int)))/\X.cell? (qR wo.heap.size 3)=some (qI xz))/\X.cell? (qR gm 0)=some (qS (qP gf) F F)/\X.cell? (qR gm 1)=some (qS (qP gr) R R) from
      ⟨⟨aB I.s.be y0,aB I.s.be y1,aB I.s.be y2,aB I.s.be y3,aB I.s.be y4,aB I.s.be y5,aB I.s.be y6,aB I.s.be y7⟩,⟨I.p.cell 0,I.p.cell 1,I.p.cell 2,I.p.cell 3⟩,I.s.km.cell 0,I.s.km.cell 1⟩)
     clear S I1 HAT HVL HPE HMD hbl htl hdl hrl hPl;go_wp2_with fail
     generalize hW1:wo.alloc (.cells #[qI (kt:Int),qS xa xb.length xc,qI (65536+(f:Int)),qI xz] 171)=W1 at *;clear hW1 zz0 zz1 zz2 zz3;obtain ⟨⟨v0,v1,v2,v3,v4,v5,v6,v7⟩,⟨p0,p1,p2,p3⟩,q0,q1⟩:=HCL.o _ _ _ HI1.o
     go_region_held3 (fun w'=>w'.cell? (qR gm 0)=some (qS (qP gf) F F)/\w'.cell? (qR b (off+m*8))=some (.string nm)/\w'.cell? (qR b (off+m*8+1))=some (qS ta tn tc)/\w'.cell? (qR b (off+m*8+2))=some (qS ba bn bc)/\w'.cell? (qR b (off+m*8+3))=some (qS da dn dc)/\w'.cell? (qR b (off+m*8+4))=some (qI bss)/\w'.cell? (qR b (off+m*8+5))=some (qS ra rn rc)/\w'.cell? (qR b (off+m*8+6))=some (qS ia im ic)/\w'.cell? (qR b (off+m*8+7))=some (qS ea en ec)/\w'.cell? (qR wo.heap.size 0)=some (qI (kt:Int))/\w'.cell? (qR wo.heap.size 1)=some (qS xa xb.length xc)/\w'.cell? (qR wo.heap.size 2)=some (qI (65536+(f:Int)))/\w'.cell? (qR wo.heap.size 3)=some (qI xz)) (go_keep)
      (first
        | (go_at_call 217;first
            | with_reducible refine (HPC.o _ HI1.o).mono ?_
            | with_reducible refine (HPC.o _ HI1.o.drew).mono ?_
           rintro e w2 ⟨rfl,hI2⟩;have HI2:=zh hI2;clear hI2
           obtain ⟨⟨r0,r1,r2,r3,r4,r5,r6,r7⟩,⟨t0,t1,t2,t3⟩,u0,u1⟩:=HCL.o _ _ _ HI2.o))
     clear v0 v1 v2 v3 v4 v5 v6 v7 p0 p1 p2 p3 q0 q1 u0;have hff:(65536:Int)+(f:Int)-65536=(f:Int):=by omega
     have hffw:IntKind.i64.wrap ((65536:Int)+(f:Int)-65536)=(f:Int):=by rw [xP,xQ _ (by omega)];omega
     have hffw2:IntKind.i64.wrap (f:Int)=(f:Int):=by rw [xP,xQ _ (by omega)]
     have f0':(0:Int)<=(f:Int):=by omega
     have f1':(f:Int)<=(R:Int):=by omega
     by_cases hfl:f<R
     .have hfl':(f:Int)<(R:Int):=by omega
      have hfn:¬ (R=f):=by omega
      have HPD0:=zh (HPD.o (some (qR gr f)) (R-f) (.inl ⟨hfl,rfl,rfl⟩));clear HPD;go_wp2_with fail
      go_region_held3 (fun w'=>w'.cell? (qR gm 1)=some (qS (qP gr) R R)/\w'.cell? (qR b (off+m*8))=some (.string nm)/\w'.cell? (qR b (off+m*8+1))=some (qS ta tn tc)/\w'.cell? (qR b (off+m*8+2))=some (qS ba bn bc)/\w'.cell? (qR b (off+m*8+3))=some (qS da dn dc)/\w'.cell? (qR b (off+m*8+4))=some (qI bss)/\w'.cell? (qR b (off+m*8+5))=some (qS ra rn rc)/\w'.cell? (qR b (off+m*8+6))=some (qS ia im ic)/\w'.cell? (qR b (off+m*8+7))=some (qS ea en ec)/\w'.cell? (qR wo.heap.size 2)=some (qI (65536+(f:Int)))) (go_keep)
       (first
         | (go_at_call 218;first
             | with_reducible refine (HPD0.o _ HI2.o).mono ?_
             | with_reducible refine (HPD0.o _ HI2.o.drew).mono ?_
            rintro e w3 ⟨rfl,hI3⟩;have HI3:=zh hI3;clear hI3
            obtain ⟨⟨a0',a1',a2',a3',a4',a5',a6',a7'⟩,⟨b0',b1',b2',b3'⟩,c0',c1'⟩:=HCL.o _ _ _ HI3.o))
      clear a0' a1' a2' a3' a4' a5' a6' a7' b0' b1' b2' b3' c0' c1' r0 r1 r2 r3 r4 r5 r6 r7 t0 t1 t2 t3 u1 hff hffw hffw2;go_wp2
      go_roundw
      .exact ⟨m+1,by omega,by go_num,by rw [HFZ.o.1,HFZ.o.2];exact HI3.o.s⟩
      .simp [qf,intOf];omega
     .obtain rfl:R=f:=by omega
      have HPD0:=zh (HPD.o (qP gr) 0 (.inr ⟨rfl,rfl,rfl⟩));clear HPD;go_wp2_with fail
      go_region_held3 (fun w'=>w'.cell? (qR gm 1)=some (qS (qP gr) R R)/\w'.cell? (qR b (off+m*8))=some (.string nm)/\w'.cell? (qR b (off+m*8+1))=some (qS ta tn tc)/\w'.cell? (qR b (off+m*8+2))=some (qS ba bn bc)/\w'.cell? (qR b (off+m*8+3))=some (qS da dn dc)/\w'.cell? (qR b (off+m*8+4))=some (qI bss)/\w'.cell? (qR b (off+m*8+5))=some (qS ra rn rc)/\w'.cell? (qR b (off+m*8+6))=some (qS ia im ic)/\w'.cell? (qR b (off+m*8+7))=some (qS ea en ec)/\w'.cell? (qR wo.heap.size 2)=some (qI (65536+(R:Int)))) (go_keep)
       (first
         | (go_at_call 218;first
             | with_reducible refine (HPD0.o _ HI2.o).mono ?_
             | with_reducible refine (HPD0.o _ HI2.o.drew).mono ?_
            rintro e w3 ⟨rfl,hI3⟩;have HI3:=zh hI3;clear hI3
            obtain ⟨⟨a0',a1',a2',a3',a4',a5',a6',a7'⟩,⟨b0',b1',b2',b3'⟩,c0',c1'⟩:=HCL.o _ _ _ HI3.o))
      clear a0' a1' a2' a3' a4' a5' a6' a7' b0' b1' b2' b3' c0' c1' r0 r1 r2 r3 r4 r5 r6 r7 t0 t1 t2 t3 u1 hff hffw hffw2;go_wp2
      go_roundw
      .exact ⟨m+1,by omega,by go_num,by rw [HFZ.o.1,HFZ.o.2];exact HI3.o.s⟩
      .simp [qf,intOf];omega
    .have e:Zh (m=n):=by show m=n;omega
     obtain ⟨q0,q1,q2⟩:wo.cell? ⟨gm,0,none⟩=some (qS (qP gf) F F)/\wo.cell? ⟨gm,1,none⟩=some (qS (qP gr) R R)/\wo.cell? ⟨gm,2,none⟩=some (qS none 0 0):=⟨S.km.cell 0,S.km.cell 1,S.km.cell 2⟩;obtain ⟨p0,p1,p2⟩:wo.cell? ⟨w.heap.size+1,0,none⟩=some (qS none 0 0)/\wo.cell? ⟨w.heap.size+1,1,none⟩=some (qS none 0 0)/\wo.cell? ⟨w.heap.size+1,2,none⟩=some (qS none 0 0):=⟨S.kr.cell 0,S.kr.cell 1,S.kr.cell 2⟩;have pf:=S.kr.frozen;have hmx:¬ ((m:Int)<(xs.length:Int)):=by have:=HXL.o;omega
     have T:Turn (fun j=>j=w.heap.size+1) wo (((wo.setCell (qR (w.heap.size+1) 0) (qS (qP gf) F F)).setCell (qR (w.heap.size+1) 1) (qS (qP gr) R R)).setCell (qR (w.heap.size+1) 2) (qS none 0 0)):=((aC _ _ _ _).trans (aC _ _ _ _)).trans (aC _ _ _ _)
     have HE:=zh (show ImM w (aE ms) L (.returned (.tuple #[.agg (qV (qP gf) F F (qP gr) R R none 0 0),.bool true])) (((wo.setCell (qR (w.heap.size+1) 0) (qS (qP gf) F F)).setCell (qR (w.heap.size+1) 1) (qS (qP gr) R R)).setCell (qR (w.heap.size+1) 2) (qS none 0 0)) from by
      have hlo:=S.lo;refine ⟨aG S.be T (fun k e=>by omega) S.be.size,some (qR gf 0),F,F,some (qR gr 0),R,R,none,0,0,by rw [xR HOK.o],?_⟩;unfold imF imR;rw [if_pos HOK.o,if_pos HOK.o,hpl,<- e.o];refine ⟨aU T S.f (fun k hk s=>by simp [Value.ownBlock] at hk;omega),aU T S.r (fun k hk s=>by simp [Value.ownBlock] at hk;omega),⟨⟨rfl,.inl ⟨rfl,rfl⟩⟩,by simp⟩,?_,?_,?_⟩
      all_goals
       intro k hk;have hne:=S.ne;simp [Value.ownBlock] at hk ⊢
       try omega)
     have k3:=dB (v0:=qS (qP gf) F F) (v1:=qS (qP gr) R R) (v2:=qS none 0 0) S.kr;have s0:=k3.cell 0;have s1:=k3.cell 1;have s2:=k3.cell 2;simp only [List.getElem?_toArray,List.getElem?_cons_zero,List.getElem?_cons_succ] at s0 s1 s2;clear S T k3;go_wp2;exact bodyPost_ret (v:=.tuple #[.agg (qV (qP gf) F F (qP gr) R R none 0 0),.bool true]) (by simp [results,results191,go_sem,s0,s1,s2]) rfl HE.o
 .rw [xS hok]
  have HE:=zh (show ∀ W',qY w W'->ImM w (aE ms) L (.returned (.tuple #[.agg (qV none 0 0 none 0 0 none 0 0),.bool false])) W' from fun W' hb=>by
   refine ⟨hb,none,0,0,none,0,0,none,0,0,by rw [xS hok],?_⟩;unfold imF imR;rw [if_neg hok,if_neg hok];refine ⟨⟨⟨rfl,.inl ⟨rfl,rfl⟩⟩,by simp⟩,⟨⟨rfl,.inl ⟨rfl,rfl⟩⟩,by simp⟩,⟨⟨rfl,.inl ⟨rfl,rfl⟩⟩,by simp⟩,?_,?_,?_⟩
   all_goals
    intro k hk
    simp [Value.ownBlock] at hk)
  have k3:=dB (v0:=qS none 0 0) (v1:=qS none 0 0) (v2:=qS none 0 0) kr1;have s0:=k3.cell 0;have s1:=k3.cell 1;have s2:=k3.cell 2;simp only [List.getElem?_toArray,List.getElem?_cons_zero,List.getElem?_cons_succ] at s0 s1 s2;have T:Turn (fun j=>j=w.heap.size+1) w1 (((w1.setCell (qR (w.heap.size+1) 0) (qS none 0 0)).setCell (qR (w.heap.size+1) 1) (qS none 0 0)).setCell (qR (w.heap.size+1) 2) (qS none 0 0)):=((aC _ _ _ _).trans (aC _ _ _ _)).trans (aC _ _ _ _);have HB:=zh (aG B1 T (fun k e=>by omega) B1.size);obtain ⟨p0,p1,p2⟩:w1.cell? ⟨w.heap.size+1,0,none⟩=some (qS none 0 0)/\w1.cell? ⟨w.heap.size+1,1,none⟩=some (qS none 0 0)/\w1.cell? ⟨w.heap.size+1,2,none⟩=some (qS none 0 0):=⟨kr1.cell 0,kr1.cell 1,kr1.cell 2⟩;have pf:=kr1.frozen;clear T k3 kl1 kr1 B1 hok HRL HM HL;go_wp2;exact bodyPost_ret (v:=.tuple #[.agg (qV none 0 0 none 0 0 none 0 0),.bool false]) (by simp [results,results191,go_sem,s0,s1,s2]) rfl (HE.o _ HB.o)
theorem sS (pc:Int)(a:qO)(n cap base:Nat)(zs:qi)(k:Nat)(w:qw)(h:OI w base (qS a n cap) zs)(hn:n<=5000000)(hk:k<=20000000):
 qC 49 #[.agg #[qI pc,qS a n cap],qI k] w fun e w'=>e=.returned (qI ((k+n:Nat):Int))/\OI w' base (qS a n cap) (bE k n)/\Turn (fun j=>(qS a n cap).ownBlock=some j) w w':=by
 have h':=h.bw ((Below.refl w.heap.size w).alloc aN (.cells #[qI pc,qS a n cap] 38));have T0:Turn (fun j=>(qS a n cap).ownBlock=some j) w (w.alloc (.cells #[qI pc,qS a n cap] 38)):=iO w _;go_enter func49,ntmps49
 go_wp2_with fail
 refine (fT a n cap base zs k _ h' hn hk).mono ?_;rintro e w1 ⟨rfl,p1,t1⟩;go_wp2;go_ret;exact ⟨rfl,p1,T0.trans t1⟩
theorem aEu (pc:Int)(a:qO)(n cap:Nat)(k:Nat)(w:qw)(h:IS w a n cap (bE k n))(hn:n<=5000000)(hk:k<=20000000):
 qC 54 #[.agg #[qI pc,qS a n cap],qI k] w (qB w (qI ((k+n:Nat):Int))):=by
 have hB0:qY w (w.alloc (.cells #[qI pc,qS a n cap] 38)):=bal;have e0:(0:Int)<=((k+n:Nat):Int):=by omega
 go_enter func54,ntmps54
 go_wp2_with fail
 refine (fW a n cap k _ (h.bw hB0) hn hk).mono ?_;rintro e w1 ⟨rfl,rfl⟩;go_wp2;go_ret;exact ⟨rfl,hB0⟩
theorem wN (a1 a2 a3:qO)(n1 d1 n2 d2 n3 d3 base:Nat)(x1 x2 x3:qi)(k:Nat)(w:qw)(h:OM w base (qS a1 n1 d1) (qS a2 n2 d2) (qS a3 n3 d3) x1 x2 x3)(hn:k+n1+n2+n3<=5000000):
 qC 50 #[.agg (qV a1 n1 d1 a2 n2 d2 a3 n3 d3),qI (k:Nat)] w fun e w'=>e=.returned (qI ((k+n1+n2+n3:Nat):Int))/\OM w' base (qS a1 n1 d1) (qS a2 n2 d2) (qS a3 n3 d3) (cH k n1) (cH (k+n1) n2) (cH (k+n1+n2) n3)/\Turn (pX (qS a1 n1 d1) (qS a2 n2 d2) (qS a3 n3 d3)) w w':=by
 have hlt:∀ j,pX (qS a1 n1 d1) (qS a2 n2 d2) (qS a3 n3 d3) j->j<w.heap.size:=fun j hj=>(h.lt hj).2;have kb:=Blk.new w (qV a1 n1 d1 a2 n2 d2 a3 n3 d3) 39;have bb:qY w (w.alloc (.cells (qV a1 n1 d1 a2 n2 d2 a3 n3 d3) 39)):=bal;have h':=h.bw bb;have T0:Turn (pX (qS a1 n1 d1) (qS a2 n2 d2) (qS a3 n3 d3)) w (w.alloc (.cells (qV a1 n1 d1 a2 n2 d2 a3 n3 d3) 39)):=aJ bb;obtain ⟨_,_,_,o12,o13,o23⟩:=h;clear bb;go_enter func50,ntmps50
 go_wp2_with fail
 refine (eN a1 n1 d1 base x1 k _ h'.o1).mono ?_;rintro e w1 ⟨rfl,p1,t1⟩;have kb1:=aF t1 kb (fun e=>by have:=hlt _ (Or.inl e);omega);have p2:=aU t1 h'.o2 (fun k hk e=>o12 k e hk);have p3:=aU t1 h'.o3 (fun k hk e=>o13 k e hk);have T1:=T0.trans (t1.mono (fun k hk=>Or.inl hk));clear t1 kb h';obtain ⟨q1,q2,q3,q4⟩:=kb1.three;go_wp2_with fail
 refine (eN a2 n2 d2 base x2 (k+n1) _ p2).mono ?_;rintro e w2 ⟨rfl,p2,t2⟩;have kb2:=aF t2 kb1 (fun e=>by have:=hlt _ (Or.inr (Or.inl e));omega);have p1:=aU t2 p1 (fun k hk e=>o12 k hk e);have p3:=aU t2 p3 (fun k hk e=>o23 k e hk);have T2:=T1.trans (t2.mono (fun k hk=>Or.inr (Or.inl hk)));clear t2 kb1 q1 q2 q3 q4;obtain ⟨q1,q2,q3,q4⟩:=kb2.three;go_wp2_with fail
 refine (eN a3 n3 d3 base x3 (k+n1+n2) _ p3).mono ?_;rintro e w3 ⟨rfl,p3,t3⟩;have p1:=aU t3 p1 (fun k hk e=>o13 k hk e);have p2:=aU t3 p2 (fun k hk e=>o23 k hk e);have T3:=T2.trans (t3.mono (fun k hk=>Or.inr (Or.inr hk)));go_wp2;go_ret;exact ⟨rfl,⟨p1,p2,p3,o12,o13,o23⟩,T3⟩
theorem aH1 (a1 a2 a3:qO)(n1 d1 n2 d2 n3 d3:Nat)(k:Nat)(w:qw)(h1:BS w a1 n1 d1 (cH k n1))(h2:BS w a2 n2 d2 (cH (k+n1) n2))(h3:BS w a3 n3 d3 (cH (k+n1+n2) n3))(hn:k+n1+n2+n3<=5000000):
 qC 55 #[.agg (qV a1 n1 d1 a2 n2 d2 a3 n3 d3),qI (k:Nat)] w (qB w (qI ((k+n1+n2+n3:Nat):Int))):=by
 have hB0:qY w (w.alloc (.cells (qV a1 n1 d1 a2 n2 d2 a3 n3 d3) 39)):=bal;go_enter func55,ntmps55
 go_wp2_with fail
 refine (eP a1 n1 d1 k _ (h1.bw hB0)).mono ?_;rintro e w1 ⟨rfl,rfl⟩;have e1:(0:Int)<=((k+n1:Nat):Int):=by omega
 go_wp2_with fail
 refine (eP a2 n2 d2 (k+n1) _ (h2.bw hB0)).mono ?_;rintro e w1 ⟨rfl,rfl⟩;have e2:(0:Int)<=((k+n1+n2:Nat):Int):=by omega
 go_wp2_with fail
 refine (eP a3 n3 d3 (k+n1+n2) _ (h3.bw hB0)).mono ?_;rintro e w1 ⟨rfl,rfl⟩;have e3:(0:Int)<=((k+n1+n2+n3:Nat):Int):=by omega
 go_wp2;go_ret;exact ⟨rfl,hB0⟩
def eA (k i:Nat):SlT:=(decide ((k+4*i)%3=0),((k+4*i+1:Nat):Int),((k+4*i+2:Nat):Int),((k+4*i+3:Nat):Int))
theorem sP (g n cap base:Nat)(zs:List SlT)(k:Nat)(w:qw)(h:OG 142 4 bR w base (qS (qP g) n cap) zs)(hn:n<=5000000)(hk:k<=20000000):
 qC 51 #[qS (qP g) n cap,qI k] w fun e w'=>e=.returned (qI ((k+4*n:Nat):Int))/\OG 142 4 bR w' base (qS (qP g) n cap) (lJ (eA k) n)/\Turn (fun j=>j=g) w w':=by
 have hl:=(aQ h).1;go_enter func51,ntmps51
 go_wp2;go_loopw [1,5] (fun x i wr=>∃ m:Nat,m<=n/\i=qI m/\x=qI ((k+4*m:Nat):Int)/\OG 142 4 bR wr base (qS (qP g) n cap) (pK zSl zs (eA k) m)/\Turn (fun j=>j=g) w wr) (fun _ i _=>n-(intOf i).toNat)
 .exact ⟨0,xC _,rfl,rfl,by rw [wM];exact h,Turn.refl _ _⟩
 .obtain ⟨m,hm,rfl,rfl,O,T⟩:=hrel;by_cases hlt:m<n
  .have hlt':(m:Int)<(n:Int):=by omega
   obtain ⟨g',hg',hc⟩:=nU bM zSl O m hlt;simp at hg';subst hg';have c0:wr.cell? (qR g (m*4))=_:=hc 0 (by omega) _ rfl;have c1:wr.cell? (qR g (m*4+1))=_:=hc 1 (by omega) _ rfl;have c2:wr.cell? (qR g (m*4+2))=_:=hc 2 (by omega) _ rfl;have c3:wr.cell? (qR g (m*4+3))=_:=hc 3 (by omega) _ rfl;obtain ⟨cur,hb⟩:=aD O rfl;have f0:wr.frozen? (qR g (m*4))=false:=hb.frozen (m*4);have f1:wr.frozen? (qR g (m*4+1))=false:=hb.frozen (m*4+1);have f2:wr.frozen? (qR g (m*4+2))=false:=hb.frozen (m*4+2);have f3:wr.frozen? (qR g (m*4+3))=false:=hb.frozen (m*4+3)
   have HX:=zh (fun (v0 v1 v2 v3:Value) (hv:bR (eA k m)=[v0,v1,v2,v3])=>by
    have O2:=aAd bM O m hlt (eA k m) v0 v1 v2 v3 hv;rw [aCi zSl zs (eA k) m (by omega)] at O2;have T2:=(((T.trans (aC wr g (m*4) v0)).trans (aC _ g (m*4+1) v1)).trans (aC _ g (m*4+2) v2)).trans (aC _ g (m*4+3) v3)
    exact xA O2 T2)
   clear O T hb hc;go_wp2
   go_roundw
   .exact ⟨m+1,by omega,by go_num,by go_num,(HX.o _ _ _ _ (by simp only [bR,eA,List.cons.injEq,Value.int.injEq,Value.bool.injEq,true_and,and_true];refine ⟨?_,?_,?_,?_⟩<;>first|rfl|(push_cast;omega)|omega|(rw [xJ];simp only [decide_eq_true_iff,beq_iff_eq];omega))).1,(HX.o _ _ _ _ (by simp only [bR,eA,List.cons.injEq,Value.int.injEq,Value.bool.injEq,true_and,and_true];refine ⟨?_,?_,?_,?_⟩<;>first|rfl|(push_cast;omega)|omega|(rw [xJ];simp only [decide_eq_true_iff,beq_iff_eq];omega))).2⟩
   .simp [intOf];omega
  .have e:Zh (m=n):=by show m=n;omega
   have HX:=zh (xA O T);clear O T;go_wp2;go_ret;refine ⟨aH (by rw [e.o]),?_,HX.o.2⟩;have:=HX.o.1;rw [e.o,<- hl,aCj] at this;rw [hl] at this;exact this
theorem sO (a:qO)(cap k:Nat)(w:qw):
 qC 51 #[qS a 0 cap,qI k] w fun e w'=>e=.returned (qI k)/\w=w':=by
 go_enter func51,ntmps51
 go_wp2;go_loop [1,5] (fun x i=>i=qI 0/\x=qI k) (fun _ _=>0)
 .exact ⟨rfl,rfl⟩
 .obtain ⟨rfl,rfl⟩:=hrel;go_wp2;go_ret;exact ⟨rfl,rfl⟩
theorem lR (a:qO)(n cap base:Nat)(zs:List SlT)(k:Nat)(w:qw)(h:OG 142 4 bR w base (qS a n cap) zs)(hn:n<=5000000)(hk:k<=20000000):
 qC 51 #[qS a n cap,qI k] w fun e w'=>e=.returned (qI ((k+4*n:Nat):Int))/\OG 142 4 bR w' base (qS a n cap) (lJ (eA k) n)/\Turn (fun j=>(qS a n cap).ownBlock=some j) w w':=by
 by_cases h1:n=0
 .subst h1;refine (sO a cap k w).mono fun e w' he=>?_;obtain ⟨rfl,rfl⟩:=he;have hz:zs=[]:=xE (aQ h).1;subst hz;exact ⟨rfl,h,Turn.refl _ _⟩
 .obtain ⟨g,rfl⟩:=fS h h1;refine (sP g n cap base zs k w h hn hk).mono fun e w' he=>⟨he.1,he.2.1,he.2.2.mono ?_⟩;intro j hj;subst hj;rfl
theorem vQ (a:qO)(n cap base:Nat)(k:Nat)(w:qw)(h:OG 142 4 bR w base (qS a n cap) (lJ (eA k) n))(hn:n<=5000000)(hk:k<=20000000):
 qC 56 #[qS a n cap,qI k] w fun e w'=>e=.returned (qI ((k+4*n:Nat):Int))/\w=w':=by
 have HO:=zh h;clear h;go_enter func56,ntmps56
 go_wp2;go_loop [1,5] (fun x i=>∃ m:Nat,m<=n/\i=qI m/\x=qI ((k+4*m:Nat):Int)) (fun _ i=>n-(intOf i).toNat)
 .exact ⟨0,xC _,rfl,rfl⟩
 .obtain ⟨m,hm,rfl,rfl⟩:=hrel;by_cases hlt:m<n
  .have hlt':(m:Int)<(n:Int):=by omega
   obtain ⟨g,rfl,hc⟩:=nU bM zSl HO.o m hlt;rw [aF2 zSl (eA k) n m hlt] at hc;have c0:w.cell? (qR g (m*4))=_:=hc 0 (by omega) _ rfl;have c1:w.cell? (qR g (m*4+1))=_:=hc 1 (by omega) _ rfl;have c2:w.cell? (qR g (m*4+2))=_:=hc 2 (by omega) _ rfl;have c3:w.cell? (qR g (m*4+3))=_:=hc 3 (by omega) _ rfl;unfold eA at c0 c1 c2 c3;dsimp only at c0 c1 c2 c3;obtain ⟨K,hK⟩:∃ K:Nat,K=k+4*m:=⟨_,rfl⟩;have HK:=zh hK;have hKb:K<=40000000:=by omega
   rw [<- hK] at c0 c1 c2 c3 ⊢;clear hK hc;have e0:(decide (K%3=0) !=decide (K%3=0))=false:=by first|simp|(simp;omega)
   have e1:((K:Int)+1 !=((K+1:Nat):Int))=false:=by simp
   have e2:((K:Int)+1+1 !=((K+2:Nat):Int))=false:=by simp;omega
   have e3:((K:Int)+1+1+1 !=((K+3:Nat):Int))=false:=by simp;omega
   have e9:((K:Int)%3==0)=decide (K%3=0):=by rw [xJ];simp only [decide_eq_true_iff,beq_iff_eq];omega
   have e8:(decide (K%3=0) !=((K:Int)%3==0))=false:=by rw [e9];simp
   go_wp2
   go_round
   .exact ⟨m+1,by omega,by go_num,by rw [HK.o];go_num⟩
   .simp [intOf];omega
  .have e:Zh (m=n):=by show m=n;omega
   go_wp2;go_ret;exact ⟨aH (by rw [e.o]),rfl⟩
def dD (k i:Nat):FrT:=(((k+4*i:Nat):Int),((k+4*i+1:Nat):Int),((k+4*i+2:Nat):Int),((k+4*i+3:Nat):Int))
theorem pP (g n cap base:Nat)(zs:List FrT)(k:Nat)(w:qw)(h:OG 135 4 cO w base (qS (qP g) n cap) zs)(hn:n<=5000000)(hk:k<=20000000):
 qC 52 #[qS (qP g) n cap,qI k] w fun e w'=>e=.returned (qI ((k+4*n:Nat):Int))/\OG 135 4 cO w' base (qS (qP g) n cap) (lJ (dD k) n)/\Turn (fun j=>j=g) w w':=by
 have hl:=(aQ h).1;go_enter func52,ntmps52
 go_wp2;go_loopw [1,5] (fun x i wr=>∃ m:Nat,m<=n/\i=qI m/\x=qI ((k+4*m:Nat):Int)/\OG 135 4 cO wr base (qS (qP g) n cap) (pK zFr zs (dD k) m)/\Turn (fun j=>j=g) w wr) (fun _ i _=>n-(intOf i).toNat)
 .exact ⟨0,xC _,rfl,rfl,by rw [wM];exact h,Turn.refl _ _⟩
 .obtain ⟨m,hm,rfl,rfl,O,T⟩:=hrel;by_cases hlt:m<n
  .have hlt':(m:Int)<(n:Int):=by omega
   obtain ⟨g',hg',hc⟩:=nU cQ zFr O m hlt;simp at hg';subst hg';have c0:wr.cell? (qR g (m*4))=_:=hc 0 (by omega) _ rfl;have c1:wr.cell? (qR g (m*4+1))=_:=hc 1 (by omega) _ rfl;have c2:wr.cell? (qR g (m*4+2))=_:=hc 2 (by omega) _ rfl;have c3:wr.cell? (qR g (m*4+3))=_:=hc 3 (by omega) _ rfl;obtain ⟨cur,hb⟩:=aD O rfl;have f0:wr.frozen? (qR g (m*4))=false:=hb.frozen (m*4);have f1:wr.frozen? (qR g (m*4+1))=false:=hb.frozen (m*4+1);have f2:wr.frozen? (qR g (m*4+2))=false:=hb.frozen (m*4+2);have f3:wr.frozen? (qR g (m*4+3))=false:=hb.frozen (m*4+3)
   have HX:=zh (fun (v0 v1 v2 v3:Value) (hv:cO (dD k m)=[v0,v1,v2,v3])=>by
    have O2:=aAd cQ O m hlt (dD k m) v0 v1 v2 v3 hv;rw [aCi zFr zs (dD k) m (by omega)] at O2;have T2:=(((T.trans (aC wr g (m*4) v0)).trans (aC _ g (m*4+1) v1)).trans (aC _ g (m*4+2) v2)).trans (aC _ g (m*4+3) v3)
    exact xA O2 T2)
   clear O T hb hc;go_wp2
   go_roundw
   .exact ⟨m+1,by omega,by go_num,by go_num,(HX.o _ _ _ _ (by simp only [cO,dD,List.cons.injEq,Value.int.injEq,true_and,and_true];refine ⟨?_,?_,?_,?_⟩<;>first|rfl|(push_cast;omega)|omega)).1,(HX.o _ _ _ _ (by simp only [cO,dD,List.cons.injEq,Value.int.injEq,true_and,and_true];refine ⟨?_,?_,?_,?_⟩<;>first|rfl|(push_cast;omega)|omega)).2⟩
   .simp [intOf];omega
  .have e:Zh (m=n):=by show m=n;omega
   have HX:=zh (xA O T);clear O T;go_wp2;go_ret;refine ⟨aH (by rw [e.o]),?_,HX.o.2⟩;have:=HX.o.1;rw [e.o,<- hl,aCj] at this;rw [hl] at this;exact this
theorem pO (a:qO)(cap k:Nat)(w:qw):
 qC 52 #[qS a 0 cap,qI k] w fun e w'=>e=.returned (qI k)/\w=w':=by
 go_enter func52,ntmps52
 go_wp2;go_loop [1,5] (fun x i=>i=qI 0/\x=qI k) (fun _ _=>0)
 .exact ⟨rfl,rfl⟩
 .obtain ⟨rfl,rfl⟩:=hrel;go_wp2;go_ret;exact ⟨rfl,rfl⟩
theorem jY (a:qO)(n cap base:Nat)(zs:List FrT)(k:Nat)(w:qw)(h:OG 135 4 cO w base (qS a n cap) zs)(hn:n<=5000000)(hk:k<=20000000):
 qC 52 #[qS a n cap,qI k] w fun e w'=>e=.returned (qI ((k+4*n:Nat):Int))/\OG 135 4 cO w' base (qS a n cap) (lJ (dD k) n)/\Turn (fun j=>(qS a n cap).ownBlock=some j) w w':=by
 by_cases h1:n=0
 .subst h1;refine (pO a cap k w).mono fun e w' he=>?_;obtain ⟨rfl,rfl⟩:=he;have hz:zs=[]:=xE (aQ h).1;subst hz;exact ⟨rfl,h,Turn.refl _ _⟩
 .obtain ⟨g,rfl⟩:=fS h h1;refine (pP g n cap base zs k w h hn hk).mono fun e w' he=>⟨he.1,he.2.1,he.2.2.mono ?_⟩;intro j hj;subst hj;rfl
theorem tL (a:qO)(n cap base:Nat)(k:Nat)(w:qw)(h:OG 135 4 cO w base (qS a n cap) (lJ (dD k) n))(hn:n<=5000000)(hk:k<=20000000):
 qC 57 #[qS a n cap,qI k] w fun e w'=>e=.returned (qI ((k+4*n:Nat):Int))/\w=w':=by
 have HO:=zh h;clear h;go_enter func57,ntmps57
 go_wp2;go_loop [1,5] (fun x i=>∃ m:Nat,m<=n/\i=qI m/\x=qI ((k+4*m:Nat):Int)) (fun _ i=>n-(intOf i).toNat)
 .exact ⟨0,xC _,rfl,rfl⟩
 .obtain ⟨m,hm,rfl,rfl⟩:=hrel;by_cases hlt:m<n
  .have hlt':(m:Int)<(n:Int):=by omega
   obtain ⟨g,rfl,hc⟩:=nU cQ zFr HO.o m hlt;rw [aF2 zFr (dD k) n m hlt] at hc;have c0:w.cell? (qR g (m*4))=_:=hc 0 (by omega) _ rfl;have c1:w.cell? (qR g (m*4+1))=_:=hc 1 (by omega) _ rfl;have c2:w.cell? (qR g (m*4+2))=_:=hc 2 (by omega) _ rfl;have c3:w.cell? (qR g (m*4+3))=_:=hc 3 (by omega) _ rfl;unfold dD at c0 c1 c2 c3;dsimp only at c0 c1 c2 c3;obtain ⟨K,hK⟩:∃ K:Nat,K=k+4*m:=⟨_,rfl⟩;have HK:=zh hK;have hKb:K<=40000000:=by omega
   rw [<- hK] at c0 c1 c2 c3 ⊢;clear hK hc;have e0:((K:Int) !=(K:Int))=false:=by first|simp|(simp;omega)
   have e1:((K:Int)+1 !=((K+1:Nat):Int))=false:=by simp
   have e2:((K:Int)+1+1 !=((K+2:Nat):Int))=false:=by simp;omega
   have e3:((K:Int)+1+1+1 !=((K+3:Nat):Int))=false:=by simp;omega
   go_wp2
   go_round
   .exact ⟨m+1,by omega,by go_num,by rw [HK.o];go_num⟩
   .simp [intOf];omega
  .have e:Zh (m=n):=by show m=n;omega
   go_wp2;go_ret;exact ⟨aH (by rw [e.o]),rfl⟩
theorem pM (a:qO)(n cap base k:Nat)(Q:Nat->Prop)(hs:List Hd)(L:List (Hd×Ct))(β:Nat->Nat)(w:qw)(H:OMs w base (qS a n cap) L β)(hL:L.map (fun x=>x.1)=hs)(hl:L.length=n)(h0:0<k)(hz:k+upS (fun j=>aY (hs.getD j zHd)) n<=4194305)(hb:∀ i,i<n->(hs.getD i zHd).bn<=1048576)(hn:n<=1048576)(hg:∀ j,(qS a n cap).ownBlock=some j->Q j)(hsh:∀ i,i<n->∀ j,Sh (hs.getD i zHd) j->Q j):
 qC 48 #[qS a n cap,qI k] w fun e w'=>e=.returned (qI ((k+upS (fun j=>aY (hs.getD j zHd)) n:Nat):Int))/\∃ L',Mkg w w' base Q (qS a n cap) hs L' β k n:=by
 by_cases e:n=0
 .subst e;refine (nY a cap k w).mono fun e w' he=>?_;obtain ⟨rfl,rfl⟩:=he;exact ⟨rfl,L,H,hL,fun i hi=>absurd hi (Nat.not_lt_zero _),Turn.refl _ _⟩
 .obtain ⟨g,rfl⟩:=fS H.o e;exact nZ g n cap base k Q hs L β w H hL hl h0 hz hb hn (hg g rfl) hsh
theorem pT (a:qO)(n cap base k:Nat)(hs:List Hd)(L:List (Hd×Ct))(β:Nat->Nat)(w:qw)(H:OMs w base (qS a n cap) L β)(hd:∀ i,i<n->L[i]?=some (hs.getD i zHd,mkC (hs.getD i zHd) (k+upS (fun j=>aY (hs.getD j zHd)) i)))(h0:0<k)(hz:k+upS (fun j=>aY (hs.getD j zHd)) n<=4194305)(hb:∀ i,i<n->(hs.getD i zHd).bn<=1048576)(hn:n<=1048576):
 qC 53 #[qS a n cap,qI k] w fun e w'=>e=.returned (qI ((k+upS (fun j=>aY (hs.getD j zHd)) n:Nat):Int))/\qY w w':=by
 by_cases e:n=0
 .subst e;refine (oG a cap k w).mono fun e w' he=>?_;obtain ⟨rfl,rfl⟩:=he;exact ⟨rfl,brf⟩
 .obtain ⟨g,rfl⟩:=fS H.o e;exact oH g n cap base k hs L β w H hd h0 hz hb hn
theorem pN (M:Mn)(base:Nat)(hs:List Hd)(L:List (Hd×Ct))(β:Nat->Nat)(K F R O:qi)(S:List SlT)(H:List FrT)(w:qw)(h:MnO w base (qS M.ma M.mn M.mc) hs L β (qS M.ka M.kn M.kc) (qS M.fa M.fn M.fc) (qS M.ra M.rn M.rc) (qS M.oa M.on M.oc) (qS M.la M.ln M.lc) (qS M.ha M.hn M.hc) K F R O S H)(hl:L.length=M.mn)(hz:1+upS (fun j=>aY (hs.getD j zHd)) M.mn+M.kn+M.fn+M.rn+M.on+4*M.ln+4*M.hn<=4194305)(hb:∀ i,i<M.mn->(hs.getD i zHd).bn<=1048576)(hn:M.mn<=1048576):
 qC 12 #[.agg (qA M),qI 1] w fun e w'=>e=.returned (qI ((1+upS (fun j=>aY (hs.getD j zHd)) M.mn+M.kn+M.fn+M.rn+M.on+4*M.ln+4*M.hn:Nat):Int))/\(∃ L',MnO w' base (qS M.ma M.mn M.mc) hs L' β (qS M.ka M.kn M.kc) (qS M.fa M.fn M.fc) (qS M.ra M.rn M.rc) (qS M.oa M.on M.oc) (qS M.la M.ln M.lc) (qS M.ha M.hn M.hc) (bE (1+upS (fun j=>aY (hs.getD j zHd)) M.mn) M.kn) (cH (1+upS (fun j=>aY (hs.getD j zHd)) M.mn+M.kn) M.fn) (cH (1+upS (fun j=>aY (hs.getD j zHd)) M.mn+M.kn+M.fn) M.rn) (cH (1+upS (fun j=>aY (hs.getD j zHd)) M.mn+M.kn+M.fn+M.rn) M.on) (lJ (eA (1+upS (fun j=>aY (hs.getD j zHd)) M.mn+M.kn+M.fn+M.rn+M.on)) M.ln) (lJ (dD (1+upS (fun j=>aY (hs.getD j zHd)) M.mn+M.kn+M.fn+M.rn+M.on+4*M.ln)) M.hn)/\∀ i,i<M.mn->L'[i]?=some (hs.getD i zHd,mkC (hs.getD i zHd) (1+upS (fun j=>aY (hs.getD j zHd)) i)))/\Turn (fun j=>(base<=j/\j<w.heap.size)/\∃ cs t,Blk w j cs t/\t≠43) w w':=by
 obtain ⟨V,hV,bV,kV⟩:=nwb w (qA M) 43;have hsl:hs.length=M.mn:=by rw [<- h.e,xH,hl]
 have L0:∀ j,((qS M.ma M.mn M.mc):Value).ownBlock=some j\/ShL hs j->(base<=j/\j<w.heap.size)/\∃ cs t,Blk w j cs t/\t≠43:=fun j s=>by
  rcases s with s|s
  .obtain ⟨cs,k⟩:=aD h.m.o s;exact ⟨h.m.o.lt j s,cs,_,k,by decide⟩
  .obtain ⟨i,x,hx,hj⟩:=aIv h s;obtain ⟨this,cs,t,k,ht⟩:=(h.m.m i x hx).1.sh hj;exact ⟨⟨by have:=h.lo i x hx;omega,by omega⟩,cs,t,k,by rcases ht with rfl|rfl|rfl|rfl<;>decide⟩
 have L1:∀ j,((qS M.ka M.kn M.kc):Value).ownBlock=some j->(base<=j/\j<w.heap.size)/\∃ cs t,Blk w j cs t/\t≠43:=fun j s=>by
  obtain ⟨cs,k⟩:=aD h.k.1 s;exact ⟨h.k.lt j s,cs,_,k,by decide⟩
 have L2:∀ j,pX (qS M.fa M.fn M.fc) (qS M.ra M.rn M.rc) (qS M.oa M.on M.oc) j->(base<=j/\j<w.heap.size)/\∃ cs t,Blk w j cs t/\t≠43:=fun j s=>by
  obtain ⟨cs,k⟩:=eG h.q s;exact ⟨h.q.lt s,cs,_,k,by decide⟩
 have L3:∀ j,((qS M.la M.ln M.lc):Value).ownBlock=some j->(base<=j/\j<w.heap.size)/\∃ cs t,Blk w j cs t/\t≠43:=fun j s=>by
  obtain ⟨cs,k⟩:=aD h.l s;exact ⟨h.l.lt j s,cs,_,k,by decide⟩
 have L4:∀ j,((qS M.ha M.hn M.hc):Value).ownBlock=some j->(base<=j/\j<w.heap.size)/\∃ cs t,Blk w j cs t/\t≠43:=fun j s=>by
  obtain ⟨cs,k⟩:=aD h.h s;exact ⟨h.h.lt j s,cs,_,k,by decide⟩
 have HLT:=zh (xA L0 (xA L1 (xA L2 (xA L3 L4))));have Z0:=h.bw bV;have T0:Turn (fun j=>(base<=j/\j<w.heap.size)/\∃ cs t,Blk w j cs t/\t≠43) w V:=aJ bV;have HV:=zh hV;have HS:=zh hsl;clear hV bV L0 L1 L2 L3 L4 h hsl;generalize hu:upS (fun j=>aY (hs.getD j zHd)) M.mn=u at *;have HU:=zh hu;have C0:=zh (pM M.ma M.mn M.mc base 1 (fun j=>((qS M.ma M.mn M.mc):Value).ownBlock=some j\/ShL hs j) hs L β V Z0.m Z0.e hl (by omega) (by rw [HU.o];omega) hb hn (fun j hj=>.inl hj) (fun i hi j hj=>.inr ⟨i,by rw [HS.o];exact hi,hj⟩));rw [HU.o] at C0;clear hu;obtain ⟨p0,p1,p2,p3,p4,p5,p6,p7,p8,p9,p10,p11,p12,p13,p14⟩:=kV.mc;have HZ:=zh (xA Z0 (xA T0 kV));clear Z0 T0 kV;go_enter func12,ntmps12
 go_wp2_with (rw [<- HV.o])
 refine C0.o.mono ?_;rintro e w1 ⟨rfl,L',G⟩;obtain ⟨Z0,T0,kV⟩:=HZ.o;have Z1:=Z0.mods G.o G.h G.t;have T1:=T0.trans (G.t.mono HLT.o.1);have k1:=aF G.t kV (fun s=>by have:=(HLT.o.1 _ s).1;omega);have HD:=zh G.d;clear p0 p1 p2 p3 p4 p5 p6 p7 p8 p9 p10 p11 p12 p13 p14;obtain ⟨p0,p1,p2,p3,p4,p5,p6,p7,p8,p9,p10,p11,p12,p13,p14⟩:=k1.mc;have C1:=zh (sS M.pc M.ka M.kn M.kc base _ (1+u) w1 Z1.k (by omega) (by omega));have HZ1:=zh (xA Z1 (xA T1 k1));clear Z0 T0 kV G Z1 T1 k1 HZ C0;go_wp2_with fail
 refine C1.o.mono ?_;rintro e w2 ⟨rfl,O',U⟩;obtain ⟨Z1,T1,k1⟩:=HZ1.o;have Z2:=Z1.core O' U;have T2:=T1.trans (U.mono HLT.o.2.1);have k2:=aF U k1 (fun s=>by have:=(HLT.o.2.1 _ s).1;omega);clear p0 p1 p2 p3 p4 p5 p6 p7 p8 p9 p10 p11 p12 p13 p14;obtain ⟨p0,p1,p2,p3,p4,p5,p6,p7,p8,p9,p10,p11,p12,p13,p14⟩:=k2.mc;have C2:=zh (wN M.fa M.ra M.oa M.fn M.fc M.rn M.rc M.on M.oc base _ _ _ (1+u+M.kn) w2 Z2.q (by omega));have HZ2:=zh (xA Z2 (xA T2 k2));clear Z1 T1 k1 O' U Z2 T2 k2 HZ1 C1;go_wp2_with fail
 refine C2.o.mono ?_;rintro e w3 ⟨rfl,O',U⟩;obtain ⟨Z2,T2,k2⟩:=HZ2.o;have Z3:=Z2.mem O' U;have T3:=T2.trans (U.mono HLT.o.2.2.1);have k3:=aF U k2 (fun s=>by have:=(HLT.o.2.2.1 _ s).1;omega);clear p0 p1 p2 p3 p4 p5 p6 p7 p8 p9 p10 p11 p12 p13 p14;obtain ⟨p0,p1,p2,p3,p4,p5,p6,p7,p8,p9,p10,p11,p12,p13,p14⟩:=k3.mc;have C3:=zh (lR M.la M.ln M.lc base _ (1+u+M.kn+M.fn+M.rn+M.on) w3 Z3.l (by omega) (by omega));have HZ3:=zh (xA Z3 (xA T3 k3));clear Z2 T2 k2 O' U Z3 T3 k3 HZ2 C2;go_wp2_with fail
 refine C3.o.mono ?_;rintro e w4 ⟨rfl,O',U⟩;obtain ⟨Z3,T3,k3⟩:=HZ3.o;have Z4:=Z3.slot O' U;have T4:=T3.trans (U.mono HLT.o.2.2.2.1);have k4:=aF U k3 (fun s=>by have:=(HLT.o.2.2.2.1 _ s).1;omega);clear p0 p1 p2 p3 p4 p5 p6 p7 p8 p9 p10 p11 p12 p13 p14;obtain ⟨p0,p1,p2,p3,p4,p5,p6,p7,p8,p9,p10,p11,p12,p13,p14⟩:=k4.mc;have C4:=zh (jY M.ha M.hn M.hc base _ (1+u+M.kn+M.fn+M.rn+M.on+4*M.ln) w4 Z4.h (by omega) (by omega));have HZ4:=zh (xA Z4 T4);clear Z3 T3 k3 O' U Z4 T4 k4 HZ3 C3;go_wp2_with fail
 refine C4.o.mono ?_;rintro e w5 ⟨rfl,O',U⟩;obtain ⟨Z4,T4⟩:=HZ4.o;have HE:=zh (xA (Z4.frame O' U) (T4.trans (U.mono HLT.o.2.2.2.2)));clear p0 p1 p2 p3 p4 p5 p6 p7 p8 p9 p10 p11 p12 p13 p14 Z4 T4 O' U HZ4 C4;go_wp2;go_ret;exact ⟨by go_num,⟨L',HE.o.1,HD.o⟩,HE.o.2⟩
theorem pU (M:Mn)(base:Nat)(hs:List Hd)(L:List (Hd×Ct))(β:Nat->Nat)(w:qw)(h:MnO w base (qS M.ma M.mn M.mc) hs L β (qS M.ka M.kn M.kc) (qS M.fa M.fn M.fc) (qS M.ra M.rn M.rc) (qS M.oa M.on M.oc) (qS M.la M.ln M.lc) (qS M.ha M.hn M.hc) (bE (1+upS (fun j=>aY (hs.getD j zHd)) M.mn) M.kn) (cH (1+upS (fun j=>aY (hs.getD j zHd)) M.mn+M.kn) M.fn) (cH (1+upS (fun j=>aY (hs.getD j zHd)) M.mn+M.kn+M.fn) M.rn) (cH (1+upS (fun j=>aY (hs.getD j zHd)) M.mn+M.kn+M.fn+M.rn) M.on) (lJ (eA (1+upS (fun j=>aY (hs.getD j zHd)) M.mn+M.kn+M.fn+M.rn+M.on)) M.ln) (lJ (dD (1+upS (fun j=>aY (hs.getD j zHd)) M.mn+M.kn+M.fn+M.rn+M.on+4*M.ln)) M.hn))(hd:∀ i,i<M.mn->L[i]?=some (hs.getD i zHd,mkC (hs.getD i zHd) (1+upS (fun j=>aY (hs.getD j zHd)) i)))(hz:1+upS (fun j=>aY (hs.getD j zHd)) M.mn+M.kn+M.fn+M.rn+M.on+4*M.ln+4*M.hn<=4194305)(hb:∀ i,i<M.mn->(hs.getD i zHd).bn<=1048576)(hn:M.mn<=1048576):
 qC 13 #[.agg (qA M),qI 1] w fun e w'=>e=.returned (qI ((1+upS (fun j=>aY (hs.getD j zHd)) M.mn+M.kn+M.fn+M.rn+M.on+4*M.ln+4*M.hn:Nat):Int))/\qY w w':=by
 obtain ⟨V,hV,bV,kV⟩:=nwb w (qA M) 43;have HK:=zh (fun (X:qw) (hX:qY V X)=>(kV.bw hX).mc);have HZ:=zh (fun (X:qw) (hX:qY V X)=>(h.bw bV).bw hX);have HB:=zh bV;have HV:=zh hV;clear hV bV;generalize hu:upS (fun j=>aY (hs.getD j zHd)) M.mn=u at *;have C0:=zh (pT M.ma M.mn M.mc base 1 hs L β V (HZ.o V brf).m hd (by omega) (by rw [hu];omega) hb hn);rw [hu] at C0;clear hu kV h hd;have n0:¬ (((1+u:Nat):Int)<0):=by omega
 have n1:¬ (((1+u+M.kn:Nat):Int)<0):=by omega
 have n2:¬ (((1+u+M.kn+M.fn+M.rn+M.on:Nat):Int)<0):=by omega
 have n3:¬ (((1+u+M.kn+M.fn+M.rn+M.on+4*M.ln:Nat):Int)<0):=by omega
 have n4:¬ (((1+u+M.kn+M.fn+M.rn+M.on+4*M.ln+4*M.hn:Nat):Int)<0):=by omega
 obtain ⟨p0,p1,p2,p3,p4,p5,p6,p7,p8,p9,p10,p11,p12,p13,p14⟩:=HK.o V brf;go_enter func13,ntmps13
 go_wp2_with (rw [<- HV.o])
 refine C0.o.mono ?_;rintro e w1 ⟨rfl,b1⟩;have Z1:=HZ.o w1 b1;have C1:=zh (aEu M.pc M.ka M.kn M.kc (1+u) w1 Z1.k.is (by omega) (by omega));clear p0 p1 p2 p3 p4 p5 p6 p7 p8 p9 p10 p11 p12 p13 p14;obtain ⟨p0,p1,p2,p3,p4,p5,p6,p7,p8,p9,p10,p11,p12,p13,p14⟩:=HK.o w1 b1;have HB1:=zh b1;clear Z1 b1 C0;go_wp2_with fail
 refine C1.o.mono ?_;rintro e w2 ⟨rfl,b2⟩;have HB2:=zh (HB1.o.trans (b2.mono HB1.o.size));have Z2:=HZ.o w2 HB2.o;have C2:=zh (aH1 M.fa M.ra M.oa M.fn M.fc M.rn M.rc M.on M.oc (1+u+M.kn) w2 Z2.q.o1.bs Z2.q.o2.bs Z2.q.o3.bs (by omega));clear p0 p1 p2 p3 p4 p5 p6 p7 p8 p9 p10 p11 p12 p13 p14;obtain ⟨p0,p1,p2,p3,p4,p5,p6,p7,p8,p9,p10,p11,p12,p13,p14⟩:=HK.o w2 HB2.o;clear Z2 b2 C1 HB1;go_wp2_with fail
 refine C2.o.mono ?_;rintro e w3 ⟨rfl,b3⟩;have HB3:=zh (HB2.o.trans (b3.mono HB2.o.size));have Z3:=HZ.o w3 HB3.o;have C3:=zh (vQ M.la M.ln M.lc base (1+u+M.kn+M.fn+M.rn+M.on) w3 Z3.l (by omega) (by omega));have C4:=zh (tL M.ha M.hn M.hc base (1+u+M.kn+M.fn+M.rn+M.on+4*M.ln) w3 Z3.h (by omega) (by omega));clear p0 p1 p2 p3 p4 p5 p6 p7 p8 p9 p10 p11 p12 p13 p14;obtain ⟨p0,p1,p2,p3,p4,p5,p6,p7,p8,p9,p10,p11,p12,p13,p14⟩:=HK.o w3 HB3.o;clear Z3 b3 C2 HB2;go_wp2_with fail
 refine C3.o.mono ?_;rintro e w4 ⟨rfl,rfl⟩;go_wp2_with fail
 refine C4.o.mono ?_;rintro e w4 ⟨rfl,rfl⟩;go_wp2;go_ret;exact ⟨by go_num,HB.o.trans (HB3.o.mono HB.o.size)⟩
def VlP (w:qw)(M:Mn)(e:Ending)(w':qw):Prop:=qY w w'/\∃ y0 n0 d0 i1 y2 n2 d2 i3 i4 y5 n5 d5 b,e=.returned (.tuple #[.agg #[qS y0 n0 d0,qI i1,qS y2 n2 d2,qI i3,qI i4,qS y5 n5 d5],.bool b])/\(b=true ↔ MOk M)/\(b=true->∃ a0 c0 xs a2 c2 a5 c5 ts,#[qS y0 n0 d0,qI i1,qS y2 n2 d2,qI i3,qI i4,qS y5 n5 d5]=mF M.L a0 c0 xs a2 c2 a5 c5 ts/\LyT w' M.L a0 c0 xs a2 c2 a5 c5 ts)
theorem dP {w w':qw}{y0 y2 y5:qO}{n0 d0 n2 d2 n5 d5:Nat}{i1 i3 i4:Int}(hb:qY w w')(h:¬ MOk M):VlP w M (.returned (.tuple #[.agg #[qS y0 n0 d0,qI i1,qS y2 n2 d2,qI i3,qI i4,qS y5 n5 d5],.bool false])) w':=⟨hb,y0,n0,d0,i1,y2,n2,d2,i3,i4,y5,n5,d5,false,rfl,by simp [h],fun h=>by cases h⟩
theorem aId {w w':qw}{a0:qO}{c0:Nat}{xs:List PB}{a2:qO}{c2:Nat}{a5:qO}{c5:Nat}{ts:List TB}{L:Lay}(eL:L=M.L)(hb:qY w w')(h:MOk M)(hl:LyT w' L a0 c0 xs a2 c2 a5 c5 ts):VlP w M (.returned (.tuple #[.agg (qJ L a0 xs c0 a2 c2 a5 ts c5),.bool true])) w':=by
 subst eL;exact ⟨hb,_,_,_,_,_,_,_,_,_,_,_,_,true,rfl,by simp [h],fun _=>⟨a0,c0,xs,a2,c2,a5,c5,ts,rfl,hl⟩⟩
theorem aKo (hk:k<xs.length)(h:¬ frk ps (xs.getD k zFr)):¬ jM ps cd xs:=fun f=>h (f.2 k hk)
theorem aGb (hl:xs.length=n)(h0:(n:Int)<=cd)(hk:¬ k<n)(h:∀ i,i<k->frk ps (xs.getD i zFr)):jM ps cd xs:=⟨by rw [hl];exact h0,fun i hi=>h i (by omega)⟩
theorem aPk {w:qw}{a:qO}{cap:Nat}{ms:List Md}(h:MSD w a n cap ms){m b:Int}(hp:0<=pcq (aE ms) m b):∃ gm om D,a=some (qR gm om)/\ms.getD m.toNat aK=D/\(0<=m/\m<(n:Int))/\∀ X,qY w X->X.cell? (qR gm (om+m.toNat*8))=some (.string D.nm)/\X.cell? (qR gm (om+m.toNat*8+1))=some (qS D.ta D.tn D.tc)/\X.cell? (qR gm (om+m.toNat*8+2))=some (qS D.ba D.bn D.bc)/\X.cell? (qR gm (om+m.toNat*8+3))=some (qS D.da D.dn D.dc)/\X.cell? (qR gm (om+m.toNat*8+4))=some (qI D.bss)/\X.cell? (qR gm (om+m.toNat*8+5))=some (qS D.ra D.rn D.rc)/\X.cell? (qR gm (om+m.toNat*8+6))=some (qS D.ia D.im D.ic)/\X.cell? (qR gm (om+m.toNat*8+7))=some (qS D.ea D.en D.ec):=by
 obtain ⟨⟨h0,h1⟩,_⟩:=nT h hp;obtain ⟨gm,om,rfl,v0,v1,v2,v3,v4,v5,v6,v7⟩:=h.s.at m.toNat (by omega);exact ⟨gm,om,_,rfl,rfl,⟨h0,h1⟩,fun X hX=>⟨aB hX v0,aB hX v1,aB hX v2,aB hX v3,aB hX v4,aB hX v5,aB hX v6,aB hX v7⟩⟩
theorem tB (M:Mn)(w:qw)(h:MnD w M):
 qC 82 #[.agg (qA M)] w (Yn (jM (aE M.ms) M.cd M.hz) w):=by
 obtain ⟨V,hV,bV,kV⟩:=nwb w (qA M) 43;have hl:=h.h.1;have hmx:=h.h.2.1;have hmy:=h.m.s.2.1;unfold maxLen at hmx hmy;have HD:=zh (h.bw bV);have HV:=zh hV;have HK:=zh (xA bV kV);have HC:=zh (fun (X:qw) (hX:qY V X)=>show X.cell? (qR w.heap.size 0)=some (qS M.ma M.mn M.mc)/\X.cell? (qR w.heap.size 4)=some (qI M.cd)/\X.cell? (qR w.heap.size 13)=some (qS M.ha M.hn M.hc) from ⟨(kV.bw hX).cell 0,(kV.bw hX).cell 4,(kV.bw hX).cell 13⟩);clear hV kV bV h;by_cases c0:M.cd<(M.hn:Int)
 .have HN:Zh (¬ jM (aE M.ms) M.cd M.hz):=fun f=>by have:=f.1;omega
  obtain ⟨y0,y4,y13⟩:=HC.o V brf;go_enter func82,ntmps82
  go_wp2_with (rw [<- HV.o])
  go_ret;exact cT HN.o (HK.o.1)
 have c0':(M.hn:Int)<=M.cd:=by omega
 have HRE:=zh (Below.refl V.heap.size V);obtain ⟨y0,y4,y13⟩:=HC.o V brf;go_enter func82,ntmps82
 go_wp2_with (rw [<- HV.o])
 clear y0 y4 y13;go_loopw [3] (fun i wr=>∃ k:Nat,k<=M.hn/\i=qI k/\(∀ i,i<k->frk (aE M.ms) (M.hz.getD i zFr))/\qY V wr) (qf M.hn)
 .exact ⟨0,xC _,rfl,fun i hi=>absurd hi (by omega),HRE.o⟩
 .obtain ⟨k,hk,rfl,hF,hB⟩:=hrel;obtain ⟨y0,y4,y13⟩:=HC.o wr hB;have HB:=zh hB;by_cases hlt:k<M.hn
  .have hlt':(k:Int)<(M.hn:Int):=by omega
   obtain ⟨g,f,hg,q0,q1,q2,q3⟩:=(HD.o.h.bw hB).at k hlt _ _ _ _ rfl;have HNO:=zh (fun (q:¬ frk (aE M.ms) (M.hz.getD k zFr))=>aKo (cd:=M.cd) (show k<M.hz.length by omega) q)
   have HST:=zh (fun (q:frk (aE M.ms) (M.hz.getD k zFr)) (i:Nat) (hi:i<k+1)=>show frk (aE M.ms) (M.hz.getD i zFr) from by
    by_cases e:i=k
    .rw [e];exact q
    .exact hF i (by omega))
   generalize M.hz.getD k zFr=x at *;obtain ⟨x0,x1,x2,x3⟩:=x;dsimp only at q0 q1 q2 q3;obtain ⟨U,hU,bU,kU⟩:=nwb wr (qW x0 x1 x2 x3) 135;have BU:=hB.trans (bU.mono hB.size);have HTH:=zh (kH M.ma M.mn M.mc M.ms x0 x1 U (HD.o.m.s.bw BU));rw [eM HD.o.m x0 x1] at HTH;have HBU:=zh BU;have HU:=zh hU;have HKU:=zh kU;rw [hg] at y13;obtain ⟨j0,_,_⟩:=HC.o U BU;have j1:=kU.cell 0;have j2:=kU.cell 1;clear hB hF hU kU bU BU hg;by_cases c1:0<=pcq (aE M.ms) x0 x1
   .rw [xR c1] at HTH;obtain ⟨gm,om,D,ha,hD,⟨m0,m1⟩,hcell⟩:=aPk (HD.o.m.bw HBU.o) c1;have HP:=zh (fun (X:qw) (hX:qY U X)=>aHy (HD.o.m.bw HBU.o) c1 hD X hX);have HMC:=zh (fun (X:qw) (hX:qY U X)=>xA (hcell X hX) (xA (HC.o X (HBU.o.trans (hX.mono HBU.o.size))).1 (xA ((HKU.o.bw hX).cell 0) (xA ((HKU.o.bw hX).cell 1) (xA ((HKU.o.bw hX).cell 2) ((HKU.o.bw hX).cell 3))))));have HFK:=zh (show frk (aE M.ms) (x0,x1,x2,x3) ↔ (0<=x2/\x2<=pcq (aE M.ms) x0 x1)/\0<=x3/\x3<=4294967295 from by unfold frk tgk;simp [c1]);generalize pcq (aE M.ms) x0 x1=q at *;rw [ha] at y0 j0 HTH;have HA:=zh ha;clear hcell hD c1 ha;go_wp2_with (rw [<- HU.o])
    refine HTH.o.mono ?_;rintro e X1 ⟨rfl,hb1⟩;obtain ⟨⟨u0,u1,u2,u3,u4,u5,u6,u7⟩,z0,t0,t1,t2,t3⟩:=HMC.o X1 hb1;have HX1:=zh hb1;have HP2:=zh (fun (X:qw) (hX:qY X1 X)=>(HP.o X (HX1.o.trans (hX.mono HX1.o.size))).mono (fun e w' he=>show ∃ xa xn xc,e=.returned (.tuple #[qS xa xn xc,.bool true])/\(xn:Int)=q/\qY U w' from he));rw [HA.o] at z0;clear hb1 q0 q1 q2 q3 y0 y4 y13 j0 j1 j2 HTH HU HP;by_cases c3:x3<0
    .have HN:=zh (HNO.o (fun f=>by have:=HFK.o.1 f;omega));go_wp2;go_ret;exact cT HN.o (HK.o.1.trans ((HBU.o.trans (HX1.o.mono HBU.o.size)).mono HK.o.1.size))
    by_cases c4:4294967295<x3
    .have HN:=zh (HNO.o (fun f=>by have:=HFK.o.1 f;omega));go_wp2;go_ret;exact cT HN.o (HK.o.1.trans ((HBU.o.trans (HX1.o.mono HBU.o.size)).mono HK.o.1.size))
    go_wp2_with fail
    go_region_held3 (fun w'=>w'.cell? (qR w.heap.size 0)=some (qS (some (qR gm om)) M.mn M.mc)/\w'.cell? (qR wr.heap.size 0)=some (qI x0)/\w'.cell? (qR wr.heap.size 1)=some (qI x1)/\w'.cell? (qR gm (om+x0.toNat*8))=some (.string D.nm)/\w'.cell? (qR gm (om+x0.toNat*8+1))=some (qS D.ta D.tn D.tc)/\w'.cell? (qR gm (om+x0.toNat*8+2))=some (qS D.ba D.bn D.bc)/\w'.cell? (qR gm (om+x0.toNat*8+3))=some (qS D.da D.dn D.dc)/\w'.cell? (qR gm (om+x0.toNat*8+4))=some (qI D.bss)/\w'.cell? (qR gm (om+x0.toNat*8+5))=some (qS D.ra D.rn D.rc)/\w'.cell? (qR gm (om+x0.toNat*8+6))=some (qS D.ia D.im D.ic)/\w'.cell? (qR gm (om+x0.toNat*8+7))=some (qS D.ea D.en D.ec)) (go_keep)
     (first
       | (go_at_call 115;first
           | with_reducible refine (HP2.o _ brf).mono ?_
           | with_reducible refine (HP2.o _ brf.drew).mono ?_
          rintro e w1 ⟨xa,xn,xc,rfl,hxn,hb1⟩;have HXN:=zh hxn;have HB1:=zh hb1;obtain ⟨⟨s0,s1,s2,s3,s4,s5,s6,s7⟩,p0,r0,r1,r2,r3⟩:=HMC.o w1 hb1;rw [HA.o] at p0
          clear hb1 hxn))
    clear u0 u1 u2 u3 u4 u5 u6 u7 s0 s1 s2 s3 s4 s5 s6 s7 z0 t0 t1 t2 t3 HP2;have HE:=zh (HBU.o.trans (HB1.o.mono HBU.o.size));by_cases c5:x2<0
    .have HN:=zh (HNO.o (fun f=>by have:=HFK.o.1 f;omega));go_wp2;go_ret;exact cT HN.o (HK.o.1.trans (HE.o.mono HK.o.1.size))
    by_cases c6:(xn:Int)<x2
    .have HN:=zh (HNO.o (fun f=>by have h1:=HFK.o.1 f;have h2:=HXN.o;omega));go_wp2;go_ret;exact cT HN.o (HK.o.1.trans (HE.o.mono HK.o.1.size))
    have HY:=zh (HST.o (HFK.o.2 (by have h2:=HXN.o;omega)));go_wp2
    go_roundw
    .exact ⟨k+1,by omega,by go_num,HY.o,HE.o⟩
    .simp [qf,intOf];omega
   .rw [xS c1] at HTH;have HN:=zh (HNO.o (fun f=>c1 f.1.1));go_wp2_with (rw [<- HU.o])
    refine HTH.o.mono ?_;rintro e X1 ⟨rfl,hb1⟩;go_wp2;go_ret;exact cT HN.o (HK.o.1.trans ((HBU.o.trans (hb1.mono HBU.o.size)).mono HK.o.1.size))
  .have HY:=zh (aGb hl c0' hlt hF);clear hB hF;go_wp2;go_ret;exact pH HY.o (HK.o.1.trans (HB.o.mono HK.o.1.size))
theorem jN (x0 x1 x2 x3:Int)(w:qw):
 qC 93 #[.agg (qW x0 x1 x2 x3)] w (qB w (.agg (qT x0 x1 x2))):=by
 go_enter func93,ntmps93
 go_wp2;refine bodyPost_ret (v:=.agg (qT x0 x1 x2)) (by simp [results,results93,go_sem]) rfl ⟨rfl,?_⟩;exact bal.alloc (by simp) _
theorem zD (M:Mn)(w:qw)(h:MnD w M):
 qC 160 #[.agg (qA M)] w (Yn (jM (aE M.ms) M.cd M.hz) w):=by
 obtain ⟨V,hV,bV,kV⟩:=nwb w (qA M) 43;have hl:=h.h.1;have hmx:=h.h.2.1;unfold maxLen at hmx;have HDh:=zh (h.h.bw bV);have HDm:=zh (h.m.bw bV);have HV:=zh hV;have HK:=zh (xA bV kV);have HC:=zh (fun (X:qw) (hX:qY V X)=>show X.cell? (qR w.heap.size 0)=some (qS M.ma M.mn M.mc)/\X.cell? (qR w.heap.size 4)=some (qI M.cd)/\X.cell? (qR w.heap.size 13)=some (qS M.ha M.hn M.hc) from ⟨(kV.bw hX).cell 0,(kV.bw hX).cell 4,(kV.bw hX).cell 13⟩);clear hV kV bV h;generalize M.ha=hA at *;obtain ⟨y0,y4,y13⟩:=HC.o V brf;by_cases c0:M.cd<(M.hn:Int)
 .have HN:Zh (¬ jM (aE M.ms) M.cd M.hz):=fun f=>by have:=f.1;omega
  go_enter func160,ntmps160
  go_wp2_with (rw [<- HV.o])
  go_ret;exact cT HN.o (HK.o.1)
 have c0':(M.hn:Int)<=M.cd:=by omega
 have HRE:=zh (Below.refl V.heap.size V);go_enter func160,ntmps160
 go_wp2_with (rw [<- HV.o])
 clear y0 y4 y13;go_loopw [15] (fun i wr=>∃ k:Nat,k<=M.hn/\i=qI k/\(∀ i,i<k->frk (aE M.ms) (M.hz.getD i zFr))/\qY V wr) (qf M.hn)
 .exact ⟨0,xC _,rfl,fun i hi=>absurd hi (by omega),HRE.o⟩
 .obtain ⟨k,hk,rfl,hF,hB⟩:=hrel;have HB:=zh hB;by_cases hlt:k<M.hn
  .have hlt':(k:Int)<(M.hn:Int):=by omega
   obtain ⟨g,f,rfl,q0,q1,q2,q3⟩:=(HDh.o.bw hB).at k hlt _ _ _ _ rfl;have HNO:=zh (fun (q:¬ frk (aE M.ms) (M.hz.getD k zFr))=>aKo (cd:=M.cd) (show k<M.hz.length by omega) q)
   have HST:=zh (fun (q:frk (aE M.ms) (M.hz.getD k zFr)) (i:Nat) (hi:i<k+1)=>show frk (aE M.ms) (M.hz.getD i zFr) from by
    by_cases e:i=k
    .rw [e];exact q
    .exact hF i (by omega))
   generalize M.hz.getD k zFr=x at *;obtain ⟨x0,x1,x2,x3⟩:=x;dsimp only at q0 q1 q2 q3;obtain ⟨U,hU,bU,kU⟩:=nwb wr (qW x0 x1 x2 x3) 135;have BU:=hB.trans (bU.mono hB.size);have HBU:=zh BU;have HU:=zh hU;have HMC:=zh (fun (X:qw) (hX:qY U X)=>show X.cell? (qR w.heap.size 0)=some (qS M.ma M.mn M.mc)/\X.cell? (qR wr.heap.size 0)=some (qI x0)/\X.cell? (qR wr.heap.size 1)=some (qI x1)/\X.cell? (qR wr.heap.size 2)=some (qI x2)/\X.cell? (qR wr.heap.size 3)=some (qI x3) from ⟨(HC.o X (BU.trans (hX.mono BU.size))).1,(kU.bw hX).cell 0,(kU.bw hX).cell 1,(kU.bw hX).cell 2,(kU.bw hX).cell 3⟩);have HTG:=zh (fun (X:qw) (hX:qY U X)=>(jN x0 x1 x2 x3 X).mono (fun e w' he=>show e=.returned (.agg (qT x0 x1 x2))/\qY U w' from ⟨he.1,hX.trans (he.2.mono hX.size)⟩));have HTO:=zh (fun (X:qw) (hX:qY U X)=>(mN M.ma M.mn M.mc M.ms x0 x1 x2 X ((HDm.o.bw BU).bw hX)).mono (fun e w' he=>show e=.returned (.bool (decide (tgk (aE M.ms) x0 x1 x2)))/\qY U w' from ⟨he.1,hX.trans (he.2.mono hX.size)⟩));have HIW:=zh (cB x3);have HFK:Zh (frk (aE M.ms) (x0,x1,x2,x3) ↔ tgk (aE M.ms) x0 x1 x2/\0<=x3/\x3<=4294967295):=Iff.rfl;clear hB hF hU kU bU BU;by_cases c1:tgk (aE M.ms) x0 x1 x2
   .rw [xR c1] at HTO;by_cases c2:0<=x3/\x3<=4294967295
    .rw [xR c2] at HIW;have HY:=zh (HST.o (HFK.o.2 ⟨c1,c2⟩));clear c1 c2;obtain ⟨p0,t0,t1,t2,t3⟩:=HMC.o U brf;go_wp2_with (rw [<- HU.o])
     first|(go_region_held3 (fun w'=>w'.cell? (qR w.heap.size 0)=some (qS M.ma M.mn M.mc)/\w'.cell? (qR wr.heap.size 0)=some (qI x0)/\w'.cell? (qR wr.heap.size 1)=some (qI x1)/\w'.cell? (qR wr.heap.size 2)=some (qI x2)/\w'.cell? (qR wr.heap.size 3)=some (qI x3)) (go_keep)
      (first
        | (go_at_call 93;first
            | with_reducible refine (HTG.o _ brf).mono ?_
            | with_reducible refine (HTG.o _ brf.drew).mono ?_
           rintro e w1 ⟨rfl,hb1⟩;have HB1:=zh hb1;obtain ⟨r0,s0,s1,s2,s3⟩:=HMC.o w1 hb1
           clear hb1)
        | (go_at_call 126;first
            | with_reducible refine (HTO.o _ HB1.o).mono ?_
            | with_reducible refine (HTO.o _ HB1.o.drew).mono ?_
           rintro e w2 ⟨rfl,hb2⟩;have HB2:=zh hb2;obtain ⟨n0,m0,m1,m2,m3⟩:=HMC.o w2 hb2
           clear hb2)
        | (go_at_call 190;refine (HIW.o _).mono ?_;rintro e w3 ⟨rfl,rfl⟩)))|fail
     have HE:=zh (HBU.o.trans (HB2.o.mono HBU.o.size));clear p0 t0 t1 t2 t3 r0 s0 s1 s2 s3 n0 m0 m1 m2 m3 HTG HTO HMC HB1 HB2;go_wp2
     go_roundw
     .exact ⟨k+1,by omega,by go_num,HY.o,HE.o⟩
     .simp [qf,intOf];omega
    .rw [xS c2] at HIW;have HN:=zh (HNO.o (fun f=>c2 (HFK.o.1 f).2));clear c1 c2;obtain ⟨p0,t0,t1,t2,t3⟩:=HMC.o U brf;go_wp2_with (rw [<- HU.o])
     first|(go_region_held3 (fun w'=>w'.cell? (qR w.heap.size 0)=some (qS M.ma M.mn M.mc)/\w'.cell? (qR wr.heap.size 0)=some (qI x0)/\w'.cell? (qR wr.heap.size 1)=some (qI x1)/\w'.cell? (qR wr.heap.size 2)=some (qI x2)/\w'.cell? (qR wr.heap.size 3)=some (qI x3)) (go_keep)
      (first
        | (go_at_call 93;first
            | with_reducible refine (HTG.o _ brf).mono ?_
            | with_reducible refine (HTG.o _ brf.drew).mono ?_
           rintro e w1 ⟨rfl,hb1⟩;have HB1:=zh hb1;obtain ⟨r0,s0,s1,s2,s3⟩:=HMC.o w1 hb1
           clear hb1)
        | (go_at_call 126;first
            | with_reducible refine (HTO.o _ HB1.o).mono ?_
            | with_reducible refine (HTO.o _ HB1.o.drew).mono ?_
           rintro e w2 ⟨rfl,hb2⟩;have HB2:=zh hb2;obtain ⟨n0,m0,m1,m2,m3⟩:=HMC.o w2 hb2
           clear hb2)
        | (go_at_call 190;refine (HIW.o _).mono ?_;rintro e w3 ⟨rfl,rfl⟩)))|fail
     have HE:=zh (HBU.o.trans (HB2.o.mono HBU.o.size));clear p0 t0 t1 t2 t3 r0 s0 s1 s2 s3 n0 m0 m1 m2 m3 HTG HTO HMC HB1 HB2;go_wp2;go_ret;exact cT HN.o (HK.o.1.trans (HE.o.mono HK.o.1.size))
   .rw [xS c1] at HTO
    .have HN:=zh (HNO.o (fun f=>c1 (HFK.o.1 f).1));clear c1;go_wp2_with (rw [<- HU.o])
     refine wp_region_held_drew (S:=(fun w'=>w'.cell? (qR w.heap.size 0)=some (qS M.ma M.mn M.mc)/\w'.cell? (qR wr.heap.size 0)=some (qI x0)/\w'.cell? (qR wr.heap.size 1)=some (qI x1)/\w'.cell? (qR wr.heap.size 2)=some (qI x2)/\w'.cell? (qR wr.heap.size 3)=some (qI x3))) (by kernel_rfl) ?_ (fun hHeld=>?_)
     .exact HMC.o _ brf.drew
     refine tkV 0 ?_ rfl ?_ ?_;rotate_left
     ·(intro w hSw;(try dsimp only at hSw);go_simp;try with_reducible rfl)
     try simp only [yD,yE,yF,Act.put,yA,yB,yC]
     refine tkV 1 ?_ rfl ?_ ?_;rotate_left
     ·(intro w hSw;(try dsimp only at hSw);go_simp;try with_reducible rfl)
     try simp only [yD,yE,yF,Act.put,yA,yB,yC]
     refine tkV 2 ?_ rfl ?_ ?_;rotate_left
     ·(intro w hSw;(try dsimp only at hSw);go_simp;try with_reducible rfl)
     try simp only [yD,yE,yF,Act.put,yA,yB,yC]
     refine wpAnyH_ready (rs:=[3]) (by kernel_rfl) (by simp) (AllReadyH.cons rfl (fun K hK=>?_) AllReadyH.nil);go_simp;refine (HTG.o _ brf.drew).mono ?_;rintro e w1 ⟨rfl,hb1⟩;have HB1:=zh hb1;clear hb1;try go_wp2_with fail
     refine hK.out _ _ ?_ (fun hHeld=>?_)
     .exact HMC.o _ HB1.o
     clear hK K;try simp only [yD,yE,yF,Act.put,yA,yB,yC]
     refine wpAnyH_ready (rs:=[4]) (by kernel_rfl) (by simp) (AllReadyH.cons rfl (fun K hK=>?_) AllReadyH.nil);go_simp;refine (HTO.o _ HB1.o).mono ?_;rintro e w2 ⟨rfl,hb2⟩;have HB2:=zh hb2;clear hb2;try go_wp2_with fail
     refine hK.out _ _ ?_ (fun hHeld=>?_)
     .exact HMC.o _ HB2.o
     clear hK K;try simp only [yD,yE,yF,Act.put,yA,yB,yC]
     refine tkV 5 ?_ rfl ?_ ?_;rotate_left
     ·(intro w hSw;(try dsimp only at hSw);go_simp;try with_reducible rfl)
     try simp only [yD,yE,yF,Act.put,yA,yB,yC]
     refine tkV 6 ?_ rfl ?_ ?_;rotate_left
     ·(intro w hSw;(try dsimp only at hSw);go_simp;try with_reducible rfl)
     try simp only [yD,yE,yF,Act.put,yA,yB,yC]
     refine tkS 7 rfl ?_;try simp only [yD,yE,yF,Act.put,yA,yB,yC]
     refine tkS 8 rfl ?_;try simp only [yD,yE,yF,Act.put,yA,yB,yC]
     refine tkS 9 rfl ?_;try simp only [yD,yE,yF,Act.put,yA,yB,yC]
     refine tkS 10 rfl ?_;try simp only [yD,yE,yF,Act.put,yA,yB,yC]
     refine tkV 11 ?_ rfl ?_ ?_;rotate_left
     ·(intro w hSw;(try dsimp only at hSw);go_simp;try with_reducible rfl)
     try simp only [yD,yE,yF,Act.put,yA,yB,yC]
     refine wpAnyH_done (by kernel_rfl) ?_ _;have HE:=zh (HBU.o.trans (HB2.o.mono HBU.o.size));clear HTG HTO HMC HB1 HB2;go_wp2;go_ret;exact cT HN.o (HK.o.1.trans (HE.o.mono HK.o.1.size))
  .have HY:=zh (aGb hl c0' hlt hF);clear hB hF;go_wp2;go_ret;exact pH HY.o (HK.o.1.trans (HB.o.mono HK.o.1.size))
theorem fX (P:Prop):∃ b:Bool,b=true ↔ P:=by
 by_cases c:P
 .exact ⟨true,fun _=>c,fun _=>rfl⟩
 .exact ⟨false,fun h=>Bool.noConfusion h,fun h=>absurd h c⟩
