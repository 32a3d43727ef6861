import Derived.Test.YtncccmeomcaabaaGreatP17
import Derived.Test.YtncccmeomcaabaaGreatP18
set_option linter.all false
set_option maxHeartbeats 16000000
namespace Go.Proofs.YtncccmeomcaabaaGreat
open Go.RowKit Classical
set_option maxRecDepth 100000
variable {G g i j k m n:Nat}{S:Nat->Prop}{a:Act}{d:Option Tmp}{p:String}{rs:List Rg}{v v0 v1 v2 v3 v4 v5:Value}
theorem aQt {S F:Nat->Nat->Nat->World->Prop}{G:Prop}(main:(∀ a b c W,F a b c W->S a b c W)->G)(pf:∀ a b c W,F a b c W->S a b c W):G:=main pf
structure Mk3 (N:Nat)(w1 W:qw)(ZF ZR:Array Value)(F R gf gr gm:Nat):Prop where
 be:Below N w1 W
 f:Blk W gf ZF 5
 r:Blk W gr ZR 5
 m:Blk W gm (qV (qP gf) F F (qP gr) R R none 0 0) 39
 lo:N<=gf/\N<=gr/\N<=gm
 ne:gf≠gr
structure ImT (w:qw)(V:Array Value)(F R gf gr gm:Nat)(fz rz:qi)(W:qw):Prop where
 be:qY w W
 kl:Blk W w.heap.size V 71
 kr:Blk W (w.heap.size+1) (qV none 0 0 none 0 0 none 0 0) 39
 km:Blk W gm (qV (qP gf) F F (qP gr) R R none 0 0) 39
 f:OB W w.heap.size (qS (qP gf) F F) fz
 r:OB W w.heap.size (qS (qP gr) R R) rz
 lo:w.heap.size+1<gf/\w.heap.size+1<gr/\w.heap.size+1<gm
 ne:gf≠gr
structure It5 (w:qw)(V:Array Value)(F R gf gr gm gp:Nat)(PV:Array Value)(fz rz:qi)(W:qw):Prop where
 s:ImT w V F R gf gr gm fz rz W
 p:Blk W gp PV 171
section
variable {w:qw}{V:Array Value}{F R gf gr gm gp:Nat}{PV:Array Value}{fz rz:qi}{W W':qw}
theorem ImT.bw (h:ImT w V F R gf gr gm fz rz W)(hb:qY W W'):ImT w V F R gf gr gm fz rz W':=⟨h.be.trans (hb.mono h.be.size),h.kl.bw hb,h.kr.bw hb,h.km.bw hb,h.f.bw hb,h.r.bw hb,h.lo,h.ne⟩
theorem ImT.mf (h:ImT w V F R gf gr gm fz rz W):gm≠gf/\gm≠gr:=by
 obtain ⟨c1,k1⟩:=gZ h.f;obtain ⟨c2,k2⟩:=gZ h.r;exact ⟨fun e=>by subst e;exact absurd (aI h.km k1) (by decide),fun e=>by subst e;exact absurd (aI h.km k2) (by decide)⟩
theorem ImT.setf (h:ImT w V F R gf gr gm fz rz W){fz':qi}(O:OB W' w.heap.size (qS (qP gf) F F) fz')(T:Turn (fun j=>j=gf) W W'):ImT w V F R gf gr gm fz' rz W':=
 have lo:=h.lo;have ne:=h.ne
 ⟨aG h.be T (fun k e=>by omega) h.be.size,aF T h.kl (by omega),aF T h.kr (by omega),aF T h.km h.mf.1,O,aV T h.r (fun k hk e=>by simp [Value.ownBlock] at hk;omega),lo,ne⟩
theorem ImT.setr (h:ImT w V F R gf gr gm fz rz W){rz':qi}(O:OB W' w.heap.size (qS (qP gr) R R) rz')(T:Turn (fun j=>j=gr) W W'):ImT w V F R gf gr gm fz rz' W':=
 have lo:=h.lo;have ne:=h.ne
 ⟨aG h.be T (fun k e=>by omega) h.be.size,aF T h.kl (by omega),aF T h.kr (by omega),aF T h.km h.mf.2,aV T h.f (fun k hk e=>by simp [Value.ownBlock] at hk;omega),O,lo,ne⟩
theorem It5.bw (h:It5 w V F R gf gr gm gp PV fz rz W)(hb:qY W W'):It5 w V F R gf gr gm gp PV fz rz W':=⟨h.s.bw hb,h.p.bw hb⟩
theorem It5.drew (h:It5 w V F R gf gr gm gp PV fz rz W):It5 w V F R gf gr gm gp PV fz rz W.drew:=h.bw brf.drew
theorem It5.pf (h:It5 w V F R gf gr gm gp PV fz rz W):gp≠gf/\gp≠gr:=by
 obtain ⟨c1,k1⟩:=gZ h.s.f;obtain ⟨c2,k2⟩:=gZ h.s.r;exact ⟨fun e=>by subst e;exact absurd (aI h.p k1) (by decide),fun e=>by subst e;exact absurd (aI h.p k2) (by decide)⟩
theorem It5.setf (h:It5 w V F R gf gr gm gp PV fz rz W){fz':qi}(O:OB W' w.heap.size (qS (qP gf) F F) fz')(T:Turn (fun j=>j=gf) W W'):It5 w V F R gf gr gm gp PV fz' rz W':=⟨h.s.setf O T,aF T h.p h.pf.1⟩
theorem It5.setr (h:It5 w V F R gf gr gm gp PV fz rz W){rz':qi}(O:OB W' w.heap.size (qS (qP gr) R R) rz')(T:Turn (fun j=>j=gr) W W'):It5 w V F R gf gr gm gp PV fz rz' W':=⟨h.s.setr O T,aF T h.p h.pf.2⟩
end
theorem aE6 (a:qO)(n cap:Nat)(ms:List Md)(L:Lay)(a0:qO)(c0:Nat)(xs:List PB)(a2:qO)(c2:Nat)(a5:qO)(c5:Nat)(ts:List TB)(w:qw)(h:MSD w a n cap ms)(hL:LyT w L a0 c0 xs a2 c2 a5 c5 ts):
 qC 191 #[qS a n cap,.agg (qJ L a0 xs c0 a2 c2 a5 ts c5)] w (ImM w (aD ms) L):=by
 have B0:qY w ((w.alloc (.cells (qJ L a0 xs c0 a2 c2 a5 ts c5) 71)).alloc (.cells (qV none 0 0 none 0 0 none 0 0) 39)):=bal.alloc (by simp) _;have kl:=(Blk.new w (qJ L a0 xs c0 a2 c2 a5 ts c5) 71).alloc (.cells (qV none 0 0 none 0 0 none 0 0) 39);have kr:=Blk.new (w.alloc (.cells (qJ L a0 xs c0 a2 c2 a5 ts c5) 71)) (qV none 0 0 none 0 0 none 0 0) 39;try unfold qY at *
 simp only [xF] at kr;have HRL:=zh (fun (W:qw) (hb:qY w W)=>aAy a n cap ms L a0 c0 xs a2 c2 a5 c5 ts W (h.bw hb) (hL.bw hb));have HM:=zh h;have HL:=zh hL;clear h hL;go_enter Tryz.func191,Tryz.ntmps191
 go_wp2_with fail
 refine (HRL.o _ B0).mono ?_;rintro e w1 ⟨rfl,hb1⟩;have B1:=B0.trans (hb1.mono B0.size);have kl1:=kl.bw hb1;have kr1:=kr.bw hb1;clear B0 kl kr hb1;by_cases hok:Lok (aD ms) L
 .rw [xR hok];have K:=kI hok;obtain ⟨F,hF⟩:∃ F:Nat,L.flash=(F:Int):=⟨L.flash.toNat,by have:=K.fr;omega⟩;obtain ⟨R,hR⟩:∃ R:Nat,L.ram=(R:Int):=⟨L.ram.toNat,by have:=K.rr;omega⟩;have hF1:F<=16384:=by have:=K.fr;omega
  have hR1:R<=16384:=by have:=K.rr;omega
  have hmF:=yG F hF1;have hmR:=yG R hR1;have x3:w1.cell? (qR w.heap.size 3)=some (qI (F:Int)):=by rw [<- hF];exact kl1.cell 3
  have x4:w1.cell? (qR w.heap.size 4)=some (qI (R:Int)):=by rw [<- hR];exact kl1.cell 4
  have hw1:w.heap.size<w1.heap.size:=kl1.lt;generalize hZF:zby F=ZF at *;generalize hZR:zby R=ZR at *;have HZ:=zh (xA hZF hZR);clear hZF hZR;have HK1:=zh (xA B1 (xA kl1 kr1));have HFR:=zh (xA hF hR);have HKN:=zh K;have HOK:=zh hok;clear HRL;clear B1 kl1 kr1 hF hR K hok;go_wp2_with fail
  obtain ⟨N,hN⟩:=eqx (w1.heap.size);have hNw:N<=w1.heap.size:=by omega
  rename_i K hK;apply aQt (F:=fun gf gr gm W=>Mk3 N w1 W ZF ZR F R gf gr gm) (S:=fun gf gr gm W=>Exit.then K (bodyPost Tryz.prog Tryz.f191 (ImM w (aD ms) L)) .normal ⟨#[qS a n cap,.agg (qJ L a0 xs c0 a2 c2 a5 ts c5),undef,.pointer (qP w.heap.size),.pointer (some (qR (w.heap.size+1) 0)),.bool false,.pointer (qP gm),undef,undef,qS a n cap,.agg (qJ L a0 xs c0 a2 c2 a5 ts c5),.bool true,.bool false,undef,.pointer (some (qR w.heap.size 3)),qI (F:Int),qS (qP gf) F F,.pointer (some (qR w.heap.size 4)),qI (R:Int),qS (qP gr) R R,.agg (qV (qP gf) F F (qP gr) R R none 0 0),undef,undef,undef,undef,undef,undef,undef,undef,undef,undef,undef,undef,undef,undef,undef,undef,undef,undef,undef,undef,undef,undef,undef,undef,undef,undef,undef,undef,undef,undef,undef],[]⟩ W)
  .intro REST0;have REST:=zh REST0;clear REST0
   go_region_held3 (fun w'=>w'.cell? (qR w.heap.size 3)=some (qI (F:Int))/\w'.cell? (qR w.heap.size 4)=some (qI (R:Int))) ((refine xA ?_ ?_)<;>(repeat (first|exact x3|exact x4|apply uQ|apply pM|(apply yV (by omega))))) (fail)
   all_goals
    refine REST.o _ _ _ _ ?_;exact ⟨(by repeat (first|with_reducible exact brf|with_reducible apply aDp|with_reducible apply yW hNw|with_reducible apply aG0 (by omega))),(by repeat (first|with_reducible apply gK|with_reducible exact gJ (by simp only [xF,gG])|with_reducible apply dC|with_reducible apply dK (by omega)|with_reducible apply Blk.alloc)),(by repeat (first|with_reducible apply gK|with_reducible exact gJ (by simp only [xF,gG])|with_reducible apply dC|with_reducible apply dK (by omega)|with_reducible apply Blk.alloc)),(by repeat (first|with_reducible apply gK|with_reducible exact gJ (by simp only [xF,gG])|with_reducible apply dC|with_reducible apply dK (by omega)|with_reducible apply Blk.alloc)),(by omega),(by omega)⟩
  .rintro gf gr gm W hF;show Exit.then _ _ _ _ _
   subst hN;have hpl:(aD ms).length=n:=by rw [bR];exact HM.o.s.1
   have hn4:n<=4:=by have:=HKN.o.n;omega
   have HXL:=zh (show xs.length=n from by
    have h1:=congrArg List.length HL.o.ps;rw [HKN.o.pl] at h1;simp at h1
    omega)
   have hx4:xs.length<=4:=by have:=HXL.o;omega
   have S0:ImT w (qJ L a0 xs c0 a2 c2 a5 ts c5) F R gf gr gm (flB (aD ms) L 0) (raB (aD ms) L 0) W:=by
    obtain ⟨B1,kl1,kr1⟩:=HK1.o;have h1:=kr1.lt;have h2:=hF.lo;have e1:flB (aD ms) L 0=List.replicate F 0:=by show List.replicate L.flash.toNat 0=_;rw [HFR.o.1];rfl
    have e2:raB (aD ms) L 0=List.replicate R 0:=by show List.replicate L.ram.toNat 0=_;rw [HFR.o.2];rfl
    rw [e1,e2];refine ⟨B1.trans (hF.be.mono B1.size),kl1.bw hF.be,kr1.bw hF.be,hF.m,nS (by rw [HZ.o.1];exact hF.f) (by omega) hF1,nS (by rw [HZ.o.2];exact hF.r) (by omega) hR1,by omega,hF.ne⟩
   have HS0:=zh S0;have c0':=S0.kl.cell 0;simp only [List.getElem?_toArray,List.getElem?_cons_zero] at c0';clear S0 hF HK1 x3 x4 hw1 hmF hmR HZ hNw;go_wp2;clear c0';go_loopw [24] (fun i wr=>∃ m:Nat,m<=n/\i=qI m/\ImT w (qJ L a0 xs c0 a2 c2 a5 ts c5) F R gf gr gm (flB (aD ms) L m) (raB (aD ms) L m) wr) (qf n)
   .exact ⟨0,xC _,rfl,HS0.o⟩
   .clear HS0;obtain ⟨m,hm,rfl,S⟩:=hrel;generalize wr=wo at *;by_cases hlt:m<n
    .have hlt':(m:Int)<(n:Int):=by omega
     have hml':(m:Int)<(xs.length:Int):=by have:=HXL.o;omega
     obtain ⟨b,off,rfl,y0,y1,y2,y3,y4,y5,y6,y7⟩:=HM.o.s.at m hlt;obtain ⟨pb,po,rfl,z0,z1,z2,z3⟩:=HL.o.p.at m (by have:=HXL.o;omega);have HPB:=zh (HL.o.p.2.2.2.1 m (by have:=HXL.o;omega));have HMD:=zh (HM.o.d m hlt);have HPM:Zh ((aD ms).getD m zP=(ms.getD m aK).pm):=cH (by have:=HM.o.s.1;omega)
     have HPP:=zh (show (xs.getD m zPB).1=plc (aD ms) m from by
      rw [<- HKN.o.place m (by omega),<- HL.o.ps,bD _ _ _ zPB _ (by have:=HXL.o;omega)])
     have HAT:=zh (HKN.o.at m (by omega));have HFL:Zh (flB (aD ms) L (m+1)=cN (flB (aD ms) L m) ((aD ms).getD m zP) (L.places.getD m zPB.1) ((aD ms).getD m zP).bl.length):=rfl;have HRA:Zh (raB (aD ms) L (m+1)=iH (ovr (raB (aD ms) L m) ((L.places.getD m zPB.1).data-65536).toNat ((aD ms).getD m zP).dz) ((L.places.getD m zPB.1).data-65536).toNat ((aD ms).getD m zP).rz (L.places.getD m zPB.1).data ((aD ms).getD m zP).rz.length):=rfl;have HVL:=zh (HKN.o.v m (by omega));rw [HKN.o.place m (by omega),<- HPP.o,HPM.o] at HFL HRA;rw [<- HPP.o,HPM.o,HFR.o.1,HFR.o.2] at HAT;rw [HPM.o] at HVL;clear HPM HPP;generalize hFZ:flB (aD ms) L (m+1)=FZ at HFL;generalize hRZ:raB (aD ms) L (m+1)=RZ at HRA;have HFZ:=zh (xA hFZ hRZ);clear hFZ hRZ;generalize flB (aD ms) L m=fz at *;generalize raB (aD ms) L m=rz at *;unfold svP at z1;generalize xs.getD m zPB=x at *;obtain ⟨⟨xt,xb,xd,xz⟩,xa,xc⟩:=x;generalize ms.getD m aK=M at *;obtain ⟨P,hP⟩:=eqx (M.pm);rw [<- hP] at HFL HRA HAT HVL;have HPE:=zh (show P.tz=M.tz/\P.bl=M.bl.map (fun B=>B.2.2.2)/\P.dz=M.dz/\P.rz=M.rz by rw [hP];exact ⟨rfl,rfl,rfl,rfl⟩);clear hP;obtain ⟨nm,ta,tn,tc,tz,ba,bn,bc,bl,da,dn,dc,dz,bss,ra,rn,rc,rrz,ia,im,ic,ss,ea,en,ec,es⟩:=M;dsimp only at z0 z1 z2 z3 HPB HFL HRA HAT HMD HPE y0 y1 y2 y3 y4 y5 y6 y7;obtain ⟨kt,hkt⟩:∃ kt:Nat,xt=(kt:Int):=⟨xt.toNat,by have:=HAT.o.1.1;omega⟩;obtain ⟨f,hf⟩:∃ f:Nat,xd=65536+(f:Int):=⟨(xd-65536).toNat,by have:=HAT.o.2.2.2.1;omega⟩;subst hkt hf;have HIT:Zh (IS w ta tn tc tz/\BKS w ba bn bc bl/\BS w da dn dc dz/\IS w ra rn rc rrz):=zh ⟨HMD.o.t,HMD.o.b,HMD.o.d,HMD.o.r⟩;have hbl:bl.length=bn:=HIT.o.2.1.1;have htl:tz.length=tn:=HIT.o.1.1;have hdl:dz.length=dn:=HIT.o.2.2.1.1;have hrl:rrz.length=rn:=HIT.o.2.2.2.1;have hPl:P.bl.length=bn:=by rw [HPE.o.2.1,xH];exact hbl
     have hbn4:bn<=4:=by have h1:=(cA HVL.o).2.2.2.1;omega
     have hrn:rn<=16:=by
      have V:=lA (by simp [lN]) (show mdo P.nm P.tz.length P.tz P.bl.length (lN P.bl) P.dz.length P.bss P.rz.length P.rz P.ss.length P.ss P.es.length P.es=0 from HVL.o);have h1:=V.r;rw [HPE.o.2.2.2] at h1;omega
     have hfd:f+dn<=R:=by
      have h1:=HAT.o.2.2.2.2;rw [HPE.o.2.2.1] at h1;omega
     have HRLB:=zh (show ∀ q,q<rn->0<=rrz.getD q 0/\rrz.getD q 0+4<=(dn:Int) from fun q hq=>by
      have h1:=aIx HVL.o q (by rw [HPE.o.2.2.2];omega);rw [HPE.o.2.2.2,HPE.o.2.2.1] at h1
      omega)
     have HPC:=zh (fun (X:qw) (I:It5 w (qL L (some (qR pb po)) xs.length c0 a2 L.slots.length c2 a5 ts.length c5) F R gf gr gm wo.heap.size #[qI (kt:Int),qS xa xb.length xc,qI (65536+(f:Int)),qI xz] fz rz X)=>show qC 217 #[qS (qP gf) F F,.agg (qM nm ta tn tc ba bn bc da dn dc bss ra rn rc ia im ic ea en ec),.agg #[qI (kt:Int),qS xa xb.length xc,qI (65536+(f:Int)),qI xz]] X fun e w'=>e=.returned (.tuple #[])/\It5 w (qL L (some (qR pb po)) xs.length c0 a2 L.slots.length c2 a5 ts.length c5) F R gf gr gm wo.heap.size #[qI (kt:Int),qS xa xb.length xc,qI (65536+(f:Int)),qI xz] FZ rz w' from
      (aCg gf F nm ta tn tc tz ba bn bc bl da dn dc bss ra rn rc ia im ic ea en ec P kt xa xb xc (65536+(f:Int)) xz fz w.heap.size X w HIT.o.1 HIT.o.2.1 HPE.o.1 HPE.o.2.1 HPB.o I.s.be (by have:=I.s.lo;omega) I.s.f hF1 hbn4 (by have h1:=HAT.o.1.2;rw [HPE.o.1] at h1;omega) (by have h1:=HAT.o.2.1;omega) (fun j hj=>by
        have h1:=HAT.o.2.2.1 j (by omega);rw [HPE.o.2.1,fD _ _ _ zB _] at h1;rw [(HIT.o.2.1.2.2.2.1 j hj).1] at h1
        exact h1)).mono (fun e w' he=>⟨he.1,by rw [HFL.o];exact I.setf he.2.1 he.2.2⟩))
     have HPD:=zh (fun (bp:qO) (bl':Nat) (hbp:(f<R/\bp=some (qR gr f)/\bl'=R-f)\/(f=R/\bp=some (qR gr 0)/\bl'=0)) (X:qw) (I:It5 w (qL L (some (qR pb po)) xs.length c0 a2 L.slots.length c2 a5 ts.length c5) F R gf gr gm wo.heap.size #[qI (kt:Int),qS xa xb.length xc,qI (65536+(f:Int)),qI xz] FZ rz X)=>show qC 218 #[qS bp bl' bl',.agg (qM nm ta tn tc ba bn bc da dn dc bss ra rn rc ia im ic ea en ec),qI (65536+(f:Int))] X fun e w'=>e=.returned (.tuple #[])/\It5 w (qL L (some (qR pb po)) xs.length c0 a2 L.slots.length c2 a5 ts.length c5) F R gf gr gm wo.heap.size #[qI (kt:Int),qS xa xb.length xc,qI (65536+(f:Int)),qI xz] FZ RZ w' from
      (aCf gr R f bp bl' nm ta tn tc ba bn bc da dn dc dz bss ra rn rc rrz ia im ic ea en ec rz w.heap.size X w HIT.o.2.2.1 HIT.o.2.2.2 I.s.be (by have:=I.s.lo;omega) I.s.r hR1 hrn hfd HRLB.o hbp).mono (fun e w' he=>⟨he.1,by
        rw [HRA.o,HPE.o.2.2.1,HPE.o.2.2.2,hrl,show ((65536:Int)+(f:Int)-65536).toNat=f by omega]
        exact I.setr he.2.1 he.2.2⟩))
     have I1:It5 w (qL L (some (qR pb po)) xs.length c0 a2 L.slots.length c2 a5 ts.length c5) F R gf gr gm wo.heap.size #[qI (kt:Int),qS xa xb.length xc,qI (65536+(f:Int)),qI xz] fz rz (wo.alloc (.cells #[qI (kt:Int),qS xa xb.length xc,qI (65536+(f:Int)),qI xz] 171)):=⟨S.bw (show qY wo (wo.alloc (.cells #[qI (kt:Int),qS xa xb.length xc,qI (65536+(f:Int)),qI xz] 171)) from bal),Blk.new _ _ _⟩;have HI1:=zh I1;have zz0:=aB S.be z0;have zz1:=aB S.be z1;have zz2:=aB S.be z2;have zz3:=aB S.be z3
     have HCL:=zh (fun (fz rz:qi) (X:qw) (I:It5 w (qL L (some (qR pb po)) xs.length c0 a2 L.slots.length c2 a5 ts.length c5) F R gf gr gm wo.heap.size #[qI (kt:Int),qS xa xb.length xc,qI (65536+(f:Int)),qI xz] fz rz X)=>show (X.cell? (qR b (off+m*8))=some (.string nm)/\X.cell? (qR b (off+m*8+1))=some (qS ta tn tc)/\X.cell? (qR b (off+m*8+2))=some (qS ba bn bc)/\X.cell? (qR b (off+m*8+3))=some (qS da dn dc)/\X.cell? (qR b (off+m*8+4))=some (qI bss)/\X.cell? (qR b (off+m*8+5))=some (qS ra rn rc)/\X.cell? (qR b (off+m*8+6))=some (qS ia im ic)/\X.cell? (qR b (off+m*8+7))=some (qS ea en ec))/\(X.cell? (qR wo.heap.size 0)=some (qI (kt:Int))/\X.cell? (qR wo.heap.size 1)=some (qS xa xb.length xc)/\X.cell? (qR wo.heap.size 2)=some (qI (65536+(f:Int)))/\X.cell? (qR wo.heap.size 3)=some (qI xz))/\X.cell? (qR gm 0)=some (qS (qP gf) F F)/\X.cell? (qR gm 1)=some (qS (qP gr) R R) from
      ⟨⟨aB I.s.be y0,aB I.s.be y1,aB I.s.be y2,aB I.s.be y3,aB I.s.be y4,aB I.s.be y5,aB I.s.be y6,aB I.s.be y7⟩,⟨I.p.cell 0,I.p.cell 1,I.p.cell 2,I.p.cell 3⟩,I.s.km.cell 0,I.s.km.cell 1⟩)
     clear S I1 HAT HVL HPE HMD hbl htl hdl hrl hPl;go_wp2_with fail
     generalize hW1:wo.alloc (.cells #[qI (kt:Int),qS xa xb.length xc,qI (65536+(f:Int)),qI xz] 171)=W1 at *;clear hW1 zz0 zz1 zz2 zz3;obtain ⟨⟨v0,v1,v2,v3,v4,v5,v6,v7⟩,⟨p0,p1,p2,p3⟩,q0,q1⟩:=HCL.o _ _ _ HI1.o
     go_region_held3 (fun w'=>w'.cell? (qR gm 0)=some (qS (qP gf) F F)/\w'.cell? (qR b (off+m*8))=some (.string nm)/\w'.cell? (qR b (off+m*8+1))=some (qS ta tn tc)/\w'.cell? (qR b (off+m*8+2))=some (qS ba bn bc)/\w'.cell? (qR b (off+m*8+3))=some (qS da dn dc)/\w'.cell? (qR b (off+m*8+4))=some (qI bss)/\w'.cell? (qR b (off+m*8+5))=some (qS ra rn rc)/\w'.cell? (qR b (off+m*8+6))=some (qS ia im ic)/\w'.cell? (qR b (off+m*8+7))=some (qS ea en ec)/\w'.cell? (qR wo.heap.size 0)=some (qI (kt:Int))/\w'.cell? (qR wo.heap.size 1)=some (qS xa xb.length xc)/\w'.cell? (qR wo.heap.size 2)=some (qI (65536+(f:Int)))/\w'.cell? (qR wo.heap.size 3)=some (qI xz)) (go_keep)
      (first
        | (go_at_call 217;first
            | with_reducible refine (HPC.o _ HI1.o).mono ?_
            | with_reducible refine (HPC.o _ HI1.o.drew).mono ?_
           rintro e w2 ⟨rfl,hI2⟩;have HI2:=zh hI2;clear hI2
           obtain ⟨⟨r0,r1,r2,r3,r4,r5,r6,r7⟩,⟨t0,t1,t2,t3⟩,u0,u1⟩:=HCL.o _ _ _ HI2.o))
     clear v0 v1 v2 v3 v4 v5 v6 v7 p0 p1 p2 p3 q0 q1 u0;have hff:(65536:Int)+(f:Int)-65536=(f:Int):=by omega
     have hffw:IntKind.i64.wrap ((65536:Int)+(f:Int)-65536)=(f:Int):=by rw [xP,xQ _ (by omega)];omega
     have hffw2:IntKind.i64.wrap (f:Int)=(f:Int):=by rw [xP,xQ _ (by omega)]
     have f0':(0:Int)<=(f:Int):=by omega
     have f1':(f:Int)<=(R:Int):=by omega
     by_cases hfl:f<R
     .have hfl':(f:Int)<(R:Int):=by omega
      have hfn:¬ (R=f):=by omega
      have HPD0:=zh (HPD.o (some (qR gr f)) (R-f) (.inl ⟨hfl,rfl,rfl⟩));clear HPD;go_wp2_with fail
      go_region_held3 (fun w'=>w'.cell? (qR gm 1)=some (qS (qP gr) R R)/\w'.cell? (qR b (off+m*8))=some (.string nm)/\w'.cell? (qR b (off+m*8+1))=some (qS ta tn tc)/\w'.cell? (qR b (off+m*8+2))=some (qS ba bn bc)/\w'.cell? (qR b (off+m*8+3))=some (qS da dn dc)/\w'.cell? (qR b (off+m*8+4))=some (qI bss)/\w'.cell? (qR b (off+m*8+5))=some (qS ra rn rc)/\w'.cell? (qR b (off+m*8+6))=some (qS ia im ic)/\w'.cell? (qR b (off+m*8+7))=some (qS ea en ec)/\w'.cell? (qR wo.heap.size 2)=some (qI (65536+(f:Int)))) (go_keep)
       (first
         | (go_at_call 218;first
             | with_reducible refine (HPD0.o _ HI2.o).mono ?_
             | with_reducible refine (HPD0.o _ HI2.o.drew).mono ?_
            rintro e w3 ⟨rfl,hI3⟩;have HI3:=zh hI3;clear hI3
            obtain ⟨⟨a0',a1',a2',a3',a4',a5',a6',a7'⟩,⟨b0',b1',b2',b3'⟩,c0',c1'⟩:=HCL.o _ _ _ HI3.o))
      clear a0' a1' a2' a3' a4' a5' a6' a7' b0' b1' b2' b3' c0' c1' r0 r1 r2 r3 r4 r5 r6 r7 t0 t1 t2 t3 u1 hff hffw hffw2;go_wp2
      go_roundw
      .exact ⟨m+1,by omega,by go_num,by rw [HFZ.o.1,HFZ.o.2];exact HI3.o.s⟩
      .simp [qf,intOf];omega
     .obtain rfl:R=f:=by omega
      have HPD0:=zh (HPD.o (qP gr) 0 (.inr ⟨rfl,rfl,rfl⟩));clear HPD;go_wp2_with fail
      go_region_held3 (fun w'=>w'.cell? (qR gm 1)=some (qS (qP gr) R R)/\w'.cell? (qR b (off+m*8))=some (.string nm)/\w'.cell? (qR b (off+m*8+1))=some (qS ta tn tc)/\w'.cell? (qR b (off+m*8+2))=some (qS ba bn bc)/\w'.cell? (qR b (off+m*8+3))=some (qS da dn dc)/\w'.cell? (qR b (off+m*8+4))=some (qI bss)/\w'.cell? (qR b (off+m*8+5))=some (qS ra rn rc)/\w'.cell? (qR b (off+m*8+6))=some (qS ia im ic)/\w'.cell? (qR b (off+m*8+7))=some (qS ea en ec)/\w'.cell? (qR wo.heap.size 2)=some (qI (65536+(R:Int)))) (go_keep)
       (first
         | (go_at_call 218;first
             | with_reducible refine (HPD0.o _ HI2.o).mono ?_
             | with_reducible refine (HPD0.o _ HI2.o.drew).mono ?_
            rintro e w3 ⟨rfl,hI3⟩;have HI3:=zh hI3;clear hI3
            obtain ⟨⟨a0',a1',a2',a3',a4',a5',a6',a7'⟩,⟨b0',b1',b2',b3'⟩,c0',c1'⟩:=HCL.o _ _ _ HI3.o))
      clear a0' a1' a2' a3' a4' a5' a6' a7' b0' b1' b2' b3' c0' c1' r0 r1 r2 r3 r4 r5 r6 r7 t0 t1 t2 t3 u1 hff hffw hffw2;go_wp2
      go_roundw
      .exact ⟨m+1,by omega,by go_num,by rw [HFZ.o.1,HFZ.o.2];exact HI3.o.s⟩
      .simp [qf,intOf];omega
    .have e:Zh (m=n):=by show m=n;omega
     obtain ⟨q0,q1,q2⟩:wo.cell? ⟨gm,0,none⟩=some (qS (qP gf) F F)/\wo.cell? ⟨gm,1,none⟩=some (qS (qP gr) R R)/\wo.cell? ⟨gm,2,none⟩=some (qS none 0 0):=⟨S.km.cell 0,S.km.cell 1,S.km.cell 2⟩;obtain ⟨p0,p1,p2⟩:wo.cell? ⟨w.heap.size+1,0,none⟩=some (qS none 0 0)/\wo.cell? ⟨w.heap.size+1,1,none⟩=some (qS none 0 0)/\wo.cell? ⟨w.heap.size+1,2,none⟩=some (qS none 0 0):=⟨S.kr.cell 0,S.kr.cell 1,S.kr.cell 2⟩;have pf:=S.kr.frozen;have hmx:¬ ((m:Int)<(xs.length:Int)):=by have:=HXL.o;omega
     have T:Turn (fun j=>j=w.heap.size+1) wo (((wo.setCell (qR (w.heap.size+1) 0) (qS (qP gf) F F)).setCell (qR (w.heap.size+1) 1) (qS (qP gr) R R)).setCell (qR (w.heap.size+1) 2) (qS none 0 0)):=((aC _ _ _ _).trans (aC _ _ _ _)).trans (aC _ _ _ _)
     have HE:=zh (show ImM w (aD ms) L (.returned (.tuple #[.agg (qV (qP gf) F F (qP gr) R R none 0 0),.bool true])) (((wo.setCell (qR (w.heap.size+1) 0) (qS (qP gf) F F)).setCell (qR (w.heap.size+1) 1) (qS (qP gr) R R)).setCell (qR (w.heap.size+1) 2) (qS none 0 0)) from by
      have hlo:=S.lo;refine ⟨aG S.be T (fun k e=>by omega) S.be.size,some (qR gf 0),F,F,some (qR gr 0),R,R,none,0,0,by rw [xR HOK.o],?_⟩;unfold imF imR;rw [if_pos HOK.o,if_pos HOK.o,hpl,<- e.o];refine ⟨aV T S.f (fun k hk s=>by simp [Value.ownBlock] at hk;omega),aV T S.r (fun k hk s=>by simp [Value.ownBlock] at hk;omega),⟨⟨rfl,.inl ⟨rfl,rfl⟩⟩,by simp⟩,?_,?_,?_⟩
      all_goals
       intro k hk;have hne:=S.ne;simp [Value.ownBlock] at hk ⊢
       try omega)
     have k3:=dC (v0:=qS (qP gf) F F) (v1:=qS (qP gr) R R) (v2:=qS none 0 0) S.kr;have s0:=k3.cell 0;have s1:=k3.cell 1;have s2:=k3.cell 2;simp only [List.getElem?_toArray,List.getElem?_cons_zero,List.getElem?_cons_succ] at s0 s1 s2;clear S T k3;go_wp2;exact bodyPost_ret (v:=.tuple #[.agg (qV (qP gf) F F (qP gr) R R none 0 0),.bool true]) (by simp [results,Tryz.results191,go_sem,s0,s1,s2]) rfl HE.o
 .rw [xS hok]
  have HE:=zh (show ∀ W',qY w W'->ImM w (aD ms) L (.returned (.tuple #[.agg (qV none 0 0 none 0 0 none 0 0),.bool false])) W' from fun W' hb=>by
   refine ⟨hb,none,0,0,none,0,0,none,0,0,by rw [xS hok],?_⟩;unfold imF imR;rw [if_neg hok,if_neg hok];refine ⟨⟨⟨rfl,.inl ⟨rfl,rfl⟩⟩,by simp⟩,⟨⟨rfl,.inl ⟨rfl,rfl⟩⟩,by simp⟩,⟨⟨rfl,.inl ⟨rfl,rfl⟩⟩,by simp⟩,?_,?_,?_⟩
   all_goals
    intro k hk
    simp [Value.ownBlock] at hk)
  have k3:=dC (v0:=qS none 0 0) (v1:=qS none 0 0) (v2:=qS none 0 0) kr1;have s0:=k3.cell 0;have s1:=k3.cell 1;have s2:=k3.cell 2;simp only [List.getElem?_toArray,List.getElem?_cons_zero,List.getElem?_cons_succ] at s0 s1 s2;have T:Turn (fun j=>j=w.heap.size+1) w1 (((w1.setCell (qR (w.heap.size+1) 0) (qS none 0 0)).setCell (qR (w.heap.size+1) 1) (qS none 0 0)).setCell (qR (w.heap.size+1) 2) (qS none 0 0)):=((aC _ _ _ _).trans (aC _ _ _ _)).trans (aC _ _ _ _);have HB:=zh (aG B1 T (fun k e=>by omega) B1.size);obtain ⟨p0,p1,p2⟩:w1.cell? ⟨w.heap.size+1,0,none⟩=some (qS none 0 0)/\w1.cell? ⟨w.heap.size+1,1,none⟩=some (qS none 0 0)/\w1.cell? ⟨w.heap.size+1,2,none⟩=some (qS none 0 0):=⟨kr1.cell 0,kr1.cell 1,kr1.cell 2⟩;have pf:=kr1.frozen;clear T k3 kl1 kr1 B1 hok HRL HM HL;go_wp2;exact bodyPost_ret (v:=.tuple #[.agg (qV none 0 0 none 0 0 none 0 0),.bool false]) (by simp [results,Tryz.results191,go_sem,s0,s1,s2]) rfl (HE.o _ HB.o)
theorem aB4 (xs ds:List Value)(f n:Nat)(h:f+ds.length<=n)(hf:f<=xs.length):(splice xs f ds).take n=splice (xs.take n) f ds:=by
 unfold splice;rw [List.take_append,List.take_append,List.length_take,Nat.min_eq_left hf,xG (l:=List.take f xs) (by simp;omega),xG (l:=ds) (by omega),List.take_take,Nat.min_eq_left (by omega),List.drop_take];congr 3;omega
theorem aIs {W:qw}{base cap f:Nat}{zs ds:qi}(ho:OB W base (qS (qP g) n cap) zs)(ty:TypeId)(sp:qO)(dLen dCap sLen sCap:Nat)(hds:BS W sp sLen sCap ds)(hle:sLen<=dLen)(hfit:f+sLen<=n)(h0:sLen≠0):
 ∃ w',(Builtin.copy_ #[28,28] ty #[qS (some (qR g f)) dLen dCap,qS sp sLen sCap]).run Tryz.prog W=.ok (goInt sLen) w'/\OB w' base (qS (qP g) n cap) (ovr zs f ds)/\Turn (fun j=>j=g) W w':=by
 obtain ⟨⟨hl,⟨e0,_⟩|⟨g',cap',cur,hv,hg,hh,h1,h2,h3,h4⟩⟩,hr⟩:=ho
 .simp at e0
 .simp at hv;obtain ⟨rfl,rfl,rfl⟩:=hv;obtain ⟨b,off,rfl,hc⟩:=hds.2.2.2.1 h0;have hld:=hds.1;subst hld;have hi8:(Tryz.prog.info? 5).map (·.size)=some 1:=by kernel_rfl
  have hrun:=run_copy_row (P:=Tryz.prog) W 28 28 ty 5 g f dLen dCap (qR b off) ds.length sCap cur 5 (ds.map (Value.int .u8)) Tryz.underlying28 hi8 hh (by rw [xH];exact (Nat.min_eq_left hle).symm) (fun j v hj=>by
   have hjl:j<ds.length:=by
    rcases Nat.lt_or_ge j ds.length with h1|h1
    .exact h1
    .rw [xO (by simp;omega)] at hj;cases hj
   rw [bN,hc j hjl,<- hj]
   simp [xB,show j<ds.length by omega]) (by simp;omega) (fun v hv=>by
   simp at hv;obtain ⟨z,_,rfl⟩:=hv
   rfl)
  rw [xH] at hrun;have on:=pE g W (cur.toList.take f++ds.map (Value.int .u8)++cur.toList.drop (f+ds.length)).toArray;refine ⟨_,hrun,⟨⟨by simp,.inr ⟨g,cap,(cur.toList.take f++ds.map (Value.int .u8)++cur.toList.drop (f+ds.length)).toArray,by rw [lE _ _ _ (by omega)],hg,setRow_heap W g cur _ 5 (0,0) hh,by rw [lE _ _ _ (by omega)];exact h1,h2,by simp;omega,?_⟩⟩,wX hr hds.2.2.1⟩,⟨on.2.2.1,on.2.2.2.1,on.2.2.2.2,by rw [on.1];exact aN,fun k _ hk=>on.2.1 k hk⟩⟩;have e:=aB4 cur.toList (ds.map (Value.int .u8)) f zs.length (by simp;omega) (by simp;omega);rw [Nat.mul_one] at h4;rw [h4,aAm] at e;unfold splice at e;rw [lE _ _ _ (by omega),Nat.mul_one,List.toList_toArray,List.append_assoc,<- e];simp
section
variable {W W':qw}{base mid:Nat}{C:Cn}{M:Mn}{Ls:List (PMod×Mb)}{β:Nat->Nat}
theorem aU {b sz:Nat}{cs:Array Value}{t ty:TypeId}{xs:List Value}(kb:Blk W g cs ty)(ho:W.ownsRow b t sz v n xs)(hne:t≠ty):∀ k,v.ownBlock=some k->¬ k=g:=fun k hk e=>by
 subst e;obtain ⟨c,k2⟩:=aE ho hk;exact hne (aI k2 kb)
theorem MxO.scal (h:MxO W base mid C M Ls β)(pc md bk tn:Int):MxO W base mid { C with pc:=pc,md:=md,bk:=bk,tn:=tn } { M with pc:=pc,md:=md,bk:=bk,tn:=tn } Ls β:=⟨h.m,h.e,h.k,h.q,h.l,h.h,h.bm,h.bh,⟨h.vs.1,h.vs.2.1,h.vs.2.2.1,h.vs.2.2.2.1,rfl,rfl,rfl,rfl⟩,h.vz⟩
theorem MxO.upd (h:MxO W base mid C M Ls β)(t:Turn S W W')(hS:∀ j,S j->mid<=j/\∃ cs ty,Blk W j cs ty/\ty≠138/\ty≠25):OMp W' base (qS M.ma M.mn M.mc) Ls β:=
 h.m.keep t (fun j hj s=>by
  obtain ⟨_,cs,ty,kb,n1,n2⟩:=hS j s;obtain ⟨c,k⟩:=aE h.m.o hj
  exact n1 (aI kb k)) (fun j s=>xM h.bh (hS j s).1) (fun j cs kb s=>by
  obtain ⟨_,cs',ty,kb',n1,n2⟩:=hS j s
  exact n2 (aI kb' kb))
theorem MxO.reg (h:MxO W base mid C M Ls β){gk:Nat}(e:M.ka=some (qR gk 0))(i:Nat)(hi:i<M.kn)(z:Int)(hz:wfi z):MxO (W.setCell (qR gk i) (qI z)) base mid { C with kz:=C.kz.set i z } { M with kz:=C.kz.set i z } Ls β:=by
 have hk:=h.k;rw [e] at hk;have T:=aC W gk i (qI z);obtain ⟨cs,kb⟩:=aE hk.1 (k:=gk) rfl;refine ⟨h.upd T (fun j hj=>by subst hj;exact ⟨(hk.lt _ rfl).1,cs,_,kb,by decide,by decide⟩),h.e,?_,eC h.q T (fun j hj=>?_),h.l.kept T (aU kb h.l (by decide)),h.h.kept T (aU kb h.h (by decide)),h.bm,h.bh,h.vs,⟨h.vz.1,rfl,h.vz.2.2⟩⟩
 .show OI _ mid (qS M.ka M.kn M.kc) (C.kz.set i z);rw [e];exact aJ3 hk i hi z hz
 .rcases hj with q|q|q
  .exact aU kb h.q.1.1 (by decide) j q
  .exact aU kb h.q.2.1.1 (by decide) j q
  .exact aU kb h.q.2.2.1.1 (by decide) j q
theorem MxO.slot (h:MxO W base mid C M Ls β){gl:Nat}(e:M.la=some (qR gl 0))(i:Nat)(hi:i<M.ln)(x0:Bool)(x1 x2 x3:Int):MxO ((((W.setCell (qR gl (i*4)) (.bool x0)).setCell (qR gl (i*4+1)) (qI x1)).setCell (qR gl (i*4+2)) (qI x2)).setCell (qR gl (i*4+3)) (qI x3)) base mid { C with lz:=C.lz.set i (x0,x1,x2,x3) } { M with lz:=C.lz.set i (x0,x1,x2,x3) } Ls β:=by
 have hl:=h.l;rw [e] at hl;have T:=(((aC W gl (i*4) (.bool x0)).trans (aC _ gl (i*4+1) (qI x1))).trans (aC _ gl (i*4+2) (qI x2))).trans (aC _ gl (i*4+3) (qI x3));obtain ⟨cs,kb⟩:=aE hl (k:=gl) rfl;refine ⟨h.upd T (fun j hj=>by subst hj;exact ⟨(hl.lt _ rfl).1,cs,_,kb,by decide,by decide⟩),h.e,aX T h.k (aU kb h.k.1 (by decide)),eC h.q T (fun j hj=>?_),?_,h.h.kept T (aU kb h.h (by decide)),h.bm,h.bh,h.vs,⟨h.vz.1,h.vz.2.1,h.vz.2.2.1,h.vz.2.2.2.1,h.vz.2.2.2.2.1,rfl,h.vz.2.2.2.2.2.2⟩⟩
 .rcases hj with q|q|q
  .exact aU kb h.q.1.1 (by decide) j q
  .exact aU kb h.q.2.1.1 (by decide) j q
  .exact aU kb h.q.2.2.1.1 (by decide) j q
 .show OG _ 4 bS _ mid (qS M.la M.ln M.lc) _;rw [e];exact aAq bM hl i hi (x0,x1,x2,x3) _ _ _ _ rfl
theorem MxO.mem (h:MxO W base mid C M Ls β)(T:Turn S W W')(hS:∀ j,S j->mid<=j/\∃ cs ty,Blk W j cs ty/\(ty=5\/ty=110\/ty=43)){oa:qO}{on oc:Nat}{R O:qi}(q:gL W' mid (qS M.fa M.fn M.fc) (qS M.ra M.rn M.rc) (qS oa on oc) C.fz R O):MxO W' base mid { C with rz:=R,oz:=O } { M with rz:=R,oa:=oa,on:=on,oc:=oc,oz:=O } Ls β:=by
 have key:∀ {t:TypeId} {sz n b:Nat} {v:Value} {xs:List Value},W.ownsRow b t sz v n xs->t≠5->t≠110->t≠43->∀ k,v.ownBlock=some k->¬ S k:=fun ho n1 n2 n3 k hk s=>by
  obtain ⟨_,cs,ty,kb,e⟩:=hS k s;obtain ⟨c,k2⟩:=aE ho hk;have:=aI k2 kb;rcases e with e|e|e
  .exact n1 (this.trans e)
  .exact n2 (this.trans e)
  .exact n3 (this.trans e)
 exact ⟨h.upd T (fun j s=>by
  obtain ⟨l,cs,ty,kb,e⟩:=hS j s
  exact ⟨l,cs,ty,kb,by rcases e with rfl|rfl|rfl<;>decide,by rcases e with rfl|rfl|rfl<;>decide⟩),h.e,aX T h.k (key h.k.1 (by decide) (by decide) (by decide)),q,h.l.kept T (key h.l (by decide) (by decide) (by decide)),h.h.kept T (key h.h (by decide) (by decide) (by decide)),h.bm,h.bh,h.vs,⟨h.vz.1,h.vz.2.1,h.vz.2.2.1,rfl,rfl,h.vz.2.2.2.2.2.1,h.vz.2.2.2.2.2.2⟩⟩
theorem MxO.tm (h:MxO W base mid C M Ls β)(t:TMx W W'):MxO W' base mid C M Ls β:=⟨h.m.tm t,h.e,h.k.tm t,aGc h.q t,h.l.kept t (jN h.l (by decide)),h.h.kept t (jN h.h (by decide)),h.bm,h.bh,h.vs,h.vz⟩
end
def hs (b l o a:Int):Bool:=decide (b<=a/\a<b+(2:Int)^l.toNat/\(o/(2:Int)^((a-b)/((2:Int)^l.toNat/8)).toNat)%2=0)
theorem aHr {b l o:Int}(h:rok b l o=true):5<=l/\l<=14/\0<=o/\o<=255/\(8<=l\/o=0)/\0<=b/\b<=262144-(2:Int)^l.toNat:=by
 simp [rok] at h;omega
theorem aQl (l:Int)(h:3<=l):(2:Int)^l.toNat=8*(2:Int)^(l-3).toNat:=by
 obtain ⟨k,hk⟩:=xV (show 0<=l-3 by omega);have e:l.toNat=k+3:=by omega
 have e2:(l-3).toNat=k:=by omega
 rw [e,e2,Int.pow_add];omega
theorem aLe (d q:Int)(hq:0<q)(h0:0<=d)(h:d<8*q):0<=d/q/\d/q<=7:=by
 refine ⟨Int.ediv_nonneg h0 (by omega),?_⟩;have:=Int.ediv_lt_of_lt_mul hq h;omega
theorem aOj:∀ o:Fin 256,(255 ^^^ o.val)=255-o.val:=by decide +kernel
theorem aOi (o:Int)(h0:0<=o)(h1:o<=255):bits BinOp.xor IntKind.u8 IntKind.u8.max o=255-o:=by
 have hm:IntKind.u8.max=255:=by decide
 rw [hm,u8_xor 255 o (by omega) (by omega) h0 (by omega)];have:=aOj ⟨o.toNat,by omega⟩;simp only at this;have e:(255:Int).toNat=255:=rfl;rw [e,this];omega
theorem aNr (t:Int)(h0:0<=t)(h1:t<=255):bits BinOp.and IntKind.u8 t 1=t%2:=by
 rw [u8_and t 1 h0 (by omega) (by omega) (by omega)];have e:(1:Int).toNat=1:=rfl;rw [e,Nat.and_one_is_mod];omega
theorem aCk (b l o:Int)(r x y:Bool)(w:qw)(h0:0<=o)(h1:o<=255):
 qC 265 #[.agg #[qI b,qI l,qI o,.bool r,.bool x,.bool y]] w (qB w (.int .u8 (255-o))):=by
 have hx:=zh (aOi o h0 h1);go_enter Tryz.func265,Tryz.ntmps265
 go_wp2;go_ret;exact ⟨aH hx.o,bal⟩
theorem aNc (s i:Int)(w:qw)(h0:0<=s)(h1:s<=255)(h2:0<=i)(h3:i<=7):
 qC 266 #[.int .u8 s,qI i] w fun e w'=>e=.returned (.bool ((s/(2:Int)^i.toNat)%2==1))/\w=w':=by
 have hq:0<=s/(2:Int)^i.toNat/\s/(2:Int)^i.toNat<=255:=by
  have hp:=pow_pos i.toNat;exact ⟨Int.ediv_nonneg h0 (by omega),Int.le_trans (Int.ediv_le_self _ h0) h1⟩
 have hx:=zh (aNr (s/(2:Int)^i.toNat) hq.1 hq.2);clear hq;go_enter Tryz.func266,Tryz.ntmps266
 go_wp2;go_ret;exact ⟨aA (by rw [hx.o]),rfl⟩
theorem aLn:∀ (o:Fin 256) (i:Fin 8),((255-o.val)/2^i.val%2==1)=(o.val/2^i.val%2==0):=by decide +kernel
theorem aK5 (o i:Int)(h0:0<=o)(h1:o<=255)(h2:0<=i)(h3:i<=7):((255-o)/(2:Int)^i.toNat%2==1)=(o/(2:Int)^i.toNat%2==0):=by
 obtain ⟨a,rfl⟩:=xV h0;obtain ⟨k,rfl⟩:=xV h2;have:=aLn ⟨a,by omega⟩ ⟨k,by omega⟩;simp only at this;have e1:(255-(a:Int))=((255-a:Nat):Int):=by omega
 have e2:(2:Int)^((k:Int).toNat)=((2^k:Nat):Int):=by simp
 rw [e1,e2];rw [xJ] at this ⊢;simp only [beq_iff_eq] at this ⊢;omega
theorem Blk.six {w:qw}{a b c d e f:Value}{t:TypeId}(h:Blk w g #[a,b,c,d,e,f] t):
 w.cell? (qR g 0)=some a/\w.cell? (qR g 1)=some b/\w.cell? (qR g 2)=some c/\w.cell? (qR g 3)=some d/\w.cell? (qR g 4)=some e/\w.cell? (qR g 5)=some f/\∀ i,w.frozen? (qR g i)=false:=
 ⟨by rw [h.cell];rfl,by rw [h.cell];rfl,by rw [h.cell];rfl,by rw [h.cell];rfl,by rw [h.cell];rfl,by rw [h.cell];rfl,fun i=>h.frozen i⟩
theorem wrap_i64 {n:Int}(h0:-9223372036854775808<=n)(h1:n<=9223372036854775807):IntKind.i64.wrap n=n:=by
 simp only [IntKind.wrap,IntKind.bits,IntKind.signed];simp;omega
theorem vN (b l o a:Int)(r x y:Bool)(w:qw)(h:rok b l o=true)(ha:-9223372036854775808<=a/\a<=9223372036854775807):
 qC 257 #[.agg #[qI b,qI l,qI o,.bool r,.bool x,.bool y],qI a] w (qB w (.bool (hs b l o a))):=by
 obtain ⟨h1,h2,h3,h4,h5,h6,h7⟩:=aHr h;obtain ⟨ha0,ha1⟩:=ha;have hp:=sD l.toNat;have hp0:=pow_pos l.toNat;have hp8:=aQl l (by omega);have hq0:=pow_pos (l-3).toNat;have hq:(2:Int)^l.toNat/8=(2:Int)^(l-3).toNat:=by omega
 by_cases ka:a<b
 .have hf:Zh (hs b l o a=false):=by show _=_;unfold hs;simp;omega
  clear h h5 hp8 hq;have hd:decide (a<b)=true:=by simpa using ka
  go_enter Tryz.func257,Tryz.ntmps257
  go_wp2
  go_quiet (fail)
  go_wp2;go_ret;exact ⟨aA hf.o.symm,below_drewN bal _⟩
 .have hd:decide (a<b)=false:=by simpa using ka
  by_cases kb:(2:Int)^l.toNat<=a-b
  .have hf:Zh (hs b l o a=false):=by show _=_;unfold hs;simp;omega
   clear h h5 hp8 hq;go_enter Tryz.func257,Tryz.ntmps257
   go_wp2
   go_quiet (fail)
   go_wp2;go_ret;exact ⟨aA hf.o.symm,below_drewN bal _⟩
  .have hdv:=aLe (a-b) ((2:Int)^(l-3).toNat) hq0 (by omega) (by omega)
   have hf:Zh (hs b l o a=(((255-o)/(2:Int)^((a-b)/((2:Int)^(l-3).toNat)).toNat)%2==1)):=by
    show _=_;rw [aK5 o _ h3 h4 hdv.1 hdv.2,<- hq];unfold hs;rw [xJ];simp;omega
   clear h h5 hp8 hq;obtain ⟨hd0,hd7⟩:=hdv;go_enter Tryz.func257,Tryz.ntmps257
   go_wp2
   go_quiet (fail)
   go_wp2_with fail
   have kb:=Blk.new w #[qI b,qI l,qI o,.bool r,.bool x,.bool y] 214;have hB0:qY w (w.alloc (.cells #[qI b,qI l,qI o,.bool r,.bool x,.bool y] 214)):=bal;have hw1:IntKind.i64.wrap (a-b)=a-b:=wrap_i64 (by omega) (by omega);have hw2:IntKind.i64.wrap (l-3)=l-3:=wrap_i64 (by omega) (by omega)
   have hsh:Op.shift .shr .i64 (a-b) .i64 (l-3)=pure (qI ((a-b)/(2:Int)^(l-3).toNat)):=by
    rw [shift_shr_any _ _ _ _ (by omega),Nat.min_eq_left (by simp [IntKind.bits];omega)]
   go_region_held3 (fun w'=>w'.cell? (qR w.heap.size 0)=some (qI b)/\w'.cell? (qR w.heap.size 1)=some (qI l)/\w'.cell? (qR w.heap.size 2)=some (qI o)/\w'.cell? (qR w.heap.size 3)=some (.bool r)/\w'.cell? (qR w.heap.size 4)=some (.bool x)/\w'.cell? (qR w.heap.size 5)=some (.bool y)) (go_keep)
    (first
      | (go_at_call 265;refine (aCk b l o r x y _ h3 h4).mono ?_;rintro e w1 ⟨rfl,hb1⟩;obtain ⟨q1,q2,q3,q4,q5,q6,q7⟩:=(Blk.bw (by exact kb) hb1).six)
      | (go_at_call 266;refine (aNc _ _ _ ?_ ?_ ?_ ?_).mono ?_;omega;omega;omega;omega;rintro e w2 ⟨rfl,rfl⟩))
   go_wp2;go_ret;exact ⟨aA hf.o.symm,(below_drewN hB0 _).trans (hb1.mono (by simp))⟩
def aM3 (r x y:Bool)(k:Int):Bool:=if k=1 then r else if k=2 then x else if k=3 then y else false
theorem nX (b l o k:Int)(r x y:Bool)(w:qw):
 qC 258 #[.agg #[qI b,qI l,qI o,.bool r,.bool x,.bool y],qI k] w (qB w (.bool (aM3 r x y k))):=by
 by_cases h1:k=1
 .subst h1;go_enter Tryz.func258,Tryz.ntmps258
  go_wp2;go_ret;exact ⟨rfl,bal⟩
 .by_cases h2:k=2
  .subst h2;go_enter Tryz.func258,Tryz.ntmps258
   go_wp2;go_ret;exact ⟨rfl,bal⟩
  .by_cases h3:k=3
   .subst h3;go_enter Tryz.func258,Tryz.ntmps258
    go_wp2;go_ret;exact ⟨rfl,bal⟩
   .have hf:Zh (aM3 r x y k=false):=by show _=_;simp [aM3,h1,h2,h3]
    have g1:(k==1)=false:=by simpa using h1
    have g2:(k==2)=false:=by simpa using h2
    have g3:(k==3)=false:=by simpa using h3
    clear h1 h2 h3;go_enter Tryz.func258,Tryz.ntmps258
    go_wp2;go_ret;exact ⟨aA hf.o.symm,bal⟩
def gok (g:Rg):Bool:=rok g.1 g.2.1 g.2.2.1
def aFd (g:Rg)(a:Int):Bool:=hs g.1 g.2.1 g.2.2.1 a
def aK0 (g:Rg)(k:Int):Bool:=aM3 g.2.2.2.1 g.2.2.2.2.1 g.2.2.2.2.2 k
def fP (rs:List Rg)(a k:Int):Nat->Bool
 | 0=>false
 | j+1=>if aFd (rs.getD j z6) a then aK0 (rs.getD j z6) k else fP rs a k j
theorem aIt (b off n cap:Nat)(rs:List Rg)(a k:Int)(w:qw)(h:RS w (some (qR b off)) n cap rs)(hok:∀ g∈rs,gok g=true)(hk:wfi a)(hn:n<=8):
 qC 242 #[qS (some (qR b off)) n cap,qI a,qI k] w (qB w (.bool (fP rs a k n))):=by
 have hl:=h.1;go_enter Tryz.func242,Tryz.ntmps242
 go_wp2;go_loopw [7] (fun i wr=>∃ (j:Nat) (p:Int),j<=n/\p+1=j/\i=qI p/\fP rs a k j=fP rs a k n/\qY w wr) (fun i _=>(intOf i+1).toNat)
 .exact ⟨n,(n:Int)-1,aN,by omega,rfl,rfl,brf⟩
 .obtain ⟨j,p,hj,hp,rfl,hone,hB⟩:=hrel;by_cases h0:j=0
  .have hp':p=-1:=by omega
   subst hp' h0;have HO:=zh hone;clear hp hone;have HK:=zh hk;clear hk;go_wp2;go_ret;exact ⟨aA (by rw [<- HO.o];rfl),hB⟩
  .obtain ⟨i,rfl⟩:∃ i,j=i+1:=⟨j-1,by omega⟩;have hp':p=(i:Int):=by omega
   subst hp';have hi0:(0:Int)<=(i:Int):=by omega
   have hin:(i:Int)<(n:Int):=by omega
   have hat:=(h.bw hB).at i (by omega);have hg:=hok (rs.getD i z6) (by simp [xB,show i<rs.length by omega]);have hstep:fP rs a k (i+1)=if aFd (rs.getD i z6) a then aK0 (rs.getD i z6) k else fP rs a k i:=rfl
   rw [hone] at hstep;have HK:=zh hk;clear hp hone hk h0;generalize rs.getD i z6=g at *;obtain ⟨g1,g2,g3,g4,g5,g6⟩:=g;have HS:=zh hstep;clear hstep;have hga:rok g1 g2 g3=true:=hg;clear hg;have q1:=hat.1;have q2:=hat.2.1;have q3:=hat.2.2.1;have q4:=hat.2.2.2.1;have q5:=hat.2.2.2.2.1;have q6:=hat.2.2.2.2.2;simp only at q1 q2 q3 q4 q5 q6;go_wp2_with fail
   refine (vN g1 g2 g3 a g4 g5 g6 _ hga HK.o).mono ?_;rintro e w1 ⟨rfl,hb1⟩;have hB1:=hB.trans (hb1.mono hB.size);cases hh:hs g1 g2 g3 a
   .have HH:=zh hh;clear hh;go_wp2
    go_roundw
    .exact ⟨i,(i:Int)-1,by omega,by omega,by go_num,by rw [HS.o];rw [show aFd (g1,g2,g3,g4,g5,g6) a=false from HH.o];rfl,hB1⟩
    .simp [intOf]
   .have HH:=zh hh;clear hh;have hat1:=hat.bw hb1;have q1:=hat1.1;have q2:=hat1.2.1;have q3:=hat1.2.2.1;have q4:=hat1.2.2.2.1;have q5:=hat1.2.2.2.2.1;have q6:=hat1.2.2.2.2.2;simp only at q1 q2 q3 q4 q5 q6;go_wp2_with fail
    refine (nX g1 g2 g3 k g4 g5 g6 _).mono ?_;rintro e w2 ⟨rfl,hb2⟩;go_wp2;go_ret;exact ⟨aA (by rw [HS.o];rw [show aFd (g1,g2,g3,g4,g5,g6) a=true from HH.o];rfl),hB1.trans (hb2.mono hB1.size)⟩
theorem aLs (x:qO)(cap:Nat)(a k:Int)(w:qw):
 qC 242 #[qS x 0 cap,qI a,qI k] w (qB w (.bool false)):=by
 go_enter Tryz.func242,Tryz.ntmps242
 go_wp2;go_loop [7] (fun i=>i=qI (-1)) (fun _=>0)
 .rfl
 .obtain rfl:=hrel;go_wp2;go_ret;exact ⟨rfl,brf⟩
theorem aLt (x:qO)(n cap:Nat)(rs:List Rg)(a k:Int)(w:qw)(h:RS w x n cap rs)(hok:∀ g∈rs,gok g=true)(hk:wfi a)(hn:n<=8):
 qC 242 #[qS x n cap,qI a,qI k] w (qB w (.bool (fP rs a k n))):=by
 by_cases h0:n=0
 .subst h0;exact aLs x cap a k w
 .obtain ⟨b,off,rfl⟩:=h.some h0;exact aIt b off n cap rs a k w h hok hk hn
def upB (rs:List Rg)(a k:Int)(n m:Nat):Bool:=(List.range m).all fun i=>fP rs (wrap64 (a+i)) k n
def okB (rs:List Rg)(m:Nat):Bool:=(List.range m).all fun i=>gok (rs.getD i z6)
def aHb (rs:List Rg)(a k:Int)(n m:Nat):Prop:=∀ i,i<m->fP rs (wrap64 (a+i)) k n=true
def aCn (rs:List Rg)(m:Nat):Prop:=∀ i,i<m->gok (rs.getD i z6)=true
theorem mZ:okB rs m=true ↔ aCn rs m:=by simp [okB,aCn]
theorem zD {a k:Int}:upB rs a k n m=true ↔ aHb rs a k n m:=by simp [upB,aHb]
theorem aH1 (hj:j<n)(h:gok (rs.getD j z6)=false):okB rs n=false:=by
 cases e:okB rs n
 .rfl
 .have:=mZ.1 e j hj;rw [h] at this;simp at this
theorem aHc {a k:Int}(hj:j<m)(h:fP rs (wrap64 (a+j)) k n=false):upB rs a k n m=false:=by
 cases e:upB rs a k n m
 .rfl
 .have:=zD.1 e j hj;rw [h] at this;simp at this
theorem aJ2 (hl:rs.length=n)(h:aCn rs n):∀ g∈rs,gok g=true:=by
 intro g hg;obtain ⟨i,hi,rfl⟩:=List.getElem_of_mem hg;have:=h i (by omega);simpa [xB,hi] using this
theorem aH0 (h:aCn rs j)(hg:gok (rs.getD j z6)=true):aCn rs (j+1):=by
 intro i hi;by_cases e:i=j
 .subst e;exact hg
 .exact h i (by omega)
theorem aHa {a k:Int}(h:aHb rs a k n j)(hg:fP rs (wrap64 (a+j)) k n=true):aHb rs a k n (j+1):=by
 intro i hi;by_cases e:i=j
 .subst e;exact hg
 .exact h i (by omega)
theorem wfl {z:Int}(h:wfi z):(Lit.int .i64 z).wf=true:=by
 obtain ⟨h0,h1⟩:=h;simp [Lit.wf,IntKind.min,IntKind.max,IntKind.signed,IntKind.bits];omega
theorem aIu (z:Int):wfi (wrap64 z):=by
 unfold wfi wrap64;omega
def alw (rs:List Rg)(n:Nat)(a s k:Int):Bool:=decide (n<=8)&&(wd s&&(okB rs n&&upB rs a k n s.toNat))
theorem lQ (x:qO)(n cap:Nat)(rs:List Rg)(w:qw)(h:RS w x n cap rs)(F:Bool)(hF:F=(decide (n<=8)&&okB rs n)):
 qC 241 #[qS x n cap] w (qB w (.bool F)):=by
 have hl:=h.1;have hmx:=h.2.1;unfold maxLen at hmx;have HF:=zh hF;clear hF;by_cases h8:8<n
 .have h8':(8:Int)<(n:Int):=by omega
  go_enter Tryz.func241,Tryz.ntmps241
  go_wp2;go_ret;exact ⟨aA (by rw [HF.o];simp [show ¬ n<=8 by omega]),brf⟩
 .have h8':¬ (8:Int)<(n:Int):=by omega
  go_enter Tryz.func241,Tryz.ntmps241
  go_wp2;go_loopw [10] (fun i wr=>∃ j:Nat,j<=n/\i=qI j/\aCn rs j/\qY w wr) (qf n)
  .exact ⟨0,xC _,rfl,fun i hi=>absurd hi (by omega),brf⟩
  .obtain ⟨j,hj,rfl,hok,hB⟩:=hrel;by_cases hlt:j<n
   .obtain ⟨b,off,rfl⟩:=h.some (by omega);have hin:(j:Int)<(n:Int):=by omega
    have hbw:b<wr.heap.size:=xD wr _ ((h.bw hB).at j hlt).1;have hat:=(h.bw hB).at j hlt;have HOK:=zh hok;clear hok;have hw1:=h.2.2.1 (rs.getD j z6) (by simp [xB,show j<rs.length by omega]);have hbad:gok (rs.getD j z6)=false->okB rs n=false:=aH1 hlt;have hgood:gok (rs.getD j z6)=true->aCn rs (j+1):=aH0 HOK.o;have HBAD:=zh hbad;have HGOOD:=zh hgood;clear hbad hgood;generalize rs.getD j z6=g at *;obtain ⟨g1,g2,g3,g4,g5,g6⟩:=g;have hw:=wfl hw1.1;clear hw1;have q1:=hat.1;have q2:=hat.2.1;have q3:=hat.2.2.1;have q4:=hat.2.2.2.1;have q5:=hat.2.2.2.2.1;have q6:=hat.2.2.2.2.2;simp only at q1 q2 q3 q4 q5 q6;have hBw:qY w wr:=hB;have hsz:=hB.size;go_wp2_with fail
    refine (lU g1 g2 g3 g4 g5 g6 _ hw).mono ?_;rintro e w1 ⟨rfl,hb1⟩;have hB1:=(hB.alloc hB.size (.cells #[qI g1,qI g2,qI g3,.bool g4,.bool g5,.bool g6] 214)).trans (hb1.mono (by simp;omega));cases hr:rok g1 g2 g3
    .have H1:=zh (HBAD.o hr);clear hr HBAD HGOOD;go_wp2;go_ret;exact ⟨aA (by rw [HF.o,H1.o];simp),hB1⟩
    .have H1:=zh (HGOOD.o hr);clear hr HBAD HGOOD;go_wp2
     go_roundw
     .exact ⟨j+1,by omega,by go_num,H1.o,hB1⟩
     .simp [qf,intOf];omega
   .have hjn:j=n:=by omega
    subst hjn;have HOK:=zh (mZ.2 hok);clear hok;go_wp2;go_ret;exact ⟨aA (by rw [HF.o,HOK.o];simp;omega),hB⟩
theorem wB (x:qO)(j cap:Nat)(rs:List Rg)(a s k:Int)(w:qw)(h:RS w x j cap rs)(hn:j<=8)(hs:wd s=true)(hok:aCn rs j)(ha:wfi a)(F:Bool)(hF:F=(okB rs j&&upB rs a k j s.toNat)):
 qC 222 #[qS x j cap,qI a,qI s,qI k] w (qB w (.bool F)):=by
 have hl:=h.1;obtain ⟨ha0,ha1⟩:=ha;have hs4:1<=s/\s<=4:=by have:=hs;simp [wd] at this;omega
 obtain ⟨hs1,hs4⟩:=hs4;have HS:=zh hs;have HF:=zh hF;have HOK:=zh hok;clear hs hF hok;go_enter Tryz.func222,Tryz.ntmps222
 go_wp2_with fail
 refine (gU s _).mono ?_;rw [HS.o];rintro e w2 ⟨rfl,rfl⟩;go_wp2_with fail
 refine (lQ x j cap rs _ h true (by rw [mZ.2 HOK.o];simp;omega)).mono ?_;rintro e w0 ⟨rfl,hB⟩;go_wp2;go_loopw [19] (fun i wr=>∃ m:Nat,(m:Int)<=s/\i=qI m/\aHb rs a k j m/\qY w wr) (qf s.toNat)
 .exact ⟨0,by omega,rfl,fun i hi=>absurd hi (by omega),hB⟩
 .obtain ⟨m,hm,rfl,hup,hB⟩:=hrel;by_cases hlt:(m:Int)<s
  .have hbad:fP rs (wrap64 (a+m)) k j=false->upB rs a k j s.toNat=false:=aHc (by omega);have hgood:fP rs (wrap64 (a+m)) k j=true->aHb rs a k j (m+1):=aHa hup;have HBAD:=zh hbad;have HGOOD:=zh hgood;have HUP:=zh hup;clear hbad hgood hup;go_wp2_with fail
   refine (aLt x j cap rs _ k _ (h.bw hB) (aJ2 hl HOK.o) (aIu _) hn).mono ?_;generalize fP rs (wrap64 (a+m)) k j=r at *;rintro e w1 ⟨rfl,hb1⟩;have hB1:=hB.trans (hb1.mono hB.size);cases r
   .have H1:=zh (HBAD.o rfl);clear HBAD HGOOD;go_wp2;go_ret;exact ⟨aA (by rw [HF.o,H1.o];simp),hB1⟩
   .have H1:=zh (HGOOD.o rfl);clear HBAD HGOOD;go_wp2
    go_roundw
    .exact ⟨m+1,by omega,by go_num,H1.o,hB1⟩
    .simp [qf,intOf];omega
  .have hms:s.toNat=m:=by omega
   have HM:=zh (zD.2 hup);rw [<- hms] at HM;have HUP:=zh hup;clear hup hms;go_wp2;go_ret;exact ⟨aA (by rw [HF.o,HM.o];rw [mZ.2 HOK.o];rfl),hB⟩
theorem nH (x:qO)(n cap:Nat)(rs:List Rg)(a s k:Int)(w:qw)(h:RS w x n cap rs)(hb:wd s=false\/(decide (n<=8)&&okB rs n)=false):
 qC 222 #[qS x n cap,qI a,qI s,qI k] w (qB w (.bool false)):=by
 cases hs:wd s
 .clear hb;go_enter Tryz.func222,Tryz.ntmps222
  go_wp2_with fail
  refine (gU s _).mono ?_;rw [hs];rintro e w2 ⟨rfl,rfl⟩;go_wp2;go_ret;exact ⟨rfl,brf⟩
 .have hb:=zh (show false=(decide (n<=8)&&okB rs n) by rcases hb with hb|hb;rw [hs] at hb;simp at hb;exact hb.symm);go_enter Tryz.func222,Tryz.ntmps222
  go_wp2_with fail
  refine (gU s _).mono ?_;rw [hs];rintro e w2 ⟨rfl,rfl⟩;go_wp2_with fail
  refine (lQ x n cap rs _ h false hb.o).mono ?_;rintro e w0 ⟨rfl,hB⟩;go_wp2;go_ret;exact ⟨rfl,hB⟩
theorem aA6 (x:qO)(n cap:Nat)(rs:List Rg)(a s k:Int)(w:qw)(h:RS w x n cap rs)(ha:wfi a):
 qC 222 #[qS x n cap,qI a,qI s,qI k] w (qB w (.bool (alw rs n a s k))):=by
 cases hs:wd s
 .have hf:alw rs n a s k=false:=by simp [alw,hs]
  rw [hf];exact nH x n cap rs a s k w h (Or.inl hs)
 .cases hr:(decide (n<=8)&&okB rs n)
  .have hf:alw rs n a s k=false:=by
    unfold alw;cases h8:decide (n<=8)
    .rfl
    .rw [h8] at hr;simp at hr;simp [hr]
   rw [hf];exact nH x n cap rs a s k w h (Or.inr hr)
  .simp at hr;exact wB x n cap rs a s k w h hr.1 hs (mZ.1 hr.2) ha _ (by simp [alw,hs,hr.1])
def z15:Array Value:=qZ
def dP (W:qw)(k:Nat)(v0 v1 v2 v3 v4 v5 v6 v7 v8 v9 v10 v11 v12 v13 v14:Value):World:=((((((((((((((W.setCell (qR k 0) v0).setCell (qR k 1) v1).setCell (qR k 2) v2).setCell (qR k 3) v3).setCell (qR k 4) v4).setCell (qR k 5) v5).setCell (qR k 6) v6).setCell (qR k 7) v7).setCell (qR k 8) v8).setCell (qR k 9) v9).setCell (qR k 10) v10).setCell (qR k 11) v11).setCell (qR k 12) v12).setCell (qR k 13) v13).setCell (qR k 14) v14
theorem aS (W:qw)(k:Nat)(v0 v1 v2 v3 v4 v5 v6 v7 v8 v9 v10 v11 v12 v13 v14:Value):Turn (fun j=>j=k) W (dP W k v0 v1 v2 v3 v4 v5 v6 v7 v8 v9 v10 v11 v12 v13 v14):=((((((((((((((aC W k 0 v0).trans (aC _ k 1 v1)).trans (aC _ k 2 v2)).trans (aC _ k 3 v3)).trans (aC _ k 4 v4)).trans (aC _ k 5 v5)).trans (aC _ k 6 v6)).trans (aC _ k 7 v7)).trans (aC _ k 8 v8)).trans (aC _ k 9 v9)).trans (aC _ k 10 v10)).trans (aC _ k 11 v11)).trans (aC _ k 12 v12)).trans (aC _ k 13 v13)).trans (aC _ k 14 v14)
theorem gI {W:qw}{t:TypeId}(h:Blk W k z15 t)(v0 v1 v2 v3 v4 v5 v6 v7 v8 v9 v10 v11 v12 v13 v14:Value):Blk (dP W k v0 v1 v2 v3 v4 v5 v6 v7 v8 v9 v10 v11 v12 v13 v14) k #[v0,v1,v2,v3,v4,v5,v6,v7,v8,v9,v10,v11,v12,v13,v14] t:=by
 have k:=((((((((((((((h.set 0 v0).set 1 v1).set 2 v2).set 3 v3).set 4 v4).set 5 v5).set 6 v6).set 7 v7).set 8 v8).set 9 v9).set 10 v10).set 11 v11).set 12 v12).set 13 v13).set 14 v14;have e:((((((((((((((z15.setIfInBounds 0 v0).setIfInBounds 1 v1).setIfInBounds 2 v2).setIfInBounds 3 v3).setIfInBounds 4 v4).setIfInBounds 5 v5).setIfInBounds 6 v6).setIfInBounds 7 v7).setIfInBounds 8 v8).setIfInBounds 9 v9).setIfInBounds 10 v10).setIfInBounds 11 v11).setIfInBounds 12 v12).setIfInBounds 13 v13).setIfInBounds 14 v14=#[v0,v1,v2,v3,v4,v5,v6,v7,v8,v9,v10,v11,v12,v13,v14]:=by unfold z15;simp
 rw [e] at k;exact k
theorem pF {W:qw}{ty:TypeId}{af:Array _}{gd:Option _}{v6 v7 v8 v9 v10 v11 v12 v13 v14:Value}(kb:Blk W G #[v0,v1,v2,v3,v4,v5,v6,v7,v8,v9,v10,v11,v12,v13,v14] 43)(h:a.tmps[k]?.getD undef=.pointer (qP G)):(execOp a.eval { dst:=d,op:=Op.load 43 (Operand.tmp k),type:=ty,pos:=p,after:=af,guard:=gd }).run Tryz.prog W=.ok (.value (.agg #[v0,v1,v2,v3,v4,v5,v6,v7,v8,v9,v10,v11,v12,v13,v14])) W:=by
 obtain ⟨q0,q1,q2,q3,q4,q5,q6,q7,q8,q9,q10,q11,q12,q13,q14⟩:=kb.mc;go_simp
theorem aKp {W:qw}{ty:TypeId}{af:Array _}{gd:Option _}(kb:Blk W G #[v0,v1,v2,v3,v4,v5] 71)(h:a.tmps[k]?.getD undef=.pointer (qP G)):(execOp a.eval { dst:=d,op:=Op.load 71 (Operand.tmp k),type:=ty,pos:=p,after:=af,guard:=gd }).run Tryz.prog W=.ok (.value (.agg #[v0,v1,v2,v3,v4,v5])) W:=by
 obtain ⟨q0,q1,q2,q3,q4,q5⟩:=kb.ly6;go_simp
theorem aN8 {W:qw}{ty:TypeId}{af:Array _}{gd:Option _}(kb:Blk W G #[v0,v1,v2,v3] 142)(h:a.tmps[k]?.getD undef=.pointer (qP G)):(execOp a.eval { dst:=d,op:=Op.load 142 (Operand.tmp k),type:=ty,pos:=p,after:=af,guard:=gd }).run Tryz.prog W=.ok (.value (.agg #[v0,v1,v2,v3])) W:=by
 have q0:=kb.cell 0;have q1:=kb.cell 1;have q2:=kb.cell 2;have q3:=kb.cell 3;simp at q0 q1 q2 q3;go_simp
theorem aN7 {W:qw}{ty:TypeId}{af:Array _}{gd:Option _}(q:W.cell? ⟨G,i,none⟩=some v)(h:a.tmps[k]?.getD undef=.pointer (some ⟨G,i,none⟩)):(execOp a.eval { dst:=d,op:=Op.load 40 (Operand.tmp k),type:=ty,pos:=p,after:=af,guard:=gd }).run Tryz.prog W=.ok (.value v) W:=by
 go_simp
theorem aP8 {W:qw}{ty:TypeId}{af:Array _}{gd:Option _}(q:W.cell? ⟨G,i,none⟩=some v)(h:a.tmps[k]?.getD undef=.pointer (some ⟨G,i,none⟩)):(execOp a.eval { dst:=d,op:=Op.load 4 (Operand.tmp k),type:=ty,pos:=p,after:=af,guard:=gd }).run Tryz.prog W=.ok (.value v) W:=by
 go_simp
def upN (n:Nat):List Int:=(List.range n).map (fun i:Nat=>(i:Int))
theorem lB (n:Nat):(upN n).length=n:=by simp [upN]
theorem aOl (n k:Nat)(h:k<n):(upN n).getD k 0=(k:Int):=by simp [upN,xB,h]
theorem vH (L:Lay)(a0:qO)(c0:Nat)(xs:List PB)(a2:qO)(c2:Nat)(a5:qO)(c5:Nat)(ts:List TB)(b:Int)(l:Nat)(w:qw)(hb:¬ b=-1)(h0:¬ l=0)(h1:l<=1048576):
 qC 189 #[.agg (qL L a0 xs.length c0 a2 l c2 a5 ts.length c5),qI b] w fun e w'=>∃ g,e=.returned (qS (qP g) l l)/\RowI w' g (upN l)/\qY w w':=by
 obtain ⟨i0,hi,hz0,hz1,hz2⟩:=info_parts jP;have hz:(b == -1)=false:=by simpa using hb
 have hl0:((l:Int)==0)=false:=by simpa using h0
 obtain ⟨W,hW⟩:=eqx (w.alloc (.cells (qL L a0 xs.length c0 a2 l c2 a5 ts.length c5) 71));have HBW:=zh (show qY w W by rw [hW];exact bal);have k0:Blk W w.heap.size (qL L a0 xs.length c0 a2 l c2 a5 ts.length c5) 71:=by rw [hW];exact Blk.new w _ _
 have d2:=k0.e2;have HW:=zh hW;clear hW k0;generalize xs.length=n at *;generalize ts.length=k at *;go_enter Tryz.func189,Tryz.ntmps189
 go_wp2_with (first|rw [<- HW.o]|(at_make;refine wpList_make_full _ rfl _ _ 25 rfl W.heap.size 3 i0 (qI 0) 1 Tryz.underlying25 hi hz0 hz1 .i64 .i64 _ _ l rfl rfl rfl rfl (by rw [hz2];omega) (by unfold maxLen;omega) aN ?_;intro w1 hown hgr))
 have hrow:=jA hown;have hbel:=aW hgr;clear hown hgr hi hz0 hz1 hz2 d2;go_loopw [6,22] (fun _ i wr=>∃ k:Nat,k<=l/\i=qI k/\RowI wr W.heap.size (mid (upN l) k)/\qY W wr) (fun _ i _=>l-(intOf i).toNat)
 .exact ⟨0,xC _,rfl,by rw [tB,lB];exact hrow,hbel⟩
 .obtain ⟨k,hk,rfl,hR,hB⟩:=hrel;clear hrow hbel;by_cases hlt:k<l
  .have hlt':(k:Int)<(l:Int):=by omega
   have hgk:wr.cell? (qR W.heap.size k)=some (qI ((mid (upN l) k).getD k 0)):=hR.cell k (by rw [aAt,lB];omega);have hfk:wr.frozen? (qR W.heap.size k)=false:=hR.frozen k;have R':=hR.set k ((upN l).getD k 0);rw [aAs (upN l) k (by rw [lB];omega),aOl l k hlt] at R';have B':qY W (wr.setCell (qR W.heap.size k) (qI (k:Int))):=hB.setCell aN _;have HR:=zh R';have HB:=zh B';generalize (mid (upN l) k).getD k 0=z0 at *;clear hR hB R' B';go_wp2
   go_roundw
   .exact ⟨k+1,by omega,by go_num,HR.o,HB.o⟩
   .simp [intOf];omega
  .have e:Zh (k=l):=by show k=l;omega
   have HX:=zh (xA hR hB);clear hR hB;go_wp2;go_ret;refine ⟨_,rfl,?_,HBW.o.trans (HX.o.2.mono HBW.o.size)⟩;have:=HX.o.1;have e2:mid (upN l) l=upN l:=by have:=aAu (upN l);rwa [lB] at this
   rw [e.o,e2] at this;exact this
end Go.Proofs.YtncccmeomcaabaaGreat
namespace Go.Proofs.YtncccmeomcaabaaGreat
open Go
variable {P:Program}{i:Nat}{ops:Array Oper}
def tM (n:Nat)(listed:Array Bool):Nat:=((List.range n).filter fun i=>!listed.getD i true).length
theorem aIo {l:List Nat}{p q:Nat->Bool}(h:∀ x∈l,q x=true->p x=true)(hi:i∈l)(hp:p i=true)(hq:q i=false):(l.filter q).length<(l.filter p).length:=by
 induction l with
 | nil=>cases hi
 | cons x xs ih=>
   have hle:(xs.filter q).length<=(xs.filter p).length:=by
    clear ih hi
    induction xs with
    | nil=>simp
    | cons y ys ih2=>
      have h2:=ih2 (fun z hz=>h z (by simp only [List.mem_cons] at hz ⊢;rcases hz with e|e;exact .inl e;exact .inr (.inr e)));have h3:=h y (by simp);cases hq':q y with
      | false=>cases hp':p y<;>simp [List.filter_cons,hq',hp']<;>omega
      | true=>simp [List.filter_cons,hq',h3 hq'];omega
   have h1:=h x (by simp);rcases List.mem_cons.1 hi with e|e
   .subst e;simp [List.filter_cons,hp,hq];omega
   .have h4:=ih (fun z hz=>h z (by simp [hz])) e;cases hq':q x with
    | false=>cases hp':p x<;>simp [List.filter_cons,hq',hp']<;>omega
    | true=>simp [List.filter_cons,hq',h1 hq'];omega
theorem yJ {n:Nat}{listed:Array Bool}(hi:i<n)(h:listed.getD i true=false):tM n (listed.setIfInBounds i true)<tM n listed:=by
 have hs:i<listed.size:=by
  rcases Nat.lt_or_ge i listed.size with h'|h'
  .exact h'
  .simp [Array.getElem?_eq_none h'] at h
 refine aIo (i:=i) (fun x _ hx=>?_) (by simpa using hi) (by rw [h];rfl) (by simp [hs]);by_cases hxi:i=x
 .subst hxi;rw [h];rfl
 .rw [getD_set_ne true hxi] at hx;exact hx
theorem aG9 {P:Program}{ops:Array Oper}{Q:Exit->Act->World->Prop}{md:Region.Mode}(Inv:Array Bool->Act->World->Prop)
 (hstep:∀ (listed:Array Bool) (a:Act) (w:qw) (i:Nat) (K:Act->World->Prop),Inv listed a w->i∈Region.ready md ops listed->(∀ a' w',Inv (listed.setIfInBounds i true) a' w'->K a' w')->wpOp P ops Q i K a w)
 (hend:∀ (listed:Array Bool) (a:Act) (w:qw),Inv listed a w->Region.ready md ops listed=[]->Q .normal a w):
 ∀ (fuel:Nat) (listed:Array Bool) (a:Act) (w:qw),tM ops.size listed<=fuel->Inv listed a w->wpAny P md ops Q fuel listed a w:=by
 intro fuel
 induction fuel with
 | zero=>
   intro listed a w hf h
   have hr:Region.ready md ops listed=[]:=by
    rw [List.eq_nil_iff_forall_not_mem];intro i hi;obtain ⟨h0,o,ho,_⟩:=mem_ready.1 hi;have:=yJ (n:=ops.size) (Array.getElem?_eq_some_iff.1 ho).1 h0;omega
   exact ⟨hr,hend _ _ _ h hr⟩
 | succ fuel ih=>
   intro listed a w hf h;refine ⟨fun hr=>hend _ _ _ h hr,fun i hi=>hstep listed a w i _ h hi fun a' w' h'=>ih _ a' w' ?_ h'⟩;obtain ⟨h0,o,ho,_⟩:=mem_ready.1 hi;have:=yJ (n:=ops.size) (Array.getElem?_eq_some_iff.1 ho).1 h0;omega
theorem aIe (n:Nat)(listed:Array Bool):tM n listed<=n:=by
 unfold tM;exact xM (List.length_filter_le _ _) (by simp)
theorem uV {Q:Exit->Act->World->Prop}{id:Nat}{a:Act}{w:qw}(hm:P.follows .mixedOrders=true)(Inv:Array Bool->Act->World->Prop)
 (h0:Inv (Array.replicate ops.size false) a { w with drawn:=w.drawn+1 })
 (hstep:∀ (listed:Array Bool) (a:Act) (w:qw) (i:Nat) (K:Act->World->Prop),Inv listed a w->i∈Region.ready .any ops listed->(∀ a' w',Inv (listed.setIfInBounds i true) a' w'->K a' w')->wpOp P ops Q i K a w)
 (hend:∀ (listed:Array Bool) (a:Act) (w:qw),Inv listed a w->Region.ready .any ops listed=[]->Q .normal a w):(Code.region id ops true).wp P Q a w:=
 wp_region_any hm (aG9 Inv hstep hend _ _ _ _ (aIe _ _) h0)
theorem jT {Q:Exit->Act->World->Prop}{id:Nat}{A:Act}{w:qw}(hm:P.follows .mixedOrders=true)(Inv:Act->Array Bool->Act->World->Prop)
 (h0:Inv A (Array.replicate ops.size false) A w.drew)
 (hstep:∀ (listed:Array Bool) (a:Act) (w:qw) (i:Nat) (K:Act->World->Prop),Inv A listed a w->i∈Region.ready .any ops listed->(∀ a' w',Inv A (listed.setIfInBounds i true) a' w'->K a' w')->wpOp P ops Q i K a w)
 (hend:∀ (listed:Array Bool) (a:Act) (w:qw),Inv A listed a w->Region.ready .any ops listed=[]->Q .normal a w):(Code.region id ops true).wp P Q A w:=
 uV hm (Inv A) h0 hstep hend
