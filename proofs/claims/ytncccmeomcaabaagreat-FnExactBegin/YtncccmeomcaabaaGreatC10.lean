import Derived.Test.YtncccmeomcaabaaGreatC06
import Derived.Test.YtncccmeomcaabaaGreatC07
import Derived.Test.YtncccmeomcaabaaGreatC08
set_option linter.all false
set_option maxHeartbeats 16000000
namespace Go.Proofs.YtncccmeomcaabaaGreat
open Go.RowKit Classical
open Go.Proofs.Tryz
set_option maxRecDepth 100000
variable {rs:List Rg}{v:Value}
theorem aRc {S F:Nat->Nat->Nat->World->Prop}{G:Prop}(main:(∀ a b c W,F a b c W->S a b c W)->G)(pf:∀ a b c W,F a b c W->S a b c W):G:=main pf
structure Mk3 (N:Nat)(w1 W:qw)(ZF ZR:Array Value)(F R gf gr gm:Nat):Prop where
 be:Below N w1 W
 f:Blk W gf ZF 5
 r:Blk W gr ZR 5
 m:Blk W gm (qV (qP gf) F F (qP gr) R R none 0 0) 39
 lo:N<=gf/\N<=gr/\N<=gm
 ne:gf≠gr
structure ImT (w:qw)(V:Array Value)(F R gf gr gm:Nat)(fz rz:qi)(W:qw):Prop where
 be:qY w W
 kl:Blk W w.heap.size V 71
 kr:Blk W (w.heap.size+1) (qV none 0 0 none 0 0 none 0 0) 39
 km:Blk W gm (qV (qP gf) F F (qP gr) R R none 0 0) 39
 f:OB W w.heap.size (qS (qP gf) F F) fz
 r:OB W w.heap.size (qS (qP gr) R R) rz
 lo:w.heap.size+1<gf/\w.heap.size+1<gr/\w.heap.size+1<gm
 ne:gf≠gr
structure It5 (w:qw)(V:Array Value)(F R gf gr gm gp:Nat)(PV:Array Value)(fz rz:qi)(W:qw):Prop where
 s:ImT w V F R gf gr gm fz rz W
 p:Blk W gp PV 171
section
variable {w:qw}{V:Array Value}{F R gf gr gm gp:Nat}{PV:Array Value}{fz rz:qi}{W W':qw}
theorem ImT.bw (h:ImT w V F R gf gr gm fz rz W)(hb:qY W W'):ImT w V F R gf gr gm fz rz W':=⟨h.be.trans (hb.mono h.be.size),h.kl.bw hb,h.kr.bw hb,h.km.bw hb,h.f.bw hb,h.r.bw hb,h.lo,h.ne⟩
theorem ImT.mf (h:ImT w V F R gf gr gm fz rz W):gm≠gf/\gm≠gr:=by
 obtain ⟨c1,k1⟩:=gZ h.f;obtain ⟨c2,k2⟩:=gZ h.r;exact ⟨fun e=>by subst e;exact absurd (aH h.km k1) (by decide),fun e=>by subst e;exact absurd (aH h.km k2) (by decide)⟩
theorem ImT.setf (h:ImT w V F R gf gr gm fz rz W){fz':qi}(O:OB W' w.heap.size (qS (qP gf) F F) fz')(T:Turn (fun j=>j=gf) W W'):ImT w V F R gf gr gm fz' rz W':=
 have lo:=h.lo;have ne:=h.ne
 ⟨aG h.be T (fun k e=>by omega) h.be.size,aF T h.kl (by omega),aF T h.kr (by omega),aF T h.km h.mf.1,O,aU T h.r (fun k hk e=>by simp [Value.ownBlock] at hk;omega),lo,ne⟩
theorem ImT.setr (h:ImT w V F R gf gr gm fz rz W){rz':qi}(O:OB W' w.heap.size (qS (qP gr) R R) rz')(T:Turn (fun j=>j=gr) W W'):ImT w V F R gf gr gm fz rz' W':=
 have lo:=h.lo;have ne:=h.ne
 ⟨aG h.be T (fun k e=>by omega) h.be.size,aF T h.kl (by omega),aF T h.kr (by omega),aF T h.km h.mf.2,aU T h.f (fun k hk e=>by simp [Value.ownBlock] at hk;omega),O,lo,ne⟩
theorem It5.bw (h:It5 w V F R gf gr gm gp PV fz rz W)(hb:qY W W'):It5 w V F R gf gr gm gp PV fz rz W':=⟨h.s.bw hb,h.p.bw hb⟩
theorem It5.drew (h:It5 w V F R gf gr gm gp PV fz rz W):It5 w V F R gf gr gm gp PV fz rz W.drew:=h.bw brf.drew
theorem It5.pf (h:It5 w V F R gf gr gm gp PV fz rz W):gp≠gf/\gp≠gr:=by
 obtain ⟨c1,k1⟩:=gZ h.s.f;obtain ⟨c2,k2⟩:=gZ h.s.r;exact ⟨fun e=>by subst e;exact absurd (aH h.p k1) (by decide),fun e=>by subst e;exact absurd (aH h.p k2) (by decide)⟩
theorem It5.setf (h:It5 w V F R gf gr gm gp PV fz rz W){fz':qi}(O:OB W' w.heap.size (qS (qP gf) F F) fz')(T:Turn (fun j=>j=gf) W W'):It5 w V F R gf gr gm gp PV fz' rz W':=⟨h.s.setf O T,aF T h.p h.pf.1⟩
theorem It5.setr (h:It5 w V F R gf gr gm gp PV fz rz W){rz':qi}(O:OB W' w.heap.size (qS (qP gr) R R) rz')(T:Turn (fun j=>j=gr) W W'):It5 w V F R gf gr gm gp PV fz rz' W':=⟨h.s.setr O T,aF T h.p h.pf.2⟩
end
theorem aFj (a:qO)(n cap:Nat)(ms:List Md)(L:Lay)(a0:qO)(c0:Nat)(xs:List PB)(a2:qO)(c2:Nat)(a5:qO)(c5:Nat)(ts:List TB)(w:qw)(h:MSD w a n cap ms)(hL:LyT w L a0 c0 xs a2 c2 a5 c5 ts):
 qC 191 #[qS a n cap,.agg (qJ L a0 xs c0 a2 c2 a5 ts c5)] w (ImM w (aE ms) L):=by
 have B0:qY w ((w.alloc (.cells (qJ L a0 xs c0 a2 c2 a5 ts c5) 71)).alloc (.cells (qV none 0 0 none 0 0 none 0 0) 39)):=bal.alloc (by simp) _;have kl:=(Blk.new w (qJ L a0 xs c0 a2 c2 a5 ts c5) 71).alloc (.cells (qV none 0 0 none 0 0 none 0 0) 39);have kr:=Blk.new (w.alloc (.cells (qJ L a0 xs c0 a2 c2 a5 ts c5) 71)) (qV none 0 0 none 0 0 none 0 0) 39;try unfold qY at *
 simp only [xF] at kr;have HRL:=zh (fun (W:qw) (hb:qY w W)=>aBc a n cap ms L a0 c0 xs a2 c2 a5 c5 ts W (h.bw hb) (hL.bw hb));have HM:=zh h;have HL:=zh hL;clear h hL;go_enter func191,ntmps191
 go_wp2_with fail
 refine (HRL.o _ B0).mono ?_;rintro e w1 ⟨rfl,hb1⟩;have B1:=B0.trans (hb1.mono B0.size);have kl1:=kl.bw hb1;have kr1:=kr.bw hb1;clear B0 kl kr hb1;by_cases hok:Lok (aE ms) L
 .rw [xR hok];have K:=kZ hok;obtain ⟨F,hF⟩:∃ F:Nat,L.flash=(F:Int):=⟨L.flash.toNat,by have:=K.fr;omega⟩;obtain ⟨R,hR⟩:∃ R:Nat,L.ram=(R:Int):=⟨L.ram.toNat,by have:=K.rr;omega⟩;have hF1:F<=16384:=by have:=K.fr;omega
  have hR1:R<=16384:=by have:=K.rr;omega
  have hmF:=yU F hF1;have hmR:=yU R hR1;have x3:w1.cell? (qR w.heap.size 3)=some (qI (F:Int)):=by rw [<- hF];exact kl1.cell 3
  have x4:w1.cell? (qR w.heap.size 4)=some (qI (R:Int)):=by rw [<- hR];exact kl1.cell 4
  have hw1:w.heap.size<w1.heap.size:=kl1.lt;generalize hZF:zby F=ZF at *;generalize hZR:zby R=ZR at *;have HZ:=zh (xA hZF hZR);clear hZF hZR;have HK1:=zh (xA B1 (xA kl1 kr1));have HFR:=zh (xA hF hR);have HKN:=zh K;have HOK:=zh hok;clear HRL;clear B1 kl1 kr1 hF hR K hok;go_wp2_with fail
  obtain ⟨N,hN⟩:=eqx (w1.heap.size);have hNw:N<=w1.heap.size:=by omega
  rename_i K hK;apply aRc (F:=fun gf gr gm W=>Mk3 N w1 W ZF ZR F R gf gr gm) (S:=fun gf gr gm W=>Exit.then K (bodyPost prog f191 (ImM w (aE ms) L)) .normal ⟨#[qS a n cap,.agg (qJ L a0 xs c0 a2 c2 a5 ts c5),undef,.pointer (qP w.heap.size),.pointer (some (qR (w.heap.size+1) 0)),.bool false,.pointer (qP gm),undef,undef,qS a n cap,.agg (qJ L a0 xs c0 a2 c2 a5 ts c5),.bool true,.bool false,undef,.pointer (some (qR w.heap.size 3)),qI (F:Int),qS (qP gf) F F,.pointer (some (qR w.heap.size 4)),qI (R:Int),qS (qP gr) R R,.agg (qV (qP gf) F F (qP gr) R R none 0 0),undef,undef,undef,undef,undef,undef,undef,undef,undef,undef,undef,undef,undef,undef,undef,undef,undef,undef,undef,undef,undef,undef,undef,undef,undef,undef,undef,undef,undef,undef,undef],[]⟩ W)
  .intro REST0;have REST:=zh REST0;clear REST0
   go_region_held3 (fun w'=>w'.cell? (qR w.heap.size 3)=some (qI (F:Int))/\w'.cell? (qR w.heap.size 4)=some (qI (R:Int))) ((refine xA ?_ ?_)<;>(repeat (first|exact x3|exact x4|apply vA|apply pY|(apply zK (by omega))))) (fail)
   all_goals
    refine REST.o _ _ _ _ ?_;exact ⟨(by repeat (first|with_reducible exact brf|with_reducible apply aD0|with_reducible apply zM hNw|with_reducible apply aHg (by omega))),(by repeat (first|with_reducible apply gI|with_reducible exact gH (by simp only [xF,gF])|with_reducible apply dD|with_reducible apply dL (by omega)|with_reducible apply Blk.alloc)),(by repeat (first|with_reducible apply gI|with_reducible exact gH (by simp only [xF,gF])|with_reducible apply dD|with_reducible apply dL (by omega)|with_reducible apply Blk.alloc)),(by repeat (first|with_reducible apply gI|with_reducible exact gH (by simp only [xF,gF])|with_reducible apply dD|with_reducible apply dL (by omega)|with_reducible apply Blk.alloc)),(by omega),(by omega)⟩
  .rintro gf gr gm W hF;show Exit.then _ _ _ _ _
   subst hN;have hpl:(aE ms).length=n:=by rw [bT];exact HM.o.s.1
   have hn4:n<=4:=by have:=HKN.o.n;omega
   have HXL:=zh (show xs.length=n from by
    have h1:=congrArg List.length HL.o.ps;rw [HKN.o.pl] at h1;simp at h1
    omega)
   have hx4:xs.length<=4:=by have:=HXL.o;omega
   have S0:ImT w (qJ L a0 xs c0 a2 c2 a5 ts c5) F R gf gr gm (flB (aE ms) L 0) (raB (aE ms) L 0) W:=by
    obtain ⟨B1,kl1,kr1⟩:=HK1.o;have h1:=kr1.lt;have h2:=hF.lo;have e1:flB (aE ms) L 0=List.replicate F 0:=by show List.replicate L.flash.toNat 0=_;rw [HFR.o.1];rfl
    have e2:raB (aE ms) L 0=List.replicate R 0:=by show List.replicate L.ram.toNat 0=_;rw [HFR.o.2];rfl
    rw [e1,e2];refine ⟨B1.trans (hF.be.mono B1.size),kl1.bw hF.be,kr1.bw hF.be,hF.m,oD (by rw [HZ.o.1];exact hF.f) (by omega) hF1,oD (by rw [HZ.o.2];exact hF.r) (by omega) hR1,by omega,hF.ne⟩
   have HS0:=zh S0;have c0':=S0.kl.cell 0;simp only [List.getElem?_toArray,List.getElem?_cons_zero] at c0';clear S0 hF HK1 x3 x4 hw1 hmF hmR HZ hNw;go_wp2;clear c0';go_loopw [24] (fun i wr=>∃ m:Nat,m<=n/\i=qI m/\ImT w (qJ L a0 xs c0 a2 c2 a5 ts c5) F R gf gr gm (flB (aE ms) L m) (raB (aE ms) L m) wr) (qf n)
   .exact ⟨0,xC _,rfl,HS0.o⟩
   .clear HS0;obtain ⟨m,hm,rfl,S⟩:=hrel;generalize wr=wo at *;by_cases hlt:m<n
    .have hlt':(m:Int)<(n:Int):=by omega
     have hml':(m:Int)<(xs.length:Int):=by have:=HXL.o;omega
     obtain ⟨b,off,rfl,y0,y1,y2,y3,y4,y5,y6,y7⟩:=HM.o.s.at m hlt;obtain ⟨pb,po,rfl,z0,z1,z2,z3⟩:=HL.o.p.at m (by have:=HXL.o;omega);have HPB:=zh (HL.o.p.2.2.2.1 m (by have:=HXL.o;omega));have HMD:=zh (HM.o.d m hlt);have HPM:Zh ((aE ms).getD m zP=(ms.getD m aK).pm):=cI (by have:=HM.o.s.1;omega)
     have HPP:=zh (show (xs.getD m zPB).1=plc (aE ms) m from by
      rw [<- HKN.o.place m (by omega),<- HL.o.ps,bE _ _ _ zPB _ (by have:=HXL.o;omega)])
     have HAT:=zh (HKN.o.at m (by omega));have HFL:Zh (flB (aE ms) L (m+1)=cP (flB (aE ms) L m) ((aE ms).getD m zP) (L.places.getD m zPB.1) ((aE ms).getD m zP).bl.length):=rfl;have HRA:Zh (raB (aE ms) L (m+1)=iH (ovr (raB (aE ms) L m) ((L.places.getD m zPB.1).data-65536).toNat ((aE ms).getD m zP).dz) ((L.places.getD m zPB.1).data-65536).toNat ((aE ms).getD m zP).rz (L.places.getD m zPB.1).data ((aE ms).getD m zP).rz.length):=rfl;have HVL:=zh (HKN.o.v m (by omega));rw [HKN.o.place m (by omega),<- HPP.o,HPM.o] at HFL HRA;rw [<- HPP.o,HPM.o,HFR.o.1,HFR.o.2] at HAT;rw [HPM.o] at HVL;clear HPM HPP;generalize hFZ:flB (aE ms) L (m+1)=FZ at HFL;generalize hRZ:raB (aE ms) L (m+1)=RZ at HRA;have HFZ:=zh (xA hFZ hRZ);clear hFZ hRZ;generalize flB (aE ms) L m=fz at *;generalize raB (aE ms) L m=rz at *;unfold svP at z1;generalize xs.getD m zPB=x at *;obtain ⟨⟨xt,xb,xd,xz⟩,xa,xc⟩:=x;generalize ms.getD m aK=M at *;obtain ⟨P,hP⟩:=eqx (M.pm);rw [<- hP] at HFL HRA HAT HVL;have HPE:=zh (show P.tz=M.tz/\P.bl=M.bl.map (fun B=>B.2.2.2)/\P.dz=M.dz/\P.rz=M.rz by rw [hP];exact ⟨rfl,rfl,rfl,rfl⟩);clear hP;obtain ⟨nm,ta,tn,tc,tz,ba,bn,bc,bl,da,dn,dc,dz,bss,ra,rn,rc,rrz,ia,im,ic,ss,ea,en,ec,es⟩:=M;dsimp only at z0 z1 z2 z3 HPB HFL HRA HAT HMD HPE y0 y1 y2 y3 y4 y5 y6 y7;obtain ⟨kt,hkt⟩:∃ kt:Nat,xt=(kt:Int):=⟨xt.toNat,by have:=HAT.o.1.1;omega⟩;obtain ⟨f,hf⟩:∃ f:Nat,xd=65536+(f:Int):=⟨(xd-65536).toNat,by have:=HAT.o.2.2.2.1;omega⟩;subst hkt hf;have HIT:Zh (IS w ta tn tc tz/\BKS w ba bn bc bl/\BS w da dn dc dz/\IS w ra rn rc rrz):=zh ⟨HMD.o.t,HMD.o.b,HMD.o.d,HMD.o.r⟩;have hbl:bl.length=bn:=HIT.o.2.1.1;have htl:tz.length=tn:=HIT.o.1.1;have hdl:dz.length=dn:=HIT.o.2.2.1.1;have hrl:rrz.length=rn:=HIT.o.2.2.2.1;have hPl:P.bl.length=bn:=by rw [HPE.o.2.1,xH];exact hbl
     have hbn4:bn<=4:=by have h1:=(cB HVL.o).2.2.2.1;omega
     have hrn:rn<=16:=by
      have V:=lN (by simp [mB]) (show mdo P.nm P.tz.length P.tz P.bl.length (mB P.bl) P.dz.length P.bss P.rz.length P.rz P.ss.length P.ss P.es.length P.es=0 from HVL.o);have h1:=V.r;rw [HPE.o.2.2.2] at h1;omega
     have hfd:f+dn<=R:=by
      have h1:=HAT.o.2.2.2.2;rw [HPE.o.2.2.1] at h1;omega
     have HRLB:=zh (show ∀ q,q<rn->0<=rrz.getD q 0/\rrz.getD q 0+4<=(dn:Int) from fun q hq=>by
      have h1:=aJb HVL.o q (by rw [HPE.o.2.2.2];omega);rw [HPE.o.2.2.2,HPE.o.2.2.1] at h1
      omega)
     have HPC:=zh (fun (X:qw) (I:It5 w (qL L (some (qR pb po)) xs.length c0 a2 L.slots.length c2 a5 ts.length c5) F R gf gr gm wo.heap.size #[qI (kt:Int),qS xa xb.length xc,qI (65536+(f:Int)),qI xz] fz rz X)=>show qC 217 #[qS (qP gf) F F,.agg (qM nm ta tn tc ba bn bc da dn dc bss ra rn rc ia im ic ea en ec),.agg #[qI (kt:Int),qS xa xb.length xc,qI (65536+(f:Int)),qI xz]] X fun e w'=>e=.returned (.tuple #[])/\It5 w (qL L (some (qR pb po)) xs.length c0 a2 L.slots.length c2 a5 ts.length c5) F R gf gr gm wo.heap.size #[qI (kt:Int),qS xa xb.length xc,qI (65536+(f:Int)),qI xz] FZ rz w' from
      (aCt gf F nm ta tn tc tz ba bn bc bl da dn dc bss ra rn rc ia im ic ea en ec P kt xa xb xc (65536+(f:Int)) xz fz w.heap.size X w HIT.o.1 HIT.o.2.1 HPE.o.1 HPE.o.2.1 HPB.o I.s.be (by have:=I.s.lo;omega) I.s.f hF1 hbn4 (by have h1:=HAT.o.1.2;rw [HPE.o.1] at h1;omega) (by have h1:=HAT.o.2.1;omega) (fun j hj=>by
        have h1:=HAT.o.2.2.1 j (by omega);rw [HPE.o.2.1,fF _ _ _ zB _] at h1;rw [(HIT.o.2.1.2.2.2.1 j hj).1] at h1
        exact h1)).mono (fun e w' he=>⟨he.1,by rw [HFL.o];exact I.setf he.2.1 he.2.2⟩))
     have HPD:=zh (fun (bp:qO) (bl':Nat) (hbp:(f<R/\bp=some (qR gr f)/\bl'=R-f)\/(f=R/\bp=some (qR gr 0)/\bl'=0)) (X:qw) (I:It5 w (qL L (some (qR pb po)) xs.length c0 a2 L.slots.length c2 a5 ts.length c5) F R gf gr gm wo.heap.size #[qI (kt:Int),qS xa xb.length xc,qI (65536+(f:Int)),qI xz] FZ rz X)=>show qC 218 #[qS bp bl' bl',.agg (qM nm ta tn tc ba bn bc da dn dc bss ra rn rc ia im ic ea en ec),qI (65536+(f:Int))] X fun e w'=>e=.returned (.tuple #[])/\It5 w (qL L (some (qR pb po)) xs.length c0 a2 L.slots.length c2 a5 ts.length c5) F R gf gr gm wo.heap.size #[qI (kt:Int),qS xa xb.length xc,qI (65536+(f:Int)),qI xz] FZ RZ w' from
      (aCs gr R f bp bl' nm ta tn tc ba bn bc da dn dc dz bss ra rn rc rrz ia im ic ea en ec rz w.heap.size X w HIT.o.2.2.1 HIT.o.2.2.2 I.s.be (by have:=I.s.lo;omega) I.s.r hR1 hrn hfd HRLB.o hbp).mono (fun e w' he=>⟨he.1,by
        rw [HRA.o,HPE.o.2.2.1,HPE.o.2.2.2,hrl,show ((65536:Int)+(f:Int)-65536).toNat=f by omega]
        exact I.setr he.2.1 he.2.2⟩))
     have I1:It5 w (qL L (some (qR pb po)) xs.length c0 a2 L.slots.length c2 a5 ts.length c5) F R gf gr gm wo.heap.size #[qI (kt:Int),qS xa xb.length xc,qI (65536+(f:Int)),qI xz] fz rz (wo.alloc (.cells #[qI (kt:Int),qS xa xb.length xc,qI (65536+(f:Int)),qI xz] 171)):=⟨S.bw (show qY wo (wo.alloc (.cells #[qI (kt:Int),qS xa xb.length xc,qI (65536+(f:Int)),qI xz] 171)) from bal),Blk.new _ _ _⟩;have HI1:=zh I1;have zz0:=aB S.be z0;have zz1:=aB S.be z1;have zz2:=aB S.be z2;have zz3:=aB S.be z3
     have HCL:=zh (fun (fz rz:qi) (X:qw) (I:It5 w (qL L (some (qR pb po)) xs.length c0 a2 L.slots.length c2 a5 ts.length c5) F R gf gr gm wo.heap.size #[qI (kt:Int),qS xa xb.length xc,qI (65536+(f:Int)),qI xz] fz rz X)=>show (X.cell? (qR b (off+m*8))=some (.string nm)/\X.cell? (qR b (off+m*8+1))=some (qS ta tn tc)/\X.cell? (qR b (off+m*8+2))=some (qS ba bn bc)/\X.cell? (qR b (off+m*8+3))=some (qS da dn dc)/\X.cell? (qR b (off+m*8+4))=some (qI bss)/\X.cell? (qR b (off+m*8+5))=some (qS ra rn rc)/\X.cell? (qR b (off+m*8+6))=some (qS ia im ic)/\X.cell? (qR b (off+m*8+7))=some (qS ea en ec))/\(X.cell? (qR wo.heap.size 0)=some (qI (kt:Int))/\X.cell? (qR wo.heap.size 1)=some (qS xa xb.length xc)/\X.cell? (qR wo.heap.size 2)=some (qI (65536+(f:Int)))/\X.cell? (qR wo.heap.size 3)=some (qI xz))/\X.cell? (qR gm 0)=some (qS (qP gf) F F)/\X.cell? (qR gm 1)=some (qS (qP gr) R R) from
      ⟨⟨aB I.s.be y0,aB I.s.be y1,aB I.s.be y2,aB I.s.be y3,aB I.s.be y4,aB I.s.be y5,aB I.s.be y6,aB I.s.be y7⟩,⟨I.p.cell 0,I.p.cell 1,I.p.cell 2,I.p.cell 3⟩,I.s.km.cell 0,I.s.km.cell 1⟩)
     clear S I1 HAT HVL HPE HMD hbl htl hdl hrl hPl;go_wp2_with fail
     generalize hW1:wo.alloc (.cells #[qI (kt:Int),qS xa xb.length xc,qI (65536+(f:Int)),qI xz] 171)=W1 at *;clear hW1 zz0 zz1 zz2 zz3;obtain ⟨⟨v0,v1,v2,v3,v4,v5,v6,v7⟩,⟨p0,p1,p2,p3⟩,q0,q1⟩:=HCL.o _ _ _ HI1.o
     go_region_held3 (fun w'=>w'.cell? (qR gm 0)=some (qS (qP gf) F F)/\w'.cell? (qR b (off+m*8))=some (.string nm)/\w'.cell? (qR b (off+m*8+1))=some (qS ta tn tc)/\w'.cell? (qR b (off+m*8+2))=some (qS ba bn bc)/\w'.cell? (qR b (off+m*8+3))=some (qS da dn dc)/\w'.cell? (qR b (off+m*8+4))=some (qI bss)/\w'.cell? (qR b (off+m*8+5))=some (qS ra rn rc)/\w'.cell? (qR b (off+m*8+6))=some (qS ia im ic)/\w'.cell? (qR b (off+m*8+7))=some (qS ea en ec)/\w'.cell? (qR wo.heap.size 0)=some (qI (kt:Int))/\w'.cell? (qR wo.heap.size 1)=some (qS xa xb.length xc)/\w'.cell? (qR wo.heap.size 2)=some (qI (65536+(f:Int)))/\w'.cell? (qR wo.heap.size 3)=some (qI xz)) (go_keep)
      (first
        | (go_at_call 217;first
            | with_reducible refine (HPC.o _ HI1.o).mono ?_
            | with_reducible refine (HPC.o _ HI1.o.drew).mono ?_
           rintro e w2 ⟨rfl,hI2⟩;have HI2:=zh hI2;clear hI2
           obtain ⟨⟨r0,r1,r2,r3,r4,r5,r6,r7⟩,⟨t0,t1,t2,t3⟩,u0,u1⟩:=HCL.o _ _ _ HI2.o))
     clear v0 v1 v2 v3 v4 v5 v6 v7 p0 p1 p2 p3 q0 q1 u0;have hff:(65536:Int)+(f:Int)-65536=(f:Int):=by omega
     have hffw:IntKind.i64.wrap ((65536:Int)+(f:Int)-65536)=(f:Int):=by rw [xP,xQ _ (by omega)];omega
     have hffw2:IntKind.i64.wrap (f:Int)=(f:Int):=by rw [xP,xQ _ (by omega)]
     have f0':(0:Int)<=(f:Int):=by omega
     have f1':(f:Int)<=(R:Int):=by omega
     by_cases hfl:f<R
     .have hfl':(f:Int)<(R:Int):=by omega
      have hfn:¬ (R=f):=by omega
      have HPD0:=zh (HPD.o (some (qR gr f)) (R-f) (.inl ⟨hfl,rfl,rfl⟩));clear HPD;go_wp2_with fail
      go_region_held3 (fun w'=>w'.cell? (qR gm 1)=some (qS (qP gr) R R)/\w'.cell? (qR b (off+m*8))=some (.string nm)/\w'.cell? (qR b (off+m*8+1))=some (qS ta tn tc)/\w'.cell? (qR b (off+m*8+2))=some (qS ba bn bc)/\w'.cell? (qR b (off+m*8+3))=some (qS da dn dc)/\w'.cell? (qR b (off+m*8+4))=some (qI bss)/\w'.cell? (qR b (off+m*8+5))=some (qS ra rn rc)/\w'.cell? (qR b (off+m*8+6))=some (qS ia im ic)/\w'.cell? (qR b (off+m*8+7))=some (qS ea en ec)/\w'.cell? (qR wo.heap.size 2)=some (qI (65536+(f:Int)))) (go_keep)
       (first
         | (go_at_call 218;first
             | with_reducible refine (HPD0.o _ HI2.o).mono ?_
             | with_reducible refine (HPD0.o _ HI2.o.drew).mono ?_
            rintro e w3 ⟨rfl,hI3⟩;have HI3:=zh hI3;clear hI3
            obtain ⟨⟨a0',a1',a2',a3',a4',a5',a6',a7'⟩,⟨b0',b1',b2',b3'⟩,c0',c1'⟩:=HCL.o _ _ _ HI3.o))
      clear a0' a1' a2' a3' a4' a5' a6' a7' b0' b1' b2' b3' c0' c1' r0 r1 r2 r3 r4 r5 r6 r7 t0 t1 t2 t3 u1 hff hffw hffw2;go_wp2
      go_roundw
      .exact ⟨m+1,by omega,by go_num,by rw [HFZ.o.1,HFZ.o.2];exact HI3.o.s⟩
      .simp [qf,intOf];omega
     .obtain rfl:R=f:=by omega
      have HPD0:=zh (HPD.o (qP gr) 0 (.inr ⟨rfl,rfl,rfl⟩));clear HPD;go_wp2_with fail
      go_region_held3 (fun w'=>w'.cell? (qR gm 1)=some (qS (qP gr) R R)/\w'.cell? (qR b (off+m*8))=some (.string nm)/\w'.cell? (qR b (off+m*8+1))=some (qS ta tn tc)/\w'.cell? (qR b (off+m*8+2))=some (qS ba bn bc)/\w'.cell? (qR b (off+m*8+3))=some (qS da dn dc)/\w'.cell? (qR b (off+m*8+4))=some (qI bss)/\w'.cell? (qR b (off+m*8+5))=some (qS ra rn rc)/\w'.cell? (qR b (off+m*8+6))=some (qS ia im ic)/\w'.cell? (qR b (off+m*8+7))=some (qS ea en ec)/\w'.cell? (qR wo.heap.size 2)=some (qI (65536+(R:Int)))) (go_keep)
       (first
         | (go_at_call 218;first
             | with_reducible refine (HPD0.o _ HI2.o).mono ?_
             | with_reducible refine (HPD0.o _ HI2.o.drew).mono ?_
            rintro e w3 ⟨rfl,hI3⟩;have HI3:=zh hI3;clear hI3
            obtain ⟨⟨a0',a1',a2',a3',a4',a5',a6',a7'⟩,⟨b0',b1',b2',b3'⟩,c0',c1'⟩:=HCL.o _ _ _ HI3.o))
      clear a0' a1' a2' a3' a4' a5' a6' a7' b0' b1' b2' b3' c0' c1' r0 r1 r2 r3 r4 r5 r6 r7 t0 t1 t2 t3 u1 hff hffw hffw2;go_wp2
      go_roundw
      .exact ⟨m+1,by omega,by go_num,by rw [HFZ.o.1,HFZ.o.2];exact HI3.o.s⟩
      .simp [qf,intOf];omega
    .have e:Zh (m=n):=by show m=n;omega
     obtain ⟨q0,q1,q2⟩:wo.cell? ⟨gm,0,none⟩=some (qS (qP gf) F F)/\wo.cell? ⟨gm,1,none⟩=some (qS (qP gr) R R)/\wo.cell? ⟨gm,2,none⟩=some (qS none 0 0):=⟨S.km.cell 0,S.km.cell 1,S.km.cell 2⟩;obtain ⟨p0,p1,p2⟩:wo.cell? ⟨w.heap.size+1,0,none⟩=some (qS none 0 0)/\wo.cell? ⟨w.heap.size+1,1,none⟩=some (qS none 0 0)/\wo.cell? ⟨w.heap.size+1,2,none⟩=some (qS none 0 0):=⟨S.kr.cell 0,S.kr.cell 1,S.kr.cell 2⟩;have pf:=S.kr.frozen;have hmx:¬ ((m:Int)<(xs.length:Int)):=by have:=HXL.o;omega
     have T:Turn (fun j=>j=w.heap.size+1) wo (((wo.setCell (qR (w.heap.size+1) 0) (qS (qP gf) F F)).setCell (qR (w.heap.size+1) 1) (qS (qP gr) R R)).setCell (qR (w.heap.size+1) 2) (qS none 0 0)):=((aC _ _ _ _).trans (aC _ _ _ _)).trans (aC _ _ _ _)
     have HE:=zh (show ImM w (aE ms) L (.returned (.tuple #[.agg (qV (qP gf) F F (qP gr) R R none 0 0),.bool true])) (((wo.setCell (qR (w.heap.size+1) 0) (qS (qP gf) F F)).setCell (qR (w.heap.size+1) 1) (qS (qP gr) R R)).setCell (qR (w.heap.size+1) 2) (qS none 0 0)) from by
      have hlo:=S.lo;refine ⟨aG S.be T (fun k e=>by omega) S.be.size,some (qR gf 0),F,F,some (qR gr 0),R,R,none,0,0,by rw [xR HOK.o],?_⟩;unfold imF imR;rw [if_pos HOK.o,if_pos HOK.o,hpl,<- e.o];refine ⟨aU T S.f (fun k hk s=>by simp [Value.ownBlock] at hk;omega),aU T S.r (fun k hk s=>by simp [Value.ownBlock] at hk;omega),⟨⟨rfl,.inl ⟨rfl,rfl⟩⟩,by simp⟩,?_,?_,?_⟩
      all_goals
       intro k hk;have hne:=S.ne;simp [Value.ownBlock] at hk ⊢
       try omega)
     have k3:=dD (v0:=qS (qP gf) F F) (v1:=qS (qP gr) R R) (v2:=qS none 0 0) S.kr;have s0:=k3.cell 0;have s1:=k3.cell 1;have s2:=k3.cell 2;simp only [List.getElem?_toArray,List.getElem?_cons_zero,List.getElem?_cons_succ] at s0 s1 s2;clear S T k3;go_wp2;exact bodyPost_ret (v:=.tuple #[.agg (qV (qP gf) F F (qP gr) R R none 0 0),.bool true]) (by simp [results,results191,go_sem,s0,s1,s2]) rfl HE.o
 .rw [xS hok]
  have HE:=zh (show ∀ W',qY w W'->ImM w (aE ms) L (.returned (.tuple #[.agg (qV none 0 0 none 0 0 none 0 0),.bool false])) W' from fun W' hb=>by
   refine ⟨hb,none,0,0,none,0,0,none,0,0,by rw [xS hok],?_⟩;unfold imF imR;rw [if_neg hok,if_neg hok];refine ⟨⟨⟨rfl,.inl ⟨rfl,rfl⟩⟩,by simp⟩,⟨⟨rfl,.inl ⟨rfl,rfl⟩⟩,by simp⟩,⟨⟨rfl,.inl ⟨rfl,rfl⟩⟩,by simp⟩,?_,?_,?_⟩
   all_goals
    intro k hk
    simp [Value.ownBlock] at hk)
  have k3:=dD (v0:=qS none 0 0) (v1:=qS none 0 0) (v2:=qS none 0 0) kr1;have s0:=k3.cell 0;have s1:=k3.cell 1;have s2:=k3.cell 2;simp only [List.getElem?_toArray,List.getElem?_cons_zero,List.getElem?_cons_succ] at s0 s1 s2;have T:Turn (fun j=>j=w.heap.size+1) w1 (((w1.setCell (qR (w.heap.size+1) 0) (qS none 0 0)).setCell (qR (w.heap.size+1) 1) (qS none 0 0)).setCell (qR (w.heap.size+1) 2) (qS none 0 0)):=((aC _ _ _ _).trans (aC _ _ _ _)).trans (aC _ _ _ _);have HB:=zh (aG B1 T (fun k e=>by omega) B1.size);obtain ⟨p0,p1,p2⟩:w1.cell? ⟨w.heap.size+1,0,none⟩=some (qS none 0 0)/\w1.cell? ⟨w.heap.size+1,1,none⟩=some (qS none 0 0)/\w1.cell? ⟨w.heap.size+1,2,none⟩=some (qS none 0 0):=⟨kr1.cell 0,kr1.cell 1,kr1.cell 2⟩;have pf:=kr1.frozen;clear T k3 kl1 kr1 B1 hok HRL HM HL;go_wp2;exact bodyPost_ret (v:=.tuple #[.agg (qV none 0 0 none 0 0 none 0 0),.bool false]) (by simp [results,results191,go_sem,s0,s1,s2]) rfl (HE.o _ HB.o)
def eH (k i:Nat):SlT:=(decide ((k+4*i)%3=0),((k+4*i+1:Nat):Int),((k+4*i+2:Nat):Int),((k+4*i+3:Nat):Int))
theorem tN (g n cap base:Nat)(zs:List SlT)(k:Nat)(w:qw)(h:OG 142 4 bY w base (qS (qP g) n cap) zs)(hn:n<=5000000)(hk:k<=20000000):
 qC 51 #[qS (qP g) n cap,qI k] w fun e w'=>e=.returned (qI ((k+4*n:Nat):Int))/\OG 142 4 bY w' base (qS (qP g) n cap) (lZ (eH k) n)/\Turn (fun j=>j=g) w w':=by
 have hl:=(aS h).1;go_enter func51,ntmps51
 go_wp2;go_loopw [1,5] (fun x i wr=>∃ m:Nat,m<=n/\i=qI m/\x=qI ((k+4*m:Nat):Int)/\OG 142 4 bY wr base (qS (qP g) n cap) (qF zSl zs (eH k) m)/\Turn (fun j=>j=g) w wr) (fun _ i _=>n-(intOf i).toNat)
 .exact ⟨0,xC _,rfl,rfl,by rw [yS];exact h,Turn.refl _ _⟩
 .obtain ⟨m,hm,rfl,rfl,O,T⟩:=hrel;by_cases hlt:m<n
  .have hlt':(m:Int)<(n:Int):=by omega
   obtain ⟨g',hg',hc⟩:=oL bO zSl O m hlt;simp at hg';subst hg';have c0:wr.cell? (qR g (m*4))=_:=hc 0 (by omega) _ rfl;have c1:wr.cell? (qR g (m*4+1))=_:=hc 1 (by omega) _ rfl;have c2:wr.cell? (qR g (m*4+2))=_:=hc 2 (by omega) _ rfl;have c3:wr.cell? (qR g (m*4+3))=_:=hc 3 (by omega) _ rfl;obtain ⟨cur,hb⟩:=aD O rfl;have f0:wr.frozen? (qR g (m*4))=false:=hb.frozen (m*4);have f1:wr.frozen? (qR g (m*4+1))=false:=hb.frozen (m*4+1);have f2:wr.frozen? (qR g (m*4+2))=false:=hb.frozen (m*4+2);have f3:wr.frozen? (qR g (m*4+3))=false:=hb.frozen (m*4+3)
   have HX:=zh (fun (v0 v1 v2 v3:Value) (hv:bY (eH k m)=[v0,v1,v2,v3])=>by
    have O2:=aA4 bO O m hlt (eH k m) v0 v1 v2 v3 hv;rw [aC7 zSl zs (eH k) m (by omega)] at O2;have T2:=(((T.trans (aC wr g (m*4) v0)).trans (aC _ g (m*4+1) v1)).trans (aC _ g (m*4+2) v2)).trans (aC _ g (m*4+3) v3)
    exact xA O2 T2)
   clear O T hb hc;go_wp2
   go_roundw
   .exact ⟨m+1,by omega,by go_num,by go_num,(HX.o _ _ _ _ (by simp only [bY,eH,List.cons.injEq,Value.int.injEq,Value.bool.injEq,true_and,and_true];refine ⟨?_,?_,?_,?_⟩<;>first|rfl|(push_cast;omega)|omega|(rw [xJ];simp only [decide_eq_true_iff,beq_iff_eq];omega))).1,(HX.o _ _ _ _ (by simp only [bY,eH,List.cons.injEq,Value.int.injEq,Value.bool.injEq,true_and,and_true];refine ⟨?_,?_,?_,?_⟩<;>first|rfl|(push_cast;omega)|omega|(rw [xJ];simp only [decide_eq_true_iff,beq_iff_eq];omega))).2⟩
   .simp [intOf];omega
  .have e:Zh (m=n):=by show m=n;omega
   have HX:=zh (xA O T);clear O T;go_wp2;go_ret;refine ⟨aI (by rw [e.o]),?_,HX.o.2⟩;have:=HX.o.1;rw [e.o,<- hl,aC8] at this;rw [hl] at this;exact this
theorem tM (a:qO)(cap k:Nat)(w:qw):
 qC 51 #[qS a 0 cap,qI k] w fun e w'=>e=.returned (qI k)/\w=w':=by
 go_enter func51,ntmps51
 go_wp2;go_loop [1,5] (fun x i=>i=qI 0/\x=qI k) (fun _ _=>0)
 .exact ⟨rfl,rfl⟩
 .obtain ⟨rfl,rfl⟩:=hrel;go_wp2;go_ret;exact ⟨rfl,rfl⟩
theorem mG (a:qO)(n cap base:Nat)(zs:List SlT)(k:Nat)(w:qw)(h:OG 142 4 bY w base (qS a n cap) zs)(hn:n<=5000000)(hk:k<=20000000):
 qC 51 #[qS a n cap,qI k] w fun e w'=>e=.returned (qI ((k+4*n:Nat):Int))/\OG 142 4 bY w' base (qS a n cap) (lZ (eH k) n)/\Turn (fun j=>(qS a n cap).ownBlock=some j) w w':=by
 by_cases h1:n=0
 .subst h1;refine (tM a cap k w).mono fun e w' he=>?_;obtain ⟨rfl,rfl⟩:=he;have hz:zs=[]:=xE (aS h).1;subst hz;exact ⟨rfl,h,Turn.refl _ _⟩
 .obtain ⟨g,rfl⟩:=gQ h h1;refine (tN g n cap base zs k w h hn hk).mono fun e w' he=>⟨he.1,he.2.1,he.2.2.mono ?_⟩;intro j hj;subst hj;rfl
theorem wO (a:qO)(n cap base:Nat)(k:Nat)(w:qw)(h:OG 142 4 bY w base (qS a n cap) (lZ (eH k) n))(hn:n<=5000000)(hk:k<=20000000):
 qC 56 #[qS a n cap,qI k] w fun e w'=>e=.returned (qI ((k+4*n:Nat):Int))/\w=w':=by
 have HO:=zh h;clear h;go_enter func56,ntmps56
 go_wp2;go_loop [1,5] (fun x i=>∃ m:Nat,m<=n/\i=qI m/\x=qI ((k+4*m:Nat):Int)) (fun _ i=>n-(intOf i).toNat)
 .exact ⟨0,xC _,rfl,rfl⟩
 .obtain ⟨m,hm,rfl,rfl⟩:=hrel;by_cases hlt:m<n
  .have hlt':(m:Int)<(n:Int):=by omega
   obtain ⟨g,rfl,hc⟩:=oL bO zSl HO.o m hlt;rw [aGw zSl (eH k) n m hlt] at hc;have c0:w.cell? (qR g (m*4))=_:=hc 0 (by omega) _ rfl;have c1:w.cell? (qR g (m*4+1))=_:=hc 1 (by omega) _ rfl;have c2:w.cell? (qR g (m*4+2))=_:=hc 2 (by omega) _ rfl;have c3:w.cell? (qR g (m*4+3))=_:=hc 3 (by omega) _ rfl;unfold eH at c0 c1 c2 c3;dsimp only at c0 c1 c2 c3;obtain ⟨K,hK⟩:∃ K:Nat,K=k+4*m:=⟨_,rfl⟩;have HK:=zh hK;have hKb:K<=40000000:=by omega
   rw [<- hK] at c0 c1 c2 c3 ⊢;clear hK hc;have e0:(decide (K%3=0) !=decide (K%3=0))=false:=by first|simp|(simp;omega)
   have e1:((K:Int)+1 !=((K+1:Nat):Int))=false:=by simp
   have e2:((K:Int)+1+1 !=((K+2:Nat):Int))=false:=by simp;omega
   have e3:((K:Int)+1+1+1 !=((K+3:Nat):Int))=false:=by simp;omega
   have e9:((K:Int)%3==0)=decide (K%3=0):=by rw [xJ];simp only [decide_eq_true_iff,beq_iff_eq];omega
   have e8:(decide (K%3=0) !=((K:Int)%3==0))=false:=by rw [e9];simp
   go_wp2
   go_round
   .exact ⟨m+1,by omega,by go_num,by rw [HK.o];go_num⟩
   .simp [intOf];omega
  .have e:Zh (m=n):=by show m=n;omega
   go_wp2;go_ret;exact ⟨aI (by rw [e.o]),rfl⟩
def dF (k i:Nat):FrT:=(((k+4*i:Nat):Int),((k+4*i+1:Nat):Int),((k+4*i+2:Nat):Int),((k+4*i+3:Nat):Int))
theorem qU (g n cap base:Nat)(zs:List FrT)(k:Nat)(w:qw)(h:OG 135 4 bC w base (qS (qP g) n cap) zs)(hn:n<=5000000)(hk:k<=20000000):
 qC 52 #[qS (qP g) n cap,qI k] w fun e w'=>e=.returned (qI ((k+4*n:Nat):Int))/\OG 135 4 bC w' base (qS (qP g) n cap) (lZ (dF k) n)/\Turn (fun j=>j=g) w w':=by
 have hl:=(aS h).1;go_enter func52,ntmps52
 go_wp2;go_loopw [1,5] (fun x i wr=>∃ m:Nat,m<=n/\i=qI m/\x=qI ((k+4*m:Nat):Int)/\OG 135 4 bC wr base (qS (qP g) n cap) (qF zFr zs (dF k) m)/\Turn (fun j=>j=g) w wr) (fun _ i _=>n-(intOf i).toNat)
 .exact ⟨0,xC _,rfl,rfl,by rw [yS];exact h,Turn.refl _ _⟩
 .obtain ⟨m,hm,rfl,rfl,O,T⟩:=hrel;by_cases hlt:m<n
  .have hlt':(m:Int)<(n:Int):=by omega
   obtain ⟨g',hg',hc⟩:=oL dJ zFr O m hlt;simp at hg';subst hg';have c0:wr.cell? (qR g (m*4))=_:=hc 0 (by omega) _ rfl;have c1:wr.cell? (qR g (m*4+1))=_:=hc 1 (by omega) _ rfl;have c2:wr.cell? (qR g (m*4+2))=_:=hc 2 (by omega) _ rfl;have c3:wr.cell? (qR g (m*4+3))=_:=hc 3 (by omega) _ rfl;obtain ⟨cur,hb⟩:=aD O rfl;have f0:wr.frozen? (qR g (m*4))=false:=hb.frozen (m*4);have f1:wr.frozen? (qR g (m*4+1))=false:=hb.frozen (m*4+1);have f2:wr.frozen? (qR g (m*4+2))=false:=hb.frozen (m*4+2);have f3:wr.frozen? (qR g (m*4+3))=false:=hb.frozen (m*4+3)
   have HX:=zh (fun (v0 v1 v2 v3:Value) (hv:bC (dF k m)=[v0,v1,v2,v3])=>by
    have O2:=aA4 dJ O m hlt (dF k m) v0 v1 v2 v3 hv;rw [aC7 zFr zs (dF k) m (by omega)] at O2;have T2:=(((T.trans (aC wr g (m*4) v0)).trans (aC _ g (m*4+1) v1)).trans (aC _ g (m*4+2) v2)).trans (aC _ g (m*4+3) v3)
    exact xA O2 T2)
   clear O T hb hc;go_wp2
   go_roundw
   .exact ⟨m+1,by omega,by go_num,by go_num,(HX.o _ _ _ _ (by simp only [bC,dF,List.cons.injEq,Value.int.injEq,true_and,and_true];refine ⟨?_,?_,?_,?_⟩<;>first|rfl|(push_cast;omega)|omega)).1,(HX.o _ _ _ _ (by simp only [bC,dF,List.cons.injEq,Value.int.injEq,true_and,and_true];refine ⟨?_,?_,?_,?_⟩<;>first|rfl|(push_cast;omega)|omega)).2⟩
   .simp [intOf];omega
  .have e:Zh (m=n):=by show m=n;omega
   have HX:=zh (xA O T);clear O T;go_wp2;go_ret;refine ⟨aI (by rw [e.o]),?_,HX.o.2⟩;have:=HX.o.1;rw [e.o,<- hl,aC8] at this;rw [hl] at this;exact this
theorem qQ (a:qO)(cap k:Nat)(w:qw):
 qC 52 #[qS a 0 cap,qI k] w fun e w'=>e=.returned (qI k)/\w=w':=by
 go_enter func52,ntmps52
 go_wp2;go_loop [1,5] (fun x i=>i=qI 0/\x=qI k) (fun _ _=>0)
 .exact ⟨rfl,rfl⟩
 .obtain ⟨rfl,rfl⟩:=hrel;go_wp2;go_ret;exact ⟨rfl,rfl⟩
theorem kY (a:qO)(n cap base:Nat)(zs:List FrT)(k:Nat)(w:qw)(h:OG 135 4 bC w base (qS a n cap) zs)(hn:n<=5000000)(hk:k<=20000000):
 qC 52 #[qS a n cap,qI k] w fun e w'=>e=.returned (qI ((k+4*n:Nat):Int))/\OG 135 4 bC w' base (qS a n cap) (lZ (dF k) n)/\Turn (fun j=>(qS a n cap).ownBlock=some j) w w':=by
 by_cases h1:n=0
 .subst h1;refine (qQ a cap k w).mono fun e w' he=>?_;obtain ⟨rfl,rfl⟩:=he;have hz:zs=[]:=xE (aS h).1;subst hz;exact ⟨rfl,h,Turn.refl _ _⟩
 .obtain ⟨g,rfl⟩:=gQ h h1;refine (qU g n cap base zs k w h hn hk).mono fun e w' he=>⟨he.1,he.2.1,he.2.2.mono ?_⟩;intro j hj;subst hj;rfl
theorem uF (a:qO)(n cap base:Nat)(k:Nat)(w:qw)(h:OG 135 4 bC w base (qS a n cap) (lZ (dF k) n))(hn:n<=5000000)(hk:k<=20000000):
 qC 57 #[qS a n cap,qI k] w fun e w'=>e=.returned (qI ((k+4*n:Nat):Int))/\w=w':=by
 have HO:=zh h;clear h;go_enter func57,ntmps57
 go_wp2;go_loop [1,5] (fun x i=>∃ m:Nat,m<=n/\i=qI m/\x=qI ((k+4*m:Nat):Int)) (fun _ i=>n-(intOf i).toNat)
 .exact ⟨0,xC _,rfl,rfl⟩
 .obtain ⟨m,hm,rfl,rfl⟩:=hrel;by_cases hlt:m<n
  .have hlt':(m:Int)<(n:Int):=by omega
   obtain ⟨g,rfl,hc⟩:=oL dJ zFr HO.o m hlt;rw [aGw zFr (dF k) n m hlt] at hc;have c0:w.cell? (qR g (m*4))=_:=hc 0 (by omega) _ rfl;have c1:w.cell? (qR g (m*4+1))=_:=hc 1 (by omega) _ rfl;have c2:w.cell? (qR g (m*4+2))=_:=hc 2 (by omega) _ rfl;have c3:w.cell? (qR g (m*4+3))=_:=hc 3 (by omega) _ rfl;unfold dF at c0 c1 c2 c3;dsimp only at c0 c1 c2 c3;obtain ⟨K,hK⟩:∃ K:Nat,K=k+4*m:=⟨_,rfl⟩;have HK:=zh hK;have hKb:K<=40000000:=by omega
   rw [<- hK] at c0 c1 c2 c3 ⊢;clear hK hc;have e0:((K:Int) !=(K:Int))=false:=by first|simp|(simp;omega)
   have e1:((K:Int)+1 !=((K+1:Nat):Int))=false:=by simp
   have e2:((K:Int)+1+1 !=((K+2:Nat):Int))=false:=by simp;omega
   have e3:((K:Int)+1+1+1 !=((K+3:Nat):Int))=false:=by simp;omega
   go_wp2
   go_round
   .exact ⟨m+1,by omega,by go_num,by rw [HK.o];go_num⟩
   .simp [intOf];omega
  .have e:Zh (m=n):=by show m=n;omega
   go_wp2;go_ret;exact ⟨aI (by rw [e.o]),rfl⟩
def plR (ps:List PMod)(L:Lay)(m b s:Int):List Rg:=(([]++rts true true false (cvL (plc ps m.toNat).data (plc ps m.toNat).size))++rts true true false (cvL L.stack (dB L-L.stack))++rts false true false (cvL 131072 32))++rts false false true (cvL (dY L (plc ps m.toNat) b s) (rnd (4*pcq ps m b)))
theorem sT {w:qw}{base base':Nat}(h:ORg w base v rs)(hb:base'<=base):ORg w base' v rs:=by
 refine ⟨?_,h.2⟩;obtain ⟨hl,h0|⟨g',cap,cur,hv,hg,hh,h1,h2,h3,h4⟩⟩:=h.1
 .exact ⟨hl,.inl h0⟩
 .exact ⟨hl,.inr ⟨g',cap,cur,hv,xM hb hg,hh,h1,h2,h3,h4⟩⟩
structure PlZ (V X:qw)(v:Value)(rs:List Rg):Prop where
 b:qY V X
 o:ORg X V.heap.size v rs
theorem PlZ.bw {V X X':qw}(h:PlZ V X v rs)(hb:qY X X'):PlZ V X' v rs:=⟨h.b.trans (hb.mono h.b.size),eZ (aJ hb) h.o (fun _ _ h=>h)⟩
theorem PlZ.drew {V X:qw}(h:PlZ V X v rs):PlZ V X.drew v rs:=h.bw brf.drew
theorem nP {V:qw}(A:qO)(m cap:Nat)(rs:List Rg)(f s:Int)(r x y:Bool)(X:qw)(h:PlZ V X (qS A m cap) rs)(hf:wfi f)(hs:wfi s)(hm:m<=1000000):
 qC 183 #[qS A m cap,qI f,qI s,.bool r,.bool x,.bool y] X fun e w'=>∃ A' m' cap',e=.returned (qS A' m' cap')/\m'<=m+8192/\PlZ V w' (qS A' m' cap') (rs++rts r x y (cvL f s)):=
 (aE9 A m cap rs f s r x y V.heap.size X h.b.size h.o hf hs hm).mono fun e w' ⟨A',m',cap',he,hm',ho,hb⟩=>⟨A',m',cap',he,by have:=rX f s;omega,h.b.trans hb,ho⟩
theorem aCy {w:qw}{L:Lay}{a0:qO}{c0:Nat}{xs:List PB}{a2:qO}{c2:Nat}{a5:qO}{c5:Nat}{ts:List TB}{ps:List PMod}{m b s:Int}
 (hL:LyT w L a0 c0 xs a2 c2 a5 c5 ts) (hk:Lok ps L) (hp:0<=pcq ps m b) (hs:s=-1\/(b≠-1/\0<=s/\s<(L.slots.length:Int))):wfi (gB L (xs.getD m.toNat zPB) b s):=by
 have Q:=mS (s:=s) hL hk hp;have K:=kZ hk;have hm:=Q.m2;have hm0:=Q.m0;have hv:=K.v m.toNat (by omega);have n4:=K.n.2;have r1:=cO K.v m.toNat (by omega);have r2:=eC hv;have n5:(m.toNat:Int)<=4:=by omega
 unfold gB;rw [Q.p];by_cases c:b=-1
 .rw [if_pos c];have e:(plc ps m.toNat).text=Fl ps m.toNat:=rfl;rw [e];unfold wfi;omega
 .rw [if_neg c];by_cases c2:s=-1
  .rw [if_pos c2];have hb:=Q.bb.resolve_left c;rw [Q.p] at hb;have hl:(plc ps m.toNat).banks.length=(ps.getD m.toNat zP).bl.length:=by simp [plc]
   have hbn:b.toNat<(ps.getD m.toNat zP).bl.length:=by rw [hl] at hb;omega
   have e:(plc ps m.toNat).banks.getD b.toNat 0=Fl ps m.toNat+tsz (ps.getD m.toNat zP)+cC (ps.getD m.toNat zP) b.toNat:=by
    simp only [plc];rw [fF _ _ _ 0 _ (by rw [List.length_range];exact hbn),show (List.range (ps.getD m.toNat zP).bl.length).getD b.toNat 0=b.toNat by rw [xB,List.getElem?_range hbn];rfl]
   have r3:=cE hv b.toNat (by omega);obtain ⟨_,_,_,v4,_⟩:=cB hv;rw [e];unfold wfi;omega
  .rw [if_neg c2];have h2:=hs.resolve_left c2;exact hL.s.2.2.1 _ (zG (by omega))
theorem aFa (a:qO)(n cap:Nat)(ms:List Md)(L:Lay)(a0:qO)(c0:Nat)(xs:List PB)(a2:qO)(c2:Nat)(a5:qO)(c5:Nat)(ts:List TB)(m b at' s:Int)(w:qw)(h:MSD w a n cap ms)(hL:LyT w L a0 c0 xs a2 c2 a5 c5 ts)
 (hk:Lok (aE ms) L) (hp:0<=pcq (aE ms) m b) (hs:s=-1\/(b≠-1/\0<=s/\s<(L.slots.length:Int))):
 qC 143 #[qS a n cap,.agg (qJ L a0 xs c0 a2 c2 a5 ts c5),.agg (qT m b at'),qI s] w fun e w'=>∃ A k c,e=.returned (qS A k c)/\ORg w' w.heap.size (qS A k c) (plR (aE ms) L m b s)/\qY w w':=by
 have K:=mS (s:=s) hL hk hp;have hn:=h.s.1;have hlen:=bT ms;obtain ⟨m0,m1,m2,hpl,hbb,hw,hd,hst,hen⟩:=K;have hwfo:wfi (gB L (xs.getD m.toNat zPB) b s):=aCy hL hk hp hs;have HPQ:=zh (dX h m b);obtain ⟨W,hW⟩:=eqx ((w.alloc (.cells (qJ L a0 xs c0 a2 c2 a5 ts c5) 71)).alloc (.cells (qT m b at') 58));have hB:qY w W:=by rw [hW];exact bal.alloc (by simp) _
 have k0:Blk W w.heap.size (qJ L a0 xs c0 a2 c2 a5 ts c5) 71:=by rw [hW];exact (Blk.new w _ _).alloc _
 have k1:Blk W (w.heap.size+1) (qT m b at') 58:=by rw [hW];have:=Blk.new (w.alloc (.cells (qJ L a0 xs c0 a2 c2 a5 ts c5) 71)) (qT m b at') 58;simpa using this
 have h1:=h.bw hB;have hL1:=hL.bw hB;obtain ⟨gp,op,rfl,q0,q1,q2,q3⟩:=hL1.p.at m.toNat (by omega);unfold svP at q1;have hpx:=hL1.p.2.1;unfold maxLen at hpx;have d0:=k0.e0;have t0:=k1.e0;obtain ⟨P,hP⟩:=eqx (xs.getD m.toNat zPB);rw [<- hP] at q0 q1 q2 q3 hpl hbb hwfo;rw [<- hpl] at hd;obtain ⟨⟨tx,bk,dt,sz⟩,pa,pc⟩:=P;dsimp only at q0 q1 q2 q3 hpl hbb hd;have HP:=zh hP;obtain ⟨hd1,hd2,hd3,hd4⟩:=hd;obtain ⟨st1,st2⟩:=hst;obtain ⟨en1,en2⟩:=hen;obtain ⟨q,hq⟩:=eqx (pcq (aE ms) m b);have HQ:=zh hq
 have HRS:=zh (show plR (aE ms) L m b s=(([]++rts true true false (cvL dt sz))++rts true true false (cvL L.stack (dB L-L.stack))++rts false true false (cvL 131072 32))++rts false false true (cvL (gB L ((⟨tx,bk,dt,sz⟩,pa,pc):PB) b s) (rnd (4*q))) from by
  unfold plR;rw [<- hpl,hq]
  rfl)
 rw [HRS.o];rw [<- hq] at hw hp;clear HRS;obtain ⟨V,hV,bV,kV⟩:=nwb W #[qI tx,qS pa bk.length pc,qI dt,qI sz] 171;have k0':=k0.bw bV;have k1':=k1.bw bV;have HBV:=zh (hB.trans (bV.mono hB.size));have h2:=h1.bw bV;have hL2:=hL1.bw bV;have HW:=zh hW;have HV:=zh hV;have HM:=zh h2;have HL2:=zh hL2;have HK0:=zh (xA k0' (xA k1' kV));clear hW hV k0 k1 h h1 hL hL1 hB bV k0' k1' kV hP hpl hq;go_enter func143,ntmps143
 go_wp2_with (first|rw [<- HW.o]|rw [<- HV.o])
 obtain ⟨gm,om,rfl,v0,v1,v2,v3,v4,v5,v6,v7⟩:=HM.o.s.at m.toNat (by omega);have hmt:=HM.o.s.2.2.2.1 m.toNat (by omega)
 have hqn:pcn (ms.getD m.toNat aK).tn (ms.getD m.toNat aK).bn (ms.getD m.toNat aK).bl b=q:=by
  rw [HQ.o,<- HPQ.o];unfold pcm;rw [if_pos (by omega)]
 generalize ms.getD m.toNat aK=M at *
 have HPC:=zh (show ∀ X,qY V X->qC 115 #[.agg (qM M.nm M.ta M.tn M.tc M.ba M.bn M.bc M.da M.dn M.dc M.bss M.ra M.rn M.rc M.ia M.im M.ic M.ea M.en M.ec),qI b] X (fun e w'=>∃ xa xn xc,e=.returned (.tuple #[qS xa xn xc,.bool true])/\(xn:Int)=q/\qY V w') from fun X hX=>
  (gS M.nm M.ta M.tn M.tc M.ba M.bn M.bc M.bl (qS M.da M.dn M.dc) (qS M.ra M.rn M.rc) (qS M.ia M.im M.ic) (qS M.ea M.en M.ec) M.bss b X hmt.t.2.1 (hmt.b.bw hX)).mono fun e w' ⟨xa,xn,xc,ok,he,ho,hx,_,hb⟩=>by
    have ho':ok=true:=by rw [ho,hqn];simp;omega
    exact ⟨xa,xn,xc,by rw [he,ho'],by rw [hx ho',hqn],hX.trans (hb.mono hX.size)⟩)
 obtain ⟨x0,x1,x2,x3,x4,x5⟩:=HK0.o.1.ly6;have y0:=HK0.o.2.1.e0;have y1:=HK0.o.2.1.e1;have hmx:=HM.o.s.2.1;unfold maxLen at hmx;have hmn:m<(n:Int):=by omega
 clear q0 q1 q2 q3 d0 t0 hmt hqn hlen hn
 go_region_held3 (fun w'=>w'.cell? (qR (w.heap.size+1) 0)=some (qI m)/\w'.cell? (qR (w.heap.size+1) 1)=some (qI b)/\w'.cell? (qR gm (om+m.toNat*8))=some (.string M.nm)/\w'.cell? (qR gm (om+m.toNat*8+1))=some (qS M.ta M.tn M.tc)/\w'.cell? (qR gm (om+m.toNat*8+2))=some (qS M.ba M.bn M.bc)/\w'.cell? (qR gm (om+m.toNat*8+3))=some (qS M.da M.dn M.dc)/\w'.cell? (qR gm (om+m.toNat*8+4))=some (qI M.bss)/\w'.cell? (qR gm (om+m.toNat*8+5))=some (qS M.ra M.rn M.rc)/\w'.cell? (qR gm (om+m.toNat*8+6))=some (qS M.ia M.im M.ic)/\w'.cell? (qR gm (om+m.toNat*8+7))=some (qS M.ea M.en M.ec)) (go_keep)
  (first
    | (go_at_call 115;first
        | with_reducible refine (HPC.o _ brf).mono ?_
        | with_reducible refine (HPC.o _ brf.drew).mono ?_
       rintro e w1 ⟨xa,xn,xc,rfl,hxn,hb1⟩;have HB1:=zh hb1;have HXN:=zh hxn;have C1:=(HK0.o.2.1.bw hb1).cell 0;have C2:=(HK0.o.2.1.bw hb1).cell 1;have u0:=aB hb1 v0;have u1:=aB hb1 v1;have u2:=aB hb1 v2;have u3:=aB hb1 v3;have u4:=aB hb1 v4;have u5:=aB hb1 v5;have u6:=aB hb1 v6;have u7:=aB hb1 v7
       clear hb1 hxn))
 have HKX:=zh (show ∀ X v rs,PlZ V X v rs->X.cell? (qR W.heap.size 2)=some (qI dt)/\X.cell? (qR W.heap.size 3)=some (qI sz)/\(X.cell? (qR w.heap.size 0)=some (qS (some (qR gp op)) xs.length c0)/\X.cell? (qR w.heap.size 1)=some (qI L.stack)/\X.cell? (qR w.heap.size 2)=some (qS a2 L.slots.length c2)/\X.cell? (qR w.heap.size 3)=some (qI L.flash)/\X.cell? (qR w.heap.size 4)=some (qI L.ram)/\X.cell? (qR w.heap.size 5)=some (qS a5 ts.length c5))/\X.cell? (qR (w.heap.size+1) 0)=some (qI m)/\X.cell? (qR (w.heap.size+1) 1)=some (qI b)/\X.cell? (qR (w.heap.size+1) 2)=some (qI at') from fun X v rs hz=>
  ⟨(HK0.o.2.2.bw hz.b).cell 2,(HK0.o.2.2.bw hz.b).cell 3,(HK0.o.1.bw hz.b).ly6,(HK0.o.2.1.bw hz.b).cell 0,(HK0.o.2.1.bw hz.b).cell 1,(HK0.o.2.1.bw hz.b).cell 2⟩)
 have HEN:Zh (∀ X v rs,PlZ V X v rs->qC 60 #[.agg (qL L (some (qR gp op)) xs.length c0 a2 L.slots.length c2 a5 ts.length c5)] X (fun e w'=>e=.returned (qI (dB L))/\PlZ V w' v rs)):=fun X v rs hz=>(tY L (some (qR gp op)) c0 xs a2 c2 a5 c5 ts X (HL2.o.bw hz.b)).mono fun e w' he=>⟨he.1,hz.bw he.2⟩;have HOR:Zh (∀ X v rs,PlZ V X v rs->qC 119 #[.agg (qL L (some (qR gp op)) xs.length c0 a2 L.slots.length c2 a5 ts.length c5),.agg (qT m b at'),qI s] X (fun e w'=>e=.returned (qI (gB L ((⟨tx,bk,dt,sz⟩,pa,pc):PB) b s))/\PlZ V w' v rs)):=fun X v rs hz=>(jJ L (some (qR gp op)) c0 xs a2 c2 a5 c5 ts m b at' s X (HL2.o.bw hz.b) m0 m1 (by rw [<- HP.o];exact hbb) hs).mono fun e w' he=>⟨by rw [HP.o];exact he.1,hz.bw he.2⟩;generalize hog:gB L ((⟨tx,bk,dt,sz⟩,pa,pc):PB) b s=og at *;generalize hE:dB L=E at *;have HOG:=zh hog;have HE:=zh hE;clear hog hE;have Z0:Zh (PlZ V (w1.alloc (.cells #[] 214)) (qS (qP w1.heap.size) 0 0) []):=⟨HB1.o.alloc HB1.o.size _,sV w1 V.heap.size HB1.o.size⟩;obtain ⟨X1,hX1⟩:=eqx (w1.alloc (.cells #[] 214));rw [<- hX1] at Z0;have HX1:=zh hX1;clear hX1 u0 u1 u2 u3 u4 u5 u6 u7 C1 C2 v0 v1 v2 v3 v4 v5 v6 v7 x0 x1 x2 x3 x4 x5 y0 y1 HPC hbb hs hk;obtain ⟨z2,z3,⟨z4,z5,z6,z7,z8,z9⟩,z10,z11,z12⟩:=HKX.o _ _ _ Z0.o;have HW1:=zh (nP _ _ _ [] dt sz true true false X1 Z0.o (by unfold wfi;omega) (by unfold wfi;omega) (by omega));go_wp2_with (rw [<- HX1.o])
 refine HW1.o.mono ?_;rintro e X2 ⟨A1,k1,p1,rfl,hk1,hz⟩;have Z1:=zh hz;clear hz z2 z3 z4 z5 z6 z7 z8 z9 z10 z11 z12 Z0 HW1 HX1;obtain ⟨z2,z3,⟨z4,z5,z6,z7,z8,z9⟩,z10,z11,z12⟩:=HKX.o _ _ _ Z1.o;have HWR:Zh (IntKind.i64.wrap (E-L.stack)=E-L.stack):=nW;have HW2:Zh (∀ X,PlZ V X (qS A1 k1 p1) ([]++rts true true false (cvL dt sz))->qC 183 #[qS A1 k1 p1,qI L.stack,qI (IntKind.i64.wrap (E-L.stack)),.bool true,.bool true,.bool false] X fun e w'=>∃ A' m' cap',e=.returned (qS A' m' cap')/\m'<=k1+8192/\PlZ V w' (qS A' m' cap') (([]++rts true true false (cvL dt sz))++rts true true false (cvL L.stack (E-L.stack)))):=fun X hX=>by rw [HWR.o];exact nP A1 k1 p1 ([]++rts true true false (cvL dt sz)) L.stack (E-L.stack) true true false X hX (by unfold wfi;omega) (by unfold wfi;omega) (by omega)
 go_wp2_with fail
 go_region_held3 (fun w'=>w'.cell? (qR w.heap.size 0)=some (qS (some (qR gp op)) xs.length c0)/\w'.cell? (qR w.heap.size 1)=some (qI L.stack)/\w'.cell? (qR w.heap.size 2)=some (qS a2 L.slots.length c2)/\w'.cell? (qR w.heap.size 3)=some (qI L.flash)/\w'.cell? (qR w.heap.size 4)=some (qI L.ram)/\w'.cell? (qR w.heap.size 5)=some (qS a5 ts.length c5)) (go_keep)
  (first
    | (go_at_call 60;first
        | with_reducible refine (HEN.o _ _ _ Z1.o).mono ?_
        | with_reducible refine (HEN.o _ _ _ Z1.o.drew).mono ?_
       rintro e w3 ⟨rfl,hz3⟩;have Z3:=zh hz3;clear hz3
       obtain ⟨z2,z3,⟨z4,z5,z6,z7,z8,z9⟩,z10,z11,z12⟩:=HKX.o _ _ _ Z3.o)
    | (go_at_call 183;first
        | with_reducible refine (HW2.o _ Z3.o).mono ?_
        | with_reducible refine (HW2.o _ Z3.o.drew).mono ?_
       rintro e X3 ⟨A2,k2,p2,rfl,hk2,hz⟩;have Z2:=zh hz;clear hz
       obtain ⟨z2,z3,⟨z4,z5,z6,z7,z8,z9⟩,z10,z11,z12⟩:=HKX.o _ _ _ Z2.o))
 clear HW2 Z1 Z3;have HW3:=zh (nP A2 k2 p2 (([]++rts true true false (cvL dt sz))++rts true true false (cvL L.stack (E-L.stack))) 131072 32 false true false X3 Z2.o (by unfold wfi;omega) (by unfold wfi;omega) (by omega));go_wp2_with fail
 refine HW3.o.mono ?_;rintro e X4 ⟨A3,k3,p3,rfl,hk3,hz⟩;have Z4:=zh hz;clear hz Z2 HW3 z2 z3 z4 z5 z6 z7 z8 z9 z10 z11 z12;obtain ⟨z2,z3,⟨z4,z5,z6,z7,z8,z9⟩,z10,z11,z12⟩:=HKX.o _ _ _ Z4.o;have hx2:(xn:Int)<=200:=by rw [HXN.o];exact hw.2
 have HRD:=zh (fun (X:qw)=>dO (4*(xn:Int)) X);go_wp2_with fail
 refine (HOR.o _ _ _ Z4.o).mono ?_;rintro e X5 ⟨rfl,hz⟩;have Z5:=zh hz;clear hz Z4;go_wp2_with fail
 refine (HRD.o _).mono ?_;rintro e X6 ⟨rfl,rfl⟩;have hrd:=aQ (x:=4*(xn:Int));have HW4:=zh (nP A3 k3 p3 ((([]++rts true true false (cvL dt sz))++rts true true false (cvL L.stack (E-L.stack)))++rts false true false (cvL 131072 32)) og (rnd (4*(xn:Int))) false false true _ Z5.o hwfo (by unfold wfi;omega) (by omega));have HRR:=zh (show rnd (4*q)=rnd (4*(xn:Int)) by rw [HXN.o]);generalize rnd (4*(xn:Int))=rr at *;go_wp2_with fail
 refine HW4.o.mono ?_;rintro e X7 ⟨A4,k4,p4,rfl,hk4,hz⟩;have Z7:=zh hz;clear hz;go_wp2;go_ret;exact ⟨A4,k4,p4,rfl,by have e:=HRR.o;have e2:=HE.o;have e3:=HOG.o;rw [e,e2,e3];exact sT Z7.o.o HBV.o.size,HBV.o.trans (Z7.o.b.mono HBV.o.size)⟩
def vG (ps:List PMod)(L:Lay):Prop:=Lok ps L/\∀ m b s:Int,0<=pcq ps m b->sOk L b s->(plR ps L m b s).length<=8
theorem jB (a:qO)(n c:Nat)(xs:List SlT)(m b:Int)(w:qw)(h:QS bY zSl w a n c xs):
 qC 176 #[qS a n c,qI m,qI b] w (qB w (qI (hld xs m b))):=by
 have hl:=h.1;have hmx:=h.2.1;unfold maxLen at hmx;obtain ⟨r,hr⟩:=eqx (hld xs m b);rw [<- hr];have HR:=zh hr;clear hr;go_enter func176,ntmps176
 go_wp2;go_loopw [11] (fun i wr=>∃ k:Nat,k<=n/\i=qI k/\Hid (r=fN m b k (xs.drop k))/\qY w wr) (qf n)
 .exact ⟨0,xC _,rfl,HR,brf⟩
 .obtain ⟨k,hk,rfl,HI,hB⟩:=hrel;clear HR;by_cases hlt:k<n
  .have hlt':(k:Int)<(n:Int):=by omega
   obtain ⟨g,f,rfl,q0,q1,q2,q3⟩:=(h.bw hB).at k hlt _ _ _ _ rfl;have HH:=zh (fun hu=>aDk (m:=m) (b:=b) (show k<xs.length by omega) hu);have HM:=zh (fun hu=>zF (m:=m) (b:=b) (show k<xs.length by omega) hu);generalize xs.getD k zSl=x at *;obtain ⟨x0,x1,x2,x3⟩:=x;dsimp only at q0 q1 q2 q3;have HB:=zh (hB.alloc hB.size (.cells #[.bool x0,qI x1,qI x2,qI x3] 142));clear hB h;by_cases hu:usd m b (x0,x1,x2,x3)
   .have e:=zh (show r=k from by rw [HI.out];exact HH.o hu);obtain ⟨h0,h1,h2⟩:=hu;dsimp only at h0 h1 h2;subst h0 h1 h2;clear HH HM;go_wp2;go_ret;exact ⟨aI e.o.symm,HB.o⟩
   .have HN:=zh (show r=fN m b (k+1) (xs.drop (k+1)) from by rw [HI.out];exact HM.o hu);have hu':¬ (x0=true/\x1=m/\x2=b):=hu;clear HH HM HI hu;cases x0 with
    | false=>
      clear hu';go_wp2
      go_roundw
      .exact ⟨k+1,by omega,by go_num,HN,HB.o⟩
      .simp [qf,intOf];omega
    | true=>
      by_cases c1:x1=m
      .have c2:(x2==b)=false:=by simp;exact fun e=>hu' ⟨rfl,c1,e⟩
       have c1':(x1==m)=true:=by simp [c1]
       clear hu' c1;go_wp2
       go_roundw
       .exact ⟨k+1,by omega,by go_num,HN,HB.o⟩
       .simp [qf,intOf];omega
      .have c1':(x1==m)=false:=by simp [c1]
       clear hu' c1;go_wp2
       go_roundw
       .exact ⟨k+1,by omega,by go_num,HN,HB.o⟩
       .simp [qf,intOf];omega
  .have e:=zh (show r=-1 from by rw [HI.out,List.drop_eq_nil_of_le (by omega)];rfl);have HB:=zh hB;clear hB;go_wp2;go_ret;exact ⟨aI e.o.symm,HB.o⟩
theorem lD (a:qO)(n c:Nat)(xs:List SlT)(m b:Int)(w:qw)(h:QS bY zSl w a n c xs):
 qC 148 #[qS a n c,qI m,qI b] w (qB w (qI (hld xs m b))):=by
 have hl:=h.1;have hmx:=h.2.1;unfold maxLen at hmx;obtain ⟨r,hr⟩:=eqx (hld xs m b);rw [<- hr];have HR:=zh hr;clear hr;go_enter func148,ntmps148
 go_wp2;go_loopw [7] (fun i wr=>∃ k:Nat,k<=n/\i=qI k/\Hid (r=fN m b k (xs.drop k))/\qY w wr) (qf n)
 .exact ⟨0,xC _,rfl,HR,brf⟩
 .obtain ⟨k,hk,rfl,HI,hB⟩:=hrel;clear HR;by_cases hlt:k<n
  .have hlt':(k:Int)<(n:Int):=by omega
   obtain ⟨g,f,rfl,q0,q1,q2,q3⟩:=(h.bw hB).at k hlt _ _ _ _ rfl;have HH:=zh (fun hu=>aDk (m:=m) (b:=b) (show k<xs.length by omega) hu);have HM:=zh (fun hu=>zF (m:=m) (b:=b) (show k<xs.length by omega) hu);generalize xs.getD k zSl=x at *;obtain ⟨x0,x1,x2,x3⟩:=x;dsimp only at q0 q1 q2 q3;have HB:=zh hB;clear hB h q3;by_cases hu:usd m b (x0,x1,x2,x3)
   .have e:=zh (show r=k from by rw [HI.out];exact HH.o hu);obtain ⟨h0,h1,h2⟩:=hu;dsimp only at h0 h1 h2;subst h0 h1 h2;clear HH HM;go_wp2;go_ret;exact ⟨aI e.o.symm,HB.o⟩
   .have HN:=zh (show r=fN m b (k+1) (xs.drop (k+1)) from by rw [HI.out];exact HM.o hu);have hu':¬ (x0=true/\x1=m/\x2=b):=hu;clear HH HM HI hu;cases x0 with
    | false=>
      clear hu';go_wp2
      go_roundw
      .exact ⟨k+1,by omega,by go_num,HN,HB.o⟩
      .simp [qf,intOf];omega
    | true=>
      by_cases c1:x1=m
      .have c2:(x2==b)=false:=by simp;exact fun e=>hu' ⟨rfl,c1,e⟩
       have c1':(x1==m)=true:=by simp [c1]
       clear hu' c1;go_wp2
       go_roundw
       .exact ⟨k+1,by omega,by go_num,HN,HB.o⟩
       .simp [qf,intOf];omega
      .have c1':(x1==m)=false:=by simp [c1]
       clear hu' c1;go_wp2
       go_roundw
       .exact ⟨k+1,by omega,by go_num,HN,HB.o⟩
       .simp [qf,intOf];omega
  .have e:=zh (show r=-1 from by rw [HI.out,List.drop_eq_nil_of_le (by omega)];rfl);have HB:=zh hB;clear hB;go_wp2;go_ret;exact ⟨aI e.o.symm,HB.o⟩
def z15:Array Value:=qZ
def mL (W:qw)(k:Nat)(v0 v1 v2 v3 v4 v5 v6 v7 v8 v9 v10 v11 v12 v13 v14:Value):World:=((((((((((((((W.setCell (qR k 0) v0).setCell (qR k 1) v1).setCell (qR k 2) v2).setCell (qR k 3) v3).setCell (qR k 4) v4).setCell (qR k 5) v5).setCell (qR k 6) v6).setCell (qR k 7) v7).setCell (qR k 8) v8).setCell (qR k 9) v9).setCell (qR k 10) v10).setCell (qR k 11) v11).setCell (qR k 12) v12).setCell (qR k 13) v13).setCell (qR k 14) v14
theorem cG (W:qw)(k:Nat)(v0 v1 v2 v3 v4 v5 v6 v7 v8 v9 v10 v11 v12 v13 v14:Value):Turn (fun j=>j=k) W (mL W k v0 v1 v2 v3 v4 v5 v6 v7 v8 v9 v10 v11 v12 v13 v14):=((((((((((((((aC W k 0 v0).trans (aC _ k 1 v1)).trans (aC _ k 2 v2)).trans (aC _ k 3 v3)).trans (aC _ k 4 v4)).trans (aC _ k 5 v5)).trans (aC _ k 6 v6)).trans (aC _ k 7 v7)).trans (aC _ k 8 v8)).trans (aC _ k 9 v9)).trans (aC _ k 10 v10)).trans (aC _ k 11 v11)).trans (aC _ k 12 v12)).trans (aC _ k 13 v13)).trans (aC _ k 14 v14)
theorem iQ {W:qw}{k:Nat}{t:TypeId}(h:Blk W k z15 t)(v0 v1 v2 v3 v4 v5 v6 v7 v8 v9 v10 v11 v12 v13 v14:Value):Blk (mL W k v0 v1 v2 v3 v4 v5 v6 v7 v8 v9 v10 v11 v12 v13 v14) k #[v0,v1,v2,v3,v4,v5,v6,v7,v8,v9,v10,v11,v12,v13,v14] t:=by
 have k:=((((((((((((((h.set 0 v0).set 1 v1).set 2 v2).set 3 v3).set 4 v4).set 5 v5).set 6 v6).set 7 v7).set 8 v8).set 9 v9).set 10 v10).set 11 v11).set 12 v12).set 13 v13).set 14 v14;have e:((((((((((((((z15.setIfInBounds 0 v0).setIfInBounds 1 v1).setIfInBounds 2 v2).setIfInBounds 3 v3).setIfInBounds 4 v4).setIfInBounds 5 v5).setIfInBounds 6 v6).setIfInBounds 7 v7).setIfInBounds 8 v8).setIfInBounds 9 v9).setIfInBounds 10 v10).setIfInBounds 11 v11).setIfInBounds 12 v12).setIfInBounds 13 v13).setIfInBounds 14 v14=#[v0,v1,v2,v3,v4,v5,v6,v7,v8,v9,v10,v11,v12,v13,v14]:=by unfold z15;simp
 rw [e] at k;exact k
def sbO (x:qi):ByteArray:=⟨(x.map fun z=>UInt8.ofNat z.toNat).toArray⟩
theorem aJy:∀ x y:List Int,(∀ z∈x,0<=z/\z<=255)->(∀ z∈y,0<=z/\z<=255)->(x.map fun z=>UInt8.ofNat z.toNat)=(y.map fun z=>UInt8.ofNat z.toNat)->x=y
 | [],[],_,_,_=>rfl
 | [],b::y,_,_,h=>by simp at h
 | a::x,[],_,_,h=>by simp at h
 | a::x,b::y,hx,hy,h=>by
   simp only [List.map_cons,List.cons.injEq] at h;have h1:=hx a (by simp);have h2:=hy b (by simp);have e:=congrArg UInt8.toNat h.1;rw [UInt8.toNat_ofNat',UInt8.toNat_ofNat'] at e;have e':a=b:=by omega
   rw [e',aJy x y (fun z hz=>hx z (by simp [hz])) (fun z hz=>hy z (by simp [hz])) h.2]
theorem aPd {x y:qi}(hx:∀ z∈x,0<=z/\z<=255)(hy:∀ z∈y,0<=z/\z<=255):sbO x=sbO y ↔ x=y:=by
 constructor
 .intro h;unfold sbO at h;simp at h;exact aJy x y hx hy (by simpa using h)
 .rintro rfl;rfl
theorem aDw (w:qw)(a:qO)(n c:Nat)(x:qi)(h:BS w a n c x):(convert 28 9 (qS a n c)).run prog w=.ok (.string (sbO x)) w:=by
 obtain ⟨rfl,h2,h3,h4,h5⟩:=h;by_cases hn:x.length=0
 .obtain rfl:x=[]:=xE hn;rw [run_convert_bytes_string w 28 9 5 a _ c underlying28 underlying5 underlying9];cases a<;>simp [Conv.bytesToString,sbO]<;>rfl
 .obtain ⟨b,k,rfl,hc⟩:=h4 hn;have hl:(x.map fun z=>UInt8.ofNat z.toNat).length=x.length:=by simp
  have:=run_convert_bytes_back (P:=prog) w 28 9 5 (qR b k) c (x.map fun z=>UInt8.ofNat z.toNat) underlying28 underlying5 underlying9 (fun j hj=>by
   have hj':j<x.length:=by simpa using hj
   rw [bP,hc j hj'];have e1:x.getD j 0=x[j]:=by simp [xB,hj']
   have hz:=h3 _ (List.getElem_mem hj');have e2:(UInt8.ofNat (x[j]).toNat).toNat=(x[j]).toNat%256:=UInt8.toNat_ofNat';rw [List.getElem_map,e2,e1];congr 2
   omega)
  rw [hl] at this;exact this
theorem lK (a a':qO)(n c n' c':Nat)(x y:qi)(w:qw)(h:BS w a n c x)(h':BS w a' n' c' y):
 qC 193 #[qS a n c,qS a' n' c'] w fun e w'=>e=.returned (.bool (decide (x=y)))/\w=w':=by
 have h1:=aDw w a n c x h;have h2:=aDw w a' n' c' y h';have HE:=zh (aPd h.2.2.1 h'.2.2.1);clear h h';generalize sbO x=s at *;generalize sbO y=t at *;go_enter func193,ntmps193
 go_wp2;go_ret;refine ⟨aA ?_,rfl⟩;rw [xJ];simp [<- HE.o,ByteArray.toList_eq];exact ⟨fun h=>by cases s;cases t;cases h;rfl,fun h=>by rw [h]⟩
def slF (L:Lay)(b:Int):List Int:=if b=-1\/L.slots=[] then [-1] else (List.range L.slots.length).map (fun i:Nat=>(i:Int))
theorem aK9 {w:qw}{g:Nat}{v:Int}(hv:wfi v)(h:w.cell? (qR g 0)=some (qI v)):IS w (qP g) 1 1 [v]:=by
 refine ⟨rfl,by unfold maxLen;omega,fun z hz=>?_,fun _=>⟨g,0,rfl,fun i hi=>?_⟩,aN⟩
 .simp at hz;rw [hz];exact hv
 .obtain rfl:i=0:=by omega
  simpa using h
theorem aAh (L:Lay)(a0:qO)(c0:Nat)(xs:List PB)(a2:qO)(c2:Nat)(a5:qO)(c5:Nat)(ts:List TB)(b:Int)(w:qw)(h:LyT w L a0 c0 xs a2 c2 a5 c5 ts)(hb:b=-1\/L.slots=[]):
 qC 189 #[.agg (qL L a0 xs.length c0 a2 L.slots.length c2 a5 ts.length c5),qI b] w fun e w'=>∃ a c,e=.returned (.slice a (slF L b).length c)/\IS w' a (slF L b).length c (slF L b)/\qY w w':=by
 have HS:=zh (show slF L b=[-1] by unfold slF;rw [if_pos hb]);rw [HS.o];show qC 189 _ w fun e w'=>∃ a c,e=.returned (qS a 1 c)/\IS w' a 1 c [-1]/\qY w w';have HB:Zh (qY w (w.alloc (.cells (qL L a0 xs.length c0 a2 L.slots.length c2 a5 ts.length c5) 71))):=brf.alloc aN _;clear HS;by_cases c:b=-1
 .subst c;clear hb h;generalize xs.length=n at *;generalize L.slots.length=l at *;generalize ts.length=k at *;go_enter func189,ntmps189
  go_wp2;go_ret;refine ⟨_,_,rfl,aK9 (by unfold wfi;omega) ?_,HB.o.alloc HB.o.size _⟩;rw [show w.heap.size+1=(w.alloc _).heap.size from (xF _ _).symm];exact (Blk.new _ _ _).cell 0
 .have hl:L.slots.length=0:=by rw [hb.resolve_left c];rfl
  have hz:(b == -1)=false:=by simpa using c
  rw [hl];rw [hl] at HB;clear hb h hl;generalize xs.length=n at *;generalize ts.length=k at *;go_enter func189,ntmps189
  go_wp2;go_ret;refine ⟨_,_,rfl,aK9 (by unfold wfi;omega) ?_,HB.o.alloc HB.o.size _⟩;rw [show w.heap.size+1=(w.alloc _).heap.size from (xF _ _).symm];exact (Blk.new _ _ _).cell 0
section
variable {cf:Array Value}{tc:TypeId}{ct:Array Value}{tt:TypeId}{base:Nat}{R:List Rg}{w W5 W W':qw}{p:qO}{k q:Nat}
end
theorem Blk.tg3 {w:qw}{b:Nat}{t:TypeId}{v0 v1 v2:Value}(h:Blk w b #[v0,v1,v2] t):w.cell? (qR b 0)=some v0/\w.cell? (qR b 1)=some v1/\w.cell? (qR b 2)=some v2:=⟨h.cell 0,h.cell 1,h.cell 2⟩
