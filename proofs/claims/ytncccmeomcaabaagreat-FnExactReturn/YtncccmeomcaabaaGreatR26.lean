import Derived.Test.YtncccmeomcaabaaGreatR25
set_option linter.all false
set_option maxHeartbeats 16000000
namespace Go.Proofs.YtncccmeomcaabaaGreat
open Go.RowKit Classical
open Go.Proofs.Tryz
set_option maxRecDepth 100000
theorem aP9 {S F:Value->World->Prop}{G:Prop}(main:(∀ v W,F v W->S v W)->G)(pf:∀ v W,F v W->S v W):G:=main pf
theorem aDr (a:qO)(n cap:Nat)(ms:List Md)(L:Lay)(a0:qO)(c0:Nat)(xs:List PB)(a2:qO)(c2:Nat)(a5:qO)(c5:Nat)(ts:List TB)(w:qw)(h:MSD w a n cap ms)(hL:LyT w L a0 c0 xs a2 c2 a5 c5 ts):
 qC 78 #[.slice a n cap,.agg (qJ L a0 xs c0 a2 c2 a5 ts c5)] w (ImM w (aE ms) L):=by
 have B0:qY w ((w.alloc (.cells (qJ L a0 xs c0 a2 c2 a5 ts c5) 71)).alloc (.cells (qV none 0 0 none 0 0 none 0 0) 39)):=bal.alloc (by simp) _;have kl:=(Blk.new w (qJ L a0 xs c0 a2 c2 a5 ts c5) 71).alloc (.cells (qV none 0 0 none 0 0 none 0 0) 39);have kr:=Blk.new (w.alloc (.cells (qJ L a0 xs c0 a2 c2 a5 ts c5) 71)) (qV none 0 0 none 0 0 none 0 0) 39;try unfold qY at *
 simp only [xF] at kr;have HRL:=zh (fun (W:qw) (hb:qY w W)=>tD a n cap ms L a0 c0 xs a2 c2 a5 c5 ts W (h.bw hb) (hL.bw hb));have HM:=zh h;have HL:=zh hL;clear h hL;go_enter func78,ntmps78
 go_wp2_with fail
 refine (HRL.o _ B0).mono ?_;rintro e w1 ⟨rfl,hb1⟩;have B1:=B0.trans (hb1.mono B0.size);have kl1:=kl.bw hb1;have kr1:=kr.bw hb1;clear B0 kl kr hb1;by_cases hok:Lok (aE ms) L
 .rw [xR hok];have K:=jZ hok;obtain ⟨F,hF⟩:∃ F:Nat,L.flash=(F:Int):=⟨L.flash.toNat,by have:=K.fr;omega⟩;obtain ⟨R,hR⟩:∃ R:Nat,L.ram=(R:Int):=⟨L.ram.toNat,by have:=K.rr;omega⟩;have hF1:F<=16384:=by have:=K.fr;omega
  have hR1:R<=16384:=by have:=K.rr;omega
  have hmF:=wO F hF1;have hmR:=wO R hR1;have x3:w1.cell? (qR w.heap.size 3)=some (.int .i64 (F:Int)):=by rw [<- hF];exact kl1.cell 3
  have x4:w1.cell? (qR w.heap.size 4)=some (.int .i64 (R:Int)):=by rw [<- hR];exact kl1.cell 4
  have hw1:w.heap.size<w1.heap.size:=kl1.lt;generalize hZF:zby F=ZF at *;generalize hZR:zby R=ZR at *;have HZ:=zh (xA hZF hZR);clear hZF hZR;have HK1:=zh (xA B1 (xA kl1 kr1));have HFR:=zh (xA hF hR);have HKN:=zh K;have HOK:=zh hok;clear HRL;clear B1 kl1 kr1 hF hR K hok;go_wp2_with fail
  obtain ⟨N,hN⟩:=eqx (w1.heap.size);have hNw:N<=w1.heap.size:=by omega
  rename_i K hK;apply aP5 (F:=fun gf gr go gm W=>Mk4 N w1 W ZF ZR F R gf gr go gm) (S:=fun gf gr go gm W=>Exit.then K (bodyPost prog f78 (ImM w (aE ms) L)) .normal ⟨#[.slice a n cap,.agg (qJ L a0 xs c0 a2 c2 a5 ts c5),undef,.pointer (some (qR w.heap.size 0)),.pointer (some (qR (w.heap.size+1) 0)),.bool false,.pointer (some (qR gm 0)),undef,undef,undef,undef,undef,undef,.slice a n cap,.agg (qJ L a0 xs c0 a2 c2 a5 ts c5),.bool true,.bool false,undef,.pointer (some (qR w.heap.size 3)),.int .i64 (F:Int),.slice (some (qR gf 0)) F F,.pointer (some (qR w.heap.size 4)),.int .i64 (R:Int),.slice (some (qR gr 0)) R R,.slice (some (qR go 0)) 0 0,.agg (qV (some (qR gf 0)) F F (some (qR gr 0)) R R (some (qR go 0)) 0 0),undef,undef,undef,undef,undef,undef,undef,undef,undef,undef,undef,undef,undef,undef,undef,undef,undef,undef,undef,undef,undef,undef,undef,undef,undef,undef,undef,undef,undef,undef,undef,undef,undef,undef,undef,undef,undef,undef,undef,undef,undef,undef,undef,undef,undef,undef,undef,undef,undef,undef,undef,undef,undef,undef,undef,undef,undef,undef,undef,undef,undef,undef,undef,undef,undef,undef,undef,undef,undef,undef,undef,undef,undef,undef,undef,undef,undef,undef,undef,undef,undef,undef,undef,undef,undef,undef,undef,undef,undef,undef,undef,undef,undef,undef,undef,undef],[]⟩ W)
  .intro REST0;have REST:=zh REST0;clear REST0
   go_region_held3 (fun w'=>w'.cell? (qR w.heap.size 3)=some (.int .i64 (F:Int))/\w'.cell? (qR w.heap.size 4)=some (.int .i64 (R:Int))) ((refine xA ?_ ?_)<;>(repeat (first|exact x3|exact x4|apply uF|apply pG|(apply yH (by omega))))) (fail)
   all_goals
    refine REST.o _ _ _ _ _ ?_;exact ⟨(by repeat (first|with_reducible exact brf|with_reducible apply aDc|with_reducible apply yI hNw|with_reducible apply aGk (by omega))),(by repeat (first|with_reducible apply gK|with_reducible exact gJ (by simp only [xF,gH])|with_reducible apply dB|with_reducible apply dJ (by omega)|with_reducible apply Blk.alloc)),(by repeat (first|with_reducible apply gK|with_reducible exact gJ (by simp only [xF,gH])|with_reducible apply dB|with_reducible apply dJ (by omega)|with_reducible apply Blk.alloc)),(by repeat (first|with_reducible apply gK|with_reducible exact gJ (by simp only [xF,gH])|with_reducible apply dB|with_reducible apply dJ (by omega)|with_reducible apply Blk.alloc)),(by repeat (first|with_reducible apply gK|with_reducible exact gJ (by simp only [xF,gH])|with_reducible apply dB|with_reducible apply dJ (by omega)|with_reducible apply Blk.alloc)),(by omega),(by omega)⟩
  .rintro gf gr go gm W hF;show Exit.then _ _ _ _ _
   subst hN;have hpl:(aE ms).length=n:=by rw [bQ];exact HM.o.s.1
   have hn4:n<=4:=by have:=HKN.o.n;omega
   have S0:ImS w (qJ L a0 xs c0 a2 c2 a5 ts c5) F R gf gr go gm (flB (aE ms) L 0) (raB (aE ms) L 0) W:=by
    obtain ⟨B1,kl1,kr1⟩:=HK1.o;have h1:=kr1.lt;have h2:=hF.lo;have e1:flB (aE ms) L 0=List.replicate F 0:=by show List.replicate L.flash.toNat 0=_;rw [HFR.o.1];rfl
    have e2:raB (aE ms) L 0=List.replicate R 0:=by show List.replicate L.ram.toNat 0=_;rw [HFR.o.2];rfl
    rw [e1,e2];refine ⟨B1.trans (hF.be.mono B1.size),kl1.bw hF.be,kr1.bw hF.be,hF.m,nM (by rw [HZ.o.1];exact hF.f) (by omega) hF1,nM (by rw [HZ.o.2];exact hF.r) (by omega) hR1,hF.o,by omega,hF.ne⟩
   have HS0:=zh S0;clear S0 hF HK1 x3 x4 hw1 hmF hmR HZ hNw;go_wp2;go_loopw [7] (fun i wr=>∃ m:Nat,m<=n/\i=.int .i64 m/\ImS w (qJ L a0 xs c0 a2 c2 a5 ts c5) F R gf gr go gm (flB (aE ms) L m) (raB (aE ms) L m) wr) (qf n)
   .exact ⟨0,xC _,rfl,HS0.o⟩
   .clear HS0;obtain ⟨m,hm,rfl,S⟩:=hrel;generalize wr=wo at *;have HS:=zh S;by_cases hlt:m<n
    .have hlt':(m:Int)<(n:Int):=by omega
     obtain ⟨b,off,rfl,y0,y1,y2,y3,y4,y5,y6,y7⟩:=HM.o.s.at m hlt
     have HXL:=zh (show xs.length=n from by
      have h1:=congrArg List.length HL.o.ps;rw [HKN.o.pl] at h1;simp at h1
      omega)
     obtain ⟨pb,po,rfl,z0,z1,z2,z3⟩:=HL.o.p.at m (by have:=HXL.o;omega);have HPB:=zh (HL.o.p.2.2.2.1 m (by have:=HXL.o;omega));have HMD:=zh (HM.o.d m hlt);have HPM:Zh ((aE ms).getD m zP=(ms.getD m aK).pm):=cG (by have:=HM.o.s.1;omega)
     have HPP:=zh (show (xs.getD m zPB).1=plc (aE ms) m from by
      rw [<- HKN.o.place m (by omega),<- HL.o.ps,bD _ _ _ zPB _ (by have:=HXL.o;omega)])
     have HAT:=zh (HKN.o.at m (by omega));have HFL:Zh (flB (aE ms) L (m+1)=cM (flB (aE ms) L m) ((aE ms).getD m zP) (L.places.getD m zPB.1) ((aE ms).getD m zP).bl.length):=rfl;have HRA:Zh (raB (aE ms) L (m+1)=iC (ovr (raB (aE ms) L m) ((L.places.getD m zPB.1).data-65536).toNat ((aE ms).getD m zP).dz) ((L.places.getD m zPB.1).data-65536).toNat ((aE ms).getD m zP).rz (L.places.getD m zPB.1).data ((aE ms).getD m zP).rz.length):=rfl;have HVL:=zh (HKN.o.v m (by omega));rw [HKN.o.place m (by omega),<- HPP.o,HPM.o] at HFL HRA;rw [<- HPP.o,HPM.o,HFR.o.1,HFR.o.2] at HAT;rw [HPM.o] at HVL;clear HPM HPP;generalize hFZ:flB (aE ms) L (m+1)=FZ at HFL;generalize hRZ:raB (aE ms) L (m+1)=RZ at HRA;have HFZ:=zh (xA hFZ hRZ);clear hFZ hRZ;generalize flB (aE ms) L m=fz at *;generalize raB (aE ms) L m=rz at *;unfold svP at z1;generalize xs.getD m zPB=x at *;obtain ⟨⟨xt,xb,xd,xz⟩,xa,xc⟩:=x;generalize ms.getD m aK=M at *;obtain ⟨P,hP⟩:=eqx (M.pm);rw [<- hP] at HFL HRA HAT HVL;have HPE:=zh (show P.tz=M.tz/\P.bl=M.bl.map (fun B=>B.2.2.2)/\P.dz=M.dz/\P.rz=M.rz by rw [hP];exact ⟨rfl,rfl,rfl,rfl⟩);clear hP;obtain ⟨nm,ta,tn,tc,tz,ba,bn,bc,bl,da,dn,dc,dz,bss,ra,rn,rc,rrz,ia,im,ic,ss,ea,en,ec,es⟩:=M;dsimp only at z0 z1 z2 z3 HPB HFL HRA HAT HMD HPE y0 y1 y2 y3 y4 y5 y6 y7;obtain ⟨kt,hkt⟩:∃ kt:Nat,xt=(kt:Int):=⟨xt.toNat,by have:=HAT.o.1.1;omega⟩;obtain ⟨f,hf⟩:∃ f:Nat,xd=65536+(f:Int):=⟨(xd-65536).toNat,by have:=HAT.o.2.2.2.1;omega⟩;subst hkt hf
     have HPZ1:=zh (fun (X:qw) (I:Im5 w (qL L (some (qR pb po)) xs.length c0 a2 L.slots.length c2 a5 ts.length c5) F R gf gr go gm wo.heap.size #[.int .i64 (kt:Int),.slice xa xb.length xc,.int .i64 (65536+(f:Int)),.int .i64 xz] fz rz X)=>(mG gf F F kt ta tn tc tz fz w.heap.size w X HMD.o.t I.s.be (by have:=I.s.lo;omega) I.s.f hF1 (by have h1:=HAT.o.1.2;have h2:tz.length=tn:=HMD.o.t.1;rw [HPE.o.1] at h1;omega) (fun i hi=>by have h1:=(aDh HVL.o).1 i;have h2:tz.length=tn:=HMD.o.t.1;rw [HPE.o.1] at h1;exact h1 (by omega))).mono (fun e w' he=>show e=.returned (.tuple #[])/\Im5 w (qL L (some (qR pb po)) xs.length c0 a2 L.slots.length c2 a5 ts.length c5) F R gf gr go gm wo.heap.size #[.int .i64 (kt:Int),.slice xa xb.length xc,.int .i64 (65536+(f:Int)),.int .i64 xz] (cM fz P ⟨(kt:Int),xb,65536+(f:Int),xz⟩ 0) rz w' from ⟨he.1,by
      have e1:cM fz P ⟨(kt:Int),xb,65536+(f:Int),xz⟩ 0=bL fz kt tz tn:=by
       show bL fz ((kt:Int)).toNat P.tz P.tz.length=_;rw [HPE.o.1,xY,show tz.length=tn from HMD.o.t.1]
      rw [e1]
      exact I.setf he.2.1 he.2.2⟩))
     have hbl:bl.length=bn:=HMD.o.b.1;have HLE:=zh (bZ HVL.o);have hbn4:bn<=4:=by have h1:=HLE.o.2.2.2.1;rw [HPE.o.2.1,xH] at h1;omega
     have HBE:Zh (∀ j,j<bn->P.bl.getD j []=(bl.getD j zB).2.2.2):=fun j hj=>by rw [HPE.o.2.1,fC _ _ _ zB _]
     have HPZ2:=zh (fun (j:Nat) (hj:j<bn) (X:qw) (I:Im5 w (qL L (some (qR pb po)) xs.length c0 a2 L.slots.length c2 a5 ts.length c5) F R gf gr go gm wo.heap.size #[.int .i64 (kt:Int),.slice xa xb.length xc,.int .i64 (65536+(f:Int)),.int .i64 xz] (cM fz P ⟨(kt:Int),xb,65536+(f:Int),xz⟩ j) rz X)=>(show qC 144 #[.slice (some (qR gf 0)) F F,.int .i64 (xb.getD j 0),.slice (bl.getD j zB).1 (bl.getD j zB).2.1 (bl.getD j zB).2.2.1] X fun e w'=>e=.returned (.tuple #[])/\Im5 w (qL L (some (qR pb po)) xs.length c0 a2 L.slots.length c2 a5 ts.length c5) F R gf gr go gm wo.heap.size #[.int .i64 (kt:Int),.slice xa xb.length xc,.int .i64 (65536+(f:Int)),.int .i64 xz] (cM fz P ⟨(kt:Int),xb,65536+(f:Int),xz⟩ (j+1)) rz w' from by
      have hPl:P.bl.length=bn:=by rw [HPE.o.2.1,xH];exact hbl
      obtain ⟨h1,h2⟩:=HAT.o.2.2.1 j (by omega);have hI:IS w (bl.getD j zB).1 (bl.getD j zB).2.1 (bl.getD j zB).2.2.1 (bl.getD j zB).2.2.2:=HMD.o.b.2.2.2.1 j hj;have h3:(bl.getD j zB).2.2.2.length=(bl.getD j zB).2.1:=hI.1;have h4:=(aDh HVL.o).2 j (by omega);rw [HBE.o j hj] at h2 h4;obtain ⟨kb,hkb⟩:∃ kb:Nat,xb.getD j 0=(kb:Int):=⟨(xb.getD j 0).toNat,by omega⟩;rw [hkb] at h2
      have e1:cM fz P ⟨(kt:Int),xb,65536+(f:Int),xz⟩ (j+1)=bL (cM fz P ⟨(kt:Int),xb,65536+(f:Int),xz⟩ j) kb (bl.getD j zB).2.2.2 (bl.getD j zB).2.1:=by
       show bL _ (xb.getD j 0).toNat (P.bl.getD j []) (P.bl.getD j []).length=_;rw [HBE.o j hj,hkb,xY,h3]
      rw [hkb,e1]
      exact (mG gf F F kb _ _ _ _ _ w.heap.size w X hI I.s.be (by have:=I.s.lo;omega) I.s.f hF1 (by omega) (fun i hi=>h4 i (by omega))).mono (fun e w' he=>⟨he.1,I.setf he.2.1 he.2.2⟩)))
     have I1:Im5 w (qL L (some (qR pb po)) xs.length c0 a2 L.slots.length c2 a5 ts.length c5) F R gf gr go gm wo.heap.size #[.int .i64 (kt:Int),.slice xa xb.length xc,.int .i64 (65536+(f:Int)),.int .i64 xz] fz rz (wo.alloc (.cells #[.int .i64 (kt:Int),.slice xa xb.length xc,.int .i64 (65536+(f:Int)),.int .i64 xz] 171)):=⟨S.bw (show qY wo (wo.alloc (.cells #[.int .i64 (kt:Int),.slice xa xb.length xc,.int .i64 (65536+(f:Int)),.int .i64 xz] 171)) from bal),Blk.new _ _ _⟩;have HI1:=zh I1;have c0':=S.kl.cell 0;simp only [List.getElem?_toArray,List.getElem?_cons_zero] at c0';have zz0:=aB S.be z0;have zz1:=aB S.be z1;have zz2:=aB S.be z2;have zz3:=aB S.be z3;have hml':(m:Int)<(xs.length:Int):=by have:=HXL.o;omega
     clear S I1 HS;go_wp2_with fail
     generalize hW1:wo.alloc (.cells #[.int .i64 (kt:Int),.slice xa xb.length xc,.int .i64 (65536+(f:Int)),.int .i64 xz] 171)=W1 at *;clear hW1;have v0:W1.cell? (qR gm 0)=some (.slice (some (qR gf 0)) F F):=HI1.o.s.km.cell 0;have v1:W1.cell? (qR wo.heap.size 0)=some (.int .i64 (kt:Int)):=HI1.o.p.cell 0;have v2:=aB HI1.o.s.be y1
     go_region_held3 (fun w'=>w'.cell? (qR gm 0)=some (.slice (some (qR gf 0)) F F)/\w'.cell? (qR wo.heap.size 0)=some (.int .i64 (kt:Int))/\w'.cell? (qR b (off+m*8+1))=some (.slice ta tn tc)) (go_keep)
      (first
        | (go_at_call 144;first
            | with_reducible refine (HPZ1.o _ HI1.o).mono ?_
            | with_reducible refine (HPZ1.o _ HI1.o.drew).mono ?_
           rintro e w2 ⟨rfl,hI2⟩;have HI2:=zh hI2;clear hI2;have u0:w2.cell? (qR gm 0)=some (.slice (some (qR gf 0)) F F):=HI2.o.s.km.cell 0;have u1:w2.cell? (qR wo.heap.size 0)=some (.int .i64 (kt:Int)):=HI2.o.p.cell 0
           have u2:=aB HI2.o.s.be y1))
     clear v0 v1 v2 u0 u1 u2 zz0 zz1 zz2 zz3 c0' z0 z1 z2 z3;go_wp2;go_loopw [9] (fun i wr=>∃ j:Nat,j<=bn/\i=.int .i64 j/\Im5 w (qL L (some (qR pb po)) xs.length c0 a2 L.slots.length c2 a5 ts.length c5) F R gf gr go gm wo.heap.size #[.int .i64 (kt:Int),.slice xa xb.length xc,.int .i64 (65536+(f:Int)),.int .i64 xz] (cM fz P ⟨(kt:Int),xb,65536+(f:Int),xz⟩ j) rz wr) (qf bn)
     .exact ⟨0,xC _,rfl,HI2.o⟩
     .clear HI1 HI2 HPZ1;obtain ⟨j,hj,rfl,hJ⟩:=hrel;have HJ:=zh hJ;generalize wr=wj at *;have s2:=aB hJ.s.be y2;by_cases hjb:j<bn
      .have hjb':(j:Int)<(bn:Int):=by omega
       have hxb:xb.length=bn:=by
        have h1:=HAT.o.2.1;rw [HPE.o.2.1,xH] at h1;omega
       have HXB:=zh hxb;have hjx':(j:Int)<(xb.length:Int):=by omega
       clear hxb;obtain ⟨bb,bo,rfl,hbc⟩:=HMD.o.b.2.2.1 (show bn≠0 by omega);obtain ⟨qb,qo,rfl,hqc⟩:=HPB.o.2.2.2.1 (show xb.length≠0 by have:=HXB.o;omega);have v0:wj.cell? (qR gm 0)=some (.slice (some (qR gf 0)) F F):=hJ.s.km.cell 0;have v1:wj.cell? (qR wo.heap.size 1)=some (.slice (some (qR qb qo)) xb.length xc):=hJ.p.cell 1;have v2:=aB hJ.s.be (hqc j (by have:=HXB.o;omega));have hbcj:=hbc j hjb;dsimp only at hbcj;have v3:=aB hJ.s.be hbcj;have HP2:=zh (HPZ2.o j hjb);have HVW:=zh (fun (W:qw) (hb:qY w W)=>xA (aB hb (hqc j (by have:=HXB.o;omega))) (xA (aB hb hbcj) (aB hb y2)));clear hJ hbc hqc hbcj;generalize (bl.getD j zB).1=k1 at *;generalize (bl.getD j zB).2.1=k2 at *;generalize (bl.getD j zB).2.2.1=k3 at *;generalize xb.getD j 0=k4 at *;go_wp2_with fail
       go_region_held3 (fun w'=>w'.cell? (qR gm 0)=some (.slice (some (qR gf 0)) F F)/\w'.cell? (qR wo.heap.size 1)=some (.slice (some (qR qb qo)) xb.length xc)/\w'.cell? (qR qb (qo+j))=some (.int .i64 k4)/\w'.cell? (qR b (off+m*8+2))=some (.slice (some (qR bb bo)) bn bc)/\w'.cell? (qR bb (bo+j))=some (.slice k1 k2 k3)) (go_keep)
        (first
          | (go_at_call 144;first
              | with_reducible refine (HP2.o _ HJ.o).mono ?_
              | with_reducible refine (HP2.o _ HJ.o.drew).mono ?_
             rintro e w3 ⟨rfl,hI3⟩;have HI3:=zh hI3;clear hI3;have u0:w3.cell? (qR gm 0)=some (.slice (some (qR gf 0)) F F):=HI3.o.s.km.cell 0;have u1:w3.cell? (qR wo.heap.size 1)=some (.slice (some (qR qb qo)) xb.length xc):=HI3.o.p.cell 1
             obtain ⟨u2,u3,u4⟩:=HVW.o w3 HI3.o.s.be))
       clear v0 v1 v2 v3 u0 u1 u2 u3 u4 s2;go_wp2
       go_roundw
       .exact ⟨j+1,by omega,by go_num,HI3.o⟩
       .simp [qf,intOf];omega
      .have HJN:=zh (show j=bn by omega);have t2:wj.cell? (qR wo.heap.size 2)=some (.int .i64 (65536+(f:Int))):=hJ.p.cell 2;have t1:wj.cell? (qR gm 1)=some (.slice (some (qR gr 0)) R R):=hJ.s.km.cell 1;have s3:=aB hJ.s.be y3;have hff:(65536:Int)+(f:Int)-65536=(f:Int):=by omega
       have hfR:(f:Int)<=(R:Int):=by have:=HAT.o.2.2.2.2;omega
       clear hJ;have hdn:dz.length=dn:=HMD.o.d.1
       have hfd:f+dn<=R:=by
        have h1:=HAT.o.2.2.2.2;rw [HPE.o.2.2.1] at h1;omega
       have HBS:=zh (fun (X:qw) (hb:qY w X)=>show BS X da dn dc dz from HMD.o.d.bw hb);have HI4F:=zh (fun (X X':qw) (I:Im5 w (qL L (some (qR pb po)) xs.length c0 a2 L.slots.length c2 a5 ts.length c5) F R gf gr go gm wo.heap.size #[.int .i64 (kt:Int),.slice xa xb.length xc,.int .i64 (65536+(f:Int)),.int .i64 xz] (cM fz P ⟨(kt:Int),xb,65536+(f:Int),xz⟩ j) rz X) (O:OB X' w.heap.size (.slice (some (qR gr 0)) R R) (ovr rz f dz)) (T:fF gr X X')=>I.setr O T);have f0':(0:Int)<=(f:Int):=by omega
       have HFT:Zh (((f:Int)).toNat=f):=xY f;go_wp2_with fail
       apply aP9 (F:=fun v W=>Im5 w (qL L (some (qR pb po)) xs.length c0 a2 L.slots.length c2 a5 ts.length c5) F R gf gr go gm wo.heap.size #[.int .i64 (kt:Int),.slice xa xb.length xc,.int .i64 (65536+(f:Int)),.int .i64 xz] (cM fz P ⟨(kt:Int),xb,65536+(f:Int),xz⟩ j) (ovr rz f dz) W)
       .intro REST0;have REST:=zh REST0;clear REST0;by_cases hfl:f<R
        .have hfl':(f:Int)<(R:Int):=by omega
         obtain ⟨w4,hrun,O4,T4⟩:=uB (f:=f) HJ.o.drew.s.r 3 (some ⟨gr,f,none⟩) da (R-f) (R-f) dn dc (HBS.o _ HJ.o.drew.s.be) (by omega) (by omega) (fun _=>rfl);have HI4:=zh (HI4F.o _ _ HJ.o.drew O4 T4);clear O4 T4;have u1:w4.cell? (qR gm 1)=some (.slice (some (qR gr 0)) R R):=HI4.o.s.km.cell 1;have u2:=aB HI4.o.s.be y3
         go_region_held3 (fun w'=>w'.cell? (qR gm 1)=some (.slice (some (qR gr 0)) R R)/\w'.cell? (qR b (off+m*8+3))=some (.slice da dn dc)) (go_keep) (fail)
         generalize Value.slice (some (qR gr f)) (R-f) (R-f)=v79;exact REST.o v79 w4 HI4.o
        .obtain rfl:R=f:=by omega
         have hd0:dn=0:=by omega
         obtain ⟨w4,hrun,O4,T4⟩:=uB (f:=R) HJ.o.drew.s.r 3 (some ⟨gr,0,none⟩) da 0 0 dn dc (HBS.o _ HJ.o.drew.s.be) (by omega) (by omega) (fun h=>by omega);have HI4:=zh (HI4F.o _ _ HJ.o.drew O4 T4);clear O4 T4;have u1:w4.cell? (qR gm 1)=some (.slice (some (qR gr 0)) R R):=HI4.o.s.km.cell 1;have u2:=aB HI4.o.s.be y3;have HD0:=zh hd0;clear hd0
         go_region_held3 (fun w'=>w'.cell? (qR gm 1)=some (.slice (some (qR gr 0)) R R)/\w'.cell? (qR b (off+m*8+3))=some (.slice da dn dc)) (go_keep) (fail)
         exact REST.o _ w4 HI4.o
       .rintro v79 W4 hI4;show Exit.then _ _ _ _ _
        have HI4:=zh hI4;have hrl:rrz.length=rn:=HMD.o.r.1
        have hrn:rn<=16:=by
         have V:=kY (by simp [lM]) (show mdo P.nm P.tz.length P.tz P.bl.length (lM P.bl) P.dz.length P.bss P.rz.length P.rz P.ss.length P.ss P.es.length P.es=0 from HVL.o);have h1:=V.r;rw [HPE.o.2.2.2] at h1;omega
        have HRLB:=zh (show ∀ q,q<rn->0<=rrz.getD q 0/\rrz.getD q 0+4<=(dn:Int) from fun q hq=>by
         have h1:=aIc HVL.o q (by rw [HPE.o.2.2.2];omega);rw [HPE.o.2.2.2,HPE.o.2.2.1] at h1
         omega)
        clear hI4 HJ HBS HI4F t1 t2 s3 s2 hff HFT;go_wp2;go_loopw [11,12] (fun i _ wr=>∃ q:Nat,q<=rn/\i=.int .i64 q/\Im5 w (qL L (some (qR pb po)) xs.length c0 a2 L.slots.length c2 a5 ts.length c5) F R gf gr go gm wo.heap.size #[.int .i64 (kt:Int),.slice xa xb.length xc,.int .i64 (65536+(f:Int)),.int .i64 xz] (cM fz P ⟨(kt:Int),xb,65536+(f:Int),xz⟩ j) (iC (ovr rz f dz) f rrz (65536+(f:Int)) q) wr) (fun i _ _=>rn-(intOf i).toNat)
        .exact ⟨0,xC _,rfl,HI4.o⟩
        .clear HI4;obtain ⟨q,hq,rfl,hQ⟩:=hrel;have HQ:=zh hQ;generalize wr=wq at *;have s5:=aB hQ.s.be y5;by_cases hqr:q<rn
         .have hqr':(q:Int)<(rn:Int):=by omega
          obtain ⟨rb,ro,rfl,hrc⟩:=HMD.o.r.2.2.2.1 (show rn≠0 by omega);obtain ⟨h1,h2⟩:=HRLB.o q hqr;have hrq:=hrc q hqr;dsimp only at hrq;have s6:=aB hQ.s.be hrq;have HRE:Zh (iC (ovr rz f dz) f rrz (65536+(f:Int)) (q+1)=put (iC (ovr rz f dz) f rrz (65536+(f:Int)) q) (f+(rrz.getD q 0).toNat) (low (((iC (ovr rz f dz) f rrz (65536+(f:Int)) q).drop (f+(rrz.getD q 0).toNat)).take 4)+(65536+(f:Int))) 4):=rfl;clear hrc hrq hQ;generalize hRQ1:iC (ovr rz f dz) f rrz (65536+(f:Int)) (q+1)=RQ1 at HRE;have HRQ1:=zh hRQ1;clear hRQ1;generalize iC (ovr rz f dz) f rrz (65536+(f:Int)) q=RQ at *;obtain ⟨x,hx⟩:∃ x:Nat,rrz.getD q 0=(x:Int):=⟨(rrz.getD q 0).toNat,by omega⟩;rw [hx] at s6 HRE h1 h2;rw [xY] at HRE;clear hx;obtain ⟨A,hA⟩:∃ A:Nat,A=f+x:=⟨_,rfl⟩;obtain ⟨A4,hA4⟩:∃ A4:Nat,A4=A+4:=⟨_,rfl⟩;rw [<- hA] at HRE;have hAR:A4<=R:=by omega
          have hAi:(f:Int)+(x:Int)=(A:Int):=by omega
          have HAI:=zh hAi;have hw4:IntKind.i64.wrap ((A:Int)+4)=(A4:Int):=by rw [xP,xQ _ (by omega)];omega
          have hz0:(0:Int)<=(A:Int):=by omega
          have hz1:(A:Int)<=(A4:Int):=by omega
          have hz2:(A4:Int)<=(R:Int):=by omega
          have hz3:(A:Int)<(R:Int):=by omega
          have hz4:A<=A4:=by omega
          have hz5:¬ (R=A):=by omega
          have hz6:A<R:=by omega
          have hRQ:RQ.length=R:=(qN HQ.o.s.r).2.1;have HLR:=zh (oD ((RQ.drop A).take 4) (fun z hz=>HQ.o.s.r.2 z (List.mem_of_mem_drop (List.mem_of_mem_take hz))) (by simp;omega));obtain ⟨lw,hlw⟩:=eqx (low ((RQ.drop A).take 4));rw [<- hlw] at HLR HRE;obtain ⟨VV,hVV⟩:=eqx (lw+(65536+(f:Int)));rw [<- hVV] at HRE;have hwV:IntKind.i64.wrap (lw+(65536+(f:Int)))=VV:=by rw [hVV,xP,xQ _ (by have:=HLR.o;omega)]
          have HVR:=zh (show -9223372036854775808<=VV/\VV<=9223372036854775807 by have:=HLR.o;omega)
          have HLO:=zh (fun (X:qw) (I:Im5 w (qL L (some (qR pb po)) xs.length c0 a2 L.slots.length c2 a5 ts.length c5) F R gf gr go gm wo.heap.size #[.int .i64 (kt:Int),.slice xa xb.length xc,.int .i64 (65536+(f:Int)),.int .i64 xz] (cM fz P ⟨(kt:Int),xb,65536+(f:Int),xz⟩ j) RQ X)=>show qC 146 #[.slice (some (qR gr A)) (A4-A) (R-A)] X fun e w'=>e=.returned (.int .i64 lw)/\X=w' from by
           have hbs:BS X (some (qR gr A)) (A4-A) (R-A) ((RQ.drop A).take 4):=by
            have hb:=I.s.r.bs;refine ⟨by simp;omega,by unfold maxLen;omega,fun z hz=>I.s.r.2 z (List.mem_of_mem_drop (List.mem_of_mem_take hz)),fun _=>⟨gr,A,rfl,fun i hi=>?_⟩,by omega⟩;have h1:=hb.at (A+i) (by omega);rw [Nat.zero_add] at h1;rw [h1];congr 2;simp [xB,List.getElem?_take,List.getElem?_drop,show i<4 by omega]
           have:=aHz gr A (A4-A) (R-A) _ X hbs;rw [<- hlw] at this
           exact this)
          have HPU:=zh (fun (X:qw) (I:Im5 w (qL L (some (qR pb po)) xs.length c0 a2 L.slots.length c2 a5 ts.length c5) F R gf gr go gm wo.heap.size #[.int .i64 (kt:Int),.slice xa xb.length xc,.int .i64 (65536+(f:Int)),.int .i64 xz] (cM fz P ⟨(kt:Int),xb,65536+(f:Int),xz⟩ j) RQ X)=>show qC 145 #[.slice (some (qR gr 0)) R R,.int .i64 (A:Int),.int .i64 4,.int .i64 (VV%4294967296)] X fun e w'=>e=.returned (.tuple #[])/\Im5 w (qL L (some (qR pb po)) xs.length c0 a2 L.slots.length c2 a5 ts.length c5) F R gf gr go gm wo.heap.size #[.int .i64 (kt:Int),.slice xa xb.length xc,.int .i64 (65536+(f:Int)),.int .i64 xz] (cM fz P ⟨(kt:Int),xb,65536+(f:Int),xz⟩ j) RQ1 w' from
           (wS gr R R A 4 (VV%4294967296) X (mV I.s.r) hR1 (by omega) (by omega) (by omega) (by omega) (by omega)).mono (fun e w' he=>⟨he.1,by
             rw [he.2,HRE.o];have O:=aD0 I.s.r A (VV%4294967296) 4 (by omega);rw [(aJd RQ A VV).1] at O
             exact I.setr O (sD gr A (VV%4294967296) X 4)⟩))
          clear hlw hVV hA hA4 h1 h2;go_wp2_with fail
          try rw [HAI.o]
          have v1:wq.cell? (qR gm 1)=some (.slice (some (qR gr 0)) R R):=HQ.o.s.km.cell 1;have v2:wq.cell? (qR wo.heap.size 2)=some (.int .i64 (65536+(f:Int))):=HQ.o.p.cell 2;clear hAi s5 s6
          go_region_held3 (fun w'=>w'.cell? (qR gm 1)=some (.slice (some (qR gr 0)) R R)/\w'.cell? (qR wo.heap.size 2)=some (.int .i64 (65536+(f:Int)))) (go_keep)
           (first
             | (go_at_call 146;first
                 | with_reducible refine (HLO.o _ HQ.o).mono ?_
                 | with_reducible refine (HLO.o _ HQ.o.drew).mono ?_
                rintro e w5 ⟨rfl,rfl⟩)
             | (go_at_call 61;first
                 | with_reducible refine (tH VV _ HVR.o).mono ?_
                 | (rw [hwV];with_reducible refine (tH VV _ HVR.o).mono ?_)
                rintro e w5 ⟨rfl,rfl⟩)
             | (go_at_call 145;first
                 | with_reducible refine (HPU.o _ HQ.o).mono ?_
                 | with_reducible refine (HPU.o _ HQ.o.drew).mono ?_
                rintro e w6 ⟨rfl,hI6⟩;have HI6:=zh hI6;clear hI6;have u1:w6.cell? (qR gm 1)=some (.slice (some (qR gr 0)) R R):=HI6.o.s.km.cell 1
                have u2:w6.cell? (qR wo.heap.size 2)=some (.int .i64 (65536+(f:Int))):=HI6.o.p.cell 2))
          clear v1 v2 u1 u2 hw4 hwV;go_wp2
          go_roundw
          .exact ⟨q+1,by omega,by go_num,by rw [HRQ1.o];exact HI6.o⟩
          .simp [qf,intOf];omega
         .have HQN:=zh (show q=rn by omega)
          have HZ2:=zh (show ImS w (qL L (some (qR pb po)) xs.length c0 a2 L.slots.length c2 a5 ts.length c5) F R gf gr go gm FZ RZ wq from by
           have h1:=hQ.s;have e1:P.bl.length=bn:=by rw [HPE.o.2.1,xH];exact hbl
           rw [HFL.o,HRA.o,e1,HPE.o.2.2.1,HPE.o.2.2.2,hrl,show ((65536:Int)+(f:Int)-65536).toNat=f by omega,<- HJN.o,<- HQN.o]
           exact h1)
          clear hQ HQ;go_wp2
          go_roundw
          .exact ⟨m+1,by omega,by go_num,by rw [HFZ.o.1,HFZ.o.2];exact HZ2.o⟩
          .simp [qf,intOf];omega
    .have e:Zh (m=n):=by show m=n;omega
     obtain ⟨q0,q1,q2⟩:wo.cell? ⟨gm,0,none⟩=some (.slice (some ⟨gf,0,none⟩) F F)/\wo.cell? ⟨gm,1,none⟩=some (.slice (some ⟨gr,0,none⟩) R R)/\wo.cell? ⟨gm,2,none⟩=some (.slice (some ⟨go,0,none⟩) 0 0):=⟨S.km.cell 0,S.km.cell 1,S.km.cell 2⟩;obtain ⟨p0,p1,p2⟩:wo.cell? ⟨w.heap.size+1,0,none⟩=some (.slice none 0 0)/\wo.cell? ⟨w.heap.size+1,1,none⟩=some (.slice none 0 0)/\wo.cell? ⟨w.heap.size+1,2,none⟩=some (.slice none 0 0):=⟨S.kr.cell 0,S.kr.cell 1,S.kr.cell 2⟩;have pf:=S.kr.frozen;have T:Turn (fun j=>j=w.heap.size+1) wo (((wo.setCell (qR (w.heap.size+1) 0) (.slice (some (qR gf 0)) F F)).setCell (qR (w.heap.size+1) 1) (.slice (some (qR gr 0)) R R)).setCell (qR (w.heap.size+1) 2) (.slice (some (qR go 0)) 0 0)):=((aC _ _ _ _).trans (aC _ _ _ _)).trans (aC _ _ _ _)
     have HE:=zh (show ImM w (aE ms) L (.returned (.tuple #[.agg (qV (some (qR gf 0)) F F (some (qR gr 0)) R R (some (qR go 0)) 0 0),.bool true])) (((wo.setCell (qR (w.heap.size+1) 0) (.slice (some (qR gf 0)) F F)).setCell (qR (w.heap.size+1) 1) (.slice (some (qR gr 0)) R R)).setCell (qR (w.heap.size+1) 2) (.slice (some (qR go 0)) 0 0)) from by
      have hlo:=S.lo;refine ⟨aG S.be T (fun k e=>by omega) S.be.size,some (qR gf 0),F,F,some (qR gr 0),R,R,some (qR go 0),0,0,by rw [xR HOK.o],?_⟩;unfold imF imR;rw [if_pos HOK.o,if_pos HOK.o,hpl,<- e.o];have kO:=aF T S.o (by omega);refine ⟨aU T S.f (fun k hk s=>by simp [Value.ownBlock] at hk;omega),aU T S.r (fun k hk s=>by simp [Value.ownBlock] at hk;omega),⟨⟨rfl,.inr ⟨go,0,#[],rfl,by omega,kO,aN,xC _,rfl,rfl⟩⟩,by simp⟩,?_,?_,?_⟩
      all_goals
       intro k hk;have hne:=S.ne;simp [Value.ownBlock] at hk ⊢
       omega)
     have k3:=dB (v0:=.slice (some (qR gf 0)) F F) (v1:=.slice (some (qR gr 0)) R R) (v2:=.slice (some (qR go 0)) 0 0) S.kr;have s0:=k3.cell 0;have s1:=k3.cell 1;have s2:=k3.cell 2;simp only [List.getElem?_toArray,List.getElem?_cons_zero,List.getElem?_cons_succ] at s0 s1 s2;clear S T HS k3;go_wp2;exact bodyPost_ret (v:=.tuple #[.agg (qV (some (qR gf 0)) F F (some (qR gr 0)) R R (some (qR go 0)) 0 0),.bool true]) (by simp [results,results78,go_sem,s0,s1,s2]) rfl HE.o
 .rw [xS hok]
  have HE:=zh (show ∀ W',qY w W'->ImM w (aE ms) L (.returned (.tuple #[.agg (qV none 0 0 none 0 0 none 0 0),.bool false])) W' from fun W' hb=>by
   refine ⟨hb,none,0,0,none,0,0,none,0,0,by rw [xS hok],?_⟩;unfold imF imR;rw [if_neg hok,if_neg hok];refine ⟨⟨⟨rfl,.inl ⟨rfl,rfl⟩⟩,by simp⟩,⟨⟨rfl,.inl ⟨rfl,rfl⟩⟩,by simp⟩,⟨⟨rfl,.inl ⟨rfl,rfl⟩⟩,by simp⟩,?_,?_,?_⟩
   all_goals
    intro k hk
    simp [Value.ownBlock] at hk)
  have k3:=dB (v0:=.slice none 0 0) (v1:=.slice none 0 0) (v2:=.slice none 0 0) kr1;have s0:=k3.cell 0;have s1:=k3.cell 1;have s2:=k3.cell 2;simp only [List.getElem?_toArray,List.getElem?_cons_zero,List.getElem?_cons_succ] at s0 s1 s2;have T:Turn (fun j=>j=w.heap.size+1) w1 (((w1.setCell (qR (w.heap.size+1) 0) (.slice none 0 0)).setCell (qR (w.heap.size+1) 1) (.slice none 0 0)).setCell (qR (w.heap.size+1) 2) (.slice none 0 0)):=((aC _ _ _ _).trans (aC _ _ _ _)).trans (aC _ _ _ _);have HB:=zh (aG B1 T (fun k e=>by omega) B1.size);obtain ⟨p0,p1,p2⟩:w1.cell? ⟨w.heap.size+1,0,none⟩=some (.slice none 0 0)/\w1.cell? ⟨w.heap.size+1,1,none⟩=some (.slice none 0 0)/\w1.cell? ⟨w.heap.size+1,2,none⟩=some (.slice none 0 0):=⟨kr1.cell 0,kr1.cell 1,kr1.cell 2⟩;have pf:=kr1.frozen;clear T k3 kl1 kr1 B1 hok HRL HM HL;go_wp2;exact bodyPost_ret (v:=.tuple #[.agg (qV none 0 0 none 0 0 none 0 0),.bool false]) (by simp [results,results78,go_sem,s0,s1,s2]) rfl (HE.o _ HB.o)
theorem aDj (x0:Bool)(x1 x2 x3:Int)(w:qw):
 qC 88 #[.agg #[.bool x0,qI x1,qI x2,qI x3]] w (qB w (.agg #[.bool x0,qI x1,qI x2,qI x3])):=by
 go_enter func88,ntmps88
 go_wp2;refine bodyPost_ret (v:=.agg #[.bool x0,qI x1,qI x2,qI x3]) (by simp [results,results88,go_sem]) rfl ⟨rfl,?_⟩;exact ((bal.alloc (by simp) _).alloc (by simp;omega) _)
theorem aBl (a:qO)(n cap:Nat)(xs:List SlT)(w:qw)(h:QS bR zSl w a n cap xs)(hn:n<=1048576):
 qC 36 #[qS a n cap] w fun e w'=>e=.returned (qS (qP w.heap.size) n n)/\OG 142 4 bR w' w.heap.size (qS (qP w.heap.size) n n) xs/\qY w w':=by
 obtain ⟨i0,hi,hz0,hz1,hz2⟩:=info_parts aEo;have hl:=h.1;go_enter func36,ntmps36
 go_wp2_with (at_make;refine wpList_make_full _ rfl _ _ 40 rfl w.heap.size 142 i0 (.agg #[.bool false,qI 0,qI 0,qI 0]) 4 underlying40 hi hz0 hz1 .i64 .i64 _ _ n rfl rfl rfl rfl (by rw [hz2];omega) (by unfold maxLen;omega) aN ?_;intro w1 hown hgr)
 have HR0:=zh (xA (wH (f:=bR) zSl (.agg #[.bool false,qI 0,qI 0,qI 0]) rfl rfl hown) (aV hgr));clear hown hgr hi hz0 hz1 hz2;go_loopw [4] (fun i wr=>∃ (m:Nat) (F:Nat->SlT),m<=n/\i=qI m/\RowF 142 4 bR wr w.heap.size n F/\(∀ i,i<m->F i=xs.getD i zSl)/\qY w wr) (qf n)
 .exact ⟨0,_,xC _,rfl,HR0.o.1,fun i hi=>absurd hi (by omega),HR0.o.2⟩
 .obtain ⟨m,F,hm,rfl,R,hF,hB⟩:=hrel;clear HR0;by_cases hlt:m<n
  .have hlt':(m:Int)<(n:Int):=by omega
   obtain ⟨b,off,rfl,y0,y1,y2,y3⟩:=(h.bw hB).at m hlt _ _ _ _ rfl
   have HFIN:=zh (fun (W:qw) (hW:qY wr W)=>show RowF 142 4 bR ((((W.setCell (qR w.heap.size (m*4)) (.bool (xs.getD m zSl).1)).setCell (qR w.heap.size (m*4+1)) (qI (xs.getD m zSl).2.1)).setCell (qR w.heap.size (m*4+2)) (qI (xs.getD m zSl).2.2.1)).setCell (qR w.heap.size (m*4+3)) (qI (xs.getD m zSl).2.2.2)) w.heap.size n (fun i=>if i=m then (xs.getD m zSl) else F i)/\qY w ((((W.setCell (qR w.heap.size (m*4)) (.bool (xs.getD m zSl).1)).setCell (qR w.heap.size (m*4+1)) (qI (xs.getD m zSl).2.1)).setCell (qR w.heap.size (m*4+2)) (qI (xs.getD m zSl).2.2.1)).setCell (qR w.heap.size (m*4+3)) (qI (xs.getD m zSl).2.2.2)) from
    ⟨(R.bw hW).set4 m hlt _ _ _ _ _ rfl,((((hB.trans (hW.mono hB.size)).setCell (p:=(qR w.heap.size (m*4))) aN _).setCell (p:=(qR w.heap.size (m*4+1))) aN _).setCell (p:=(qR w.heap.size (m*4+2))) aN _).setCell (p:=(qR w.heap.size (m*4+3))) aN _⟩)
   have HCE:=zh (fun (W:qw) (hW:qY wr W)=>show (∃ u,W.cell? (qR w.heap.size (m*4))=some u)/\(∃ u,W.cell? (qR w.heap.size (m*4+1))=some u)/\(∃ u,W.cell? (qR w.heap.size (m*4+2))=some u)/\(∃ u,W.cell? (qR w.heap.size (m*4+3))=some u)/\∀ i,W.frozen? (qR w.heap.size i)=false from
    ⟨⟨_,(R.bw hW).cell bM m 0 hlt (by omega) _ rfl⟩,⟨_,(R.bw hW).cell bM m 1 hlt (by omega) _ rfl⟩,⟨_,(R.bw hW).cell bM m 2 hlt (by omega) _ rfl⟩,⟨_,(R.bw hW).cell bM m 3 hlt (by omega) _ rfl⟩,by obtain ⟨cs,hk⟩:=(R.bw hW).blk;exact hk.frozen⟩)
   have HF2:=zh (show ∀ i,i<m+1->(if i=m then (xs.getD m zSl) else F i)=xs.getD i zSl from fun i hi=>by
    by_cases e:i=m
    .rw [if_pos e,e]
    .rw [if_neg e];exact hF i (by omega))
   clear R hB hF;generalize xs.getD m zSl=x at *;obtain ⟨x0,x1,x2,x3⟩:=x;dsimp only at y0 y1 y2 y3;go_wp2_with fail
   refine (aDj x0 x1 x2 x3 _).mono ?_;rintro e w2 ⟨rfl,hb2⟩;obtain ⟨⟨u0,p0⟩,⟨u1,p1⟩,⟨u2,p2⟩,⟨u3,p3⟩,pf⟩:=HCE.o w2 hb2;have HX:=zh (HFIN.o w2 hb2);clear HFIN HCE y0 y1 y2 y3 hb2;go_wp2
   go_roundw
   .exact ⟨m+1,_,by omega,by go_num,HX.o.1,HF2.o,HX.o.2⟩
   .simp [qf,intOf];omega
  .have e:Zh (m=n):=by show m=n;omega
   have HX:=zh (xA R hB);clear R hB;go_wp2;go_ret;exact ⟨rfl,HX.o.1.og bM (by omega) aN h.2.1 hl zSl (fun i hi=>hF i (by rw [e.o];exact hi)),HX.o.2⟩
theorem aBn (x0:Int)(x1 x2 x3:Int)(w:qw):
 qC 89 #[.agg (qW x0 x1 x2 x3)] w (qB w (.agg (qW x0 x1 x2 x3))):=by
 go_enter func89,ntmps89
 go_wp2;refine bodyPost_ret (v:=.agg (qW x0 x1 x2 x3)) (by simp [results,results89,go_sem]) rfl ⟨rfl,?_⟩;exact ((bal.alloc (by simp) _).alloc (by simp;omega) _)
theorem yR (a:qO)(n cap:Nat)(xs:List FrT)(w:qw)(h:QS cO zFr w a n cap xs)(hn:n<=1048576):
 qC 37 #[qS a n cap] w fun e w'=>e=.returned (qS (qP w.heap.size) n n)/\OG 135 4 cO w' w.heap.size (qS (qP w.heap.size) n n) xs/\qY w w':=by
 obtain ⟨i0,hi,hz0,hz1,hz2⟩:=info_parts aEp;have hl:=h.1;go_enter func37,ntmps37
 go_wp2_with (at_make;refine wpList_make_full _ rfl _ _ 41 rfl w.heap.size 135 i0 (.agg (qW 0 0 0 0)) 4 underlying41 hi hz0 hz1 .i64 .i64 _ _ n rfl rfl rfl rfl (by rw [hz2];omega) (by unfold maxLen;omega) aN ?_;intro w1 hown hgr)
 have HR0:=zh (xA (wH (f:=cO) zFr (.agg (qW 0 0 0 0)) rfl rfl hown) (aV hgr));clear hown hgr hi hz0 hz1 hz2;go_loopw [4] (fun i wr=>∃ (m:Nat) (F:Nat->FrT),m<=n/\i=qI m/\RowF 135 4 cO wr w.heap.size n F/\(∀ i,i<m->F i=xs.getD i zFr)/\qY w wr) (qf n)
 .exact ⟨0,_,xC _,rfl,HR0.o.1,fun i hi=>absurd hi (by omega),HR0.o.2⟩
 .obtain ⟨m,F,hm,rfl,R,hF,hB⟩:=hrel;clear HR0;by_cases hlt:m<n
  .have hlt':(m:Int)<(n:Int):=by omega
   obtain ⟨b,off,rfl,y0,y1,y2,y3⟩:=(h.bw hB).at m hlt _ _ _ _ rfl
   have HFIN:=zh (fun (W:qw) (hW:qY wr W)=>show RowF 135 4 cO ((((W.setCell (qR w.heap.size (m*4)) (qI (xs.getD m zFr).1)).setCell (qR w.heap.size (m*4+1)) (qI (xs.getD m zFr).2.1)).setCell (qR w.heap.size (m*4+2)) (qI (xs.getD m zFr).2.2.1)).setCell (qR w.heap.size (m*4+3)) (qI (xs.getD m zFr).2.2.2)) w.heap.size n (fun i=>if i=m then (xs.getD m zFr) else F i)/\qY w ((((W.setCell (qR w.heap.size (m*4)) (qI (xs.getD m zFr).1)).setCell (qR w.heap.size (m*4+1)) (qI (xs.getD m zFr).2.1)).setCell (qR w.heap.size (m*4+2)) (qI (xs.getD m zFr).2.2.1)).setCell (qR w.heap.size (m*4+3)) (qI (xs.getD m zFr).2.2.2)) from
    ⟨(R.bw hW).set4 m hlt _ _ _ _ _ rfl,((((hB.trans (hW.mono hB.size)).setCell (p:=(qR w.heap.size (m*4))) aN _).setCell (p:=(qR w.heap.size (m*4+1))) aN _).setCell (p:=(qR w.heap.size (m*4+2))) aN _).setCell (p:=(qR w.heap.size (m*4+3))) aN _⟩)
   have HCE:=zh (fun (W:qw) (hW:qY wr W)=>show (∃ u,W.cell? (qR w.heap.size (m*4))=some u)/\(∃ u,W.cell? (qR w.heap.size (m*4+1))=some u)/\(∃ u,W.cell? (qR w.heap.size (m*4+2))=some u)/\(∃ u,W.cell? (qR w.heap.size (m*4+3))=some u)/\∀ i,W.frozen? (qR w.heap.size i)=false from
    ⟨⟨_,(R.bw hW).cell cQ m 0 hlt (by omega) _ rfl⟩,⟨_,(R.bw hW).cell cQ m 1 hlt (by omega) _ rfl⟩,⟨_,(R.bw hW).cell cQ m 2 hlt (by omega) _ rfl⟩,⟨_,(R.bw hW).cell cQ m 3 hlt (by omega) _ rfl⟩,by obtain ⟨cs,hk⟩:=(R.bw hW).blk;exact hk.frozen⟩)
   have HF2:=zh (show ∀ i,i<m+1->(if i=m then (xs.getD m zFr) else F i)=xs.getD i zFr from fun i hi=>by
    by_cases e:i=m
    .rw [if_pos e,e]
    .rw [if_neg e];exact hF i (by omega))
   clear R hB hF;generalize xs.getD m zFr=x at *;obtain ⟨x0,x1,x2,x3⟩:=x;dsimp only at y0 y1 y2 y3;go_wp2_with fail
   refine (aBn x0 x1 x2 x3 _).mono ?_;rintro e w2 ⟨rfl,hb2⟩;obtain ⟨⟨u0,p0⟩,⟨u1,p1⟩,⟨u2,p2⟩,⟨u3,p3⟩,pf⟩:=HCE.o w2 hb2;have HX:=zh (HFIN.o w2 hb2);clear HFIN HCE y0 y1 y2 y3 hb2;go_wp2
   go_roundw
   .exact ⟨m+1,_,by omega,by go_num,HX.o.1,HF2.o,HX.o.2⟩
   .simp [qf,intOf];omega
  .have e:Zh (m=n):=by show m=n;omega
   have HX:=zh (xA R hB);clear R hB;go_wp2;go_ret;exact ⟨rfl,HX.o.1.og cQ (by omega) aN h.2.1 hl zFr (fun i hi=>hF i (by rw [e.o];exact hi)),HX.o.2⟩
