import Derived.Test.YtcimaholejajpaaGreatF08
set_option linter.all false
set_option maxHeartbeats 16000000
namespace Go.Proofs.YtcimaholejajpaaGreat
open Go.RowKit Classical
open Go.Proofs.Tryz
set_option maxRecDepth 100000
variable {g o:Nat}{q:Rg}
theorem aOy {S F:Value->World->Prop}{G:Prop}(main:(∀ v W,F v W->S v W)->G)(pf:∀ v W,F v W->S v W):G:=main pf
theorem aBw (a:qO)(n cap:Nat)(ms:List Md)(L:Lay)(a0:qO)(c0:Nat)(xs:List PB)(a2:qO)(c2:Nat)(a5:qO)(c5:Nat)(ts:List TB)(w:qw)(h:MSD w a n cap ms)(hL:LyT w L a0 c0 xs a2 c2 a5 c5 ts):
 qC 47 #[.slice a n cap,.agg (qJ L a0 xs c0 a2 c2 a5 ts c5)] w (ImM w (aF ms) L):=by
 have B0:qY w ((w.alloc (.cells (qJ L a0 xs c0 a2 c2 a5 ts c5) 64)).alloc (.cells (qV none 0 0 none 0 0 none 0 0) 33)):=bal.alloc (by simp) _;have kl:=(Blk.new w (qJ L a0 xs c0 a2 c2 a5 ts c5) 64).alloc (.cells (qV none 0 0 none 0 0 none 0 0) 33);have kr:=Blk.new (w.alloc (.cells (qJ L a0 xs c0 a2 c2 a5 ts c5) 64)) (qV none 0 0 none 0 0 none 0 0) 33;try unfold qY at *
 simp only [xF] at kr;have HRL:=zh (fun (W:qw) (hb:qY w W)=>sA a n cap ms L a0 c0 xs a2 c2 a5 c5 ts W (h.bw hb) (hL.bw hb));have HM:=zh h;have HL:=zh hL;clear h hL;go_enter func47,ntmps47
 go_wp2_with fail
 refine (HRL.o _ B0).mono ?_;rintro e w1 ⟨rfl,hb1⟩;have B1:=B0.trans (hb1.mono B0.size);have kl1:=kl.bw hb1;have kr1:=kr.bw hb1;clear B0 kl kr hb1;by_cases hok:Lok (aF ms) L
 .rw [xR hok];have K:=jG hok;obtain ⟨F,hF⟩:∃ F:Nat,L.flash=(F:Int):=⟨L.flash.toNat,by have:=K.fr;omega⟩;obtain ⟨R,hR⟩:∃ R:Nat,L.ram=(R:Int):=⟨L.ram.toNat,by have:=K.rr;omega⟩;have hF1:F<=16384:=by have:=K.fr;omega
  have hR1:R<=16384:=by have:=K.rr;omega
  have hmF:=aAq F hF1;have hmR:=aAq R hR1;have x3:w1.cell? (qR w.heap.size 3)=some (.int .i64 (F:Int)):=by rw [<- hF];exact kl1.cell 3
  have x4:w1.cell? (qR w.heap.size 4)=some (.int .i64 (R:Int)):=by rw [<- hR];exact kl1.cell 4
  have hw1:w.heap.size<w1.heap.size:=kl1.lt;generalize hZF:zby F=ZF at *;generalize hZR:zby R=ZR at *;have HZ:=zh (xA hZF hZR);clear hZF hZR;have HK1:=zh (xA B1 (xA kl1 kr1));have HFR:=zh (xA hF hR);have HKN:=zh K;have HOK:=zh hok;clear HRL;clear B1 kl1 kr1 hF hR K hok;go_wp2_with fail
  obtain ⟨N,hN⟩:=eqx (w1.heap.size);have hNw:N<=w1.heap.size:=by omega
  rename_i K hK;apply aOu (F:=fun gf gr go gm W=>Mk4 N w1 W ZF ZR F R gf gr go gm) (S:=fun gf gr go gm W=>Exit.then K (bodyPost prog f47 (ImM w (aF ms) L)) .normal ⟨#[.slice a n cap,.agg (qJ L a0 xs c0 a2 c2 a5 ts c5),undef,.pointer (some (qR w.heap.size 0)),.pointer (some (qR (w.heap.size+1) 0)),.bool false,.pointer (some (qR gm 0)),undef,undef,undef,undef,undef,undef,.slice a n cap,.agg (qJ L a0 xs c0 a2 c2 a5 ts c5),.bool true,.bool false,undef,.pointer (some (qR w.heap.size 3)),.int .i64 (F:Int),.slice (some (qR gf 0)) F F,.pointer (some (qR w.heap.size 4)),.int .i64 (R:Int),.slice (some (qR gr 0)) R R,.slice (some (qR go 0)) 0 0,.agg (qV (some (qR gf 0)) F F (some (qR gr 0)) R R (some (qR go 0)) 0 0),undef,undef,undef,undef,undef,undef,undef,undef,undef,undef,undef,undef,undef,undef,undef,undef,undef,undef,undef,undef,undef,undef,undef,undef,undef,undef,undef,undef,undef,undef,undef,undef,undef,undef,undef,undef,undef,undef,undef,undef,undef,undef,undef,undef,undef,undef,undef,undef,undef,undef,undef,undef,undef,undef,undef,undef,undef,undef,undef,undef,undef,undef,undef,undef,undef,undef,undef,undef,undef,undef,undef,undef,undef,undef,undef,undef,undef,undef,undef,undef,undef,undef,undef,undef,undef,undef,undef,undef,undef,undef,undef,undef,undef,undef,undef,undef],[]⟩ W)
  .intro REST0;have REST:=zh REST0;clear REST0
   go_region_held3 (fun w'=>w'.cell? (qR w.heap.size 3)=some (.int .i64 (F:Int))/\w'.cell? (qR w.heap.size 4)=some (.int .i64 (R:Int))) ((refine xA ?_ ?_)<;>(repeat (first|exact x3|exact x4|apply tH|apply oK|(apply vJ (by omega))))) (fail)
   all_goals
    refine REST.o _ _ _ _ _ ?_;exact ⟨(by repeat (first|with_reducible exact brf|with_reducible apply aBk|with_reducible apply vL hNw|with_reducible apply aEa (by omega))),(by repeat (first|with_reducible apply fT|with_reducible exact fS (by simp only [xF,fQ])|with_reducible apply cX|with_reducible apply dE (by omega)|with_reducible apply Blk.alloc)),(by repeat (first|with_reducible apply fT|with_reducible exact fS (by simp only [xF,fQ])|with_reducible apply cX|with_reducible apply dE (by omega)|with_reducible apply Blk.alloc)),(by repeat (first|with_reducible apply fT|with_reducible exact fS (by simp only [xF,fQ])|with_reducible apply cX|with_reducible apply dE (by omega)|with_reducible apply Blk.alloc)),(by repeat (first|with_reducible apply fT|with_reducible exact fS (by simp only [xF,fQ])|with_reducible apply cX|with_reducible apply dE (by omega)|with_reducible apply Blk.alloc)),(by omega),(by omega)⟩
  .rintro gf gr go gm W hF;show Exit.then _ _ _ _ _
   subst hN;have hpl:(aF ms).length=n:=by rw [bQ];exact HM.o.s.1
   have hn4:n<=4:=by have:=HKN.o.n;omega
   have S0:ImS w (qJ L a0 xs c0 a2 c2 a5 ts c5) F R gf gr go gm (flB (aF ms) L 0) (raB (aF ms) L 0) W:=by
    obtain ⟨B1,kl1,kr1⟩:=HK1.o;have h1:=kr1.lt;have h2:=hF.lo;have e1:flB (aF ms) L 0=List.replicate F 0:=by show List.replicate L.flash.toNat 0=_;rw [HFR.o.1];rfl
    have e2:raB (aF ms) L 0=List.replicate R 0:=by show List.replicate L.ram.toNat 0=_;rw [HFR.o.2];rfl
    rw [e1,e2];refine ⟨B1.trans (hF.be.mono B1.size),kl1.bw hF.be,kr1.bw hF.be,hF.m,pH (by rw [HZ.o.1];exact hF.f) (by omega) hF1,pH (by rw [HZ.o.2];exact hF.r) (by omega) hR1,hF.o,by omega,hF.ne⟩
   have HS0:=zh S0;clear S0 hF HK1 x3 x4 hw1 hmF hmR HZ hNw;go_wp2;go_loopw [7] (fun i wr=>∃ m:Nat,m<=n/\i=.int .i64 m/\ImS w (qJ L a0 xs c0 a2 c2 a5 ts c5) F R gf gr go gm (flB (aF ms) L m) (raB (aF ms) L m) wr) (qf n)
   .exact ⟨0,xC _,rfl,HS0.o⟩
   .clear HS0;obtain ⟨m,hm,rfl,S⟩:=hrel;generalize wr=wo at *;have HS:=zh S;by_cases hlt:m<n
    .have hlt':(m:Int)<(n:Int):=by omega
     obtain ⟨b,off,rfl,y0,y1,y2,y3,y4,y5,y6,y7⟩:=HM.o.s.at m hlt
     have HXL:=zh (show xs.length=n from by
      have h1:=congrArg List.length HL.o.ps;rw [HKN.o.pl] at h1;simp at h1
      omega)
     obtain ⟨pb,po,rfl,z0,z1,z2,z3⟩:=HL.o.p.at m (by have:=HXL.o;omega);have HPB:=zh (HL.o.p.2.2.2.1 m (by have:=HXL.o;omega));have HMD:=zh (HM.o.d m hlt);have HPM:Zh ((aF ms).getD m zP=(ms.getD m zMd).pm):=cD (by have:=HM.o.s.1;omega)
     have HPP:=zh (show (xs.getD m zPB).1=plc (aF ms) m from by
      rw [<- HKN.o.place m (by omega),<- HL.o.ps,bK _ _ _ zPB _ (by have:=HXL.o;omega)])
     have HAT:=zh (HKN.o.at m (by omega));have HFL:Zh (flB (aF ms) L (m+1)=cH (flB (aF ms) L m) ((aF ms).getD m zP) (L.places.getD m zPB.1) ((aF ms).getD m zP).bl.length):=rfl;have HRA:Zh (raB (aF ms) L (m+1)=gQ (ovr (raB (aF ms) L m) ((L.places.getD m zPB.1).data-65536).toNat ((aF ms).getD m zP).dz) ((L.places.getD m zPB.1).data-65536).toNat ((aF ms).getD m zP).rz (L.places.getD m zPB.1).data ((aF ms).getD m zP).rz.length):=rfl;have HVL:=zh (HKN.o.v m (by omega));rw [HKN.o.place m (by omega),<- HPP.o,HPM.o] at HFL HRA;rw [<- HPP.o,HPM.o,HFR.o.1,HFR.o.2] at HAT;rw [HPM.o] at HVL;clear HPM HPP;generalize hFZ:flB (aF ms) L (m+1)=FZ at HFL;generalize hRZ:raB (aF ms) L (m+1)=RZ at HRA;have HFZ:=zh (xA hFZ hRZ);clear hFZ hRZ;generalize flB (aF ms) L m=fz at *;generalize raB (aF ms) L m=rz at *;unfold svP at z1;generalize xs.getD m zPB=x at *;obtain ⟨⟨xt,xb,xd,xz⟩,xa,xc⟩:=x;generalize ms.getD m zMd=M at *;obtain ⟨P,hP⟩:=eqx (M.pm);rw [<- hP] at HFL HRA HAT HVL;have HPE:=zh (show P.tz=M.tz/\P.bl=M.bl.map (fun B=>B.2.2.2)/\P.dz=M.dz/\P.rz=M.rz by rw [hP];exact ⟨rfl,rfl,rfl,rfl⟩);clear hP;obtain ⟨nm,ta,tn,tc,tz,ba,bn,bc,bl,da,dn,dc,dz,bss,ra,rn,rc,rrz,ia,im,ic,ss,ea,en,ec,es⟩:=M;dsimp only at z0 z1 z2 z3 HPB HFL HRA HAT HMD HPE y0 y1 y2 y3 y4 y5 y6 y7;obtain ⟨kt,hkt⟩:∃ kt:Nat,xt=(kt:Int):=⟨xt.toNat,by have:=HAT.o.1.1;omega⟩;obtain ⟨f,hf⟩:∃ f:Nat,xd=65536+(f:Int):=⟨(xd-65536).toNat,by have:=HAT.o.2.2.2.1;omega⟩;subst hkt hf
     have HPZ1:=zh (fun (X:qw) (I:Im5 w (qL L (some (qR pb po)) xs.length c0 a2 L.slots.length c2 a5 ts.length c5) F R gf gr go gm wo.heap.size #[.int .i64 (kt:Int),.slice xa xb.length xc,.int .i64 (65536+(f:Int)),.int .i64 xz] fz rz X)=>(sB gf F F kt ta tn tc tz fz w.heap.size w X HMD.o.t I.s.be (by have:=I.s.lo;omega) I.s.f hF1 (by have h1:=HAT.o.1.2;have h2:tz.length=tn:=HMD.o.t.1;rw [HPE.o.1] at h1;omega) (fun i hi=>by have h1:=(aBo HVL.o).1 i;have h2:tz.length=tn:=HMD.o.t.1;rw [HPE.o.1] at h1;exact h1 (by omega))).mono (fun e w' he=>show e=.returned (.tuple #[])/\Im5 w (qL L (some (qR pb po)) xs.length c0 a2 L.slots.length c2 a5 ts.length c5) F R gf gr go gm wo.heap.size #[.int .i64 (kt:Int),.slice xa xb.length xc,.int .i64 (65536+(f:Int)),.int .i64 xz] (cH fz P ⟨(kt:Int),xb,65536+(f:Int),xz⟩ 0) rz w' from ⟨he.1,by
      have e1:cH fz P ⟨(kt:Int),xb,65536+(f:Int),xz⟩ 0=dR fz kt tz tn:=by
       show dR fz ((kt:Int)).toNat P.tz P.tz.length=_;rw [HPE.o.1,xY,show tz.length=tn from HMD.o.t.1]
      rw [e1]
      exact I.setf he.2.1 he.2.2⟩))
     have hbl:bl.length=bn:=HMD.o.b.1;have HLE:=zh (bS HVL.o);have hbn4:bn<=4:=by have h1:=HLE.o.2.2.2.1;rw [HPE.o.2.1,xH] at h1;omega
     have HBE:Zh (∀ j,j<bn->P.bl.getD j []=(bl.getD j zB).2.2.2):=fun j hj=>by rw [HPE.o.2.1,eH _ _ _ zB _]
     have HPZ2:=zh (fun (j:Nat) (hj:j<bn) (X:qw) (I:Im5 w (qL L (some (qR pb po)) xs.length c0 a2 L.slots.length c2 a5 ts.length c5) F R gf gr go gm wo.heap.size #[.int .i64 (kt:Int),.slice xa xb.length xc,.int .i64 (65536+(f:Int)),.int .i64 xz] (cH fz P ⟨(kt:Int),xb,65536+(f:Int),xz⟩ j) rz X)=>(show qC 84 #[.slice (some (qR gf 0)) F F,.int .i64 (xb.getD j 0),.slice (bl.getD j zB).1 (bl.getD j zB).2.1 (bl.getD j zB).2.2.1] X fun e w'=>e=.returned (.tuple #[])/\Im5 w (qL L (some (qR pb po)) xs.length c0 a2 L.slots.length c2 a5 ts.length c5) F R gf gr go gm wo.heap.size #[.int .i64 (kt:Int),.slice xa xb.length xc,.int .i64 (65536+(f:Int)),.int .i64 xz] (cH fz P ⟨(kt:Int),xb,65536+(f:Int),xz⟩ (j+1)) rz w' from by
      have hPl:P.bl.length=bn:=by rw [HPE.o.2.1,xH];exact hbl
      obtain ⟨h1,h2⟩:=HAT.o.2.2.1 j (by omega);have hI:IS w (bl.getD j zB).1 (bl.getD j zB).2.1 (bl.getD j zB).2.2.1 (bl.getD j zB).2.2.2:=HMD.o.b.2.2.2.1 j hj;have h3:(bl.getD j zB).2.2.2.length=(bl.getD j zB).2.1:=hI.1;have h4:=(aBo HVL.o).2 j (by omega);rw [HBE.o j hj] at h2 h4;obtain ⟨kb,hkb⟩:∃ kb:Nat,xb.getD j 0=(kb:Int):=⟨(xb.getD j 0).toNat,by omega⟩;rw [hkb] at h2
      have e1:cH fz P ⟨(kt:Int),xb,65536+(f:Int),xz⟩ (j+1)=dR (cH fz P ⟨(kt:Int),xb,65536+(f:Int),xz⟩ j) kb (bl.getD j zB).2.2.2 (bl.getD j zB).2.1:=by
       show dR _ (xb.getD j 0).toNat (P.bl.getD j []) (P.bl.getD j []).length=_;rw [HBE.o j hj,hkb,xY,h3]
      rw [hkb,e1]
      exact (sB gf F F kb _ _ _ _ _ w.heap.size w X hI I.s.be (by have:=I.s.lo;omega) I.s.f hF1 (by omega) (fun i hi=>h4 i (by omega))).mono (fun e w' he=>⟨he.1,I.setf he.2.1 he.2.2⟩)))
     have I1:Im5 w (qL L (some (qR pb po)) xs.length c0 a2 L.slots.length c2 a5 ts.length c5) F R gf gr go gm wo.heap.size #[.int .i64 (kt:Int),.slice xa xb.length xc,.int .i64 (65536+(f:Int)),.int .i64 xz] fz rz (wo.alloc (.cells #[.int .i64 (kt:Int),.slice xa xb.length xc,.int .i64 (65536+(f:Int)),.int .i64 xz] 136)):=⟨S.bw (show qY wo (wo.alloc (.cells #[.int .i64 (kt:Int),.slice xa xb.length xc,.int .i64 (65536+(f:Int)),.int .i64 xz] 136)) from bal),Blk.new _ _ _⟩;have HI1:=zh I1;have c0':=S.kl.cell 0;simp only [List.getElem?_toArray,List.getElem?_cons_zero] at c0';have zz0:=aE S.be z0;have zz1:=aE S.be z1;have zz2:=aE S.be z2;have zz3:=aE S.be z3;have hml':(m:Int)<(xs.length:Int):=by have:=HXL.o;omega
     clear S I1 HS;go_wp2_with fail
     generalize hW1:wo.alloc (.cells #[.int .i64 (kt:Int),.slice xa xb.length xc,.int .i64 (65536+(f:Int)),.int .i64 xz] 136)=W1 at *;clear hW1;have v0:W1.cell? (qR gm 0)=some (.slice (some (qR gf 0)) F F):=HI1.o.s.km.cell 0;have v1:W1.cell? (qR wo.heap.size 0)=some (.int .i64 (kt:Int)):=HI1.o.p.cell 0;have v2:=aE HI1.o.s.be y1
     go_region_held3 (fun w'=>w'.cell? (qR gm 0)=some (.slice (some (qR gf 0)) F F)/\w'.cell? (qR wo.heap.size 0)=some (.int .i64 (kt:Int))/\w'.cell? (qR b (off+m*8+1))=some (.slice ta tn tc)) (go_keep)
      (first
        | (go_at_call 84;first
            | with_reducible refine (HPZ1.o _ HI1.o).mono ?_
            | with_reducible refine (HPZ1.o _ HI1.o.drew).mono ?_
           rintro e w2 ⟨rfl,hI2⟩;have HI2:=zh hI2;clear hI2;have u0:w2.cell? (qR gm 0)=some (.slice (some (qR gf 0)) F F):=HI2.o.s.km.cell 0;have u1:w2.cell? (qR wo.heap.size 0)=some (.int .i64 (kt:Int)):=HI2.o.p.cell 0
           have u2:=aE HI2.o.s.be y1))
     clear v0 v1 v2 u0 u1 u2 zz0 zz1 zz2 zz3 c0' z0 z1 z2 z3;go_wp2;go_loopw [9] (fun i wr=>∃ j:Nat,j<=bn/\i=.int .i64 j/\Im5 w (qL L (some (qR pb po)) xs.length c0 a2 L.slots.length c2 a5 ts.length c5) F R gf gr go gm wo.heap.size #[.int .i64 (kt:Int),.slice xa xb.length xc,.int .i64 (65536+(f:Int)),.int .i64 xz] (cH fz P ⟨(kt:Int),xb,65536+(f:Int),xz⟩ j) rz wr) (qf bn)
     .exact ⟨0,xC _,rfl,HI2.o⟩
     .clear HI1 HI2 HPZ1;obtain ⟨j,hj,rfl,hJ⟩:=hrel;have HJ:=zh hJ;generalize wr=wj at *;have s2:=aE hJ.s.be y2;by_cases hjb:j<bn
      .have hjb':(j:Int)<(bn:Int):=by omega
       have hxb:xb.length=bn:=by
        have h1:=HAT.o.2.1;rw [HPE.o.2.1,xH] at h1;omega
       have HXB:=zh hxb;have hjx':(j:Int)<(xb.length:Int):=by omega
       clear hxb;obtain ⟨bb,bo,rfl,hbc⟩:=HMD.o.b.2.2.1 (show bn≠0 by omega);obtain ⟨qb,qo,rfl,hqc⟩:=HPB.o.2.2.2.1 (show xb.length≠0 by have:=HXB.o;omega);have v0:wj.cell? (qR gm 0)=some (.slice (some (qR gf 0)) F F):=hJ.s.km.cell 0;have v1:wj.cell? (qR wo.heap.size 1)=some (.slice (some (qR qb qo)) xb.length xc):=hJ.p.cell 1;have v2:=aE hJ.s.be (hqc j (by have:=HXB.o;omega));have hbcj:=hbc j hjb;dsimp only at hbcj;have v3:=aE hJ.s.be hbcj;have HP2:=zh (HPZ2.o j hjb);have HVW:=zh (fun (W:qw) (hb:qY w W)=>xA (aE hb (hqc j (by have:=HXB.o;omega))) (xA (aE hb hbcj) (aE hb y2)));clear hJ hbc hqc hbcj;generalize (bl.getD j zB).1=k1 at *;generalize (bl.getD j zB).2.1=k2 at *;generalize (bl.getD j zB).2.2.1=k3 at *;generalize xb.getD j 0=k4 at *;go_wp2_with fail
       go_region_held3 (fun w'=>w'.cell? (qR gm 0)=some (.slice (some (qR gf 0)) F F)/\w'.cell? (qR wo.heap.size 1)=some (.slice (some (qR qb qo)) xb.length xc)/\w'.cell? (qR qb (qo+j))=some (.int .i64 k4)/\w'.cell? (qR b (off+m*8+2))=some (.slice (some (qR bb bo)) bn bc)/\w'.cell? (qR bb (bo+j))=some (.slice k1 k2 k3)) (go_keep)
        (first
          | (go_at_call 84;first
              | with_reducible refine (HP2.o _ HJ.o).mono ?_
              | with_reducible refine (HP2.o _ HJ.o.drew).mono ?_
             rintro e w3 ⟨rfl,hI3⟩;have HI3:=zh hI3;clear hI3;have u0:w3.cell? (qR gm 0)=some (.slice (some (qR gf 0)) F F):=HI3.o.s.km.cell 0;have u1:w3.cell? (qR wo.heap.size 1)=some (.slice (some (qR qb qo)) xb.length xc):=HI3.o.p.cell 1
             obtain ⟨u2,u3,u4⟩:=HVW.o w3 HI3.o.s.be))
       clear v0 v1 v2 v3 u0 u1 u2 u3 u4 s2;go_wp2
       go_roundw
       .exact ⟨j+1,by omega,by go_num,HI3.o⟩
       .simp [qf,intOf];omega
      .have HJN:=zh (show j=bn by omega);have t2:wj.cell? (qR wo.heap.size 2)=some (.int .i64 (65536+(f:Int))):=hJ.p.cell 2;have t1:wj.cell? (qR gm 1)=some (.slice (some (qR gr 0)) R R):=hJ.s.km.cell 1;have s3:=aE hJ.s.be y3;have hff:(65536:Int)+(f:Int)-65536=(f:Int):=by omega
       have hfR:(f:Int)<=(R:Int):=by have:=HAT.o.2.2.2.2;omega
       clear hJ;have hdn:dz.length=dn:=HMD.o.d.1
       have hfd:f+dn<=R:=by
        have h1:=HAT.o.2.2.2.2;rw [HPE.o.2.2.1] at h1;omega
       have HBS:=zh (fun (X:qw) (hb:qY w X)=>show BS X da dn dc dz from HMD.o.d.bw hb);have HI4F:=zh (fun (X X':qw) (I:Im5 w (qL L (some (qR pb po)) xs.length c0 a2 L.slots.length c2 a5 ts.length c5) F R gf gr go gm wo.heap.size #[.int .i64 (kt:Int),.slice xa xb.length xc,.int .i64 (65536+(f:Int)),.int .i64 xz] (cH fz P ⟨(kt:Int),xb,65536+(f:Int),xz⟩ j) rz X) (O:OB X' w.heap.size (.slice (some (qR gr 0)) R R) (ovr rz f dz)) (T:eP gr X X')=>I.setr O T);have f0':(0:Int)<=(f:Int):=by omega
       have HFT:Zh (((f:Int)).toNat=f):=xY f;go_wp2_with fail
       apply aOy (F:=fun v W=>Im5 w (qL L (some (qR pb po)) xs.length c0 a2 L.slots.length c2 a5 ts.length c5) F R gf gr go gm wo.heap.size #[.int .i64 (kt:Int),.slice xa xb.length xc,.int .i64 (65536+(f:Int)),.int .i64 xz] (cH fz P ⟨(kt:Int),xb,65536+(f:Int),xz⟩ j) (ovr rz f dz) W)
       .intro REST0;have REST:=zh REST0;clear REST0;by_cases hfl:f<R
        .have hfl':(f:Int)<(R:Int):=by omega
         obtain ⟨w4,hrun,O4,T4⟩:=tE (f:=f) HJ.o.drew.s.r 3 (some ⟨gr,f,none⟩) da (R-f) (R-f) dn dc (HBS.o _ HJ.o.drew.s.be) (by omega) (by omega) (fun _=>rfl);have HI4:=zh (HI4F.o _ _ HJ.o.drew O4 T4);clear O4 T4;have u1:w4.cell? (qR gm 1)=some (.slice (some (qR gr 0)) R R):=HI4.o.s.km.cell 1;have u2:=aE HI4.o.s.be y3
         go_region_held3 (fun w'=>w'.cell? (qR gm 1)=some (.slice (some (qR gr 0)) R R)/\w'.cell? (qR b (off+m*8+3))=some (.slice da dn dc)) (go_keep) (fail)
         generalize Value.slice (some (qR gr f)) (R-f) (R-f)=v79;exact REST.o v79 w4 HI4.o
        .obtain rfl:R=f:=by omega
         have hd0:dn=0:=by omega
         obtain ⟨w4,hrun,O4,T4⟩:=tE (f:=R) HJ.o.drew.s.r 3 (some ⟨gr,0,none⟩) da 0 0 dn dc (HBS.o _ HJ.o.drew.s.be) (by omega) (by omega) (fun h=>by omega);have HI4:=zh (HI4F.o _ _ HJ.o.drew O4 T4);clear O4 T4;have u1:w4.cell? (qR gm 1)=some (.slice (some (qR gr 0)) R R):=HI4.o.s.km.cell 1;have u2:=aE HI4.o.s.be y3;have HD0:=zh hd0;clear hd0
         go_region_held3 (fun w'=>w'.cell? (qR gm 1)=some (.slice (some (qR gr 0)) R R)/\w'.cell? (qR b (off+m*8+3))=some (.slice da dn dc)) (go_keep) (fail)
         exact REST.o _ w4 HI4.o
       .rintro v79 W4 hI4;show Exit.then _ _ _ _ _
        have HI4:=zh hI4;have hrl:rrz.length=rn:=HMD.o.r.1
        have hrn:rn<=16:=by
         have V:=fA (by simp [dO]) (show mdo P.nm P.tz.length P.tz P.bl.length (dO P.bl) P.dz.length P.bss P.rz.length P.rz P.ss.length P.ss P.es.length P.es=0 from HVL.o);have h1:=V.r;rw [HPE.o.2.2.2] at h1;omega
        have HRLB:=zh (show ∀ q,q<rn->0<=rrz.getD q 0/\rrz.getD q 0+4<=(dn:Int) from fun q hq=>by
         have h1:=aFt HVL.o q (by rw [HPE.o.2.2.2];omega);rw [HPE.o.2.2.2,HPE.o.2.2.1] at h1
         omega)
        clear hI4 HJ HBS HI4F t1 t2 s3 s2 hff HFT;go_wp2;go_loopw [11,12] (fun i _ wr=>∃ q:Nat,q<=rn/\i=.int .i64 q/\Im5 w (qL L (some (qR pb po)) xs.length c0 a2 L.slots.length c2 a5 ts.length c5) F R gf gr go gm wo.heap.size #[.int .i64 (kt:Int),.slice xa xb.length xc,.int .i64 (65536+(f:Int)),.int .i64 xz] (cH fz P ⟨(kt:Int),xb,65536+(f:Int),xz⟩ j) (gQ (ovr rz f dz) f rrz (65536+(f:Int)) q) wr) (fun i _ _=>rn-(intOf i).toNat)
        .exact ⟨0,xC _,rfl,HI4.o⟩
        .clear HI4;obtain ⟨q,hq,rfl,hQ⟩:=hrel;have HQ:=zh hQ;generalize wr=wq at *;have s5:=aE hQ.s.be y5;by_cases hqr:q<rn
         .have hqr':(q:Int)<(rn:Int):=by omega
          obtain ⟨rb,ro,rfl,hrc⟩:=HMD.o.r.2.2.2.1 (show rn≠0 by omega);obtain ⟨h1,h2⟩:=HRLB.o q hqr;have hrq:=hrc q hqr;dsimp only at hrq;have s6:=aE hQ.s.be hrq;have HRE:Zh (gQ (ovr rz f dz) f rrz (65536+(f:Int)) (q+1)=put (gQ (ovr rz f dz) f rrz (65536+(f:Int)) q) (f+(rrz.getD q 0).toNat) (low (((gQ (ovr rz f dz) f rrz (65536+(f:Int)) q).drop (f+(rrz.getD q 0).toNat)).take 4)+(65536+(f:Int))) 4):=rfl;clear hrc hrq hQ;generalize hRQ1:gQ (ovr rz f dz) f rrz (65536+(f:Int)) (q+1)=RQ1 at HRE;have HRQ1:=zh hRQ1;clear hRQ1;generalize gQ (ovr rz f dz) f rrz (65536+(f:Int)) q=RQ at *;obtain ⟨x,hx⟩:∃ x:Nat,rrz.getD q 0=(x:Int):=⟨(rrz.getD q 0).toNat,by omega⟩;rw [hx] at s6 HRE h1 h2;rw [xY] at HRE;clear hx;obtain ⟨A,hA⟩:∃ A:Nat,A=f+x:=⟨_,rfl⟩;obtain ⟨A4,hA4⟩:∃ A4:Nat,A4=A+4:=⟨_,rfl⟩;rw [<- hA] at HRE;have hAR:A4<=R:=by omega
          have hAi:(f:Int)+(x:Int)=(A:Int):=by omega
          have HAI:=zh hAi;have hw4:IntKind.i64.wrap ((A:Int)+4)=(A4:Int):=by rw [xP,xQ _ (by omega)];omega
          have hz0:(0:Int)<=(A:Int):=by omega
          have hz1:(A:Int)<=(A4:Int):=by omega
          have hz2:(A4:Int)<=(R:Int):=by omega
          have hz3:(A:Int)<(R:Int):=by omega
          have hz4:A<=A4:=by omega
          have hz5:¬ (R=A):=by omega
          have hz6:A<R:=by omega
          have hRQ:RQ.length=R:=(pA HQ.o.s.r).2.1;have HLR:=zh (gV ((RQ.drop A).take 4) (fun z hz=>HQ.o.s.r.2 z (List.mem_of_mem_drop (List.mem_of_mem_take hz))) (by simp;omega));obtain ⟨lw,hlw⟩:=eqx (low ((RQ.drop A).take 4));rw [<- hlw] at HLR HRE;obtain ⟨VV,hVV⟩:=eqx (lw+(65536+(f:Int)));rw [<- hVV] at HRE;have hwV:IntKind.i64.wrap (lw+(65536+(f:Int)))=VV:=by rw [hVV,xP,xQ _ (by have:=HLR.o;omega)]
          have HVR:=zh (show -9223372036854775808<=VV/\VV<=9223372036854775807 by have:=HLR.o;omega)
          have HLO:=zh (fun (X:qw) (I:Im5 w (qL L (some (qR pb po)) xs.length c0 a2 L.slots.length c2 a5 ts.length c5) F R gf gr go gm wo.heap.size #[.int .i64 (kt:Int),.slice xa xb.length xc,.int .i64 (65536+(f:Int)),.int .i64 xz] (cH fz P ⟨(kt:Int),xb,65536+(f:Int),xz⟩ j) RQ X)=>show qC 67 #[.slice (some (qR gr A)) (A4-A) (R-A)] X fun e w'=>e=.returned (.int .i64 lw)/\X=w' from by
           have hbs:BS X (some (qR gr A)) (A4-A) (R-A) ((RQ.drop A).take 4):=by
            have hb:=I.s.r.bs;refine ⟨by simp;omega,by unfold maxLen;omega,fun z hz=>I.s.r.2 z (List.mem_of_mem_drop (List.mem_of_mem_take hz)),fun _=>⟨gr,A,rfl,fun i hi=>?_⟩,by omega⟩;have h1:=hb.at (A+i) (by omega);rw [Nat.zero_add] at h1;rw [h1];congr 2;simp [xB,List.getElem?_take,List.getElem?_drop,show i<4 by omega]
           have:=vA gr A (A4-A) (R-A) _ X hbs;rw [<- hlw] at this
           exact this)
          have HPU:=zh (fun (X:qw) (I:Im5 w (qL L (some (qR pb po)) xs.length c0 a2 L.slots.length c2 a5 ts.length c5) F R gf gr go gm wo.heap.size #[.int .i64 (kt:Int),.slice xa xb.length xc,.int .i64 (65536+(f:Int)),.int .i64 xz] (cH fz P ⟨(kt:Int),xb,65536+(f:Int),xz⟩ j) RQ X)=>show qC 76 #[.slice (some (qR gr 0)) R R,.int .i64 (A:Int),.int .i64 4,.int .i64 (VV%4294967296)] X fun e w'=>e=.returned (.tuple #[])/\Im5 w (qL L (some (qR pb po)) xs.length c0 a2 L.slots.length c2 a5 ts.length c5) F R gf gr go gm wo.heap.size #[.int .i64 (kt:Int),.slice xa xb.length xc,.int .i64 (65536+(f:Int)),.int .i64 xz] (cH fz P ⟨(kt:Int),xb,65536+(f:Int),xz⟩ j) RQ1 w' from
           (nH gr R R A 4 (VV%4294967296) X (pC I.s.r) hR1 (by omega) (by omega) (by omega) (by omega) (by omega)).mono (fun e w' he=>⟨he.1,by
             rw [he.2,HRE.o];have O:=wR I.s.r A (VV%4294967296) 4 (by omega);rw [(aGj RQ A VV).1] at O
             exact I.setr O (lU gr A (VV%4294967296) X 4)⟩))
          clear hlw hVV hA hA4 h1 h2;go_wp2_with fail
          try rw [HAI.o]
          have v1:wq.cell? (qR gm 1)=some (.slice (some (qR gr 0)) R R):=HQ.o.s.km.cell 1;have v2:wq.cell? (qR wo.heap.size 2)=some (.int .i64 (65536+(f:Int))):=HQ.o.p.cell 2;clear hAi s5 s6
          go_region_held3 (fun w'=>w'.cell? (qR gm 1)=some (.slice (some (qR gr 0)) R R)/\w'.cell? (qR wo.heap.size 2)=some (.int .i64 (65536+(f:Int)))) (go_keep)
           (first
             | (go_at_call 67;first
                 | with_reducible refine (HLO.o _ HQ.o).mono ?_
                 | with_reducible refine (HLO.o _ HQ.o.drew).mono ?_
                rintro e w5 ⟨rfl,rfl⟩)
             | (go_at_call 85;first
                 | with_reducible refine (sG VV _ HVR.o).mono ?_
                 | (rw [hwV];with_reducible refine (sG VV _ HVR.o).mono ?_)
                rintro e w5 ⟨rfl,rfl⟩)
             | (go_at_call 76;first
                 | with_reducible refine (HPU.o _ HQ.o).mono ?_
                 | with_reducible refine (HPU.o _ HQ.o.drew).mono ?_
                rintro e w6 ⟨rfl,hI6⟩;have HI6:=zh hI6;clear hI6;have u1:w6.cell? (qR gm 1)=some (.slice (some (qR gr 0)) R R):=HI6.o.s.km.cell 1
                have u2:w6.cell? (qR wo.heap.size 2)=some (.int .i64 (65536+(f:Int))):=HI6.o.p.cell 2))
          clear v1 v2 u1 u2 hw4 hwV;go_wp2
          go_roundw
          .exact ⟨q+1,by omega,by go_num,by rw [HRQ1.o];exact HI6.o⟩
          .simp [qf,intOf];omega
         .have HQN:=zh (show q=rn by omega)
          have HZ2:=zh (show ImS w (qL L (some (qR pb po)) xs.length c0 a2 L.slots.length c2 a5 ts.length c5) F R gf gr go gm FZ RZ wq from by
           have h1:=hQ.s;have e1:P.bl.length=bn:=by rw [HPE.o.2.1,xH];exact hbl
           rw [HFL.o,HRA.o,e1,HPE.o.2.2.1,HPE.o.2.2.2,hrl,show ((65536:Int)+(f:Int)-65536).toNat=f by omega,<- HJN.o,<- HQN.o]
           exact h1)
          clear hQ HQ;go_wp2
          go_roundw
          .exact ⟨m+1,by omega,by go_num,by rw [HFZ.o.1,HFZ.o.2];exact HZ2.o⟩
          .simp [qf,intOf];omega
    .have e:Zh (m=n):=by show m=n;omega
     obtain ⟨q0,q1,q2⟩:wo.cell? ⟨gm,0,none⟩=some (.slice (some ⟨gf,0,none⟩) F F)/\wo.cell? ⟨gm,1,none⟩=some (.slice (some ⟨gr,0,none⟩) R R)/\wo.cell? ⟨gm,2,none⟩=some (.slice (some ⟨go,0,none⟩) 0 0):=⟨S.km.cell 0,S.km.cell 1,S.km.cell 2⟩;obtain ⟨p0,p1,p2⟩:wo.cell? ⟨w.heap.size+1,0,none⟩=some (.slice none 0 0)/\wo.cell? ⟨w.heap.size+1,1,none⟩=some (.slice none 0 0)/\wo.cell? ⟨w.heap.size+1,2,none⟩=some (.slice none 0 0):=⟨S.kr.cell 0,S.kr.cell 1,S.kr.cell 2⟩;have pf:=S.kr.frozen;have T:Turn (fun j=>j=w.heap.size+1) wo (((wo.setCell (qR (w.heap.size+1) 0) (.slice (some (qR gf 0)) F F)).setCell (qR (w.heap.size+1) 1) (.slice (some (qR gr 0)) R R)).setCell (qR (w.heap.size+1) 2) (.slice (some (qR go 0)) 0 0)):=((aC _ _ _ _).trans (aC _ _ _ _)).trans (aC _ _ _ _)
     have HE:=zh (show ImM w (aF ms) L (.returned (.tuple #[.agg (qV (some (qR gf 0)) F F (some (qR gr 0)) R R (some (qR go 0)) 0 0),.bool true])) (((wo.setCell (qR (w.heap.size+1) 0) (.slice (some (qR gf 0)) F F)).setCell (qR (w.heap.size+1) 1) (.slice (some (qR gr 0)) R R)).setCell (qR (w.heap.size+1) 2) (.slice (some (qR go 0)) 0 0)) from by
      have hlo:=S.lo;refine ⟨aI S.be T (fun k e=>by omega) S.be.size,some (qR gf 0),F,F,some (qR gr 0),R,R,some (qR go 0),0,0,by rw [xR HOK.o],?_⟩;unfold imF imR;rw [if_pos HOK.o,if_pos HOK.o,hpl,<- e.o];have kO:=aA T S.o (by omega);refine ⟨cC T S.f (fun k hk s=>by simp [Value.ownBlock] at hk;omega),cC T S.r (fun k hk s=>by simp [Value.ownBlock] at hk;omega),⟨⟨rfl,.inr ⟨go,0,#[],rfl,by omega,kO,aL,xC _,rfl,rfl⟩⟩,by simp⟩,?_,?_,?_⟩
      all_goals
       intro k hk;have hne:=S.ne;simp [Value.ownBlock] at hk ⊢
       omega)
     have k3:=cX (v0:=.slice (some (qR gf 0)) F F) (v1:=.slice (some (qR gr 0)) R R) (v2:=.slice (some (qR go 0)) 0 0) S.kr;have s0:=k3.cell 0;have s1:=k3.cell 1;have s2:=k3.cell 2;simp only [List.getElem?_toArray,List.getElem?_cons_zero,List.getElem?_cons_succ] at s0 s1 s2;clear S T HS k3;go_wp2;exact bodyPost_ret (v:=.tuple #[.agg (qV (some (qR gf 0)) F F (some (qR gr 0)) R R (some (qR go 0)) 0 0),.bool true]) (by simp [results,results47,go_sem,s0,s1,s2]) rfl HE.o
 .rw [xS hok]
  have HE:=zh (show ∀ W',qY w W'->ImM w (aF ms) L (.returned (.tuple #[.agg (qV none 0 0 none 0 0 none 0 0),.bool false])) W' from fun W' hb=>by
   refine ⟨hb,none,0,0,none,0,0,none,0,0,by rw [xS hok],?_⟩;unfold imF imR;rw [if_neg hok,if_neg hok];refine ⟨⟨⟨rfl,.inl ⟨rfl,rfl⟩⟩,by simp⟩,⟨⟨rfl,.inl ⟨rfl,rfl⟩⟩,by simp⟩,⟨⟨rfl,.inl ⟨rfl,rfl⟩⟩,by simp⟩,?_,?_,?_⟩
   all_goals
    intro k hk
    simp [Value.ownBlock] at hk)
  have k3:=cX (v0:=.slice none 0 0) (v1:=.slice none 0 0) (v2:=.slice none 0 0) kr1;have s0:=k3.cell 0;have s1:=k3.cell 1;have s2:=k3.cell 2;simp only [List.getElem?_toArray,List.getElem?_cons_zero,List.getElem?_cons_succ] at s0 s1 s2;have T:Turn (fun j=>j=w.heap.size+1) w1 (((w1.setCell (qR (w.heap.size+1) 0) (.slice none 0 0)).setCell (qR (w.heap.size+1) 1) (.slice none 0 0)).setCell (qR (w.heap.size+1) 2) (.slice none 0 0)):=((aC _ _ _ _).trans (aC _ _ _ _)).trans (aC _ _ _ _);have HB:=zh (aI B1 T (fun k e=>by omega) B1.size);obtain ⟨p0,p1,p2⟩:w1.cell? ⟨w.heap.size+1,0,none⟩=some (.slice none 0 0)/\w1.cell? ⟨w.heap.size+1,1,none⟩=some (.slice none 0 0)/\w1.cell? ⟨w.heap.size+1,2,none⟩=some (.slice none 0 0):=⟨kr1.cell 0,kr1.cell 1,kr1.cell 2⟩;have pf:=kr1.frozen;clear T k3 kl1 kr1 B1 hok HRL HM HL;go_wp2;exact bodyPost_ret (v:=.tuple #[.agg (qV none 0 0 none 0 0 none 0 0),.bool false]) (by simp [results,results47,go_sem,s0,s1,s2]) rfl (HE.o _ HB.o)
def wE (w:qw)(g o:Nat)(r x y:Bool):World:=((w.setCell (qR g (o+3)) (.bool r)).setCell (qR g (o+4)) (.bool x)).setCell (qR g (o+5)) (.bool y)
theorem cI (w:qw)(g o b o':Nat)(r x y:Bool)(h:b≠g\/o'<o+3\/o+6<=o':=by omega):(wE w g o r x y).cell? (qR b o')=w.cell? (qR b o'):=by
 unfold wE;rw [cM,cM,cM]
theorem aI5 {w:qw}(h:At6 w g o q)(r x y:Bool):At6 (wE w g o r x y) g o (rgt r x y q):=by
 obtain ⟨h1,h2,h3,h4,h5,h6⟩:=h;refine ⟨?_,?_,?_,?_,?_,?_⟩
 .rw [cI _ _ _ _ _ _ _ _];exact h1
 .rw [cI _ _ _ _ _ _ _ _];exact h2
 .rw [cI _ _ _ _ _ _ _ _];exact h3
 .unfold wE;rw [cM,cM];exact nT h4
 .unfold wE;rw [cM];exact nT (by rw [cM];exact h5)
 .unfold wE;exact nT (by rw [cM,cM];exact h6)
theorem aAe {w:qw}{b o':Nat}(h:At6 w b o' q)(r x y:Bool)(hf:b≠g\/o'+6<=o\/o+6<=o'):At6 (wE w g o r x y) b o' q:=by
 unfold At6;rw [cI _ _ _ _ _ _ _ _,cI _ _ _ _ _ _ _ _,cI _ _ _ _ _ _ _ _,cI _ _ _ _ _ _ _ _,cI _ _ _ _ _ _ _ _,cI _ _ _ _ _ _ _ _];exact h
def rW (r x y:Bool)(C:List Rg)(k:Nat):List Rg:=(rts r x y C).take k++C.drop k
theorem rV (r x y:Bool)(C:List Rg)(k:Nat)(h:k<=C.length):(rW r x y C k).length=C.length:=by
 simp [rW,eV];omega
theorem aDn (r x y:Bool)(C:List Rg)(k i:Nat)(h:k<=C.length)(hi:i<C.length):(rW r x y C k).getD i z6=if i<k then rgt r x y (C.getD i z6) else C.getD i z6:=by
 unfold rW;by_cases c:i<k
 .rw [if_pos c,xB,List.getElem?_append_left (by simp [eV];omega)];simp [rts,c,hi,xB]
 .rw [if_neg c,xB,List.getElem?_append_right (by simp [eV];omega)];simp only [List.length_take,eV,List.getElem?_drop];rw [show k+(i-min k C.length)=i by omega,xB]
theorem aGd {w:qw}{r x y:Bool}{C:List Rg}{k:Nat}(hk:k<C.length)(h:RowW w g (rW r x y C k)):RowW (wE w g (k*6) r x y) g (rW r x y C (k+1)):=by
 obtain ⟨⟨cur,hc⟩,hr⟩:=h;refine ⟨⟨_,((hc.set _ _).set _ _).set _ _⟩,fun i hi=>?_⟩;rw [rV _ _ _ _ _ (by omega)] at hi;have hq:=hr i (by rw [rV _ _ _ _ _ (by omega)];exact hi);rw [aDn _ _ _ _ _ _ (by omega) hi] at hq;rw [aDn _ _ _ _ _ _ (by omega) hi];by_cases c:i=k
 .subst c;rw [if_neg (by omega)] at hq;rw [if_pos (by omega)];exact aI5 hq r x y
 .by_cases c2:i<k
  .rw [if_pos c2] at hq;rw [if_pos (by omega)];exact aAe hq r x y (by omega)
  .rw [if_neg c2] at hq;rw [if_neg (by omega)];exact aAe hq r x y (by omega)
theorem aAb (f s:Int)(r x y:Bool)(w:qw)(hf:wfi f)(hs:wfi s):
 qC 144 #[.agg #[qI f,qI s,.bool r,.bool x,.bool y]] w fun e w'=>∃ A n cap,e=.returned (qS A n cap)/\RS w' A n cap (rts r x y (cvL f s))/\(A=none->n=0/\cap=0)/\qY w w':=by
 obtain ⟨W,hW⟩:=eqx (w.alloc (.cells #[qI f,qI s,.bool r,.bool x,.bool y] 159));have HBW:=zh (show qY w W by rw [hW];exact bal);have k0:Blk W w.heap.size #[qI f,qI s,.bool r,.bool x,.bool y] 159:=by rw [hW];exact Blk.new w _ _
 have sW:W.heap.size=w.heap.size+1:=by rw [hW];simp
 have d0:=k0.e0;have d1:=k0.e1;have HK:=zh k0;have HC:=zh (aCo f s W (by unfold wfi at hf;omega));have HL:=zh (pF f s);generalize cvL f s=C at *;have HW:=zh hW;clear hW k0;go_enter func144,ntmps144
 go_wp2_with (rw [<- HW.o])
 refine HC.o.mono ?_;rintro e w2 ⟨c,n,cc,rfl,hC,hB2⟩;have HN:=zh (eU hC).1;have hn:n<=8192:=by have:=HN.o;have:=HL.o;omega
 have HX:=zh (xA hC hB2);by_cases h0:n=0
 .subst h0;clear hC hB2;go_wp2_with fail
  go_loopw [16] (fun i wr=>i=qI 0/\wr=w2) (fun _ _=>0)
  .exact ⟨rfl,rfl⟩
  .obtain ⟨rfl,rfl⟩:=hrel;go_wp2;go_ret;have e0:C=[]:=xE HN.o;refine ⟨_,_,_,rfl,?_,fun hc=>?_,HBW.o.trans (HX.o.2.mono HBW.o.size)⟩;rotate_left
   .obtain ⟨hl,⟨h1,_⟩|⟨g',cap',cur,hv,_⟩⟩:=HX.o.1.1
    .injection h1 with _ h1 h2;exact ⟨rfl,h2⟩
    .injection hv with h1;rw [hc] at h1;cases h1
   have:=eU HX.o.1;rw [e0] at this ⊢;exact this
 .have hn0:n≠0:=h0
  obtain ⟨g,ha⟩:∃ g,c=some ⟨g,0,none⟩:=by
   obtain ⟨hl,⟨h1,_⟩|⟨g',cap',cur,hv,_⟩⟩:=hC.1
   .injection h1 with _ h1;exact absurd h1 hn0
   .injection hv with h1;exact ⟨g',h1⟩
  subst ha;have HR:=zh (aJq hC hn0)
  have hg1:W.heap.size<=g:=by
   obtain ⟨hl,⟨h1,_⟩|⟨g',cap',cur,hv,hg,_⟩⟩:=hC.1
   .injection h1 with _ h1;exact absurd h1 hn0
   .injection hv with h1;injection h1 with h1;injection h1 with h1;omega
  clear hC hB2;go_wp2_with fail
  go_loopw [16] (fun i wr=>∃ k:Nat,k<=n/\i=qI k/\RowW wr g (rW r x y C k)/\qY W wr) (qf n)
  .exact ⟨0,xC _,rfl,by simpa [rW] using HR.o,HX.o.2⟩
  .obtain ⟨k,hk,rfl,hR,hB⟩:=hrel;by_cases hlt:k<n
   .have hlt':(k:Int)<(n:Int):=by omega
    obtain ⟨p0,p1,p2,p3,p4,p5⟩:=hR.2 k (by rw [rV _ _ _ _ _ (by rw [HN.o];omega),HN.o];exact hlt);have hfz:=hR.frozen;have kk:=HK.o.bw hB;have e2:=kk.e2;have e3:=kk.e3;have e4:=kk.e4;have HS:=zh (aGd (by rw [HN.o];exact hlt) hR);have HB3:Zh (qY W ((wE wr g (k*6) r x y).drew)):=(((hB.setCell (p:=(qR g (k*6+3))) hg1 _).setCell (p:=(qR g (k*6+4))) hg1 _).setCell (p:=(qR g (k*6+5))) hg1 _).drew;clear hR hB kk;generalize (rW r x y C k).getD k z6=G at *;obtain ⟨g1,g2,g3,g4,g5,g6⟩:=G;have hne:¬ g=w.heap.size:=by omega
    have hne':¬ w.heap.size=g:=by omega
    have f3:=hfz (k*6+3);have f4:=hfz (k*6+4);have f5:=hfz (k*6+5);clear hfz;go_wp2
    go_region_with (fail)
    all_goals
     go_wp2
     go_roundw
     .exact ⟨k+1,by omega,by go_num,HS.o,HB3.o⟩
     .simp [qf,intOf];omega
   .have HE:=zh (show k=n by omega);have HF:=zh (xA hR hB);clear hR hB;go_wp2;go_ret;refine ⟨_,_,_,rfl,?_,(fun hc=>by cases hc),HBW.o.trans (HF.o.2.mono HBW.o.size)⟩;have hRR:=HF.o.1
    have e0:rW r x y C k=rts r x y C:=by
     have hl:=eV r x y C;have:=HN.o;unfold rW;rw [List.drop_eq_nil_of_le (by rw [HE.o,this];exact aL),List.append_nil,xG (by rw [hl,this,HE.o];exact aL)]
    rw [e0] at hRR;refine ⟨by rw [eV];exact HN.o,by unfold maxLen;omega,?_,fun _=>⟨g,0,rfl,fun i hi=>by have:=hRR.2 i (by rw [eV,HN.o];exact hi);rw [Nat.zero_add];exact this⟩,(eU HX.o.1).2.2.2.2⟩;intro q hq;simp only [rts,List.mem_map] at hq;obtain ⟨p,hp,rfl⟩:=hq;exact HX.o.1.2 p hp
