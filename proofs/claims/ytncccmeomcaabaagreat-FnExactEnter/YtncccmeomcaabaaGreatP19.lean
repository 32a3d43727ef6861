import Derived.Test.YtncccmeomcaabaaGreatP17
import Derived.Test.YtncccmeomcaabaaGreatP18
set_option maxHeartbeats 16000000
namespace Go.Proofs.YtncccmeomcaabaaGreat
open Go.RowKit Classical
open Go.Proofs.Tryz
set_option linter.all false
set_option maxRecDepth 100000
variable {M:Mn}{R:World->Prop}{arg cr cs:Array Value}{base c g g0 g1 g2 g3 g4 g5 g6 n:Nat}{ms':List Md}
theorem aQw {S F:Value->World->Prop}{G:Prop}(main:(∀ v W,F v W->S v W)->G)(pf:∀ v W,F v W->S v W):G:=main pf
theorem aD5 (a:qO)(n cap:Nat)(ms:List Md)(L:Lay)(a0:qO)(c0:Nat)(xs:List PB)(a2:qO)(c2:Nat)(a5:qO)(c5:Nat)(ts:List TB)(w:qw)(h:MSD w a n cap ms)(hL:LyT w L a0 c0 xs a2 c2 a5 c5 ts):
 qC 78 #[.slice a n cap,.agg (qJ L a0 xs c0 a2 c2 a5 ts c5)] w (ImM w (aD ms) L):=by
 have B0:qY w ((w.alloc (.cells (qJ L a0 xs c0 a2 c2 a5 ts c5) 71)).alloc (.cells (qV none 0 0 none 0 0 none 0 0) 39)):=bal.alloc (by simp) _;have kl:=(Blk.new w (qJ L a0 xs c0 a2 c2 a5 ts c5) 71).alloc (.cells (qV none 0 0 none 0 0 none 0 0) 39);have kr:=Blk.new (w.alloc (.cells (qJ L a0 xs c0 a2 c2 a5 ts c5) 71)) (qV none 0 0 none 0 0 none 0 0) 39;try unfold qY at *
 simp only [xF] at kr;have HRL:=zh (fun (W:qw) (hb:qY w W)=>tP a n cap ms L a0 c0 xs a2 c2 a5 c5 ts W (h.bw hb) (hL.bw hb));have HM:=zh h;have HL:=zh hL;clear h hL;go_enter func78,ntmps78
 go_wp2_with fail
 refine (HRL.o _ B0).mono ?_;rintro e w1 ⟨rfl,hb1⟩;have B1:=B0.trans (hb1.mono B0.size);have kl1:=kl.bw hb1;have kr1:=kr.bw hb1;clear B0 kl kr hb1;by_cases hok:Lok (aD ms) L
 .rw [xR hok];have K:=kI hok;obtain ⟨F,hF⟩:∃ F:Nat,L.flash=(F:Int):=⟨L.flash.toNat,by have:=K.fr;omega⟩;obtain ⟨R,hR⟩:∃ R:Nat,L.ram=(R:Int):=⟨L.ram.toNat,by have:=K.rr;omega⟩;have hF1:F<=16384:=by have:=K.fr;omega
  have hR1:R<=16384:=by have:=K.rr;omega
  have hmF:=yG F hF1;have hmR:=yG R hR1;have x3:w1.cell? (qR w.heap.size 3)=some (.int .i64 (F:Int)):=by rw [<- hF];exact kl1.cell 3
  have x4:w1.cell? (qR w.heap.size 4)=some (.int .i64 (R:Int)):=by rw [<- hR];exact kl1.cell 4
  have hw1:w.heap.size<w1.heap.size:=kl1.lt;generalize hZF:zby F=ZF at *;generalize hZR:zby R=ZR at *;have HZ:=zh (xA hZF hZR);clear hZF hZR;have HK1:=zh (xA B1 (xA kl1 kr1));have HFR:=zh (xA hF hR);have HKN:=zh K;have HOK:=zh hok;clear HRL;clear B1 kl1 kr1 hF hR K hok;go_wp2_with fail
  obtain ⟨N,hN⟩:=eqx (w1.heap.size);have hNw:N<=w1.heap.size:=by omega
  rename_i K hK;apply aQs (F:=fun gf gr go gm W=>Mk4 N w1 W ZF ZR F R gf gr go gm) (S:=fun gf gr go gm W=>Exit.then K (bodyPost prog f78 (ImM w (aD ms) L)) .normal ⟨#[.slice a n cap,.agg (qJ L a0 xs c0 a2 c2 a5 ts c5),undef,.pointer (some (qR w.heap.size 0)),.pointer (some (qR (w.heap.size+1) 0)),.bool false,.pointer (some (qR gm 0)),undef,undef,undef,undef,undef,undef,.slice a n cap,.agg (qJ L a0 xs c0 a2 c2 a5 ts c5),.bool true,.bool false,undef,.pointer (some (qR w.heap.size 3)),.int .i64 (F:Int),.slice (some (qR gf 0)) F F,.pointer (some (qR w.heap.size 4)),.int .i64 (R:Int),.slice (some (qR gr 0)) R R,.slice (some (qR go 0)) 0 0,.agg (qV (some (qR gf 0)) F F (some (qR gr 0)) R R (some (qR go 0)) 0 0),undef,undef,undef,undef,undef,undef,undef,undef,undef,undef,undef,undef,undef,undef,undef,undef,undef,undef,undef,undef,undef,undef,undef,undef,undef,undef,undef,undef,undef,undef,undef,undef,undef,undef,undef,undef,undef,undef,undef,undef,undef,undef,undef,undef,undef,undef,undef,undef,undef,undef,undef,undef,undef,undef,undef,undef,undef,undef,undef,undef,undef,undef,undef,undef,undef,undef,undef,undef,undef,undef,undef,undef,undef,undef,undef,undef,undef,undef,undef,undef,undef,undef,undef,undef,undef,undef,undef,undef,undef,undef,undef,undef,undef,undef,undef,undef],[]⟩ W)
  .intro REST0;have REST:=zh REST0;clear REST0
   go_region_held3 (fun w'=>w'.cell? (qR w.heap.size 3)=some (.int .i64 (F:Int))/\w'.cell? (qR w.heap.size 4)=some (.int .i64 (R:Int))) ((refine xA ?_ ?_)<;>(repeat (first|exact x3|exact x4|apply uQ|apply pM|(apply yV (by omega))))) (fail)
   all_goals
    refine REST.o _ _ _ _ _ ?_;exact ⟨(by repeat (first|with_reducible exact brf|with_reducible apply aDp|with_reducible apply yW hNw|with_reducible apply aG0 (by omega))),(by repeat (first|with_reducible apply gK|with_reducible exact gJ (by simp only [xF,gG])|with_reducible apply dC|with_reducible apply dK (by omega)|with_reducible apply Blk.alloc)),(by repeat (first|with_reducible apply gK|with_reducible exact gJ (by simp only [xF,gG])|with_reducible apply dC|with_reducible apply dK (by omega)|with_reducible apply Blk.alloc)),(by repeat (first|with_reducible apply gK|with_reducible exact gJ (by simp only [xF,gG])|with_reducible apply dC|with_reducible apply dK (by omega)|with_reducible apply Blk.alloc)),(by repeat (first|with_reducible apply gK|with_reducible exact gJ (by simp only [xF,gG])|with_reducible apply dC|with_reducible apply dK (by omega)|with_reducible apply Blk.alloc)),(by omega),(by omega)⟩
  .rintro gf gr go gm W hF;show Exit.then _ _ _ _ _
   subst hN;have hpl:(aD ms).length=n:=by rw [bR];exact HM.o.s.1
   have hn4:n<=4:=by have:=HKN.o.n;omega
   have S0:ImS w (qJ L a0 xs c0 a2 c2 a5 ts c5) F R gf gr go gm (flB (aD ms) L 0) (raB (aD ms) L 0) W:=by
    obtain ⟨B1,kl1,kr1⟩:=HK1.o;have h1:=kr1.lt;have h2:=hF.lo;have e1:flB (aD ms) L 0=List.replicate F 0:=by show List.replicate L.flash.toNat 0=_;rw [HFR.o.1];rfl
    have e2:raB (aD ms) L 0=List.replicate R 0:=by show List.replicate L.ram.toNat 0=_;rw [HFR.o.2];rfl
    rw [e1,e2];refine ⟨B1.trans (hF.be.mono B1.size),kl1.bw hF.be,kr1.bw hF.be,hF.m,nS (by rw [HZ.o.1];exact hF.f) (by omega) hF1,nS (by rw [HZ.o.2];exact hF.r) (by omega) hR1,hF.o,by omega,hF.ne⟩
   have HS0:=zh S0;clear S0 hF HK1 x3 x4 hw1 hmF hmR HZ hNw;go_wp2;go_loopw [7] (fun i wr=>∃ m:Nat,m<=n/\i=.int .i64 m/\ImS w (qJ L a0 xs c0 a2 c2 a5 ts c5) F R gf gr go gm (flB (aD ms) L m) (raB (aD ms) L m) wr) (qf n)
   .exact ⟨0,xC _,rfl,HS0.o⟩
   .clear HS0;obtain ⟨m,hm,rfl,S⟩:=hrel;generalize wr=wo at *;have HS:=zh S;by_cases hlt:m<n
    .have hlt':(m:Int)<(n:Int):=by omega
     obtain ⟨b,off,rfl,y0,y1,y2,y3,y4,y5,y6,y7⟩:=HM.o.s.at m hlt
     have HXL:=zh (show xs.length=n from by
      have h1:=congrArg List.length HL.o.ps;rw [HKN.o.pl] at h1;simp at h1
      omega)
     obtain ⟨pb,po,rfl,z0,z1,z2,z3⟩:=HL.o.p.at m (by have:=HXL.o;omega);have HPB:=zh (HL.o.p.2.2.2.1 m (by have:=HXL.o;omega));have HMD:=zh (HM.o.d m hlt);have HPM:Zh ((aD ms).getD m zP=(ms.getD m aK).pm):=cH (by have:=HM.o.s.1;omega)
     have HPP:=zh (show (xs.getD m zPB).1=plc (aD ms) m from by
      rw [<- HKN.o.place m (by omega),<- HL.o.ps,bD _ _ _ zPB _ (by have:=HXL.o;omega)])
     have HAT:=zh (HKN.o.at m (by omega));have HFL:Zh (flB (aD ms) L (m+1)=cN (flB (aD ms) L m) ((aD ms).getD m zP) (L.places.getD m zPB.1) ((aD ms).getD m zP).bl.length):=rfl;have HRA:Zh (raB (aD ms) L (m+1)=iH (ovr (raB (aD ms) L m) ((L.places.getD m zPB.1).data-65536).toNat ((aD ms).getD m zP).dz) ((L.places.getD m zPB.1).data-65536).toNat ((aD ms).getD m zP).rz (L.places.getD m zPB.1).data ((aD ms).getD m zP).rz.length):=rfl;have HVL:=zh (HKN.o.v m (by omega));rw [HKN.o.place m (by omega),<- HPP.o,HPM.o] at HFL HRA;rw [<- HPP.o,HPM.o,HFR.o.1,HFR.o.2] at HAT;rw [HPM.o] at HVL;clear HPM HPP;generalize hFZ:flB (aD ms) L (m+1)=FZ at HFL;generalize hRZ:raB (aD ms) L (m+1)=RZ at HRA;have HFZ:=zh (xA hFZ hRZ);clear hFZ hRZ;generalize flB (aD ms) L m=fz at *;generalize raB (aD ms) L m=rz at *;unfold svP at z1;generalize xs.getD m zPB=x at *;obtain ⟨⟨xt,xb,xd,xz⟩,xa,xc⟩:=x;generalize ms.getD m aK=M at *;obtain ⟨P,hP⟩:=eqx (M.pm);rw [<- hP] at HFL HRA HAT HVL;have HPE:=zh (show P.tz=M.tz/\P.bl=M.bl.map (fun B=>B.2.2.2)/\P.dz=M.dz/\P.rz=M.rz by rw [hP];exact ⟨rfl,rfl,rfl,rfl⟩);clear hP;obtain ⟨nm,ta,tn,tc,tz,ba,bn,bc,bl,da,dn,dc,dz,bss,ra,rn,rc,rrz,ia,im,ic,ss,ea,en,ec,es⟩:=M;dsimp only at z0 z1 z2 z3 HPB HFL HRA HAT HMD HPE y0 y1 y2 y3 y4 y5 y6 y7;obtain ⟨kt,hkt⟩:∃ kt:Nat,xt=(kt:Int):=⟨xt.toNat,by have:=HAT.o.1.1;omega⟩;obtain ⟨f,hf⟩:∃ f:Nat,xd=65536+(f:Int):=⟨(xd-65536).toNat,by have:=HAT.o.2.2.2.1;omega⟩;subst hkt hf
     have HPZ1:=zh (fun (X:qw) (I:Im5 w (qL L (some (qR pb po)) xs.length c0 a2 L.slots.length c2 a5 ts.length c5) F R gf gr go gm wo.heap.size #[.int .i64 (kt:Int),.slice xa xb.length xc,.int .i64 (65536+(f:Int)),.int .i64 xz] fz rz X)=>(mI gf F F kt ta tn tc tz fz w.heap.size w X HMD.o.t I.s.be (by have:=I.s.lo;omega) I.s.f hF1 (by have h1:=HAT.o.1.2;have h2:tz.length=tn:=HMD.o.t.1;rw [HPE.o.1] at h1;omega) (fun i hi=>by have h1:=(aDu HVL.o).1 i;have h2:tz.length=tn:=HMD.o.t.1;rw [HPE.o.1] at h1;exact h1 (by omega))).mono (fun e w' he=>show e=.returned (.tuple #[])/\Im5 w (qL L (some (qR pb po)) xs.length c0 a2 L.slots.length c2 a5 ts.length c5) F R gf gr go gm wo.heap.size #[.int .i64 (kt:Int),.slice xa xb.length xc,.int .i64 (65536+(f:Int)),.int .i64 xz] (cN fz P ⟨(kt:Int),xb,65536+(f:Int),xz⟩ 0) rz w' from ⟨he.1,by
      have e1:cN fz P ⟨(kt:Int),xb,65536+(f:Int),xz⟩ 0=bL fz kt tz tn:=by
       show bL fz ((kt:Int)).toNat P.tz P.tz.length=_;rw [HPE.o.1,xY,show tz.length=tn from HMD.o.t.1]
      rw [e1]
      exact I.setf he.2.1 he.2.2⟩))
     have hbl:bl.length=bn:=HMD.o.b.1;have HLE:=zh (cA HVL.o);have hbn4:bn<=4:=by have h1:=HLE.o.2.2.2.1;rw [HPE.o.2.1,xH] at h1;omega
     have HBE:Zh (∀ j,j<bn->P.bl.getD j []=(bl.getD j zB).2.2.2):=fun j hj=>by rw [HPE.o.2.1,fD _ _ _ zB _]
     have HPZ2:=zh (fun (j:Nat) (hj:j<bn) (X:qw) (I:Im5 w (qL L (some (qR pb po)) xs.length c0 a2 L.slots.length c2 a5 ts.length c5) F R gf gr go gm wo.heap.size #[.int .i64 (kt:Int),.slice xa xb.length xc,.int .i64 (65536+(f:Int)),.int .i64 xz] (cN fz P ⟨(kt:Int),xb,65536+(f:Int),xz⟩ j) rz X)=>(show qC 144 #[.slice (some (qR gf 0)) F F,.int .i64 (xb.getD j 0),.slice (bl.getD j zB).1 (bl.getD j zB).2.1 (bl.getD j zB).2.2.1] X fun e w'=>e=.returned (.tuple #[])/\Im5 w (qL L (some (qR pb po)) xs.length c0 a2 L.slots.length c2 a5 ts.length c5) F R gf gr go gm wo.heap.size #[.int .i64 (kt:Int),.slice xa xb.length xc,.int .i64 (65536+(f:Int)),.int .i64 xz] (cN fz P ⟨(kt:Int),xb,65536+(f:Int),xz⟩ (j+1)) rz w' from by
      have hPl:P.bl.length=bn:=by rw [HPE.o.2.1,xH];exact hbl
      obtain ⟨h1,h2⟩:=HAT.o.2.2.1 j (by omega);have hI:IS w (bl.getD j zB).1 (bl.getD j zB).2.1 (bl.getD j zB).2.2.1 (bl.getD j zB).2.2.2:=HMD.o.b.2.2.2.1 j hj;have h3:(bl.getD j zB).2.2.2.length=(bl.getD j zB).2.1:=hI.1;have h4:=(aDu HVL.o).2 j (by omega);rw [HBE.o j hj] at h2 h4;obtain ⟨kb,hkb⟩:∃ kb:Nat,xb.getD j 0=(kb:Int):=⟨(xb.getD j 0).toNat,by omega⟩;rw [hkb] at h2
      have e1:cN fz P ⟨(kt:Int),xb,65536+(f:Int),xz⟩ (j+1)=bL (cN fz P ⟨(kt:Int),xb,65536+(f:Int),xz⟩ j) kb (bl.getD j zB).2.2.2 (bl.getD j zB).2.1:=by
       show bL _ (xb.getD j 0).toNat (P.bl.getD j []) (P.bl.getD j []).length=_;rw [HBE.o j hj,hkb,xY,h3]
      rw [hkb,e1]
      exact (mI gf F F kb _ _ _ _ _ w.heap.size w X hI I.s.be (by have:=I.s.lo;omega) I.s.f hF1 (by omega) (fun i hi=>h4 i (by omega))).mono (fun e w' he=>⟨he.1,I.setf he.2.1 he.2.2⟩)))
     have I1:Im5 w (qL L (some (qR pb po)) xs.length c0 a2 L.slots.length c2 a5 ts.length c5) F R gf gr go gm wo.heap.size #[.int .i64 (kt:Int),.slice xa xb.length xc,.int .i64 (65536+(f:Int)),.int .i64 xz] fz rz (wo.alloc (.cells #[.int .i64 (kt:Int),.slice xa xb.length xc,.int .i64 (65536+(f:Int)),.int .i64 xz] 171)):=⟨S.bw (show qY wo (wo.alloc (.cells #[.int .i64 (kt:Int),.slice xa xb.length xc,.int .i64 (65536+(f:Int)),.int .i64 xz] 171)) from bal),Blk.new _ _ _⟩;have HI1:=zh I1;have c0':=S.kl.cell 0;simp only [List.getElem?_toArray,List.getElem?_cons_zero] at c0';have zz0:=aB S.be z0;have zz1:=aB S.be z1;have zz2:=aB S.be z2;have zz3:=aB S.be z3;have hml':(m:Int)<(xs.length:Int):=by have:=HXL.o;omega
     clear S I1 HS;go_wp2_with fail
     generalize hW1:wo.alloc (.cells #[.int .i64 (kt:Int),.slice xa xb.length xc,.int .i64 (65536+(f:Int)),.int .i64 xz] 171)=W1 at *;clear hW1;have v0:W1.cell? (qR gm 0)=some (.slice (some (qR gf 0)) F F):=HI1.o.s.km.cell 0;have v1:W1.cell? (qR wo.heap.size 0)=some (.int .i64 (kt:Int)):=HI1.o.p.cell 0;have v2:=aB HI1.o.s.be y1
     go_region_held3 (fun w'=>w'.cell? (qR gm 0)=some (.slice (some (qR gf 0)) F F)/\w'.cell? (qR wo.heap.size 0)=some (.int .i64 (kt:Int))/\w'.cell? (qR b (off+m*8+1))=some (.slice ta tn tc)) (go_keep)
      (first
        | (go_at_call 144;first
            | with_reducible refine (HPZ1.o _ HI1.o).mono ?_
            | with_reducible refine (HPZ1.o _ HI1.o.drew).mono ?_
           rintro e w2 ⟨rfl,hI2⟩;have HI2:=zh hI2;clear hI2;have u0:w2.cell? (qR gm 0)=some (.slice (some (qR gf 0)) F F):=HI2.o.s.km.cell 0;have u1:w2.cell? (qR wo.heap.size 0)=some (.int .i64 (kt:Int)):=HI2.o.p.cell 0
           have u2:=aB HI2.o.s.be y1))
     clear v0 v1 v2 u0 u1 u2 zz0 zz1 zz2 zz3 c0' z0 z1 z2 z3;go_wp2;go_loopw [9] (fun i wr=>∃ j:Nat,j<=bn/\i=.int .i64 j/\Im5 w (qL L (some (qR pb po)) xs.length c0 a2 L.slots.length c2 a5 ts.length c5) F R gf gr go gm wo.heap.size #[.int .i64 (kt:Int),.slice xa xb.length xc,.int .i64 (65536+(f:Int)),.int .i64 xz] (cN fz P ⟨(kt:Int),xb,65536+(f:Int),xz⟩ j) rz wr) (qf bn)
     .exact ⟨0,xC _,rfl,HI2.o⟩
     .clear HI1 HI2 HPZ1;obtain ⟨j,hj,rfl,hJ⟩:=hrel;have HJ:=zh hJ;generalize wr=wj at *;have s2:=aB hJ.s.be y2;by_cases hjb:j<bn
      .have hjb':(j:Int)<(bn:Int):=by omega
       have hxb:xb.length=bn:=by
        have h1:=HAT.o.2.1;rw [HPE.o.2.1,xH] at h1;omega
       have HXB:=zh hxb;have hjx':(j:Int)<(xb.length:Int):=by omega
       clear hxb;obtain ⟨bb,bo,rfl,hbc⟩:=HMD.o.b.2.2.1 (show bn≠0 by omega);obtain ⟨qb,qo,rfl,hqc⟩:=HPB.o.2.2.2.1 (show xb.length≠0 by have:=HXB.o;omega);have v0:wj.cell? (qR gm 0)=some (.slice (some (qR gf 0)) F F):=hJ.s.km.cell 0;have v1:wj.cell? (qR wo.heap.size 1)=some (.slice (some (qR qb qo)) xb.length xc):=hJ.p.cell 1;have v2:=aB hJ.s.be (hqc j (by have:=HXB.o;omega));have hbcj:=hbc j hjb;dsimp only at hbcj;have v3:=aB hJ.s.be hbcj;have HP2:=zh (HPZ2.o j hjb);have HVW:=zh (fun (W:qw) (hb:qY w W)=>xA (aB hb (hqc j (by have:=HXB.o;omega))) (xA (aB hb hbcj) (aB hb y2)));clear hJ hbc hqc hbcj;generalize (bl.getD j zB).1=k1 at *;generalize (bl.getD j zB).2.1=k2 at *;generalize (bl.getD j zB).2.2.1=k3 at *;generalize xb.getD j 0=k4 at *;go_wp2_with fail
       go_region_held3 (fun w'=>w'.cell? (qR gm 0)=some (.slice (some (qR gf 0)) F F)/\w'.cell? (qR wo.heap.size 1)=some (.slice (some (qR qb qo)) xb.length xc)/\w'.cell? (qR qb (qo+j))=some (.int .i64 k4)/\w'.cell? (qR b (off+m*8+2))=some (.slice (some (qR bb bo)) bn bc)/\w'.cell? (qR bb (bo+j))=some (.slice k1 k2 k3)) (go_keep)
        (first
          | (go_at_call 144;first
              | with_reducible refine (HP2.o _ HJ.o).mono ?_
              | with_reducible refine (HP2.o _ HJ.o.drew).mono ?_
             rintro e w3 ⟨rfl,hI3⟩;have HI3:=zh hI3;clear hI3;have u0:w3.cell? (qR gm 0)=some (.slice (some (qR gf 0)) F F):=HI3.o.s.km.cell 0;have u1:w3.cell? (qR wo.heap.size 1)=some (.slice (some (qR qb qo)) xb.length xc):=HI3.o.p.cell 1
             obtain ⟨u2,u3,u4⟩:=HVW.o w3 HI3.o.s.be))
       clear v0 v1 v2 v3 u0 u1 u2 u3 u4 s2;go_wp2
       go_roundw
       .exact ⟨j+1,by omega,by go_num,HI3.o⟩
       .simp [qf,intOf];omega
      .have HJN:=zh (show j=bn by omega);have t2:wj.cell? (qR wo.heap.size 2)=some (.int .i64 (65536+(f:Int))):=hJ.p.cell 2;have t1:wj.cell? (qR gm 1)=some (.slice (some (qR gr 0)) R R):=hJ.s.km.cell 1;have s3:=aB hJ.s.be y3;have hff:(65536:Int)+(f:Int)-65536=(f:Int):=by omega
       have hfR:(f:Int)<=(R:Int):=by have:=HAT.o.2.2.2.2;omega
       clear hJ;have hdn:dz.length=dn:=HMD.o.d.1
       have hfd:f+dn<=R:=by
        have h1:=HAT.o.2.2.2.2;rw [HPE.o.2.2.1] at h1;omega
       have HBS:=zh (fun (X:qw) (hb:qY w X)=>show BS X da dn dc dz from HMD.o.d.bw hb);have HI4F:=zh (fun (X X':qw) (I:Im5 w (qL L (some (qR pb po)) xs.length c0 a2 L.slots.length c2 a5 ts.length c5) F R gf gr go gm wo.heap.size #[.int .i64 (kt:Int),.slice xa xb.length xc,.int .i64 (65536+(f:Int)),.int .i64 xz] (cN fz P ⟨(kt:Int),xb,65536+(f:Int),xz⟩ j) rz X) (O:OB X' w.heap.size (.slice (some (qR gr 0)) R R) (ovr rz f dz)) (T:fG gr X X')=>I.setr O T);have f0':(0:Int)<=(f:Int):=by omega
       have HFT:Zh (((f:Int)).toNat=f):=xY f;go_wp2_with fail
       apply aQw (F:=fun v W=>Im5 w (qL L (some (qR pb po)) xs.length c0 a2 L.slots.length c2 a5 ts.length c5) F R gf gr go gm wo.heap.size #[.int .i64 (kt:Int),.slice xa xb.length xc,.int .i64 (65536+(f:Int)),.int .i64 xz] (cN fz P ⟨(kt:Int),xb,65536+(f:Int),xz⟩ j) (ovr rz f dz) W)
       .intro REST0;have REST:=zh REST0;clear REST0;by_cases hfl:f<R
        .have hfl':(f:Int)<(R:Int):=by omega
         obtain ⟨w4,hrun,O4,T4⟩:=uM (f:=f) HJ.o.drew.s.r 3 (some ⟨gr,f,none⟩) da (R-f) (R-f) dn dc (HBS.o _ HJ.o.drew.s.be) (by omega) (by omega) (fun _=>rfl);have HI4:=zh (HI4F.o _ _ HJ.o.drew O4 T4);clear O4 T4;have u1:w4.cell? (qR gm 1)=some (.slice (some (qR gr 0)) R R):=HI4.o.s.km.cell 1;have u2:=aB HI4.o.s.be y3
         go_region_held3 (fun w'=>w'.cell? (qR gm 1)=some (.slice (some (qR gr 0)) R R)/\w'.cell? (qR b (off+m*8+3))=some (.slice da dn dc)) (go_keep) (fail)
         generalize Value.slice (some (qR gr f)) (R-f) (R-f)=v79;exact REST.o v79 w4 HI4.o
        .obtain rfl:R=f:=by omega
         have hd0:dn=0:=by omega
         obtain ⟨w4,hrun,O4,T4⟩:=uM (f:=R) HJ.o.drew.s.r 3 (some ⟨gr,0,none⟩) da 0 0 dn dc (HBS.o _ HJ.o.drew.s.be) (by omega) (by omega) (fun h=>by omega);have HI4:=zh (HI4F.o _ _ HJ.o.drew O4 T4);clear O4 T4;have u1:w4.cell? (qR gm 1)=some (.slice (some (qR gr 0)) R R):=HI4.o.s.km.cell 1;have u2:=aB HI4.o.s.be y3;have HD0:=zh hd0;clear hd0
         go_region_held3 (fun w'=>w'.cell? (qR gm 1)=some (.slice (some (qR gr 0)) R R)/\w'.cell? (qR b (off+m*8+3))=some (.slice da dn dc)) (go_keep) (fail)
         exact REST.o _ w4 HI4.o
       .rintro v79 W4 hI4;show Exit.then _ _ _ _ _
        have HI4:=zh hI4;have hrl:rrz.length=rn:=HMD.o.r.1
        have hrn:rn<=16:=by
         have V:=lA (by simp [lN]) (show mdo P.nm P.tz.length P.tz P.bl.length (lN P.bl) P.dz.length P.bss P.rz.length P.rz P.ss.length P.ss P.es.length P.es=0 from HVL.o);have h1:=V.r;rw [HPE.o.2.2.2] at h1;omega
        have HRLB:=zh (show ∀ q,q<rn->0<=rrz.getD q 0/\rrz.getD q 0+4<=(dn:Int) from fun q hq=>by
         have h1:=aIx HVL.o q (by rw [HPE.o.2.2.2];omega);rw [HPE.o.2.2.2,HPE.o.2.2.1] at h1
         omega)
        clear hI4 HJ HBS HI4F t1 t2 s3 s2 hff HFT;go_wp2;go_loopw [11,12] (fun i _ wr=>∃ q:Nat,q<=rn/\i=.int .i64 q/\Im5 w (qL L (some (qR pb po)) xs.length c0 a2 L.slots.length c2 a5 ts.length c5) F R gf gr go gm wo.heap.size #[.int .i64 (kt:Int),.slice xa xb.length xc,.int .i64 (65536+(f:Int)),.int .i64 xz] (cN fz P ⟨(kt:Int),xb,65536+(f:Int),xz⟩ j) (iH (ovr rz f dz) f rrz (65536+(f:Int)) q) wr) (fun i _ _=>rn-(intOf i).toNat)
        .exact ⟨0,xC _,rfl,HI4.o⟩
        .clear HI4;obtain ⟨q,hq,rfl,hQ⟩:=hrel;have HQ:=zh hQ;generalize wr=wq at *;have s5:=aB hQ.s.be y5;by_cases hqr:q<rn
         .have hqr':(q:Int)<(rn:Int):=by omega
          obtain ⟨rb,ro,rfl,hrc⟩:=HMD.o.r.2.2.2.1 (show rn≠0 by omega);obtain ⟨h1,h2⟩:=HRLB.o q hqr;have hrq:=hrc q hqr;dsimp only at hrq;have s6:=aB hQ.s.be hrq;have HRE:Zh (iH (ovr rz f dz) f rrz (65536+(f:Int)) (q+1)=put (iH (ovr rz f dz) f rrz (65536+(f:Int)) q) (f+(rrz.getD q 0).toNat) (low (((iH (ovr rz f dz) f rrz (65536+(f:Int)) q).drop (f+(rrz.getD q 0).toNat)).take 4)+(65536+(f:Int))) 4):=rfl;clear hrc hrq hQ;generalize hRQ1:iH (ovr rz f dz) f rrz (65536+(f:Int)) (q+1)=RQ1 at HRE;have HRQ1:=zh hRQ1;clear hRQ1;generalize iH (ovr rz f dz) f rrz (65536+(f:Int)) q=RQ at *;obtain ⟨x,hx⟩:∃ x:Nat,rrz.getD q 0=(x:Int):=⟨(rrz.getD q 0).toNat,by omega⟩;rw [hx] at s6 HRE h1 h2;rw [xY] at HRE;clear hx;obtain ⟨A,hA⟩:∃ A:Nat,A=f+x:=⟨_,rfl⟩;obtain ⟨A4,hA4⟩:∃ A4:Nat,A4=A+4:=⟨_,rfl⟩;rw [<- hA] at HRE;have hAR:A4<=R:=by omega
          have hAi:(f:Int)+(x:Int)=(A:Int):=by omega
          have HAI:=zh hAi;have hw4:IntKind.i64.wrap ((A:Int)+4)=(A4:Int):=by rw [xP,xQ _ (by omega)];omega
          have hz0:(0:Int)<=(A:Int):=by omega
          have hz1:(A:Int)<=(A4:Int):=by omega
          have hz2:(A4:Int)<=(R:Int):=by omega
          have hz3:(A:Int)<(R:Int):=by omega
          have hz4:A<=A4:=by omega
          have hz5:¬ (R=A):=by omega
          have hz6:A<R:=by omega
          have hRQ:RQ.length=R:=(rH HQ.o.s.r).2.1;have HLR:=zh (oI ((RQ.drop A).take 4) (fun z hz=>HQ.o.s.r.2 z (List.mem_of_mem_drop (List.mem_of_mem_take hz))) (by simp;omega));obtain ⟨lw,hlw⟩:=eqx (low ((RQ.drop A).take 4));rw [<- hlw] at HLR HRE;obtain ⟨VV,hVV⟩:=eqx (lw+(65536+(f:Int)));rw [<- hVV] at HRE;have hwV:IntKind.i64.wrap (lw+(65536+(f:Int)))=VV:=by rw [hVV,xP,xQ _ (by have:=HLR.o;omega)]
          have HVR:=zh (show -9223372036854775808<=VV/\VV<=9223372036854775807 by have:=HLR.o;omega)
          have HLO:=zh (fun (X:qw) (I:Im5 w (qL L (some (qR pb po)) xs.length c0 a2 L.slots.length c2 a5 ts.length c5) F R gf gr go gm wo.heap.size #[.int .i64 (kt:Int),.slice xa xb.length xc,.int .i64 (65536+(f:Int)),.int .i64 xz] (cN fz P ⟨(kt:Int),xb,65536+(f:Int),xz⟩ j) RQ X)=>show qC 146 #[.slice (some (qR gr A)) (A4-A) (R-A)] X fun e w'=>e=.returned (.int .i64 lw)/\X=w' from by
           have hbs:BS X (some (qR gr A)) (A4-A) (R-A) ((RQ.drop A).take 4):=by
            have hb:=I.s.r.bs;refine ⟨by simp;omega,by unfold maxLen;omega,fun z hz=>I.s.r.2 z (List.mem_of_mem_drop (List.mem_of_mem_take hz)),fun _=>⟨gr,A,rfl,fun i hi=>?_⟩,by omega⟩;have h1:=hb.at (A+i) (by omega);rw [Nat.zero_add] at h1;rw [h1];congr 2;simp [xB,List.getElem?_take,List.getElem?_drop,show i<4 by omega]
           have:=aIh gr A (A4-A) (R-A) _ X hbs;rw [<- hlw] at this
           exact this)
          have HPU:=zh (fun (X:qw) (I:Im5 w (qL L (some (qR pb po)) xs.length c0 a2 L.slots.length c2 a5 ts.length c5) F R gf gr go gm wo.heap.size #[.int .i64 (kt:Int),.slice xa xb.length xc,.int .i64 (65536+(f:Int)),.int .i64 xz] (cN fz P ⟨(kt:Int),xb,65536+(f:Int),xz⟩ j) RQ X)=>show qC 145 #[.slice (some (qR gr 0)) R R,.int .i64 (A:Int),.int .i64 4,.int .i64 (VV%4294967296)] X fun e w'=>e=.returned (.tuple #[])/\Im5 w (qL L (some (qR pb po)) xs.length c0 a2 L.slots.length c2 a5 ts.length c5) F R gf gr go gm wo.heap.size #[.int .i64 (kt:Int),.slice xa xb.length xc,.int .i64 (65536+(f:Int)),.int .i64 xz] (cN fz P ⟨(kt:Int),xb,65536+(f:Int),xz⟩ j) RQ1 w' from
           (yM gr R R A 4 (VV%4294967296) X (nA I.s.r) hR1 (by omega) (by omega) (by omega) (by omega) (by omega)).mono (fun e w' he=>⟨he.1,by
             rw [he.2,HRE.o];have O:=aEg I.s.r A (VV%4294967296) 4 (by omega);rw [(aJv RQ A VV).1] at O
             exact I.setr O (sP gr A (VV%4294967296) X 4)⟩))
          clear hlw hVV hA hA4 h1 h2;go_wp2_with fail
          try rw [HAI.o]
          have v1:wq.cell? (qR gm 1)=some (.slice (some (qR gr 0)) R R):=HQ.o.s.km.cell 1;have v2:wq.cell? (qR wo.heap.size 2)=some (.int .i64 (65536+(f:Int))):=HQ.o.p.cell 2;clear hAi s5 s6
          go_region_held3 (fun w'=>w'.cell? (qR gm 1)=some (.slice (some (qR gr 0)) R R)/\w'.cell? (qR wo.heap.size 2)=some (.int .i64 (65536+(f:Int)))) (go_keep)
           (first
             | (go_at_call 146;first
                 | with_reducible refine (HLO.o _ HQ.o).mono ?_
                 | with_reducible refine (HLO.o _ HQ.o.drew).mono ?_
                rintro e w5 ⟨rfl,rfl⟩)
             | (go_at_call 61;first
                 | with_reducible refine (tS VV _ HVR.o).mono ?_
                 | (rw [hwV];with_reducible refine (tS VV _ HVR.o).mono ?_)
                rintro e w5 ⟨rfl,rfl⟩)
             | (go_at_call 145;first
                 | with_reducible refine (HPU.o _ HQ.o).mono ?_
                 | with_reducible refine (HPU.o _ HQ.o.drew).mono ?_
                rintro e w6 ⟨rfl,hI6⟩;have HI6:=zh hI6;clear hI6;have u1:w6.cell? (qR gm 1)=some (.slice (some (qR gr 0)) R R):=HI6.o.s.km.cell 1
                have u2:w6.cell? (qR wo.heap.size 2)=some (.int .i64 (65536+(f:Int))):=HI6.o.p.cell 2))
          clear v1 v2 u1 u2 hw4 hwV;go_wp2
          go_roundw
          .exact ⟨q+1,by omega,by go_num,by rw [HRQ1.o];exact HI6.o⟩
          .simp [qf,intOf];omega
         .have HQN:=zh (show q=rn by omega)
          have HZ2:=zh (show ImS w (qL L (some (qR pb po)) xs.length c0 a2 L.slots.length c2 a5 ts.length c5) F R gf gr go gm FZ RZ wq from by
           have h1:=hQ.s;have e1:P.bl.length=bn:=by rw [HPE.o.2.1,xH];exact hbl
           rw [HFL.o,HRA.o,e1,HPE.o.2.2.1,HPE.o.2.2.2,hrl,show ((65536:Int)+(f:Int)-65536).toNat=f by omega,<- HJN.o,<- HQN.o]
           exact h1)
          clear hQ HQ;go_wp2
          go_roundw
          .exact ⟨m+1,by omega,by go_num,by rw [HFZ.o.1,HFZ.o.2];exact HZ2.o⟩
          .simp [qf,intOf];omega
    .have e:Zh (m=n):=by show m=n;omega
     obtain ⟨q0,q1,q2⟩:wo.cell? ⟨gm,0,none⟩=some (.slice (some ⟨gf,0,none⟩) F F)/\wo.cell? ⟨gm,1,none⟩=some (.slice (some ⟨gr,0,none⟩) R R)/\wo.cell? ⟨gm,2,none⟩=some (.slice (some ⟨go,0,none⟩) 0 0):=⟨S.km.cell 0,S.km.cell 1,S.km.cell 2⟩;obtain ⟨p0,p1,p2⟩:wo.cell? ⟨w.heap.size+1,0,none⟩=some (.slice none 0 0)/\wo.cell? ⟨w.heap.size+1,1,none⟩=some (.slice none 0 0)/\wo.cell? ⟨w.heap.size+1,2,none⟩=some (.slice none 0 0):=⟨S.kr.cell 0,S.kr.cell 1,S.kr.cell 2⟩;have pf:=S.kr.frozen;have T:Turn (fun j=>j=w.heap.size+1) wo (((wo.setCell (qR (w.heap.size+1) 0) (.slice (some (qR gf 0)) F F)).setCell (qR (w.heap.size+1) 1) (.slice (some (qR gr 0)) R R)).setCell (qR (w.heap.size+1) 2) (.slice (some (qR go 0)) 0 0)):=((aC _ _ _ _).trans (aC _ _ _ _)).trans (aC _ _ _ _)
     have HE:=zh (show ImM w (aD ms) L (.returned (.tuple #[.agg (qV (some (qR gf 0)) F F (some (qR gr 0)) R R (some (qR go 0)) 0 0),.bool true])) (((wo.setCell (qR (w.heap.size+1) 0) (.slice (some (qR gf 0)) F F)).setCell (qR (w.heap.size+1) 1) (.slice (some (qR gr 0)) R R)).setCell (qR (w.heap.size+1) 2) (.slice (some (qR go 0)) 0 0)) from by
      have hlo:=S.lo;refine ⟨aG S.be T (fun k e=>by omega) S.be.size,some (qR gf 0),F,F,some (qR gr 0),R,R,some (qR go 0),0,0,by rw [xR HOK.o],?_⟩;unfold imF imR;rw [if_pos HOK.o,if_pos HOK.o,hpl,<- e.o];have kO:=aF T S.o (by omega);refine ⟨aV T S.f (fun k hk s=>by simp [Value.ownBlock] at hk;omega),aV T S.r (fun k hk s=>by simp [Value.ownBlock] at hk;omega),⟨⟨rfl,.inr ⟨go,0,#[],rfl,by omega,kO,aN,xC _,rfl,rfl⟩⟩,by simp⟩,?_,?_,?_⟩
      all_goals
       intro k hk;have hne:=S.ne;simp [Value.ownBlock] at hk ⊢
       omega)
     have k3:=dC (v0:=.slice (some (qR gf 0)) F F) (v1:=.slice (some (qR gr 0)) R R) (v2:=.slice (some (qR go 0)) 0 0) S.kr;have s0:=k3.cell 0;have s1:=k3.cell 1;have s2:=k3.cell 2;simp only [List.getElem?_toArray,List.getElem?_cons_zero,List.getElem?_cons_succ] at s0 s1 s2;clear S T HS k3;go_wp2;exact bodyPost_ret (v:=.tuple #[.agg (qV (some (qR gf 0)) F F (some (qR gr 0)) R R (some (qR go 0)) 0 0),.bool true]) (by simp [results,results78,go_sem,s0,s1,s2]) rfl HE.o
 .rw [xS hok]
  have HE:=zh (show ∀ W',qY w W'->ImM w (aD ms) L (.returned (.tuple #[.agg (qV none 0 0 none 0 0 none 0 0),.bool false])) W' from fun W' hb=>by
   refine ⟨hb,none,0,0,none,0,0,none,0,0,by rw [xS hok],?_⟩;unfold imF imR;rw [if_neg hok,if_neg hok];refine ⟨⟨⟨rfl,.inl ⟨rfl,rfl⟩⟩,by simp⟩,⟨⟨rfl,.inl ⟨rfl,rfl⟩⟩,by simp⟩,⟨⟨rfl,.inl ⟨rfl,rfl⟩⟩,by simp⟩,?_,?_,?_⟩
   all_goals
    intro k hk
    simp [Value.ownBlock] at hk)
  have k3:=dC (v0:=.slice none 0 0) (v1:=.slice none 0 0) (v2:=.slice none 0 0) kr1;have s0:=k3.cell 0;have s1:=k3.cell 1;have s2:=k3.cell 2;simp only [List.getElem?_toArray,List.getElem?_cons_zero,List.getElem?_cons_succ] at s0 s1 s2;have T:Turn (fun j=>j=w.heap.size+1) w1 (((w1.setCell (qR (w.heap.size+1) 0) (.slice none 0 0)).setCell (qR (w.heap.size+1) 1) (.slice none 0 0)).setCell (qR (w.heap.size+1) 2) (.slice none 0 0)):=((aC _ _ _ _).trans (aC _ _ _ _)).trans (aC _ _ _ _);have HB:=zh (aG B1 T (fun k e=>by omega) B1.size);obtain ⟨p0,p1,p2⟩:w1.cell? ⟨w.heap.size+1,0,none⟩=some (.slice none 0 0)/\w1.cell? ⟨w.heap.size+1,1,none⟩=some (.slice none 0 0)/\w1.cell? ⟨w.heap.size+1,2,none⟩=some (.slice none 0 0):=⟨kr1.cell 0,kr1.cell 1,kr1.cell 2⟩;have pf:=kr1.frozen;clear T k3 kl1 kr1 B1 hok HRL HM HL;go_wp2;exact bodyPost_ret (v:=.tuple #[.agg (qV none 0 0 none 0 0 none 0 0),.bool false]) (by simp [results,results78,go_sem,s0,s1,s2]) rfl (HE.o _ HB.o)
theorem tI (pc:Int)(a:qO)(n cap base:Nat)(zs:qi)(k:Nat)(w:qw)(h:OI w base (qS a n cap) zs)(hn:n<=5000000)(hk:k<=20000000):
 qC 49 #[.agg #[qI pc,qS a n cap],qI k] w fun e w'=>e=.returned (qI ((k+n:Nat):Int))/\OI w' base (qS a n cap) (bE k n)/\Turn (fun j=>(qS a n cap).ownBlock=some j) w w':=by
 have h':=h.bw ((Below.refl w.heap.size w).alloc aN (.cells #[qI pc,qS a n cap] 38));have T0:Turn (fun j=>(qS a n cap).ownBlock=some j) w (w.alloc (.cells #[qI pc,qS a n cap] 38)):=iU w _;go_enter func49,ntmps49
 go_wp2_with fail
 refine (fT a n cap base zs k _ h' hn hk).mono ?_;rintro e w1 ⟨rfl,p1,t1⟩;go_wp2;go_ret;exact ⟨rfl,p1,T0.trans t1⟩
theorem aFb (pc:Int)(a:qO)(n cap:Nat)(k:Nat)(w:qw)(h:IS w a n cap (bE k n))(hn:n<=5000000)(hk:k<=20000000):
 qC 54 #[.agg #[qI pc,qS a n cap],qI k] w (qB w (qI ((k+n:Nat):Int))):=by
 have hB0:qY w (w.alloc (.cells #[qI pc,qS a n cap] 38)):=bal;have e0:(0:Int)<=((k+n:Nat):Int):=by omega
 go_enter func54,ntmps54
 go_wp2_with fail
 refine (fW a n cap k _ (h.bw hB0) hn hk).mono ?_;rintro e w1 ⟨rfl,rfl⟩;go_wp2;go_ret;exact ⟨rfl,hB0⟩
theorem wZ (a1 a2 a3:qO)(n1 d1 n2 d2 n3 d3 base:Nat)(x1 x2 x3:qi)(k:Nat)(w:qw)(h:OM w base (qS a1 n1 d1) (qS a2 n2 d2) (qS a3 n3 d3) x1 x2 x3)(hn:k+n1+n2+n3<=5000000):
 qC 50 #[.agg (qV a1 n1 d1 a2 n2 d2 a3 n3 d3),qI (k:Nat)] w fun e w'=>e=.returned (qI ((k+n1+n2+n3:Nat):Int))/\OM w' base (qS a1 n1 d1) (qS a2 n2 d2) (qS a3 n3 d3) (cI k n1) (cI (k+n1) n2) (cI (k+n1+n2) n3)/\Turn (qN (qS a1 n1 d1) (qS a2 n2 d2) (qS a3 n3 d3)) w w':=by
 have hlt:∀ j,qN (qS a1 n1 d1) (qS a2 n2 d2) (qS a3 n3 d3) j->j<w.heap.size:=fun j hj=>(h.lt hj).2;have kb:=Blk.new w (qV a1 n1 d1 a2 n2 d2 a3 n3 d3) 39;have bb:qY w (w.alloc (.cells (qV a1 n1 d1 a2 n2 d2 a3 n3 d3) 39)):=bal;have h':=h.bw bb;have T0:Turn (qN (qS a1 n1 d1) (qS a2 n2 d2) (qS a3 n3 d3)) w (w.alloc (.cells (qV a1 n1 d1 a2 n2 d2 a3 n3 d3) 39)):=aJ bb;obtain ⟨_,_,_,o12,o13,o23⟩:=h;clear bb;go_enter func50,ntmps50
 go_wp2_with fail
 refine (eP a1 n1 d1 base x1 k _ h'.o1).mono ?_;rintro e w1 ⟨rfl,p1,t1⟩;have kb1:=aF t1 kb (fun e=>by have:=hlt _ (Or.inl e);omega);have p2:=aV t1 h'.o2 (fun k hk e=>o12 k e hk);have p3:=aV t1 h'.o3 (fun k hk e=>o13 k e hk);have T1:=T0.trans (t1.mono (fun k hk=>Or.inl hk));clear t1 kb h';obtain ⟨q1,q2,q3,q4⟩:=kb1.three;go_wp2_with fail
 refine (eP a2 n2 d2 base x2 (k+n1) _ p2).mono ?_;rintro e w2 ⟨rfl,p2,t2⟩;have kb2:=aF t2 kb1 (fun e=>by have:=hlt _ (Or.inr (Or.inl e));omega);have p1:=aV t2 p1 (fun k hk e=>o12 k hk e);have p3:=aV t2 p3 (fun k hk e=>o23 k e hk);have T2:=T1.trans (t2.mono (fun k hk=>Or.inr (Or.inl hk)));clear t2 kb1 q1 q2 q3 q4;obtain ⟨q1,q2,q3,q4⟩:=kb2.three;go_wp2_with fail
 refine (eP a3 n3 d3 base x3 (k+n1+n2) _ p3).mono ?_;rintro e w3 ⟨rfl,p3,t3⟩;have p1:=aV t3 p1 (fun k hk e=>o13 k hk e);have p2:=aV t3 p2 (fun k hk e=>o23 k hk e);have T3:=T2.trans (t3.mono (fun k hk=>Or.inr (Or.inr hk)));go_wp2;go_ret;exact ⟨rfl,⟨p1,p2,p3,o12,o13,o23⟩,T3⟩
theorem aIk (a1 a2 a3:qO)(n1 d1 n2 d2 n3 d3:Nat)(k:Nat)(w:qw)(h1:BS w a1 n1 d1 (cI k n1))(h2:BS w a2 n2 d2 (cI (k+n1) n2))(h3:BS w a3 n3 d3 (cI (k+n1+n2) n3))(hn:k+n1+n2+n3<=5000000):
 qC 55 #[.agg (qV a1 n1 d1 a2 n2 d2 a3 n3 d3),qI (k:Nat)] w (qB w (qI ((k+n1+n2+n3:Nat):Int))):=by
 have hB0:qY w (w.alloc (.cells (qV a1 n1 d1 a2 n2 d2 a3 n3 d3) 39)):=bal;go_enter func55,ntmps55
 go_wp2_with fail
 refine (eU a1 n1 d1 k _ (h1.bw hB0)).mono ?_;rintro e w1 ⟨rfl,rfl⟩;have e1:(0:Int)<=((k+n1:Nat):Int):=by omega
 go_wp2_with fail
 refine (eU a2 n2 d2 (k+n1) _ (h2.bw hB0)).mono ?_;rintro e w1 ⟨rfl,rfl⟩;have e2:(0:Int)<=((k+n1+n2:Nat):Int):=by omega
 go_wp2_with fail
 refine (eU a3 n3 d3 (k+n1+n2) _ (h3.bw hB0)).mono ?_;rintro e w1 ⟨rfl,rfl⟩;have e3:(0:Int)<=((k+n1+n2+n3:Nat):Int):=by omega
 go_wp2;go_ret;exact ⟨rfl,hB0⟩
def eG (k i:Nat):SlT:=(decide ((k+4*i)%3=0),((k+4*i+1:Nat):Int),((k+4*i+2:Nat):Int),((k+4*i+3:Nat):Int))
theorem tE (g n cap base:Nat)(zs:List SlT)(k:Nat)(w:qw)(h:OG 142 4 bS w base (qS (qP g) n cap) zs)(hn:n<=5000000)(hk:k<=20000000):
 qC 51 #[qS (qP g) n cap,qI k] w fun e w'=>e=.returned (qI ((k+4*n:Nat):Int))/\OG 142 4 bS w' base (qS (qP g) n cap) (lL (eG k) n)/\Turn (fun j=>j=g) w w':=by
 have hl:=(aT h).1;go_enter func51,ntmps51
 go_wp2;go_loopw [1,5] (fun x i wr=>∃ m:Nat,m<=n/\i=qI m/\x=qI ((k+4*m:Nat):Int)/\OG 142 4 bS wr base (qS (qP g) n cap) (pQ zSl zs (eG k) m)/\Turn (fun j=>j=g) w wr) (fun _ i _=>n-(intOf i).toNat)
 .exact ⟨0,xC _,rfl,rfl,by rw [wY];exact h,Turn.refl _ _⟩
 .obtain ⟨m,hm,rfl,rfl,O,T⟩:=hrel;by_cases hlt:m<n
  .have hlt':(m:Int)<(n:Int):=by omega
   obtain ⟨g',hg',hc⟩:=nZ bM zSl O m hlt;simp at hg';subst hg';have c0:wr.cell? (qR g (m*4))=_:=hc 0 (by omega) _ rfl;have c1:wr.cell? (qR g (m*4+1))=_:=hc 1 (by omega) _ rfl;have c2:wr.cell? (qR g (m*4+2))=_:=hc 2 (by omega) _ rfl;have c3:wr.cell? (qR g (m*4+3))=_:=hc 3 (by omega) _ rfl;obtain ⟨cur,hb⟩:=aE O rfl;have f0:wr.frozen? (qR g (m*4))=false:=hb.frozen (m*4);have f1:wr.frozen? (qR g (m*4+1))=false:=hb.frozen (m*4+1);have f2:wr.frozen? (qR g (m*4+2))=false:=hb.frozen (m*4+2);have f3:wr.frozen? (qR g (m*4+3))=false:=hb.frozen (m*4+3)
   have HX:=zh (fun (v0 v1 v2 v3:Value) (hv:bS (eG k m)=[v0,v1,v2,v3])=>by
    have O2:=aAq bM O m hlt (eG k m) v0 v1 v2 v3 hv;rw [aCu zSl zs (eG k) m (by omega)] at O2;have T2:=(((T.trans (aC wr g (m*4) v0)).trans (aC _ g (m*4+1) v1)).trans (aC _ g (m*4+2) v2)).trans (aC _ g (m*4+3) v3)
    exact xA O2 T2)
   clear O T hb hc;go_wp2
   go_roundw
   .exact ⟨m+1,by omega,by go_num,by go_num,(HX.o _ _ _ _ (by simp only [bS,eG,List.cons.injEq,Value.int.injEq,Value.bool.injEq,true_and,and_true];refine ⟨?_,?_,?_,?_⟩<;>first|rfl|(push_cast;omega)|omega|(rw [xJ];simp only [decide_eq_true_iff,beq_iff_eq];omega))).1,(HX.o _ _ _ _ (by simp only [bS,eG,List.cons.injEq,Value.int.injEq,Value.bool.injEq,true_and,and_true];refine ⟨?_,?_,?_,?_⟩<;>first|rfl|(push_cast;omega)|omega|(rw [xJ];simp only [decide_eq_true_iff,beq_iff_eq];omega))).2⟩
   .simp [intOf];omega
  .have e:Zh (m=n):=by show m=n;omega
   have HX:=zh (xA O T);clear O T;go_wp2;go_ret;refine ⟨aH (by rw [e.o]),?_,HX.o.2⟩;have:=HX.o.1;rw [e.o,<- hl,aCv] at this;rw [hl] at this;exact this
theorem tD (a:qO)(cap k:Nat)(w:qw):
 qC 51 #[qS a 0 cap,qI k] w fun e w'=>e=.returned (qI k)/\w=w':=by
 go_enter func51,ntmps51
 go_wp2;go_loop [1,5] (fun x i=>i=qI 0/\x=qI k) (fun _ _=>0)
 .exact ⟨rfl,rfl⟩
 .obtain ⟨rfl,rfl⟩:=hrel;go_wp2;go_ret;exact ⟨rfl,rfl⟩
theorem lS (a:qO)(n cap base:Nat)(zs:List SlT)(k:Nat)(w:qw)(h:OG 142 4 bS w base (qS a n cap) zs)(hn:n<=5000000)(hk:k<=20000000):
 qC 51 #[qS a n cap,qI k] w fun e w'=>e=.returned (qI ((k+4*n:Nat):Int))/\OG 142 4 bS w' base (qS a n cap) (lL (eG k) n)/\Turn (fun j=>(qS a n cap).ownBlock=some j) w w':=by
 by_cases h1:n=0
 .subst h1;refine (tD a cap k w).mono fun e w' he=>?_;obtain ⟨rfl,rfl⟩:=he;have hz:zs=[]:=xE (aT h).1;subst hz;exact ⟨rfl,h,Turn.refl _ _⟩
 .obtain ⟨g,rfl⟩:=gR h h1;refine (tE g n cap base zs k w h hn hk).mono fun e w' he=>⟨he.1,he.2.1,he.2.2.mono ?_⟩;intro j hj;subst hj;rfl
theorem wC (a:qO)(n cap base:Nat)(k:Nat)(w:qw)(h:OG 142 4 bS w base (qS a n cap) (lL (eG k) n))(hn:n<=5000000)(hk:k<=20000000):
 qC 56 #[qS a n cap,qI k] w fun e w'=>e=.returned (qI ((k+4*n:Nat):Int))/\w=w':=by
 have HO:=zh h;clear h;go_enter func56,ntmps56
 go_wp2;go_loop [1,5] (fun x i=>∃ m:Nat,m<=n/\i=qI m/\x=qI ((k+4*m:Nat):Int)) (fun _ i=>n-(intOf i).toNat)
 .exact ⟨0,xC _,rfl,rfl⟩
 .obtain ⟨m,hm,rfl,rfl⟩:=hrel;by_cases hlt:m<n
  .have hlt':(m:Int)<(n:Int):=by omega
   obtain ⟨g,rfl,hc⟩:=nZ bM zSl HO.o m hlt;rw [aGh zSl (eG k) n m hlt] at hc;have c0:w.cell? (qR g (m*4))=_:=hc 0 (by omega) _ rfl;have c1:w.cell? (qR g (m*4+1))=_:=hc 1 (by omega) _ rfl;have c2:w.cell? (qR g (m*4+2))=_:=hc 2 (by omega) _ rfl;have c3:w.cell? (qR g (m*4+3))=_:=hc 3 (by omega) _ rfl;unfold eG at c0 c1 c2 c3;dsimp only at c0 c1 c2 c3;obtain ⟨K,hK⟩:∃ K:Nat,K=k+4*m:=⟨_,rfl⟩;have HK:=zh hK;have hKb:K<=40000000:=by omega
   rw [<- hK] at c0 c1 c2 c3 ⊢;clear hK hc;have e0:(decide (K%3=0) !=decide (K%3=0))=false:=by first|simp|(simp;omega)
   have e1:((K:Int)+1 !=((K+1:Nat):Int))=false:=by simp
   have e2:((K:Int)+1+1 !=((K+2:Nat):Int))=false:=by simp;omega
   have e3:((K:Int)+1+1+1 !=((K+3:Nat):Int))=false:=by simp;omega
   have e9:((K:Int)%3==0)=decide (K%3=0):=by rw [xJ];simp only [decide_eq_true_iff,beq_iff_eq];omega
   have e8:(decide (K%3=0) !=((K:Int)%3==0))=false:=by rw [e9];simp
   go_wp2
   go_round
   .exact ⟨m+1,by omega,by go_num,by rw [HK.o];go_num⟩
   .simp [intOf];omega
  .have e:Zh (m=n):=by show m=n;omega
   go_wp2;go_ret;exact ⟨aH (by rw [e.o]),rfl⟩
def dE (k i:Nat):FrT:=(((k+4*i:Nat):Int),((k+4*i+1:Nat):Int),((k+4*i+2:Nat):Int),((k+4*i+3:Nat):Int))
theorem pV (g n cap base:Nat)(zs:List FrT)(k:Nat)(w:qw)(h:OG 135 4 cP w base (qS (qP g) n cap) zs)(hn:n<=5000000)(hk:k<=20000000):
 qC 52 #[qS (qP g) n cap,qI k] w fun e w'=>e=.returned (qI ((k+4*n:Nat):Int))/\OG 135 4 cP w' base (qS (qP g) n cap) (lL (dE k) n)/\Turn (fun j=>j=g) w w':=by
 have hl:=(aT h).1;go_enter func52,ntmps52
 go_wp2;go_loopw [1,5] (fun x i wr=>∃ m:Nat,m<=n/\i=qI m/\x=qI ((k+4*m:Nat):Int)/\OG 135 4 cP wr base (qS (qP g) n cap) (pQ zFr zs (dE k) m)/\Turn (fun j=>j=g) w wr) (fun _ i _=>n-(intOf i).toNat)
 .exact ⟨0,xC _,rfl,rfl,by rw [wY];exact h,Turn.refl _ _⟩
 .obtain ⟨m,hm,rfl,rfl,O,T⟩:=hrel;by_cases hlt:m<n
  .have hlt':(m:Int)<(n:Int):=by omega
   obtain ⟨g',hg',hc⟩:=nZ dI zFr O m hlt;simp at hg';subst hg';have c0:wr.cell? (qR g (m*4))=_:=hc 0 (by omega) _ rfl;have c1:wr.cell? (qR g (m*4+1))=_:=hc 1 (by omega) _ rfl;have c2:wr.cell? (qR g (m*4+2))=_:=hc 2 (by omega) _ rfl;have c3:wr.cell? (qR g (m*4+3))=_:=hc 3 (by omega) _ rfl;obtain ⟨cur,hb⟩:=aE O rfl;have f0:wr.frozen? (qR g (m*4))=false:=hb.frozen (m*4);have f1:wr.frozen? (qR g (m*4+1))=false:=hb.frozen (m*4+1);have f2:wr.frozen? (qR g (m*4+2))=false:=hb.frozen (m*4+2);have f3:wr.frozen? (qR g (m*4+3))=false:=hb.frozen (m*4+3)
   have HX:=zh (fun (v0 v1 v2 v3:Value) (hv:cP (dE k m)=[v0,v1,v2,v3])=>by
    have O2:=aAq dI O m hlt (dE k m) v0 v1 v2 v3 hv;rw [aCu zFr zs (dE k) m (by omega)] at O2;have T2:=(((T.trans (aC wr g (m*4) v0)).trans (aC _ g (m*4+1) v1)).trans (aC _ g (m*4+2) v2)).trans (aC _ g (m*4+3) v3)
    exact xA O2 T2)
   clear O T hb hc;go_wp2
   go_roundw
   .exact ⟨m+1,by omega,by go_num,by go_num,(HX.o _ _ _ _ (by simp only [cP,dE,List.cons.injEq,Value.int.injEq,true_and,and_true];refine ⟨?_,?_,?_,?_⟩<;>first|rfl|(push_cast;omega)|omega)).1,(HX.o _ _ _ _ (by simp only [cP,dE,List.cons.injEq,Value.int.injEq,true_and,and_true];refine ⟨?_,?_,?_,?_⟩<;>first|rfl|(push_cast;omega)|omega)).2⟩
   .simp [intOf];omega
  .have e:Zh (m=n):=by show m=n;omega
   have HX:=zh (xA O T);clear O T;go_wp2;go_ret;refine ⟨aH (by rw [e.o]),?_,HX.o.2⟩;have:=HX.o.1;rw [e.o,<- hl,aCv] at this;rw [hl] at this;exact this
theorem pU (a:qO)(cap k:Nat)(w:qw):
 qC 52 #[qS a 0 cap,qI k] w fun e w'=>e=.returned (qI k)/\w=w':=by
 go_enter func52,ntmps52
 go_wp2;go_loop [1,5] (fun x i=>i=qI 0/\x=qI k) (fun _ _=>0)
 .exact ⟨rfl,rfl⟩
 .obtain ⟨rfl,rfl⟩:=hrel;go_wp2;go_ret;exact ⟨rfl,rfl⟩
theorem kH (a:qO)(n cap base:Nat)(zs:List FrT)(k:Nat)(w:qw)(h:OG 135 4 cP w base (qS a n cap) zs)(hn:n<=5000000)(hk:k<=20000000):
 qC 52 #[qS a n cap,qI k] w fun e w'=>e=.returned (qI ((k+4*n:Nat):Int))/\OG 135 4 cP w' base (qS a n cap) (lL (dE k) n)/\Turn (fun j=>(qS a n cap).ownBlock=some j) w w':=by
 by_cases h1:n=0
 .subst h1;refine (pU a cap k w).mono fun e w' he=>?_;obtain ⟨rfl,rfl⟩:=he;have hz:zs=[]:=xE (aT h).1;subst hz;exact ⟨rfl,h,Turn.refl _ _⟩
 .obtain ⟨g,rfl⟩:=gR h h1;refine (pV g n cap base zs k w h hn hk).mono fun e w' he=>⟨he.1,he.2.1,he.2.2.mono ?_⟩;intro j hj;subst hj;rfl
theorem tW (a:qO)(n cap base:Nat)(k:Nat)(w:qw)(h:OG 135 4 cP w base (qS a n cap) (lL (dE k) n))(hn:n<=5000000)(hk:k<=20000000):
 qC 57 #[qS a n cap,qI k] w fun e w'=>e=.returned (qI ((k+4*n:Nat):Int))/\w=w':=by
 have HO:=zh h;clear h;go_enter func57,ntmps57
 go_wp2;go_loop [1,5] (fun x i=>∃ m:Nat,m<=n/\i=qI m/\x=qI ((k+4*m:Nat):Int)) (fun _ i=>n-(intOf i).toNat)
 .exact ⟨0,xC _,rfl,rfl⟩
 .obtain ⟨m,hm,rfl,rfl⟩:=hrel;by_cases hlt:m<n
  .have hlt':(m:Int)<(n:Int):=by omega
   obtain ⟨g,rfl,hc⟩:=nZ dI zFr HO.o m hlt;rw [aGh zFr (dE k) n m hlt] at hc;have c0:w.cell? (qR g (m*4))=_:=hc 0 (by omega) _ rfl;have c1:w.cell? (qR g (m*4+1))=_:=hc 1 (by omega) _ rfl;have c2:w.cell? (qR g (m*4+2))=_:=hc 2 (by omega) _ rfl;have c3:w.cell? (qR g (m*4+3))=_:=hc 3 (by omega) _ rfl;unfold dE at c0 c1 c2 c3;dsimp only at c0 c1 c2 c3;obtain ⟨K,hK⟩:∃ K:Nat,K=k+4*m:=⟨_,rfl⟩;have HK:=zh hK;have hKb:K<=40000000:=by omega
   rw [<- hK] at c0 c1 c2 c3 ⊢;clear hK hc;have e0:((K:Int) !=(K:Int))=false:=by first|simp|(simp;omega)
   have e1:((K:Int)+1 !=((K+1:Nat):Int))=false:=by simp
   have e2:((K:Int)+1+1 !=((K+2:Nat):Int))=false:=by simp;omega
   have e3:((K:Int)+1+1+1 !=((K+3:Nat):Int))=false:=by simp;omega
   go_wp2
   go_round
   .exact ⟨m+1,by omega,by go_num,by rw [HK.o];go_num⟩
   .simp [intOf];omega
  .have e:Zh (m=n):=by show m=n;omega
   go_wp2;go_ret;exact ⟨aH (by rw [e.o]),rfl⟩
theorem pS (a:qO)(n cap base k:Nat)(Q:Nat->Prop)(hs:List Hd)(L:List (Hd×Ct))(β:Nat->Nat)(w:qw)(H:OMs w base (qS a n cap) L β)(hL:L.map (fun x=>x.1)=hs)(hl:L.length=n)(h0:0<k)(hz:k+upS (fun j=>aZ (hs.getD j zHd)) n<=4194305)(hb:∀ i,i<n->(hs.getD i zHd).bn<=1048576)(hn:n<=1048576)(hg:∀ j,(qS a n cap).ownBlock=some j->Q j)(hsh:∀ i,i<n->∀ j,Sh (hs.getD i zHd) j->Q j):
 qC 48 #[qS a n cap,qI k] w fun e w'=>e=.returned (qI ((k+upS (fun j=>aZ (hs.getD j zHd)) n:Nat):Int))/\∃ L',Mkg w w' base Q (qS a n cap) hs L' β k n:=by
 by_cases e:n=0
 .subst e;refine (oD a cap k w).mono fun e w' he=>?_;obtain ⟨rfl,rfl⟩:=he;exact ⟨rfl,L,H,hL,fun i hi=>absurd hi (Nat.not_lt_zero _),Turn.refl _ _⟩
 .obtain ⟨g,rfl⟩:=gR H.o e;exact oE g n cap base k Q hs L β w H hL hl h0 hz hb hn (hg g rfl) hsh
theorem pZ (a:qO)(n cap base k:Nat)(hs:List Hd)(L:List (Hd×Ct))(β:Nat->Nat)(w:qw)(H:OMs w base (qS a n cap) L β)(hd:∀ i,i<n->L[i]?=some (hs.getD i zHd,mkC (hs.getD i zHd) (k+upS (fun j=>aZ (hs.getD j zHd)) i)))(h0:0<k)(hz:k+upS (fun j=>aZ (hs.getD j zHd)) n<=4194305)(hb:∀ i,i<n->(hs.getD i zHd).bn<=1048576)(hn:n<=1048576):
 qC 53 #[qS a n cap,qI k] w fun e w'=>e=.returned (qI ((k+upS (fun j=>aZ (hs.getD j zHd)) n:Nat):Int))/\qY w w':=by
 by_cases e:n=0
 .subst e;refine (oL a cap k w).mono fun e w' he=>?_;obtain ⟨rfl,rfl⟩:=he;exact ⟨rfl,brf⟩
 .obtain ⟨g,rfl⟩:=gR H.o e;exact oM g n cap base k hs L β w H hd h0 hz hb hn
theorem pT (M:Mn)(base:Nat)(hs:List Hd)(L:List (Hd×Ct))(β:Nat->Nat)(K F R O:qi)(S:List SlT)(H:List FrT)(w:qw)(h:MnO w base (qS M.ma M.mn M.mc) hs L β (qS M.ka M.kn M.kc) (qS M.fa M.fn M.fc) (qS M.ra M.rn M.rc) (qS M.oa M.on M.oc) (qS M.la M.ln M.lc) (qS M.ha M.hn M.hc) K F R O S H)(hl:L.length=M.mn)(hz:1+upS (fun j=>aZ (hs.getD j zHd)) M.mn+M.kn+M.fn+M.rn+M.on+4*M.ln+4*M.hn<=4194305)(hb:∀ i,i<M.mn->(hs.getD i zHd).bn<=1048576)(hn:M.mn<=1048576):
 qC 12 #[.agg (qA M),qI 1] w fun e w'=>e=.returned (qI ((1+upS (fun j=>aZ (hs.getD j zHd)) M.mn+M.kn+M.fn+M.rn+M.on+4*M.ln+4*M.hn:Nat):Int))/\(∃ L',MnO w' base (qS M.ma M.mn M.mc) hs L' β (qS M.ka M.kn M.kc) (qS M.fa M.fn M.fc) (qS M.ra M.rn M.rc) (qS M.oa M.on M.oc) (qS M.la M.ln M.lc) (qS M.ha M.hn M.hc) (bE (1+upS (fun j=>aZ (hs.getD j zHd)) M.mn) M.kn) (cI (1+upS (fun j=>aZ (hs.getD j zHd)) M.mn+M.kn) M.fn) (cI (1+upS (fun j=>aZ (hs.getD j zHd)) M.mn+M.kn+M.fn) M.rn) (cI (1+upS (fun j=>aZ (hs.getD j zHd)) M.mn+M.kn+M.fn+M.rn) M.on) (lL (eG (1+upS (fun j=>aZ (hs.getD j zHd)) M.mn+M.kn+M.fn+M.rn+M.on)) M.ln) (lL (dE (1+upS (fun j=>aZ (hs.getD j zHd)) M.mn+M.kn+M.fn+M.rn+M.on+4*M.ln)) M.hn)/\∀ i,i<M.mn->L'[i]?=some (hs.getD i zHd,mkC (hs.getD i zHd) (1+upS (fun j=>aZ (hs.getD j zHd)) i)))/\Turn (fun j=>(base<=j/\j<w.heap.size)/\∃ cs t,Blk w j cs t/\t≠43) w w':=by
 obtain ⟨V,hV,bV,kV⟩:=nwb w (qA M) 43;have hsl:hs.length=M.mn:=by rw [<- h.e,xH,hl]
 have L0:∀ j,((qS M.ma M.mn M.mc):Value).ownBlock=some j\/ShL hs j->(base<=j/\j<w.heap.size)/\∃ cs t,Blk w j cs t/\t≠43:=fun j s=>by
  rcases s with s|s
  .obtain ⟨cs,k⟩:=aE h.m.o s;exact ⟨h.m.o.lt j s,cs,_,k,by decide⟩
  .obtain ⟨i,x,hx,hj⟩:=aJe h s;obtain ⟨this,cs,t,k,ht⟩:=(h.m.m i x hx).1.sh hj;exact ⟨⟨by have:=h.lo i x hx;omega,by omega⟩,cs,t,k,by rcases ht with rfl|rfl|rfl|rfl<;>decide⟩
 have L1:∀ j,((qS M.ka M.kn M.kc):Value).ownBlock=some j->(base<=j/\j<w.heap.size)/\∃ cs t,Blk w j cs t/\t≠43:=fun j s=>by
  obtain ⟨cs,k⟩:=aE h.k.1 s;exact ⟨h.k.lt j s,cs,_,k,by decide⟩
 have L2:∀ j,qN (qS M.fa M.fn M.fc) (qS M.ra M.rn M.rc) (qS M.oa M.on M.oc) j->(base<=j/\j<w.heap.size)/\∃ cs t,Blk w j cs t/\t≠43:=fun j s=>by
  obtain ⟨cs,k⟩:=eK h.q s;exact ⟨h.q.lt s,cs,_,k,by decide⟩
 have L3:∀ j,((qS M.la M.ln M.lc):Value).ownBlock=some j->(base<=j/\j<w.heap.size)/\∃ cs t,Blk w j cs t/\t≠43:=fun j s=>by
  obtain ⟨cs,k⟩:=aE h.l s;exact ⟨h.l.lt j s,cs,_,k,by decide⟩
 have L4:∀ j,((qS M.ha M.hn M.hc):Value).ownBlock=some j->(base<=j/\j<w.heap.size)/\∃ cs t,Blk w j cs t/\t≠43:=fun j s=>by
  obtain ⟨cs,k⟩:=aE h.h s;exact ⟨h.h.lt j s,cs,_,k,by decide⟩
 have HLT:=zh (xA L0 (xA L1 (xA L2 (xA L3 L4))));have Z0:=h.bw bV;have T0:Turn (fun j=>(base<=j/\j<w.heap.size)/\∃ cs t,Blk w j cs t/\t≠43) w V:=aJ bV;have HV:=zh hV;have HS:=zh hsl;clear hV bV L0 L1 L2 L3 L4 h hsl;generalize hu:upS (fun j=>aZ (hs.getD j zHd)) M.mn=u at *;have HU:=zh hu;have C0:=zh (pS M.ma M.mn M.mc base 1 (fun j=>((qS M.ma M.mn M.mc):Value).ownBlock=some j\/ShL hs j) hs L β V Z0.m Z0.e hl (by omega) (by rw [HU.o];omega) hb hn (fun j hj=>.inl hj) (fun i hi j hj=>.inr ⟨i,by rw [HS.o];exact hi,hj⟩));rw [HU.o] at C0;clear hu;obtain ⟨p0,p1,p2,p3,p4,p5,p6,p7,p8,p9,p10,p11,p12,p13,p14⟩:=kV.mc;have HZ:=zh (xA Z0 (xA T0 kV));clear Z0 T0 kV;go_enter func12,ntmps12
 go_wp2_with (rw [<- HV.o])
 refine C0.o.mono ?_;rintro e w1 ⟨rfl,L',G⟩;obtain ⟨Z0,T0,kV⟩:=HZ.o;have Z1:=Z0.mods G.o G.h G.t;have T1:=T0.trans (G.t.mono HLT.o.1);have k1:=aF G.t kV (fun s=>by have:=(HLT.o.1 _ s).1;omega);have HD:=zh G.d;clear p0 p1 p2 p3 p4 p5 p6 p7 p8 p9 p10 p11 p12 p13 p14;obtain ⟨p0,p1,p2,p3,p4,p5,p6,p7,p8,p9,p10,p11,p12,p13,p14⟩:=k1.mc;have C1:=zh (tI M.pc M.ka M.kn M.kc base _ (1+u) w1 Z1.k (by omega) (by omega));have HZ1:=zh (xA Z1 (xA T1 k1));clear Z0 T0 kV G Z1 T1 k1 HZ C0;go_wp2_with fail
 refine C1.o.mono ?_;rintro e w2 ⟨rfl,O',U⟩;obtain ⟨Z1,T1,k1⟩:=HZ1.o;have Z2:=Z1.core O' U;have T2:=T1.trans (U.mono HLT.o.2.1);have k2:=aF U k1 (fun s=>by have:=(HLT.o.2.1 _ s).1;omega);clear p0 p1 p2 p3 p4 p5 p6 p7 p8 p9 p10 p11 p12 p13 p14;obtain ⟨p0,p1,p2,p3,p4,p5,p6,p7,p8,p9,p10,p11,p12,p13,p14⟩:=k2.mc;have C2:=zh (wZ M.fa M.ra M.oa M.fn M.fc M.rn M.rc M.on M.oc base _ _ _ (1+u+M.kn) w2 Z2.q (by omega));have HZ2:=zh (xA Z2 (xA T2 k2));clear Z1 T1 k1 O' U Z2 T2 k2 HZ1 C1;go_wp2_with fail
 refine C2.o.mono ?_;rintro e w3 ⟨rfl,O',U⟩;obtain ⟨Z2,T2,k2⟩:=HZ2.o;have Z3:=Z2.mem O' U;have T3:=T2.trans (U.mono HLT.o.2.2.1);have k3:=aF U k2 (fun s=>by have:=(HLT.o.2.2.1 _ s).1;omega);clear p0 p1 p2 p3 p4 p5 p6 p7 p8 p9 p10 p11 p12 p13 p14;obtain ⟨p0,p1,p2,p3,p4,p5,p6,p7,p8,p9,p10,p11,p12,p13,p14⟩:=k3.mc;have C3:=zh (lS M.la M.ln M.lc base _ (1+u+M.kn+M.fn+M.rn+M.on) w3 Z3.l (by omega) (by omega));have HZ3:=zh (xA Z3 (xA T3 k3));clear Z2 T2 k2 O' U Z3 T3 k3 HZ2 C2;go_wp2_with fail
 refine C3.o.mono ?_;rintro e w4 ⟨rfl,O',U⟩;obtain ⟨Z3,T3,k3⟩:=HZ3.o;have Z4:=Z3.slot O' U;have T4:=T3.trans (U.mono HLT.o.2.2.2.1);have k4:=aF U k3 (fun s=>by have:=(HLT.o.2.2.2.1 _ s).1;omega);clear p0 p1 p2 p3 p4 p5 p6 p7 p8 p9 p10 p11 p12 p13 p14;obtain ⟨p0,p1,p2,p3,p4,p5,p6,p7,p8,p9,p10,p11,p12,p13,p14⟩:=k4.mc;have C4:=zh (kH M.ha M.hn M.hc base _ (1+u+M.kn+M.fn+M.rn+M.on+4*M.ln) w4 Z4.h (by omega) (by omega));have HZ4:=zh (xA Z4 T4);clear Z3 T3 k3 O' U Z4 T4 k4 HZ3 C3;go_wp2_with fail
 refine C4.o.mono ?_;rintro e w5 ⟨rfl,O',U⟩;obtain ⟨Z4,T4⟩:=HZ4.o;have HE:=zh (xA (Z4.frame O' U) (T4.trans (U.mono HLT.o.2.2.2.2)));clear p0 p1 p2 p3 p4 p5 p6 p7 p8 p9 p10 p11 p12 p13 p14 Z4 T4 O' U HZ4 C4;go_wp2;go_ret;exact ⟨by go_num,⟨L',HE.o.1,HD.o⟩,HE.o.2⟩
theorem qD (M:Mn)(base:Nat)(hs:List Hd)(L:List (Hd×Ct))(β:Nat->Nat)(w:qw)(h:MnO w base (qS M.ma M.mn M.mc) hs L β (qS M.ka M.kn M.kc) (qS M.fa M.fn M.fc) (qS M.ra M.rn M.rc) (qS M.oa M.on M.oc) (qS M.la M.ln M.lc) (qS M.ha M.hn M.hc) (bE (1+upS (fun j=>aZ (hs.getD j zHd)) M.mn) M.kn) (cI (1+upS (fun j=>aZ (hs.getD j zHd)) M.mn+M.kn) M.fn) (cI (1+upS (fun j=>aZ (hs.getD j zHd)) M.mn+M.kn+M.fn) M.rn) (cI (1+upS (fun j=>aZ (hs.getD j zHd)) M.mn+M.kn+M.fn+M.rn) M.on) (lL (eG (1+upS (fun j=>aZ (hs.getD j zHd)) M.mn+M.kn+M.fn+M.rn+M.on)) M.ln) (lL (dE (1+upS (fun j=>aZ (hs.getD j zHd)) M.mn+M.kn+M.fn+M.rn+M.on+4*M.ln)) M.hn))(hd:∀ i,i<M.mn->L[i]?=some (hs.getD i zHd,mkC (hs.getD i zHd) (1+upS (fun j=>aZ (hs.getD j zHd)) i)))(hz:1+upS (fun j=>aZ (hs.getD j zHd)) M.mn+M.kn+M.fn+M.rn+M.on+4*M.ln+4*M.hn<=4194305)(hb:∀ i,i<M.mn->(hs.getD i zHd).bn<=1048576)(hn:M.mn<=1048576):
 qC 13 #[.agg (qA M),qI 1] w fun e w'=>e=.returned (qI ((1+upS (fun j=>aZ (hs.getD j zHd)) M.mn+M.kn+M.fn+M.rn+M.on+4*M.ln+4*M.hn:Nat):Int))/\qY w w':=by
 obtain ⟨V,hV,bV,kV⟩:=nwb w (qA M) 43;have HK:=zh (fun (X:qw) (hX:qY V X)=>(kV.bw hX).mc);have HZ:=zh (fun (X:qw) (hX:qY V X)=>(h.bw bV).bw hX);have HB:=zh bV;have HV:=zh hV;clear hV bV;generalize hu:upS (fun j=>aZ (hs.getD j zHd)) M.mn=u at *;have C0:=zh (pZ M.ma M.mn M.mc base 1 hs L β V (HZ.o V brf).m hd (by omega) (by rw [hu];omega) hb hn);rw [hu] at C0;clear hu kV h hd;have n0:¬ (((1+u:Nat):Int)<0):=by omega
 have n1:¬ (((1+u+M.kn:Nat):Int)<0):=by omega
 have n2:¬ (((1+u+M.kn+M.fn+M.rn+M.on:Nat):Int)<0):=by omega
 have n3:¬ (((1+u+M.kn+M.fn+M.rn+M.on+4*M.ln:Nat):Int)<0):=by omega
 have n4:¬ (((1+u+M.kn+M.fn+M.rn+M.on+4*M.ln+4*M.hn:Nat):Int)<0):=by omega
 obtain ⟨p0,p1,p2,p3,p4,p5,p6,p7,p8,p9,p10,p11,p12,p13,p14⟩:=HK.o V brf;go_enter func13,ntmps13
 go_wp2_with (rw [<- HV.o])
 refine C0.o.mono ?_;rintro e w1 ⟨rfl,b1⟩;have Z1:=HZ.o w1 b1;have C1:=zh (aFb M.pc M.ka M.kn M.kc (1+u) w1 Z1.k.is (by omega) (by omega));clear p0 p1 p2 p3 p4 p5 p6 p7 p8 p9 p10 p11 p12 p13 p14;obtain ⟨p0,p1,p2,p3,p4,p5,p6,p7,p8,p9,p10,p11,p12,p13,p14⟩:=HK.o w1 b1;have HB1:=zh b1;clear Z1 b1 C0;go_wp2_with fail
 refine C1.o.mono ?_;rintro e w2 ⟨rfl,b2⟩;have HB2:=zh (HB1.o.trans (b2.mono HB1.o.size));have Z2:=HZ.o w2 HB2.o;have C2:=zh (aIk M.fa M.ra M.oa M.fn M.fc M.rn M.rc M.on M.oc (1+u+M.kn) w2 Z2.q.o1.bs Z2.q.o2.bs Z2.q.o3.bs (by omega));clear p0 p1 p2 p3 p4 p5 p6 p7 p8 p9 p10 p11 p12 p13 p14;obtain ⟨p0,p1,p2,p3,p4,p5,p6,p7,p8,p9,p10,p11,p12,p13,p14⟩:=HK.o w2 HB2.o;clear Z2 b2 C1 HB1;go_wp2_with fail
 refine C2.o.mono ?_;rintro e w3 ⟨rfl,b3⟩;have HB3:=zh (HB2.o.trans (b3.mono HB2.o.size));have Z3:=HZ.o w3 HB3.o;have C3:=zh (wC M.la M.ln M.lc base (1+u+M.kn+M.fn+M.rn+M.on) w3 Z3.l (by omega) (by omega));have C4:=zh (tW M.ha M.hn M.hc base (1+u+M.kn+M.fn+M.rn+M.on+4*M.ln) w3 Z3.h (by omega) (by omega));clear p0 p1 p2 p3 p4 p5 p6 p7 p8 p9 p10 p11 p12 p13 p14;obtain ⟨p0,p1,p2,p3,p4,p5,p6,p7,p8,p9,p10,p11,p12,p13,p14⟩:=HK.o w3 HB3.o;clear Z3 b3 C2 HB2;go_wp2_with fail
 refine C3.o.mono ?_;rintro e w4 ⟨rfl,rfl⟩;go_wp2_with fail
 refine C4.o.mono ?_;rintro e w4 ⟨rfl,rfl⟩;go_wp2;go_ret;exact ⟨by go_num,HB.o.trans (HB3.o.mono HB.o.size)⟩
def Mn.cp (M:Mn)(g0 g1 g2 g3 g4 g5 g6:Nat)(ms':List Md):Mn:={ M with ma:=some (qR g0 0),mc:=M.mn,ms:=ms',ka:=some (qR g1 0),kc:=M.kn,fa:=some (qR g2 0),fc:=M.fn,ra:=some (qR g3 0),rc:=M.rn,oa:=some (qR g4 0),oc:=M.on,la:=some (qR g5 0),lc:=M.ln,ha:=some (qR g6 0),hc:=M.hn }
structure MnR (w:qw)(base:Nat)(M:Mn)(g0 g1 g2 g3 g4 g5 g6:Nat)(ms':List Md):Prop where
 b:base<=g0/\g0<g1/\g1<g2/\g2<g3/\g3<g4/\g4<g5/\g5<g6
 n:ms'.length=M.mn
 m:RowM w g0 M.mn M.ms ms'
 x:∃ W,RowM W g0 M.mn M.ms ms'/\W.heap.size<=g1
 k:RowI w g1 M.kz
 f:Row8 w g2 M.fz
 r:Row8 w g3 M.rz
 o:Row8 w g4 M.oz
 l:OG 142 4 bS w base (qS (qP g5) M.ln M.ln) M.lz
 h:OG 135 4 cP w base (qS (qP g6) M.hn M.hn) M.hz
theorem MnR.bw {w w':qw}(h:MnR w base M g0 g1 g2 g3 g4 g5 g6 ms')(hb:qY w w'):MnR w' base M g0 g1 g2 g3 g4 g5 g6 ms':=⟨h.b,h.n,h.m.bw hb,h.x,h.k.bw hb,h.f.bw hb,h.r.bw hb,h.o.bw hb,h.l.bw hb,h.h.bw hb⟩
theorem MnR.mnd {w W:qw}(h:MnR W base M g0 g1 g2 g3 g4 g5 g6 ms')(t:MnT w M)(b:MnB M):MnD W (M.cp g0 g1 g2 g3 g4 g5 g6 ms') where
 m:=aJn h.m h.n t.m b.m
 k:=h.k.is (by have:=t.k.1;have:=t.k.2.1;omega) t.k.2.2.1 _ _ t.k.1
 f:=h.f.bs (by have:=t.f.1;have:=t.f.2.1;omega) t.f.2.2.1 _ _ t.f.1
 r:=h.r.bs (by have:=t.r.1;have:=t.r.2.1;omega) t.r.2.2.1 _ _ t.r.1
 o:=h.o.bs (by have:=t.o.1;have:=t.o.2.1;omega) t.o.2.2.1 _ _ t.o.1
 l:=sS bM h.l
 h:=sS dI h.h
theorem aF2 {α:Type}{t:TypeId}{sz:Nat}{f:α->List Value}{b m:Nat}{xs:List α}(h:c<g):Stab c (fun W=>OG t sz f W b (qS (qP g) n m) xs):=fun W W' T r=>OG.kept r T (fun k hk=>by simp [Value.ownBlock] at hk;show ¬ k<=c;omega)
theorem aL1 {ms:List Md}(h:c<g):Stab c (fun W=>RowM W g n ms ms'):=fun W W' T r=>by
 obtain ⟨⟨cur,hc,hs⟩,hq,hr⟩:=r;have T':Turn (fun j=>j<=g) W W':=T.mono (fun j hj=>by show j<=g;have:j<=c:=hj;omega);have kb:=aF T hc (by show ¬ g<=c;omega);have key:∀ o v,W.cell? (qR g o)=some v->W'.cell? (qR g o)=some v:=fun o v hv=>by rw [kb.cell,<- hc.cell];exact hv
 have at8:∀ o q,At8 W g o q->At8 W' g o q:=fun o q h=>by
  obtain ⟨h0,h1,h2,h3,h4,h5,h6,h7⟩:=h;exact ⟨key _ _ h0,key _ _ h1,key _ _ h2,key _ _ h3,key _ _ h4,key _ _ h5,key _ _ h6,key _ _ h7⟩
 exact ⟨⟨cur,kb,hs⟩,fun i hi=>by obtain ⟨q,h⟩:=hq i hi;exact ⟨q,at8 _ _ h⟩,fun i hi=>⟨at8 _ _ (hr i hi).1,lI _ _ _ _ _ T' (hr i hi).2⟩⟩
structure TQ (w W:qw)(arg cr cs:Array Value)(t1 t2:TypeId)(R:World->Prop):Prop where
 kb:Blk W w.heap.size arg t1
 kr:Blk W (w.heap.size+1) cr t2
 ko:Blk W (w.heap.size+1+1) cs t2
 hB:qY w W
 rows:R W
 st:Stab (w.heap.size+1+1) R
theorem TQ.bw {w W W':qw}{t1 t2:TypeId}(h:TQ w W arg cr cs t1 t2 R)(hb:qY W W'):TQ w W' arg cr cs t1 t2 R:=
 ⟨h.kb.bw hb,h.kr.bw hb,h.ko.bw hb,h.hB.trans (hb.mono h.hB.size),h.st _ _ (aJ hb) h.rows,h.st⟩
theorem TQ.set {w W:qw}{t1 t2:TypeId}(h:TQ w W arg cr cs t1 t2 R)(i:Nat)(v:Value):TQ w (W.setCell (qR (w.heap.size+1+1) i) v) arg cr (cs.setIfInBounds i v) t1 t2 R:=
 ⟨h.kb.other _ _ (by dsimp only;omega),h.kr.other _ _ (by dsimp only;omega),h.ko.set i v,h.hB.setCell (by dsimp only;omega) _,h.st _ _ (bP _ _ _ _ _ aN) h.rows,h.st⟩
theorem TQ.setr {w W:qw}{t1 t2:TypeId}(h:TQ w W arg cr cs t1 t2 R)(i:Nat)(v:Value):TQ w (W.setCell (qR (w.heap.size+1) i) v) arg (cr.setIfInBounds i v) cs t1 t2 R:=
 ⟨h.kb.other _ _ (by dsimp only;omega),h.kr.set i v,h.ko.other _ _ (by dsimp only;omega),h.hB.setCell (by dsimp only;omega) _,h.st _ _ (bP _ _ _ _ _) h.rows,h.st⟩
theorem TQ.add {w W:qw}{t1 t2:TypeId}{S:World->Prop}(h:TQ w W arg cr cs t1 t2 R)(r:S W)(s:Stab (w.heap.size+1+1) S):TQ w W arg cr cs t1 t2 (fun W=>R W/\S W):=
 ⟨h.kb,h.kr,h.ko,h.hB,⟨h.rows,r⟩,h.st.and s⟩
def aQx (w:qw)(M:Mn)(e:Ending)(w':qw):Prop:=∃ g0 g1 g2 g3 g4 g5 g6 ms',e=.returned (.agg (qK M g0 g1 g2 g3 g4 g5 g6))/\MnR w' w.heap.size M g0 g1 g2 g3 g4 g5 g6 ms'/\qY w w'
theorem uY (M:Mn)(w:qw)(h:MnT w M)(b:MnB M):qC 9 #[.agg (qA M)] w (aQx w M):=by
 have M0:TQ w (((w.alloc (.cells (qA M) 34)).alloc (.cells qZ 43)).alloc (.cells qZ 43)) (qA M) qZ qZ 34 43 (fun _=>True):=
  ⟨(
   (Blk.new w _ _).alloc _).alloc _,by have:=(Blk.new (w.alloc (.cells (qA M) 34)) qZ 43).alloc (.cells qZ 43);simpa using this,by have:=Blk.new ((w.alloc (.cells (qA M) 34)).alloc (.cells qZ 43)) qZ 43;simpa using this,
   (bal.alloc (by simp) _).alloc (by simp;omega) _,trivial,fun _ _ _ _=>trivial⟩
 have MX:=zh h;have MB:=zh b;clear h b;go_enter func9,ntmps9
 go_wp2_with fail
 refine (uX M.ma M.mn M.mc M.ms _ (MX.o.m.bw M0.hB) MB.o.n MB.o.m).mono ?_;rintro e w1 ⟨rfl,⟨ms',hl,hr⟩,hb1⟩;try unfold qY at *
 simp only [xF] at hr;have z1:w.heap.size+1+1+1<w1.heap.size:=by obtain ⟨⟨cur,hc,_⟩,_⟩:=hr;exact hc.lt
 have HXW:Zh (∃ W,RowM W (w.heap.size+1+1+1) M.mn M.ms ms'/\W.heap.size<=w1.heap.size):=⟨w1,hr,aN⟩;have M1:=(M0.bw hb1).add hr (aL1 (Nat.lt_succ_self _));clear M0 hb1 hr;have o0:=M1.ko.e0;have of:=M1.ko.frozen;have q1:=M1.kb.e1;have q2:=M1.kb.e2;have q3:=M1.kb.e3;have q4:=M1.kb.e4;have M1a:=(M1.set 0 (qS (some (qR (w.heap.size+1+1+1) 0)) M.mn M.mn));simp only [yA,yB,yC] at M1a;clear M1;have HM:=zh M1a;have r1:=M1a.kb.cell 1;have r2:=M1a.kb.cell 2;have r3:=M1a.kb.cell 3;have r4:=M1a.kb.cell 4;go_wp2_with fail
 refine (zJ M.cs M.cw M.ck M.cd _).mono ?_;rintro e w2 ⟨rfl,hb2⟩;have M2:=M1a.bw hb2;have z2:w1.heap.size<=w2.heap.size:=by have:=hb2.size;simpa using this
 clear HM o0 of q1 q2 q3 q4 r1 r2 r3 r4 M1a hb2;have o1:=M2.ko.e1;have o2:=M2.ko.e2;have o3:=M2.ko.e3;have o4:=M2.ko.e4;have of:=M2.ko.frozen;have q5:=M2.kb.e5;have q6:=M2.kb.e6;have M2a:=((((M2.set 1 (qI M.cs)).set 2 (qI M.cw)).set 3 (qI M.ck)).set 4 (qI M.cd));simp only [yA,yB,yC] at M2a;clear M2;have HM:=zh M2a;have r5:=M2a.kb.cell 5;have r6:=M2a.kb.cell 6;go_wp2_with fail
 refine (aDx M.pc M.ka M.kn M.kc M.kz _ (MX.o.k.bw M2a.hB) MB.o.k).mono ?_;rintro e w3 ⟨g1,hg1,rfl,hr3,hb3⟩;have z3:w2.heap.size<=g1/\g1<w3.heap.size:=⟨by simpa using hg1,hr3.lt⟩;have M3:=(M2a.bw hb3).add hr3 (rS (by omega));clear HM o1 o2 o3 o4 of q5 q6 r5 r6 M2a hb3 hg1 hr3;have o5:=M3.ko.e5;have o6:=M3.ko.e6;have of:=M3.ko.frozen;have q7:=M3.kb.e7;have q8:=M3.kb.e8;have q9:=M3.kb.e9;have M3a:=((M3.set 5 (qI M.pc)).set 6 (qS (qP g1) M.kn M.kn));simp only [yA,yB,yC] at M3a;clear M3;have HM:=zh M3a;have r7:=M3a.kb.cell 7;have r8:=M3a.kb.cell 8;have r9:=M3a.kb.cell 9;go_wp2_with fail
 refine (aHe M.fa M.ra M.oa M.fn M.fc M.rn M.rc M.on M.oc M.fz M.rz M.oz _ (MX.o.f.bw M3a.hB) (MX.o.r.bw M3a.hB) (MX.o.o.bw M3a.hB) MB.o.b).mono ?_;rintro e w4 ⟨g2,g3,g4,rfl,hg2,hg3,hg4,hf4,hr4,ho4,hb4⟩;have z4:w3.heap.size<=g2/\g4<w4.heap.size:=⟨by simpa using hg2,ho4.lt⟩;have M4:=(((M3a.bw hb4).add hf4 (rU (by omega))).add hr4 (rU (by omega))).add ho4 (rU (by omega));clear HM o5 o6 of q7 q8 q9 r7 r8 r9 M3a hb4 hg2 hf4 hr4 ho4;have o7:=M4.ko.e7;have o8:=M4.ko.e8;have o9:=M4.ko.e9;have o10:=M4.ko.e10;have o11:=M4.ko.e11;have of:=M4.ko.frozen;have q10:=M4.kb.e10;have q11:=M4.kb.e11;have q12:=M4.kb.e12;have M4a:=(((((M4.set 7 (qS (qP g2) M.fn M.fn)).set 8 (qS (qP g3) M.rn M.rn)).set 9 (qS (qP g4) M.on M.on)).set 10 (qI M.md)).set 11 (qI M.bk));simp only [yA,yB,yC] at M4a;clear M4;have HM:=zh M4a;have r10:=M4a.kb.cell 10;have r11:=M4a.kb.cell 11;have r12:=M4a.kb.cell 12;go_wp2_with fail
 refine (aBx M.la M.ln M.lc M.lz _ (MX.o.l.bw M4a.hB) MB.o.l).mono ?_;rintro e w5 ⟨rfl,hl5,hb5⟩;try unfold qY at *
 simp only [aL] at hl5;have z5:w4.heap.size<w5.heap.size:=(hl5.lt _ rfl).2;have M5:=(M4a.bw hb5).add hl5 (aF2 (by omega));clear HM o7 o8 o9 o10 o11 of q10 q11 q12 r10 r11 r12 M4a hb5 hl5;have o12:=M5.ko.e12;have of:=M5.ko.frozen;have q13:=M5.kb.e13;have M5a:=(M5.set 12 (qS (qP w4.heap.size) M.ln M.ln));simp only [yA,yB,yC] at M5a;clear M5;have HM:=zh M5a;have r13:=M5a.kb.cell 13;go_wp2_with fail
 refine (zH M.ha M.hn M.hc M.hz _ (MX.o.h.bw M5a.hB) MB.o.h).mono ?_;rintro e w6 ⟨rfl,hl6,hb6⟩;try unfold qY at *
 simp only [aL] at hl6;have z6:w5.heap.size<w6.heap.size:=(hl6.lt _ rfl).2;have M6:=(M5a.bw hb6).add hl6 (aF2 (by omega));clear HM o12 of q13 r13 M5a hb6 hl6;have o13:=M6.ko.e13;have o14:=M6.ko.e14;have of:=M6.ko.frozen;have q14:=M6.kb.e14;have t0:=M6.ko.e0;have t1:=M6.ko.e1;have t2:=M6.ko.e2;have t3:=M6.ko.e3;have t4:=M6.ko.e4;have t5:=M6.ko.e5;have t6:=M6.ko.e6;have t7:=M6.ko.e7;have t8:=M6.ko.e8;have t9:=M6.ko.e9;have t10:=M6.ko.e10;have t11:=M6.ko.e11;have t12:=M6.ko.e12;have p0:=M6.kr.e0;have p1:=M6.kr.e1;have p2:=M6.kr.e2;have p3:=M6.kr.e3;have p4:=M6.kr.e4;have p5:=M6.kr.e5;have p6:=M6.kr.e6;have p7:=M6.kr.e7;have p8:=M6.kr.e8;have p9:=M6.kr.e9;have p10:=M6.kr.e10;have p11:=M6.kr.e11;have p12:=M6.kr.e12;have p13:=M6.kr.e13;have p14:=M6.kr.e14;have pf:=M6.kr.frozen;have M7:=(((((((((((((((((M6.set 13 (qS (qP w5.heap.size) M.hn M.hn)).set 14 (qI M.tn)).setr 0 (qS (some (qR (w.heap.size+1+1+1) 0)) M.mn M.mn)).setr 1 (qI M.cs)).setr 2 (qI M.cw)).setr 3 (qI M.ck)).setr 4 (qI M.cd)).setr 5 (qI M.pc)).setr 6 (qS (qP g1) M.kn M.kn)).setr 7 (qS (qP g2) M.fn M.fn)).setr 8 (qS (qP g3) M.rn M.rn)).setr 9 (qS (qP g4) M.on M.on)).setr 10 (qI M.md)).setr 11 (qI M.bk)).setr 12 (qS (qP w4.heap.size) M.ln M.ln)).setr 13 (qS (qP w5.heap.size) M.hn M.hn)).setr 14 (qI M.tn));have HZ:=zh (xA z1 (xA z2 (xA z3 (xA z4 (xA z5 (xA z6 (xA hg3 hg4)))))));have H7:=zh M7;have HL:=zh hl;clear M6 M7 z1 z2 z3 z4 z5 z6 hg3 hg4 hl;go_wp2;refine bodyPost_ret (v:=.agg (qX M (some (qR (w.heap.size+1+1+1) 0)) M.mn M.mn (qP g1) M.kn M.kn (qP g2) M.fn M.fn (qP g3) M.rn M.rn (qP g4) M.on M.on (qP w4.heap.size) M.ln M.ln (qP w5.heap.size) M.hn M.hn)) (by simp [results,results9,go_sem,p0,p1,p2,p3,p4,p5,p6,p7,p8,p9,p10,p11,p12,p13,p14]) rfl ?_;obtain ⟨z1,z2,z3,z4,z5,z6,hg3,hg4⟩:=HZ.o;obtain ⟨⟨⟨⟨⟨⟨⟨_,a0⟩,a1⟩,a2⟩,a3⟩,a4⟩,a5⟩,a6⟩:=H7.o.rows;exact ⟨w.heap.size+1+1+1,g1,g2,g3,g4,w4.heap.size,w5.heap.size,ms',rfl,⟨by omega,HL.o,a0,by obtain ⟨W,h1,h2⟩:=HXW.o;exact ⟨W,h1,by omega⟩,a1,a2,a3,a4,a5.mono (by omega),a6.mono (by omega)⟩,H7.o.hB⟩
theorem vB (xs ys:qi)(k:Nat)(h:xs.take k=ys.take k)(hx:k<xs.length)(hy:k<ys.length)(he:xs.getD k 0=ys.getD k 0):xs.take (k+1)=ys.take (k+1):=by
 rw [List.take_succ_eq_append_getElem hx,List.take_succ_eq_append_getElem hy,h];simp [xB,hx,hy] at he;rw [he]
theorem pH (a a':qO)(n cap n' cap':Nat)(xs ys:qi)(w:qw)(h:BS w a n cap xs)(h':BS w a' n' cap' ys):
 qC 79 #[qS a n cap,qS a' n' cap'] w (qB w (.bool (decide (xs=ys)))):=by
 obtain ⟨hl,hmx,hr,hc,_⟩:=h;obtain ⟨hl',hmx',hr',hc',_⟩:=h';unfold maxLen at hmx hmx';by_cases hn:n=n'
 .subst hn;have hne:((n:Int) !=(n:Int))=false:=by simp
  by_cases hn0:n=0
  .subst hn0;obtain rfl:xs=[]:=xE hl;obtain rfl:ys=[]:=xE hl';clear hc hc';go_enter func79,ntmps79
   go_wp2;go_loop [5] (fun i=>i=qI 0) (fun _=>0)
   .rfl
   .obtain rfl:=hrel;go_wp2;go_ret;exact ⟨rfl,brf⟩
  .obtain ⟨b,off,rfl,hd⟩:=hc hn0;obtain ⟨b',off',rfl,hd'⟩:=hc' hn0;clear hc hc';go_enter func79,ntmps79
   go_wp2;go_loopw [5] (fun i wr=>∃ k:Nat,k<=n/\i=qI k/\xs.take k=ys.take k/\qY w wr) (qf n)
   .exact ⟨0,xC _,rfl,by simp,brf⟩
   .obtain ⟨k,hk,rfl,hT,hB⟩:=hrel;by_cases hlt:k<n
    .have hlt':(k:Int)<(n:Int):=by omega
     have hck:wr.cell? (qR b (off+k))=some (.int .u8 (xs.getD k 0)):=(hB.cell (xD w _ (hd k hlt))).trans (hd k hlt);have hck':wr.cell? (qR b' (off'+k))=some (.int .u8 (ys.getD k 0)):=(hB.cell (xD w _ (hd' k hlt))).trans (hd' k hlt);by_cases he:xs.getD k 0=ys.getD k 0
     .have hS:=vB xs ys k hT (by omega) (by omega) he;have HS:Zh (xs.take (k+1)=ys.take (k+1)):=hS;rw [he] at hck;clear hS hT hd hd' he;generalize ys.getD k 0=z at *;have hz:(z !=z)=false:=by simp
      go_wp2
      go_quiet (fail)
      go_wp2
      go_roundw
      .exact ⟨k+1,by omega,by go_num,HS.o,below_drewN hB _⟩
      .simp [qf,intOf];omega
     .have hf:Zh (decide (xs=ys)=false):=by
       show _=_;simp;intro e;exact he (by rw [e])
      have hz:(xs.getD k 0 !=ys.getD k 0)=true:=by simpa using he
      clear hT hd hd' he;generalize ys.getD k 0=z at *;generalize xs.getD k 0=z' at *;go_wp2
      go_quiet (fail)
      go_wp2;go_ret;exact ⟨aA hf.o.symm,below_drewN hB _⟩
    .have hf:Zh (decide (xs=ys)=true):=by
      show _=_;simp;rw [xG (by omega),xG (by omega)] at hT;exact hT
     clear hT hd hd';go_wp2;go_ret;exact ⟨aA hf.o.symm,hB⟩
 .have hf:Zh (decide (xs=ys)=false):=by
   show _=_;simp;intro e;rw [e] at hl;omega
  have hne:((n:Int) !=(n':Int))=true:=by simp;omega
  clear hc hc';go_enter func79,ntmps79
  go_wp2;go_ret;exact ⟨aA hf.o.symm,brf⟩
