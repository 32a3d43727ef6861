import Derived.Test.YtncccmeomcaabaaGreatC06
import Derived.Test.YtncccmeomcaabaaGreatC07
import Derived.Test.YtncccmeomcaabaaGreatC08
set_option linter.all false
set_option maxHeartbeats 16000000
namespace Go.Proofs.YtncccmeomcaabaaGreat
open Go.RowKit Classical
open Go.Proofs.Tryz
set_option maxRecDepth 100000
variable {G g i k n:Nat}{S:Nat->Prop}{a:Act}{d:Option Tmp}{p:String}{pc:Int}{v v0 v1 v2 v3 v4 v5:Value}
theorem aRe {S F:Value->World->Prop}{G:Prop}(main:(∀ v W,F v W->S v W)->G)(pf:∀ v W,F v W->S v W):G:=main pf
theorem aEg (a:qO)(n cap:Nat)(ms:List Md)(L:Lay)(a0:qO)(c0:Nat)(xs:List PB)(a2:qO)(c2:Nat)(a5:qO)(c5:Nat)(ts:List TB)(w:qw)(h:MSD w a n cap ms)(hL:LyT w L a0 c0 xs a2 c2 a5 c5 ts):
 qC 78 #[.slice a n cap,.agg (qJ L a0 xs c0 a2 c2 a5 ts c5)] w (ImM w (aE ms) L):=by
 have B0:qY w ((w.alloc (.cells (qJ L a0 xs c0 a2 c2 a5 ts c5) 71)).alloc (.cells (qV none 0 0 none 0 0 none 0 0) 39)):=bal.alloc (by simp) _;have kl:=(Blk.new w (qJ L a0 xs c0 a2 c2 a5 ts c5) 71).alloc (.cells (qV none 0 0 none 0 0 none 0 0) 39);have kr:=Blk.new (w.alloc (.cells (qJ L a0 xs c0 a2 c2 a5 ts c5) 71)) (qV none 0 0 none 0 0 none 0 0) 39;try unfold qY at *
 simp only [xF] at kr;have HRL:=zh (fun (W:qw) (hb:qY w W)=>tX a n cap ms L a0 c0 xs a2 c2 a5 c5 ts W (h.bw hb) (hL.bw hb));have HM:=zh h;have HL:=zh hL;clear h hL;go_enter func78,ntmps78
 go_wp2_with fail
 refine (HRL.o _ B0).mono ?_;rintro e w1 ⟨rfl,hb1⟩;have B1:=B0.trans (hb1.mono B0.size);have kl1:=kl.bw hb1;have kr1:=kr.bw hb1;clear B0 kl kr hb1;by_cases hok:Lok (aE ms) L
 .rw [xR hok];have K:=kZ hok;obtain ⟨F,hF⟩:∃ F:Nat,L.flash=(F:Int):=⟨L.flash.toNat,by have:=K.fr;omega⟩;obtain ⟨R,hR⟩:∃ R:Nat,L.ram=(R:Int):=⟨L.ram.toNat,by have:=K.rr;omega⟩;have hF1:F<=16384:=by have:=K.fr;omega
  have hR1:R<=16384:=by have:=K.rr;omega
  have hmF:=yU F hF1;have hmR:=yU R hR1;have x3:w1.cell? (qR w.heap.size 3)=some (.int .i64 (F:Int)):=by rw [<- hF];exact kl1.cell 3
  have x4:w1.cell? (qR w.heap.size 4)=some (.int .i64 (R:Int)):=by rw [<- hR];exact kl1.cell 4
  have hw1:w.heap.size<w1.heap.size:=kl1.lt;generalize hZF:zby F=ZF at *;generalize hZR:zby R=ZR at *;have HZ:=zh (xA hZF hZR);clear hZF hZR;have HK1:=zh (xA B1 (xA kl1 kr1));have HFR:=zh (xA hF hR);have HKN:=zh K;have HOK:=zh hok;clear HRL;clear B1 kl1 kr1 hF hR K hok;go_wp2_with fail
  obtain ⟨N,hN⟩:=eqx (w1.heap.size);have hNw:N<=w1.heap.size:=by omega
  rename_i K hK;apply aRb (F:=fun gf gr go gm W=>Mk4 N w1 W ZF ZR F R gf gr go gm) (S:=fun gf gr go gm W=>Exit.then K (bodyPost prog f78 (ImM w (aE ms) L)) .normal ⟨#[.slice a n cap,.agg (qJ L a0 xs c0 a2 c2 a5 ts c5),undef,.pointer (some (qR w.heap.size 0)),.pointer (some (qR (w.heap.size+1) 0)),.bool false,.pointer (some (qR gm 0)),undef,undef,undef,undef,undef,undef,.slice a n cap,.agg (qJ L a0 xs c0 a2 c2 a5 ts c5),.bool true,.bool false,undef,.pointer (some (qR w.heap.size 3)),.int .i64 (F:Int),.slice (some (qR gf 0)) F F,.pointer (some (qR w.heap.size 4)),.int .i64 (R:Int),.slice (some (qR gr 0)) R R,.slice (some (qR go 0)) 0 0,.agg (qV (some (qR gf 0)) F F (some (qR gr 0)) R R (some (qR go 0)) 0 0),undef,undef,undef,undef,undef,undef,undef,undef,undef,undef,undef,undef,undef,undef,undef,undef,undef,undef,undef,undef,undef,undef,undef,undef,undef,undef,undef,undef,undef,undef,undef,undef,undef,undef,undef,undef,undef,undef,undef,undef,undef,undef,undef,undef,undef,undef,undef,undef,undef,undef,undef,undef,undef,undef,undef,undef,undef,undef,undef,undef,undef,undef,undef,undef,undef,undef,undef,undef,undef,undef,undef,undef,undef,undef,undef,undef,undef,undef,undef,undef,undef,undef,undef,undef,undef,undef,undef,undef,undef,undef,undef,undef,undef,undef,undef,undef],[]⟩ W)
  .intro REST0;have REST:=zh REST0;clear REST0
   go_region_held3 (fun w'=>w'.cell? (qR w.heap.size 3)=some (.int .i64 (F:Int))/\w'.cell? (qR w.heap.size 4)=some (.int .i64 (R:Int))) ((refine xA ?_ ?_)<;>(repeat (first|exact x3|exact x4|apply vA|apply pY|(apply zK (by omega))))) (fail)
   all_goals
    refine REST.o _ _ _ _ _ ?_;exact ⟨(by repeat (first|with_reducible exact brf|with_reducible apply aD0|with_reducible apply zM hNw|with_reducible apply aHg (by omega))),(by repeat (first|with_reducible apply gI|with_reducible exact gH (by simp only [xF,gF])|with_reducible apply dD|with_reducible apply dL (by omega)|with_reducible apply Blk.alloc)),(by repeat (first|with_reducible apply gI|with_reducible exact gH (by simp only [xF,gF])|with_reducible apply dD|with_reducible apply dL (by omega)|with_reducible apply Blk.alloc)),(by repeat (first|with_reducible apply gI|with_reducible exact gH (by simp only [xF,gF])|with_reducible apply dD|with_reducible apply dL (by omega)|with_reducible apply Blk.alloc)),(by repeat (first|with_reducible apply gI|with_reducible exact gH (by simp only [xF,gF])|with_reducible apply dD|with_reducible apply dL (by omega)|with_reducible apply Blk.alloc)),(by omega),(by omega)⟩
  .rintro gf gr go gm W hF;show Exit.then _ _ _ _ _
   subst hN;have hpl:(aE ms).length=n:=by rw [bT];exact HM.o.s.1
   have hn4:n<=4:=by have:=HKN.o.n;omega
   have S0:ImS w (qJ L a0 xs c0 a2 c2 a5 ts c5) F R gf gr go gm (flB (aE ms) L 0) (raB (aE ms) L 0) W:=by
    obtain ⟨B1,kl1,kr1⟩:=HK1.o;have h1:=kr1.lt;have h2:=hF.lo;have e1:flB (aE ms) L 0=List.replicate F 0:=by show List.replicate L.flash.toNat 0=_;rw [HFR.o.1];rfl
    have e2:raB (aE ms) L 0=List.replicate R 0:=by show List.replicate L.ram.toNat 0=_;rw [HFR.o.2];rfl
    rw [e1,e2];refine ⟨B1.trans (hF.be.mono B1.size),kl1.bw hF.be,kr1.bw hF.be,hF.m,oD (by rw [HZ.o.1];exact hF.f) (by omega) hF1,oD (by rw [HZ.o.2];exact hF.r) (by omega) hR1,hF.o,by omega,hF.ne⟩
   have HS0:=zh S0;clear S0 hF HK1 x3 x4 hw1 hmF hmR HZ hNw;go_wp2;go_loopw [7] (fun i wr=>∃ m:Nat,m<=n/\i=.int .i64 m/\ImS w (qJ L a0 xs c0 a2 c2 a5 ts c5) F R gf gr go gm (flB (aE ms) L m) (raB (aE ms) L m) wr) (qf n)
   .exact ⟨0,xC _,rfl,HS0.o⟩
   .clear HS0;obtain ⟨m,hm,rfl,S⟩:=hrel;generalize wr=wo at *;have HS:=zh S;by_cases hlt:m<n
    .have hlt':(m:Int)<(n:Int):=by omega
     obtain ⟨b,off,rfl,y0,y1,y2,y3,y4,y5,y6,y7⟩:=HM.o.s.at m hlt
     have HXL:=zh (show xs.length=n from by
      have h1:=congrArg List.length HL.o.ps;rw [HKN.o.pl] at h1;simp at h1
      omega)
     obtain ⟨pb,po,rfl,z0,z1,z2,z3⟩:=HL.o.p.at m (by have:=HXL.o;omega);have HPB:=zh (HL.o.p.2.2.2.1 m (by have:=HXL.o;omega));have HMD:=zh (HM.o.d m hlt);have HPM:Zh ((aE ms).getD m zP=(ms.getD m aK).pm):=cI (by have:=HM.o.s.1;omega)
     have HPP:=zh (show (xs.getD m zPB).1=plc (aE ms) m from by
      rw [<- HKN.o.place m (by omega),<- HL.o.ps,bE _ _ _ zPB _ (by have:=HXL.o;omega)])
     have HAT:=zh (HKN.o.at m (by omega));have HFL:Zh (flB (aE ms) L (m+1)=cP (flB (aE ms) L m) ((aE ms).getD m zP) (L.places.getD m zPB.1) ((aE ms).getD m zP).bl.length):=rfl;have HRA:Zh (raB (aE ms) L (m+1)=iH (ovr (raB (aE ms) L m) ((L.places.getD m zPB.1).data-65536).toNat ((aE ms).getD m zP).dz) ((L.places.getD m zPB.1).data-65536).toNat ((aE ms).getD m zP).rz (L.places.getD m zPB.1).data ((aE ms).getD m zP).rz.length):=rfl;have HVL:=zh (HKN.o.v m (by omega));rw [HKN.o.place m (by omega),<- HPP.o,HPM.o] at HFL HRA;rw [<- HPP.o,HPM.o,HFR.o.1,HFR.o.2] at HAT;rw [HPM.o] at HVL;clear HPM HPP;generalize hFZ:flB (aE ms) L (m+1)=FZ at HFL;generalize hRZ:raB (aE ms) L (m+1)=RZ at HRA;have HFZ:=zh (xA hFZ hRZ);clear hFZ hRZ;generalize flB (aE ms) L m=fz at *;generalize raB (aE ms) L m=rz at *;unfold svP at z1;generalize xs.getD m zPB=x at *;obtain ⟨⟨xt,xb,xd,xz⟩,xa,xc⟩:=x;generalize ms.getD m aK=M at *;obtain ⟨P,hP⟩:=eqx (M.pm);rw [<- hP] at HFL HRA HAT HVL;have HPE:=zh (show P.tz=M.tz/\P.bl=M.bl.map (fun B=>B.2.2.2)/\P.dz=M.dz/\P.rz=M.rz by rw [hP];exact ⟨rfl,rfl,rfl,rfl⟩);clear hP;obtain ⟨nm,ta,tn,tc,tz,ba,bn,bc,bl,da,dn,dc,dz,bss,ra,rn,rc,rrz,ia,im,ic,ss,ea,en,ec,es⟩:=M;dsimp only at z0 z1 z2 z3 HPB HFL HRA HAT HMD HPE y0 y1 y2 y3 y4 y5 y6 y7;obtain ⟨kt,hkt⟩:∃ kt:Nat,xt=(kt:Int):=⟨xt.toNat,by have:=HAT.o.1.1;omega⟩;obtain ⟨f,hf⟩:∃ f:Nat,xd=65536+(f:Int):=⟨(xd-65536).toNat,by have:=HAT.o.2.2.2.1;omega⟩;subst hkt hf
     have HPZ1:=zh (fun (X:qw) (I:Im5 w (qL L (some (qR pb po)) xs.length c0 a2 L.slots.length c2 a5 ts.length c5) F R gf gr go gm wo.heap.size #[.int .i64 (kt:Int),.slice xa xb.length xc,.int .i64 (65536+(f:Int)),.int .i64 xz] fz rz X)=>(mW gf F F kt ta tn tc tz fz w.heap.size w X HMD.o.t I.s.be (by have:=I.s.lo;omega) I.s.f hF1 (by have h1:=HAT.o.1.2;have h2:tz.length=tn:=HMD.o.t.1;rw [HPE.o.1] at h1;omega) (fun i hi=>by have h1:=(aD5 HVL.o).1 i;have h2:tz.length=tn:=HMD.o.t.1;rw [HPE.o.1] at h1;exact h1 (by omega))).mono (fun e w' he=>show e=.returned (.tuple #[])/\Im5 w (qL L (some (qR pb po)) xs.length c0 a2 L.slots.length c2 a5 ts.length c5) F R gf gr go gm wo.heap.size #[.int .i64 (kt:Int),.slice xa xb.length xc,.int .i64 (65536+(f:Int)),.int .i64 xz] (cP fz P ⟨(kt:Int),xb,65536+(f:Int),xz⟩ 0) rz w' from ⟨he.1,by
      have e1:cP fz P ⟨(kt:Int),xb,65536+(f:Int),xz⟩ 0=bN fz kt tz tn:=by
       show bN fz ((kt:Int)).toNat P.tz P.tz.length=_;rw [HPE.o.1,xY,show tz.length=tn from HMD.o.t.1]
      rw [e1]
      exact I.setf he.2.1 he.2.2⟩))
     have hbl:bl.length=bn:=HMD.o.b.1;have HLE:=zh (cB HVL.o);have hbn4:bn<=4:=by have h1:=HLE.o.2.2.2.1;rw [HPE.o.2.1,xH] at h1;omega
     have HBE:Zh (∀ j,j<bn->P.bl.getD j []=(bl.getD j zB).2.2.2):=fun j hj=>by rw [HPE.o.2.1,fF _ _ _ zB _]
     have HPZ2:=zh (fun (j:Nat) (hj:j<bn) (X:qw) (I:Im5 w (qL L (some (qR pb po)) xs.length c0 a2 L.slots.length c2 a5 ts.length c5) F R gf gr go gm wo.heap.size #[.int .i64 (kt:Int),.slice xa xb.length xc,.int .i64 (65536+(f:Int)),.int .i64 xz] (cP fz P ⟨(kt:Int),xb,65536+(f:Int),xz⟩ j) rz X)=>(show qC 144 #[.slice (some (qR gf 0)) F F,.int .i64 (xb.getD j 0),.slice (bl.getD j zB).1 (bl.getD j zB).2.1 (bl.getD j zB).2.2.1] X fun e w'=>e=.returned (.tuple #[])/\Im5 w (qL L (some (qR pb po)) xs.length c0 a2 L.slots.length c2 a5 ts.length c5) F R gf gr go gm wo.heap.size #[.int .i64 (kt:Int),.slice xa xb.length xc,.int .i64 (65536+(f:Int)),.int .i64 xz] (cP fz P ⟨(kt:Int),xb,65536+(f:Int),xz⟩ (j+1)) rz w' from by
      have hPl:P.bl.length=bn:=by rw [HPE.o.2.1,xH];exact hbl
      obtain ⟨h1,h2⟩:=HAT.o.2.2.1 j (by omega);have hI:IS w (bl.getD j zB).1 (bl.getD j zB).2.1 (bl.getD j zB).2.2.1 (bl.getD j zB).2.2.2:=HMD.o.b.2.2.2.1 j hj;have h3:(bl.getD j zB).2.2.2.length=(bl.getD j zB).2.1:=hI.1;have h4:=(aD5 HVL.o).2 j (by omega);rw [HBE.o j hj] at h2 h4;obtain ⟨kb,hkb⟩:∃ kb:Nat,xb.getD j 0=(kb:Int):=⟨(xb.getD j 0).toNat,by omega⟩;rw [hkb] at h2
      have e1:cP fz P ⟨(kt:Int),xb,65536+(f:Int),xz⟩ (j+1)=bN (cP fz P ⟨(kt:Int),xb,65536+(f:Int),xz⟩ j) kb (bl.getD j zB).2.2.2 (bl.getD j zB).2.1:=by
       show bN _ (xb.getD j 0).toNat (P.bl.getD j []) (P.bl.getD j []).length=_;rw [HBE.o j hj,hkb,xY,h3]
      rw [hkb,e1]
      exact (mW gf F F kb _ _ _ _ _ w.heap.size w X hI I.s.be (by have:=I.s.lo;omega) I.s.f hF1 (by omega) (fun i hi=>h4 i (by omega))).mono (fun e w' he=>⟨he.1,I.setf he.2.1 he.2.2⟩)))
     have I1:Im5 w (qL L (some (qR pb po)) xs.length c0 a2 L.slots.length c2 a5 ts.length c5) F R gf gr go gm wo.heap.size #[.int .i64 (kt:Int),.slice xa xb.length xc,.int .i64 (65536+(f:Int)),.int .i64 xz] fz rz (wo.alloc (.cells #[.int .i64 (kt:Int),.slice xa xb.length xc,.int .i64 (65536+(f:Int)),.int .i64 xz] 171)):=⟨S.bw (show qY wo (wo.alloc (.cells #[.int .i64 (kt:Int),.slice xa xb.length xc,.int .i64 (65536+(f:Int)),.int .i64 xz] 171)) from bal),Blk.new _ _ _⟩;have HI1:=zh I1;have c0':=S.kl.cell 0;simp only [List.getElem?_toArray,List.getElem?_cons_zero] at c0';have zz0:=aB S.be z0;have zz1:=aB S.be z1;have zz2:=aB S.be z2;have zz3:=aB S.be z3;have hml':(m:Int)<(xs.length:Int):=by have:=HXL.o;omega
     clear S I1 HS;go_wp2_with fail
     generalize hW1:wo.alloc (.cells #[.int .i64 (kt:Int),.slice xa xb.length xc,.int .i64 (65536+(f:Int)),.int .i64 xz] 171)=W1 at *;clear hW1;have v0:W1.cell? (qR gm 0)=some (.slice (some (qR gf 0)) F F):=HI1.o.s.km.cell 0;have v1:W1.cell? (qR wo.heap.size 0)=some (.int .i64 (kt:Int)):=HI1.o.p.cell 0;have v2:=aB HI1.o.s.be y1
     go_region_held3 (fun w'=>w'.cell? (qR gm 0)=some (.slice (some (qR gf 0)) F F)/\w'.cell? (qR wo.heap.size 0)=some (.int .i64 (kt:Int))/\w'.cell? (qR b (off+m*8+1))=some (.slice ta tn tc)) (go_keep)
      (first
        | (go_at_call 144;first
            | with_reducible refine (HPZ1.o _ HI1.o).mono ?_
            | with_reducible refine (HPZ1.o _ HI1.o.drew).mono ?_
           rintro e w2 ⟨rfl,hI2⟩;have HI2:=zh hI2;clear hI2;have u0:w2.cell? (qR gm 0)=some (.slice (some (qR gf 0)) F F):=HI2.o.s.km.cell 0;have u1:w2.cell? (qR wo.heap.size 0)=some (.int .i64 (kt:Int)):=HI2.o.p.cell 0
           have u2:=aB HI2.o.s.be y1))
     clear v0 v1 v2 u0 u1 u2 zz0 zz1 zz2 zz3 c0' z0 z1 z2 z3;go_wp2;go_loopw [9] (fun i wr=>∃ j:Nat,j<=bn/\i=.int .i64 j/\Im5 w (qL L (some (qR pb po)) xs.length c0 a2 L.slots.length c2 a5 ts.length c5) F R gf gr go gm wo.heap.size #[.int .i64 (kt:Int),.slice xa xb.length xc,.int .i64 (65536+(f:Int)),.int .i64 xz] (cP fz P ⟨(kt:Int),xb,65536+(f:Int),xz⟩ j) rz wr) (qf bn)
     .exact ⟨0,xC _,rfl,HI2.o⟩
     .clear HI1 HI2 HPZ1;obtain ⟨j,hj,rfl,hJ⟩:=hrel;have HJ:=zh hJ;generalize wr=wj at *;have s2:=aB hJ.s.be y2;by_cases hjb:j<bn
      .have hjb':(j:Int)<(bn:Int):=by omega
       have hxb:xb.length=bn:=by
        have h1:=HAT.o.2.1;rw [HPE.o.2.1,xH] at h1;omega
       have HXB:=zh hxb;have hjx':(j:Int)<(xb.length:Int):=by omega
       clear hxb;obtain ⟨bb,bo,rfl,hbc⟩:=HMD.o.b.2.2.1 (show bn≠0 by omega);obtain ⟨qb,qo,rfl,hqc⟩:=HPB.o.2.2.2.1 (show xb.length≠0 by have:=HXB.o;omega);have v0:wj.cell? (qR gm 0)=some (.slice (some (qR gf 0)) F F):=hJ.s.km.cell 0;have v1:wj.cell? (qR wo.heap.size 1)=some (.slice (some (qR qb qo)) xb.length xc):=hJ.p.cell 1;have v2:=aB hJ.s.be (hqc j (by have:=HXB.o;omega));have hbcj:=hbc j hjb;dsimp only at hbcj;have v3:=aB hJ.s.be hbcj;have HP2:=zh (HPZ2.o j hjb);have HVW:=zh (fun (W:qw) (hb:qY w W)=>xA (aB hb (hqc j (by have:=HXB.o;omega))) (xA (aB hb hbcj) (aB hb y2)));clear hJ hbc hqc hbcj;generalize (bl.getD j zB).1=k1 at *;generalize (bl.getD j zB).2.1=k2 at *;generalize (bl.getD j zB).2.2.1=k3 at *;generalize xb.getD j 0=k4 at *;go_wp2_with fail
       go_region_held3 (fun w'=>w'.cell? (qR gm 0)=some (.slice (some (qR gf 0)) F F)/\w'.cell? (qR wo.heap.size 1)=some (.slice (some (qR qb qo)) xb.length xc)/\w'.cell? (qR qb (qo+j))=some (.int .i64 k4)/\w'.cell? (qR b (off+m*8+2))=some (.slice (some (qR bb bo)) bn bc)/\w'.cell? (qR bb (bo+j))=some (.slice k1 k2 k3)) (go_keep)
        (first
          | (go_at_call 144;first
              | with_reducible refine (HP2.o _ HJ.o).mono ?_
              | with_reducible refine (HP2.o _ HJ.o.drew).mono ?_
             rintro e w3 ⟨rfl,hI3⟩;have HI3:=zh hI3;clear hI3;have u0:w3.cell? (qR gm 0)=some (.slice (some (qR gf 0)) F F):=HI3.o.s.km.cell 0;have u1:w3.cell? (qR wo.heap.size 1)=some (.slice (some (qR qb qo)) xb.length xc):=HI3.o.p.cell 1
             obtain ⟨u2,u3,u4⟩:=HVW.o w3 HI3.o.s.be))
       clear v0 v1 v2 v3 u0 u1 u2 u3 u4 s2;go_wp2
       go_roundw
       .exact ⟨j+1,by omega,by go_num,HI3.o⟩
       .simp [qf,intOf];omega
      .have HJN:=zh (show j=bn by omega);have t2:wj.cell? (qR wo.heap.size 2)=some (.int .i64 (65536+(f:Int))):=hJ.p.cell 2;have t1:wj.cell? (qR gm 1)=some (.slice (some (qR gr 0)) R R):=hJ.s.km.cell 1;have s3:=aB hJ.s.be y3;have hff:(65536:Int)+(f:Int)-65536=(f:Int):=by omega
       have hfR:(f:Int)<=(R:Int):=by have:=HAT.o.2.2.2.2;omega
       clear hJ;have hdn:dz.length=dn:=HMD.o.d.1
       have hfd:f+dn<=R:=by
        have h1:=HAT.o.2.2.2.2;rw [HPE.o.2.2.1] at h1;omega
       have HBS:=zh (fun (X:qw) (hb:qY w X)=>show BS X da dn dc dz from HMD.o.d.bw hb);have HI4F:=zh (fun (X X':qw) (I:Im5 w (qL L (some (qR pb po)) xs.length c0 a2 L.slots.length c2 a5 ts.length c5) F R gf gr go gm wo.heap.size #[.int .i64 (kt:Int),.slice xa xb.length xc,.int .i64 (65536+(f:Int)),.int .i64 xz] (cP fz P ⟨(kt:Int),xb,65536+(f:Int),xz⟩ j) rz X) (O:OB X' w.heap.size (.slice (some (qR gr 0)) R R) (ovr rz f dz)) (T:fI gr X X')=>I.setr O T);have f0':(0:Int)<=(f:Int):=by omega
       have HFT:Zh (((f:Int)).toNat=f):=xY f;go_wp2_with fail
       apply aRe (F:=fun v W=>Im5 w (qL L (some (qR pb po)) xs.length c0 a2 L.slots.length c2 a5 ts.length c5) F R gf gr go gm wo.heap.size #[.int .i64 (kt:Int),.slice xa xb.length xc,.int .i64 (65536+(f:Int)),.int .i64 xz] (cP fz P ⟨(kt:Int),xb,65536+(f:Int),xz⟩ j) (ovr rz f dz) W)
       .intro REST0;have REST:=zh REST0;clear REST0;by_cases hfl:f<R
        .have hfl':(f:Int)<(R:Int):=by omega
         obtain ⟨w4,hrun,O4,T4⟩:=uW (f:=f) HJ.o.drew.s.r 3 (some ⟨gr,f,none⟩) da (R-f) (R-f) dn dc (HBS.o _ HJ.o.drew.s.be) (by omega) (by omega) (fun _=>rfl);have HI4:=zh (HI4F.o _ _ HJ.o.drew O4 T4);clear O4 T4;have u1:w4.cell? (qR gm 1)=some (.slice (some (qR gr 0)) R R):=HI4.o.s.km.cell 1;have u2:=aB HI4.o.s.be y3
         go_region_held3 (fun w'=>w'.cell? (qR gm 1)=some (.slice (some (qR gr 0)) R R)/\w'.cell? (qR b (off+m*8+3))=some (.slice da dn dc)) (go_keep) (fail)
         generalize Value.slice (some (qR gr f)) (R-f) (R-f)=v79;exact REST.o v79 w4 HI4.o
        .obtain rfl:R=f:=by omega
         have hd0:dn=0:=by omega
         obtain ⟨w4,hrun,O4,T4⟩:=uW (f:=R) HJ.o.drew.s.r 3 (some ⟨gr,0,none⟩) da 0 0 dn dc (HBS.o _ HJ.o.drew.s.be) (by omega) (by omega) (fun h=>by omega);have HI4:=zh (HI4F.o _ _ HJ.o.drew O4 T4);clear O4 T4;have u1:w4.cell? (qR gm 1)=some (.slice (some (qR gr 0)) R R):=HI4.o.s.km.cell 1;have u2:=aB HI4.o.s.be y3;have HD0:=zh hd0;clear hd0
         go_region_held3 (fun w'=>w'.cell? (qR gm 1)=some (.slice (some (qR gr 0)) R R)/\w'.cell? (qR b (off+m*8+3))=some (.slice da dn dc)) (go_keep) (fail)
         exact REST.o _ w4 HI4.o
       .rintro v79 W4 hI4;show Exit.then _ _ _ _ _
        have HI4:=zh hI4;have hrl:rrz.length=rn:=HMD.o.r.1
        have hrn:rn<=16:=by
         have V:=lN (by simp [mB]) (show mdo P.nm P.tz.length P.tz P.bl.length (mB P.bl) P.dz.length P.bss P.rz.length P.rz P.ss.length P.ss P.es.length P.es=0 from HVL.o);have h1:=V.r;rw [HPE.o.2.2.2] at h1;omega
        have HRLB:=zh (show ∀ q,q<rn->0<=rrz.getD q 0/\rrz.getD q 0+4<=(dn:Int) from fun q hq=>by
         have h1:=aJb HVL.o q (by rw [HPE.o.2.2.2];omega);rw [HPE.o.2.2.2,HPE.o.2.2.1] at h1
         omega)
        clear hI4 HJ HBS HI4F t1 t2 s3 s2 hff HFT;go_wp2;go_loopw [11,12] (fun i _ wr=>∃ q:Nat,q<=rn/\i=.int .i64 q/\Im5 w (qL L (some (qR pb po)) xs.length c0 a2 L.slots.length c2 a5 ts.length c5) F R gf gr go gm wo.heap.size #[.int .i64 (kt:Int),.slice xa xb.length xc,.int .i64 (65536+(f:Int)),.int .i64 xz] (cP fz P ⟨(kt:Int),xb,65536+(f:Int),xz⟩ j) (iH (ovr rz f dz) f rrz (65536+(f:Int)) q) wr) (fun i _ _=>rn-(intOf i).toNat)
        .exact ⟨0,xC _,rfl,HI4.o⟩
        .clear HI4;obtain ⟨q,hq,rfl,hQ⟩:=hrel;have HQ:=zh hQ;generalize wr=wq at *;have s5:=aB hQ.s.be y5;by_cases hqr:q<rn
         .have hqr':(q:Int)<(rn:Int):=by omega
          obtain ⟨rb,ro,rfl,hrc⟩:=HMD.o.r.2.2.2.1 (show rn≠0 by omega);obtain ⟨h1,h2⟩:=HRLB.o q hqr;have hrq:=hrc q hqr;dsimp only at hrq;have s6:=aB hQ.s.be hrq;have HRE:Zh (iH (ovr rz f dz) f rrz (65536+(f:Int)) (q+1)=put (iH (ovr rz f dz) f rrz (65536+(f:Int)) q) (f+(rrz.getD q 0).toNat) (low (((iH (ovr rz f dz) f rrz (65536+(f:Int)) q).drop (f+(rrz.getD q 0).toNat)).take 4)+(65536+(f:Int))) 4):=rfl;clear hrc hrq hQ;generalize hRQ1:iH (ovr rz f dz) f rrz (65536+(f:Int)) (q+1)=RQ1 at HRE;have HRQ1:=zh hRQ1;clear hRQ1;generalize iH (ovr rz f dz) f rrz (65536+(f:Int)) q=RQ at *;obtain ⟨x,hx⟩:∃ x:Nat,rrz.getD q 0=(x:Int):=⟨(rrz.getD q 0).toNat,by omega⟩;rw [hx] at s6 HRE h1 h2;rw [xY] at HRE;clear hx;obtain ⟨A,hA⟩:∃ A:Nat,A=f+x:=⟨_,rfl⟩;obtain ⟨A4,hA4⟩:∃ A4:Nat,A4=A+4:=⟨_,rfl⟩;rw [<- hA] at HRE;have hAR:A4<=R:=by omega
          have hAi:(f:Int)+(x:Int)=(A:Int):=by omega
          have HAI:=zh hAi;have hw4:IntKind.i64.wrap ((A:Int)+4)=(A4:Int):=by rw [xP,xQ _ (by omega)];omega
          have hz0:(0:Int)<=(A:Int):=by omega
          have hz1:(A:Int)<=(A4:Int):=by omega
          have hz2:(A4:Int)<=(R:Int):=by omega
          have hz3:(A:Int)<(R:Int):=by omega
          have hz4:A<=A4:=by omega
          have hz5:¬ (R=A):=by omega
          have hz6:A<R:=by omega
          have hRQ:RQ.length=R:=(rV HQ.o.s.r).2.1;have HLR:=zh (oV ((RQ.drop A).take 4) (fun z hz=>HQ.o.s.r.2 z (List.mem_of_mem_drop (List.mem_of_mem_take hz))) (by simp;omega));obtain ⟨lw,hlw⟩:=eqx (low ((RQ.drop A).take 4));rw [<- hlw] at HLR HRE;obtain ⟨VV,hVV⟩:=eqx (lw+(65536+(f:Int)));rw [<- hVV] at HRE;have hwV:IntKind.i64.wrap (lw+(65536+(f:Int)))=VV:=by rw [hVV,xP,xQ _ (by have:=HLR.o;omega)]
          have HVR:=zh (show -9223372036854775808<=VV/\VV<=9223372036854775807 by have:=HLR.o;omega)
          have HLO:=zh (fun (X:qw) (I:Im5 w (qL L (some (qR pb po)) xs.length c0 a2 L.slots.length c2 a5 ts.length c5) F R gf gr go gm wo.heap.size #[.int .i64 (kt:Int),.slice xa xb.length xc,.int .i64 (65536+(f:Int)),.int .i64 xz] (cP fz P ⟨(kt:Int),xb,65536+(f:Int),xz⟩ j) RQ X)=>show qC 146 #[.slice (some (qR gr A)) (A4-A) (R-A)] X fun e w'=>e=.returned (.int .i64 lw)/\X=w' from by
           have hbs:BS X (some (qR gr A)) (A4-A) (R-A) ((RQ.drop A).take 4):=by
            have hb:=I.s.r.bs;refine ⟨by simp;omega,by unfold maxLen;omega,fun z hz=>I.s.r.2 z (List.mem_of_mem_drop (List.mem_of_mem_take hz)),fun _=>⟨gr,A,rfl,fun i hi=>?_⟩,by omega⟩;have h1:=hb.at (A+i) (by omega);rw [Nat.zero_add] at h1;rw [h1];congr 2;simp [xB,List.getElem?_take,List.getElem?_drop,show i<4 by omega]
           have:=aIv gr A (A4-A) (R-A) _ X hbs;rw [<- hlw] at this
           exact this)
          have HPU:=zh (fun (X:qw) (I:Im5 w (qL L (some (qR pb po)) xs.length c0 a2 L.slots.length c2 a5 ts.length c5) F R gf gr go gm wo.heap.size #[.int .i64 (kt:Int),.slice xa xb.length xc,.int .i64 (65536+(f:Int)),.int .i64 xz] (cP fz P ⟨(kt:Int),xb,65536+(f:Int),xz⟩ j) RQ X)=>show qC 145 #[.slice (some (qR gr 0)) R R,.int .i64 (A:Int),.int .i64 4,.int .i64 (VV%4294967296)] X fun e w'=>e=.returned (.tuple #[])/\Im5 w (qL L (some (qR pb po)) xs.length c0 a2 L.slots.length c2 a5 ts.length c5) F R gf gr go gm wo.heap.size #[.int .i64 (kt:Int),.slice xa xb.length xc,.int .i64 (65536+(f:Int)),.int .i64 xz] (cP fz P ⟨(kt:Int),xb,65536+(f:Int),xz⟩ j) RQ1 w' from
           (yZ gr R R A 4 (VV%4294967296) X (nK I.s.r) hR1 (by omega) (by omega) (by omega) (by omega) (by omega)).mono (fun e w' he=>⟨he.1,by
             rw [he.2,HRE.o];have O:=aEr I.s.r A (VV%4294967296) 4 (by omega);rw [(aKa RQ A VV).1] at O
             exact I.setr O (sZ gr A (VV%4294967296) X 4)⟩))
          clear hlw hVV hA hA4 h1 h2;go_wp2_with fail
          try rw [HAI.o]
          have v1:wq.cell? (qR gm 1)=some (.slice (some (qR gr 0)) R R):=HQ.o.s.km.cell 1;have v2:wq.cell? (qR wo.heap.size 2)=some (.int .i64 (65536+(f:Int))):=HQ.o.p.cell 2;clear hAi s5 s6
          go_region_held3 (fun w'=>w'.cell? (qR gm 1)=some (.slice (some (qR gr 0)) R R)/\w'.cell? (qR wo.heap.size 2)=some (.int .i64 (65536+(f:Int)))) (go_keep)
           (first
             | (go_at_call 146;first
                 | with_reducible refine (HLO.o _ HQ.o).mono ?_
                 | with_reducible refine (HLO.o _ HQ.o.drew).mono ?_
                rintro e w5 ⟨rfl,rfl⟩)
             | (go_at_call 61;first
                 | with_reducible refine (uA VV _ HVR.o).mono ?_
                 | (rw [hwV];with_reducible refine (uA VV _ HVR.o).mono ?_)
                rintro e w5 ⟨rfl,rfl⟩)
             | (go_at_call 145;first
                 | with_reducible refine (HPU.o _ HQ.o).mono ?_
                 | with_reducible refine (HPU.o _ HQ.o.drew).mono ?_
                rintro e w6 ⟨rfl,hI6⟩;have HI6:=zh hI6;clear hI6;have u1:w6.cell? (qR gm 1)=some (.slice (some (qR gr 0)) R R):=HI6.o.s.km.cell 1
                have u2:w6.cell? (qR wo.heap.size 2)=some (.int .i64 (65536+(f:Int))):=HI6.o.p.cell 2))
          clear v1 v2 u1 u2 hw4 hwV;go_wp2
          go_roundw
          .exact ⟨q+1,by omega,by go_num,by rw [HRQ1.o];exact HI6.o⟩
          .simp [qf,intOf];omega
         .have HQN:=zh (show q=rn by omega)
          have HZ2:=zh (show ImS w (qL L (some (qR pb po)) xs.length c0 a2 L.slots.length c2 a5 ts.length c5) F R gf gr go gm FZ RZ wq from by
           have h1:=hQ.s;have e1:P.bl.length=bn:=by rw [HPE.o.2.1,xH];exact hbl
           rw [HFL.o,HRA.o,e1,HPE.o.2.2.1,HPE.o.2.2.2,hrl,show ((65536:Int)+(f:Int)-65536).toNat=f by omega,<- HJN.o,<- HQN.o]
           exact h1)
          clear hQ HQ;go_wp2
          go_roundw
          .exact ⟨m+1,by omega,by go_num,by rw [HFZ.o.1,HFZ.o.2];exact HZ2.o⟩
          .simp [qf,intOf];omega
    .have e:Zh (m=n):=by show m=n;omega
     obtain ⟨q0,q1,q2⟩:wo.cell? ⟨gm,0,none⟩=some (.slice (some ⟨gf,0,none⟩) F F)/\wo.cell? ⟨gm,1,none⟩=some (.slice (some ⟨gr,0,none⟩) R R)/\wo.cell? ⟨gm,2,none⟩=some (.slice (some ⟨go,0,none⟩) 0 0):=⟨S.km.cell 0,S.km.cell 1,S.km.cell 2⟩;obtain ⟨p0,p1,p2⟩:wo.cell? ⟨w.heap.size+1,0,none⟩=some (.slice none 0 0)/\wo.cell? ⟨w.heap.size+1,1,none⟩=some (.slice none 0 0)/\wo.cell? ⟨w.heap.size+1,2,none⟩=some (.slice none 0 0):=⟨S.kr.cell 0,S.kr.cell 1,S.kr.cell 2⟩;have pf:=S.kr.frozen;have T:Turn (fun j=>j=w.heap.size+1) wo (((wo.setCell (qR (w.heap.size+1) 0) (.slice (some (qR gf 0)) F F)).setCell (qR (w.heap.size+1) 1) (.slice (some (qR gr 0)) R R)).setCell (qR (w.heap.size+1) 2) (.slice (some (qR go 0)) 0 0)):=((aC _ _ _ _).trans (aC _ _ _ _)).trans (aC _ _ _ _)
     have HE:=zh (show ImM w (aE ms) L (.returned (.tuple #[.agg (qV (some (qR gf 0)) F F (some (qR gr 0)) R R (some (qR go 0)) 0 0),.bool true])) (((wo.setCell (qR (w.heap.size+1) 0) (.slice (some (qR gf 0)) F F)).setCell (qR (w.heap.size+1) 1) (.slice (some (qR gr 0)) R R)).setCell (qR (w.heap.size+1) 2) (.slice (some (qR go 0)) 0 0)) from by
      have hlo:=S.lo;refine ⟨aG S.be T (fun k e=>by omega) S.be.size,some (qR gf 0),F,F,some (qR gr 0),R,R,some (qR go 0),0,0,by rw [xR HOK.o],?_⟩;unfold imF imR;rw [if_pos HOK.o,if_pos HOK.o,hpl,<- e.o];have kO:=aF T S.o (by omega);refine ⟨aU T S.f (fun k hk s=>by simp [Value.ownBlock] at hk;omega),aU T S.r (fun k hk s=>by simp [Value.ownBlock] at hk;omega),⟨⟨rfl,.inr ⟨go,0,#[],rfl,by omega,kO,aN,xC _,rfl,rfl⟩⟩,by simp⟩,?_,?_,?_⟩
      all_goals
       intro k hk;have hne:=S.ne;simp [Value.ownBlock] at hk ⊢
       omega)
     have k3:=dD (v0:=.slice (some (qR gf 0)) F F) (v1:=.slice (some (qR gr 0)) R R) (v2:=.slice (some (qR go 0)) 0 0) S.kr;have s0:=k3.cell 0;have s1:=k3.cell 1;have s2:=k3.cell 2;simp only [List.getElem?_toArray,List.getElem?_cons_zero,List.getElem?_cons_succ] at s0 s1 s2;clear S T HS k3;go_wp2;exact bodyPost_ret (v:=.tuple #[.agg (qV (some (qR gf 0)) F F (some (qR gr 0)) R R (some (qR go 0)) 0 0),.bool true]) (by simp [results,results78,go_sem,s0,s1,s2]) rfl HE.o
 .rw [xS hok]
  have HE:=zh (show ∀ W',qY w W'->ImM w (aE ms) L (.returned (.tuple #[.agg (qV none 0 0 none 0 0 none 0 0),.bool false])) W' from fun W' hb=>by
   refine ⟨hb,none,0,0,none,0,0,none,0,0,by rw [xS hok],?_⟩;unfold imF imR;rw [if_neg hok,if_neg hok];refine ⟨⟨⟨rfl,.inl ⟨rfl,rfl⟩⟩,by simp⟩,⟨⟨rfl,.inl ⟨rfl,rfl⟩⟩,by simp⟩,⟨⟨rfl,.inl ⟨rfl,rfl⟩⟩,by simp⟩,?_,?_,?_⟩
   all_goals
    intro k hk
    simp [Value.ownBlock] at hk)
  have k3:=dD (v0:=.slice none 0 0) (v1:=.slice none 0 0) (v2:=.slice none 0 0) kr1;have s0:=k3.cell 0;have s1:=k3.cell 1;have s2:=k3.cell 2;simp only [List.getElem?_toArray,List.getElem?_cons_zero,List.getElem?_cons_succ] at s0 s1 s2;have T:Turn (fun j=>j=w.heap.size+1) w1 (((w1.setCell (qR (w.heap.size+1) 0) (.slice none 0 0)).setCell (qR (w.heap.size+1) 1) (.slice none 0 0)).setCell (qR (w.heap.size+1) 2) (.slice none 0 0)):=((aC _ _ _ _).trans (aC _ _ _ _)).trans (aC _ _ _ _);have HB:=zh (aG B1 T (fun k e=>by omega) B1.size);obtain ⟨p0,p1,p2⟩:w1.cell? ⟨w.heap.size+1,0,none⟩=some (.slice none 0 0)/\w1.cell? ⟨w.heap.size+1,1,none⟩=some (.slice none 0 0)/\w1.cell? ⟨w.heap.size+1,2,none⟩=some (.slice none 0 0):=⟨kr1.cell 0,kr1.cell 1,kr1.cell 2⟩;have pf:=kr1.frozen;clear T k3 kl1 kr1 B1 hok HRL HM HL;go_wp2;exact bodyPost_ret (v:=.tuple #[.agg (qV none 0 0 none 0 0 none 0 0),.bool false]) (by simp [results,results78,go_sem,s0,s1,s2]) rfl (HE.o _ HB.o)
theorem nD (x y z:Int)(w:qw):
 qC 20 #[.agg (qT x y z)] w (qB w (.agg (qT x y z))):=by
 go_enter func20,ntmps20
 go_wp2;refine bodyPost_ret (v:=.agg (qT x y z)) (by simp [results,results20,go_sem]) rfl ⟨rfl,?_⟩;exact ((bal.alloc (by simp) _).alloc (by simp;omega) _)
theorem tQ (pc:Int)(a:qO)(n cap base:Nat)(zs:qi)(k:Nat)(w:qw)(h:OI w base (qS a n cap) zs)(hn:n<=5000000)(hk:k<=20000000):
 qC 49 #[.agg #[qI pc,qS a n cap],qI k] w fun e w'=>e=.returned (qI ((k+n:Nat):Int))/\OI w' base (qS a n cap) (bG k n)/\Turn (fun j=>(qS a n cap).ownBlock=some j) w w':=by
 have h':=h.bw ((Below.refl w.heap.size w).alloc aN (.cells #[qI pc,qS a n cap] 38));have T0:Turn (fun j=>(qS a n cap).ownBlock=some j) w (w.alloc (.cells #[qI pc,qS a n cap] 38)):=iW w _;go_enter func49,ntmps49
 go_wp2_with fail
 refine (fU a n cap base zs k _ h' hn hk).mono ?_;rintro e w1 ⟨rfl,p1,t1⟩;go_wp2;go_ret;exact ⟨rfl,p1,T0.trans t1⟩
theorem aFn (pc:Int)(a:qO)(n cap:Nat)(k:Nat)(w:qw)(h:IS w a n cap (bG k n))(hn:n<=5000000)(hk:k<=20000000):
 qC 54 #[.agg #[qI pc,qS a n cap],qI k] w (qB w (qI ((k+n:Nat):Int))):=by
 have hB0:qY w (w.alloc (.cells #[qI pc,qS a n cap] 38)):=bal;have e0:(0:Int)<=((k+n:Nat):Int):=by omega
 go_enter func54,ntmps54
 go_wp2_with fail
 refine (fW a n cap k _ (h.bw hB0) hn hk).mono ?_;rintro e w1 ⟨rfl,rfl⟩;go_wp2;go_ret;exact ⟨rfl,hB0⟩
theorem yT (a1 a2 a3:qO)(n1 d1 n2 d2 n3 d3 base:Nat)(x1 x2 x3:qi)(k:Nat)(w:qw)(h:OM w base (qS a1 n1 d1) (qS a2 n2 d2) (qS a3 n3 d3) x1 x2 x3)(hn:k+n1+n2+n3<=5000000):
 qC 50 #[.agg (qV a1 n1 d1 a2 n2 d2 a3 n3 d3),qI (k:Nat)] w fun e w'=>e=.returned (qI ((k+n1+n2+n3:Nat):Int))/\OM w' base (qS a1 n1 d1) (qS a2 n2 d2) (qS a3 n3 d3) (cJ k n1) (cJ (k+n1) n2) (cJ (k+n1+n2) n3)/\Turn (rK (qS a1 n1 d1) (qS a2 n2 d2) (qS a3 n3 d3)) w w':=by
 have hlt:∀ j,rK (qS a1 n1 d1) (qS a2 n2 d2) (qS a3 n3 d3) j->j<w.heap.size:=fun j hj=>(h.lt hj).2;have kb:=Blk.new w (qV a1 n1 d1 a2 n2 d2 a3 n3 d3) 39;have bb:qY w (w.alloc (.cells (qV a1 n1 d1 a2 n2 d2 a3 n3 d3) 39)):=bal;have h':=h.bw bb;have T0:Turn (rK (qS a1 n1 d1) (qS a2 n2 d2) (qS a3 n3 d3)) w (w.alloc (.cells (qV a1 n1 d1 a2 n2 d2 a3 n3 d3) 39)):=aJ bb;obtain ⟨_,_,_,o12,o13,o23⟩:=h;clear bb;go_enter func50,ntmps50
 go_wp2_with fail
 refine (eP a1 n1 d1 base x1 k _ h'.o1).mono ?_;rintro e w1 ⟨rfl,p1,t1⟩;have kb1:=aF t1 kb (fun e=>by have:=hlt _ (Or.inl e);omega);have p2:=aU t1 h'.o2 (fun k hk e=>o12 k e hk);have p3:=aU t1 h'.o3 (fun k hk e=>o13 k e hk);have T1:=T0.trans (t1.mono (fun k hk=>Or.inl hk));clear t1 kb h';obtain ⟨q1,q2,q3,q4⟩:=kb1.three;go_wp2_with fail
 refine (eP a2 n2 d2 base x2 (k+n1) _ p2).mono ?_;rintro e w2 ⟨rfl,p2,t2⟩;have kb2:=aF t2 kb1 (fun e=>by have:=hlt _ (Or.inr (Or.inl e));omega);have p1:=aU t2 p1 (fun k hk e=>o12 k hk e);have p3:=aU t2 p3 (fun k hk e=>o23 k e hk);have T2:=T1.trans (t2.mono (fun k hk=>Or.inr (Or.inl hk)));clear t2 kb1 q1 q2 q3 q4;obtain ⟨q1,q2,q3,q4⟩:=kb2.three;go_wp2_with fail
 refine (eP a3 n3 d3 base x3 (k+n1+n2) _ p3).mono ?_;rintro e w3 ⟨rfl,p3,t3⟩;have p1:=aU t3 p1 (fun k hk e=>o13 k hk e);have p2:=aU t3 p2 (fun k hk e=>o23 k hk e);have T3:=T2.trans (t3.mono (fun k hk=>Or.inr (Or.inr hk)));go_wp2;go_ret;exact ⟨rfl,⟨p1,p2,p3,o12,o13,o23⟩,T3⟩
theorem aIy (a1 a2 a3:qO)(n1 d1 n2 d2 n3 d3:Nat)(k:Nat)(w:qw)(h1:BS w a1 n1 d1 (cJ k n1))(h2:BS w a2 n2 d2 (cJ (k+n1) n2))(h3:BS w a3 n3 d3 (cJ (k+n1+n2) n3))(hn:k+n1+n2+n3<=5000000):
 qC 55 #[.agg (qV a1 n1 d1 a2 n2 d2 a3 n3 d3),qI (k:Nat)] w (qB w (qI ((k+n1+n2+n3:Nat):Int))):=by
 have hB0:qY w (w.alloc (.cells (qV a1 n1 d1 a2 n2 d2 a3 n3 d3) 39)):=bal;go_enter func55,ntmps55
 go_wp2_with fail
 refine (eV a1 n1 d1 k _ (h1.bw hB0)).mono ?_;rintro e w1 ⟨rfl,rfl⟩;have e1:(0:Int)<=((k+n1:Nat):Int):=by omega
 go_wp2_with fail
 refine (eV a2 n2 d2 (k+n1) _ (h2.bw hB0)).mono ?_;rintro e w1 ⟨rfl,rfl⟩;have e2:(0:Int)<=((k+n1+n2:Nat):Int):=by omega
 go_wp2_with fail
 refine (eV a3 n3 d3 (k+n1+n2) _ (h3.bw hB0)).mono ?_;rintro e w1 ⟨rfl,rfl⟩;have e3:(0:Int)<=((k+n1+n2+n3:Nat):Int):=by omega
 go_wp2;go_ret;exact ⟨rfl,hB0⟩
def cok (pc:Int)(n:Nat)(zs:qi):Bool:=decide (0<=pc/\pc<=4294967295/\n=8)&&zs.all fun z=>decide (0<=z/\z<=4294967295)
theorem aHd {zs:qi}(k:Nat)(hk:k<zs.length)(h:¬ (0<=zs.getD k 0/\zs.getD k 0<=4294967295)):cok pc n zs=false:=by
 unfold cok;rw [Bool.and_eq_false_iff];right;rw [List.all_eq_false];refine ⟨zs.getD k 0,?_,by simpa using h⟩;rw [xB,xN hk];exact List.getElem_mem hk
theorem aDx {zs:qi}(h0:0<=pc)(h1:pc<=4294967295)(hl:zs.length=8)(h:∀ j,j<8->0<=zs.getD j 0/\zs.getD j 0<=4294967295):cok pc 8 zs=true:=by
 unfold cok;rw [Bool.and_eq_true];refine ⟨by simp;omega,?_⟩;rw [List.all_eq_true];intro z hz;obtain ⟨j,hj,rfl⟩:=List.getElem_of_mem hz;have:=h j (by omega);rw [xB,xN hj] at this;simpa using this
theorem aBg (pc:Int)(a:qO)(n cap:Nat)(zs:qi)(w:qw)(h:IS w a n cap zs):
 qC 76 #[.agg #[qI pc,qS a n cap]] w (qB w (.bool (cok pc n zs))):=by
 have hB0:qY w (w.alloc (.cells #[qI pc,qS a n cap] 38)):=bal;have hmx:=h.2.1;unfold maxLen at hmx;have hl:=h.1;by_cases c1:pc<0
 .have HF:Zh (cok pc n zs=false):=by show _=_;unfold cok;simp;omega
  rw [HF.o];go_enter func76,ntmps76
  go_wp2;go_ret;exact ⟨rfl,hB0⟩
 .by_cases c2:4294967295<pc
  .have HF:Zh (cok pc n zs=false):=by show _=_;unfold cok;simp;omega
   rw [HF.o];go_enter func76,ntmps76
   go_wp2;go_ret;exact ⟨rfl,hB0⟩
  .by_cases c3:n=8
   .subst c3;obtain ⟨b,off,rfl⟩:=h.addr (by omega);have h':=h.bw hB0;have HB:=zh hB0;clear h hB0 hmx;have h8:(((8:Nat):Int) !=8)=false:=by simp
    go_enter func76,ntmps76
    go_wp2;go_loop [3] (fun i=>∃ k:Nat,k<=8/\i=qI k/\Hid (∀ j,j<k->0<=zs.getD j 0/\zs.getD j 0<=4294967295)) (fun i=>8-(intOf i).toNat)
    .exact ⟨0,by omega,rfl,zh (fun j hj=>by omega)⟩
    .obtain ⟨k,hk,rfl,HJ⟩:=hrel;by_cases hlt:k<8
     .have hlt':(k:Int)<8:=by omega
      have hc:=h'.at k hlt;have HZ:Zh (∀ z,z=zs.getD k 0->¬ (0<=z/\z<=4294967295)->cok pc 8 zs=false):=fun z hz hn=>aHd k (by omega) (by rw [<- hz];exact hn)
      have HG:=zh (show ∀ z,z=zs.getD k 0->(0<=z/\z<=4294967295)->∀ j,j<k+1->0<=zs.getD j 0/\zs.getD j 0<=4294967295 from fun z hz hn j hj=>by
       by_cases e:j=k
       .subst e;rw [<- hz];exact hn
       .exact HJ.out j (by omega))
      obtain ⟨z,hz⟩:=eqx (zs.getD k 0);rw [<- hz] at hc;have HZ:=zh (HZ.o z hz);have HG:=zh (HG.o z hz);clear hz;by_cases z0:z<0
      .have HX:=zh (HZ.o (by omega));go_wp2;go_ret;exact ⟨aA HX.o.symm,HB.o⟩
      .by_cases z1:4294967295<z
       .have HX:=zh (HZ.o (by omega));go_wp2;go_ret;exact ⟨aA HX.o.symm,HB.o⟩
       .go_wp2
        go_round
        .exact ⟨k+1,by omega,by go_num,zh (HG.o (by omega))⟩
        .simp [intOf];omega
     .have e:Zh (cok pc 8 zs=true):=zh (aDx (by omega) (by omega) hl (fun j hj=>HJ.out j (by omega)));go_wp2;go_ret;exact ⟨aA e.o.symm,HB.o⟩
   .have HF:Zh (cok pc n zs=false):=by show _=_;unfold cok;simp;omega
    rw [HF.o];have h8:((n:Int) !=8)=true:=by simp;omega
    go_enter func76,ntmps76
    go_wp2;go_ret;exact ⟨rfl,hB0⟩
theorem aFv (pc:Int)(a:qO)(n cap:Nat)(zs:qi)(w:qw)(h:IS w a n cap zs):
 qC 156 #[.agg #[qI pc,qS a n cap]] w (qB w (.bool (cok pc n zs))):=by
 have hB0:qY w (w.alloc (.cells #[qI pc,qS a n cap] 38)):=bal;have hmx:=h.2.1;unfold maxLen at hmx;have hl:=h.1;have HIW:=zh (fun v w=>cD v w);by_cases c1:pc<0
 .have HF:Zh (cok pc n zs=false):=by show _=_;unfold cok;simp;omega
  rw [HF.o];have HW:=zh (fun w=>cD pc w);rw [xS (by omega)] at HW;go_enter func156,ntmps156
  go_wp2_with (go_at_call 190;refine (HW.o _).mono ?_;rintro e w' ⟨rfl,rfl⟩)
  go_ret;exact ⟨rfl,hB0⟩
 .by_cases c2:4294967295<pc
  .have HF:Zh (cok pc n zs=false):=by show _=_;unfold cok;simp;omega
   rw [HF.o];have HW:=zh (fun w=>cD pc w);rw [xS (by omega)] at HW;go_enter func156,ntmps156
   go_wp2_with (go_at_call 190;refine (HW.o _).mono ?_;rintro e w' ⟨rfl,rfl⟩)
   go_ret;exact ⟨rfl,hB0⟩
  .by_cases c3:n=8
   .subst c3;obtain ⟨b,off,rfl⟩:=h.addr (by omega);have h':=h.bw hB0;have HB:=zh hB0;clear h hB0 hmx;have h8:(((8:Nat):Int) !=8)=false:=by simp
    have HW:=zh (fun w=>cD pc w);rw [xR (by omega)] at HW;go_enter func156,ntmps156
    go_wp2_with (go_at_call 190;refine (HW.o _).mono ?_;rintro e w' ⟨rfl,rfl⟩)
    go_loop [18] (fun i=>∃ k:Nat,k<=8/\i=qI k/\Hid (∀ j,j<k->0<=zs.getD j 0/\zs.getD j 0<=4294967295)) (fun i=>8-(intOf i).toNat)
    .exact ⟨0,by omega,rfl,zh (fun j hj=>by omega)⟩
    .obtain ⟨k,hk,rfl,HJ⟩:=hrel;by_cases hlt:k<8
     .have hlt':(k:Int)<8:=by omega
      have hc:=h'.at k hlt;have HZ:Zh (∀ z,z=zs.getD k 0->¬ (0<=z/\z<=4294967295)->cok pc 8 zs=false):=fun z hz hn=>aHd k (by omega) (by rw [<- hz];exact hn)
      have HG:=zh (show ∀ z,z=zs.getD k 0->(0<=z/\z<=4294967295)->∀ j,j<k+1->0<=zs.getD j 0/\zs.getD j 0<=4294967295 from fun z hz hn j hj=>by
       by_cases e:j=k
       .subst e;rw [<- hz];exact hn
       .exact HJ.out j (by omega))
      obtain ⟨z,hz⟩:=eqx (zs.getD k 0);rw [<- hz] at hc;have HZ:=zh (HZ.o z hz);have HG:=zh (HG.o z hz);clear hz;by_cases z0:z<0
      .have HX:=zh (HZ.o (by omega));have HV:=zh (fun w=>cD z w);rw [xS (by omega)] at HV;go_wp2_with (go_at_call 190;refine (HV.o _).mono ?_;rintro e w' ⟨rfl,rfl⟩)
       go_ret;exact ⟨aA HX.o.symm,HB.o⟩
      .by_cases z1:4294967295<z
       .have HX:=zh (HZ.o (by omega));have HV:=zh (fun w=>cD z w);rw [xS (by omega)] at HV;go_wp2_with (go_at_call 190;refine (HV.o _).mono ?_;rintro e w' ⟨rfl,rfl⟩)
        go_ret;exact ⟨aA HX.o.symm,HB.o⟩
       .have HV:=zh (fun w=>cD z w);rw [xR (by omega)] at HV;go_wp2_with (go_at_call 190;refine (HV.o _).mono ?_;rintro e w' ⟨rfl,rfl⟩)
        go_round
        .exact ⟨k+1,by omega,by go_num,zh (HG.o (by omega))⟩
        .simp [intOf];omega
     .have e:Zh (cok pc 8 zs=true):=zh (aDx (by omega) (by omega) hl (fun j hj=>HJ.out j (by omega)));go_wp2;go_ret;exact ⟨aA e.o.symm,HB.o⟩
   .have HF:Zh (cok pc n zs=false):=by show _=_;unfold cok;simp;omega
    rw [HF.o];have h8:((n:Int) !=8)=true:=by simp;omega
    have HW:=zh (fun w=>cD pc w);rw [xR (by omega)] at HW;go_enter func156,ntmps156
    go_wp2_with (go_at_call 190;refine (HW.o _).mono ?_;rintro e w' ⟨rfl,rfl⟩)
    go_ret;exact ⟨rfl,hB0⟩
theorem aCh (xs ds:List Value)(f n:Nat)(h:f+ds.length<=n)(hf:f<=xs.length):(splice xs f ds).take n=splice (xs.take n) f ds:=by
 unfold splice;rw [List.take_append,List.take_append,List.length_take,Nat.min_eq_left hf,xG (l:=List.take f xs) (by simp;omega),xG (l:=ds) (by omega),List.take_take,Nat.min_eq_left (by omega),List.drop_take];congr 3;omega
theorem aI6 {W:qw}{base cap f:Nat}{zs ds:qi}(ho:OB W base (qS (qP g) n cap) zs)(ty:TypeId)(sp:qO)(dLen dCap sLen sCap:Nat)(hds:BS W sp sLen sCap ds)(hle:sLen<=dLen)(hfit:f+sLen<=n)(h0:sLen≠0):
 ∃ w',(Builtin.copy_ #[28,28] ty #[qS (some (qR g f)) dLen dCap,qS sp sLen sCap]).run prog W=.ok (goInt sLen) w'/\OB w' base (qS (qP g) n cap) (ovr zs f ds)/\Turn (fun j=>j=g) W w':=by
 obtain ⟨⟨hl,⟨e0,_⟩|⟨g',cap',cur,hv,hg,hh,h1,h2,h3,h4⟩⟩,hr⟩:=ho
 .simp at e0
 .simp at hv;obtain ⟨rfl,rfl,rfl⟩:=hv;obtain ⟨b,off,rfl,hc⟩:=hds.2.2.2.1 h0;have hld:=hds.1;subst hld;have hi8:(prog.info? 5).map (·.size)=some 1:=by kernel_rfl
  have hrun:=run_copy_row (P:=prog) W 28 28 ty 5 g f dLen dCap (qR b off) ds.length sCap cur 5 (ds.map (Value.int .u8)) underlying28 hi8 hh (by rw [xH];exact (Nat.min_eq_left hle).symm) (fun j v hj=>by
   have hjl:j<ds.length:=by
    rcases Nat.lt_or_ge j ds.length with h1|h1
    .exact h1
    .rw [xO (by simp;omega)] at hj;cases hj
   rw [bP,hc j hjl,<- hj]
   simp [xB,show j<ds.length by omega]) (by simp;omega) (fun v hv=>by
   simp at hv;obtain ⟨z,_,rfl⟩:=hv
   rfl)
  rw [xH] at hrun;have on:=pR g W (cur.toList.take f++ds.map (Value.int .u8)++cur.toList.drop (f+ds.length)).toArray;refine ⟨_,hrun,⟨⟨by simp,.inr ⟨g,cap,(cur.toList.take f++ds.map (Value.int .u8)++cur.toList.drop (f+ds.length)).toArray,by rw [lR _ _ _ (by omega)],hg,setRow_heap W g cur _ 5 (0,0) hh,by rw [lR _ _ _ (by omega)];exact h1,h2,by simp;omega,?_⟩⟩,yR hr hds.2.2.1⟩,⟨on.2.2.1,on.2.2.2.1,on.2.2.2.2,by rw [on.1];exact aN,fun k _ hk=>on.2.1 k hk⟩⟩;have e:=aCh cur.toList (ds.map (Value.int .u8)) f zs.length (by simp;omega) (by simp;omega);rw [Nat.mul_one] at h4;rw [h4,aAz] at e;unfold splice at e;rw [lR _ _ _ (by omega),Nat.mul_one,List.toList_toArray,List.append_assoc,<- e];simp
section
variable {W W':qw}{base mid:Nat}{C:Cn}{M:Mn}{Ls:List (PMod×Mb)}{β:Nat->Nat}
theorem aT {b sz:Nat}{cs:Array Value}{t ty:TypeId}{xs:List Value}(kb:Blk W g cs ty)(ho:W.ownsRow b t sz v n xs)(hne:t≠ty):∀ k,v.ownBlock=some k->¬ k=g:=fun k hk e=>by
 subst e;obtain ⟨c,k2⟩:=aD ho hk;exact hne (aH k2 kb)
theorem MxO.scal (h:MxO W base mid C M Ls β)(pc md bk tn:Int):MxO W base mid { C with pc:=pc,md:=md,bk:=bk,tn:=tn } { M with pc:=pc,md:=md,bk:=bk,tn:=tn } Ls β:=⟨h.m,h.e,h.k,h.q,h.l,h.h,h.bm,h.bh,⟨h.vs.1,h.vs.2.1,h.vs.2.2.1,h.vs.2.2.2.1,rfl,rfl,rfl,rfl⟩,h.vz⟩
theorem MxO.upd (h:MxO W base mid C M Ls β)(t:Turn S W W')(hS:∀ j,S j->mid<=j/\∃ cs ty,Blk W j cs ty/\ty≠138/\ty≠25):OMp W' base (qS M.ma M.mn M.mc) Ls β:=
 h.m.keep t (fun j hj s=>by
  obtain ⟨_,cs,ty,kb,n1,n2⟩:=hS j s;obtain ⟨c,k⟩:=aD h.m.o hj
  exact n1 (aH kb k)) (fun j s=>xM h.bh (hS j s).1) (fun j cs kb s=>by
  obtain ⟨_,cs',ty,kb',n1,n2⟩:=hS j s
  exact n2 (aH kb' kb))
theorem MxO.reg (h:MxO W base mid C M Ls β){gk:Nat}(e:M.ka=some (qR gk 0))(i:Nat)(hi:i<M.kn)(z:Int)(hz:wfi z):MxO (W.setCell (qR gk i) (qI z)) base mid { C with kz:=C.kz.set i z } { M with kz:=C.kz.set i z } Ls β:=by
 have hk:=h.k;rw [e] at hk;have T:=aC W gk i (qI z);obtain ⟨cs,kb⟩:=aD hk.1 (k:=gk) rfl;refine ⟨h.upd T (fun j hj=>by subst hj;exact ⟨(hk.lt _ rfl).1,cs,_,kb,by decide,by decide⟩),h.e,?_,dM h.q T (fun j hj=>?_),h.l.kept T (aT kb h.l (by decide)),h.h.kept T (aT kb h.h (by decide)),h.bm,h.bh,h.vs,⟨h.vz.1,rfl,h.vz.2.2⟩⟩
 .show OI _ mid (qS M.ka M.kn M.kc) (C.kz.set i z);rw [e];exact aKi hk i hi z hz
 .rcases hj with q|q|q
  .exact aT kb h.q.1.1 (by decide) j q
  .exact aT kb h.q.2.1.1 (by decide) j q
  .exact aT kb h.q.2.2.1.1 (by decide) j q
theorem MxO.slot (h:MxO W base mid C M Ls β){gl:Nat}(e:M.la=some (qR gl 0))(i:Nat)(hi:i<M.ln)(x0:Bool)(x1 x2 x3:Int):MxO ((((W.setCell (qR gl (i*4)) (.bool x0)).setCell (qR gl (i*4+1)) (qI x1)).setCell (qR gl (i*4+2)) (qI x2)).setCell (qR gl (i*4+3)) (qI x3)) base mid { C with lz:=C.lz.set i (x0,x1,x2,x3) } { M with lz:=C.lz.set i (x0,x1,x2,x3) } Ls β:=by
 have hl:=h.l;rw [e] at hl;have T:=(((aC W gl (i*4) (.bool x0)).trans (aC _ gl (i*4+1) (qI x1))).trans (aC _ gl (i*4+2) (qI x2))).trans (aC _ gl (i*4+3) (qI x3));obtain ⟨cs,kb⟩:=aD hl (k:=gl) rfl;refine ⟨h.upd T (fun j hj=>by subst hj;exact ⟨(hl.lt _ rfl).1,cs,_,kb,by decide,by decide⟩),h.e,aV T h.k (aT kb h.k.1 (by decide)),dM h.q T (fun j hj=>?_),?_,h.h.kept T (aT kb h.h (by decide)),h.bm,h.bh,h.vs,⟨h.vz.1,h.vz.2.1,h.vz.2.2.1,h.vz.2.2.2.1,h.vz.2.2.2.2.1,rfl,h.vz.2.2.2.2.2.2⟩⟩
 .rcases hj with q|q|q
  .exact aT kb h.q.1.1 (by decide) j q
  .exact aT kb h.q.2.1.1 (by decide) j q
  .exact aT kb h.q.2.2.1.1 (by decide) j q
 .show OG _ 4 bY _ mid (qS M.la M.ln M.lc) _;rw [e];exact aA4 bO hl i hi (x0,x1,x2,x3) _ _ _ _ rfl
theorem MxO.mem (h:MxO W base mid C M Ls β)(T:Turn S W W')(hS:∀ j,S j->mid<=j/\∃ cs ty,Blk W j cs ty/\(ty=5\/ty=110\/ty=43)){oa:qO}{on oc:Nat}{R O:qi}(q:gK W' mid (qS M.fa M.fn M.fc) (qS M.ra M.rn M.rc) (qS oa on oc) C.fz R O):MxO W' base mid { C with rz:=R,oz:=O } { M with rz:=R,oa:=oa,on:=on,oc:=oc,oz:=O } Ls β:=by
 have key:∀ {t:TypeId} {sz n b:Nat} {v:Value} {xs:List Value},W.ownsRow b t sz v n xs->t≠5->t≠110->t≠43->∀ k,v.ownBlock=some k->¬ S k:=fun ho n1 n2 n3 k hk s=>by
  obtain ⟨_,cs,ty,kb,e⟩:=hS k s;obtain ⟨c,k2⟩:=aD ho hk;have:=aH k2 kb;rcases e with e|e|e
  .exact n1 (this.trans e)
  .exact n2 (this.trans e)
  .exact n3 (this.trans e)
 exact ⟨h.upd T (fun j s=>by
  obtain ⟨l,cs,ty,kb,e⟩:=hS j s
  exact ⟨l,cs,ty,kb,by rcases e with rfl|rfl|rfl<;>decide,by rcases e with rfl|rfl|rfl<;>decide⟩),h.e,aV T h.k (key h.k.1 (by decide) (by decide) (by decide)),q,h.l.kept T (key h.l (by decide) (by decide) (by decide)),h.h.kept T (key h.h (by decide) (by decide) (by decide)),h.bm,h.bh,h.vs,⟨h.vz.1,h.vz.2.1,h.vz.2.2.1,rfl,rfl,h.vz.2.2.2.2.2.1,h.vz.2.2.2.2.2.2⟩⟩
theorem MxO.tm (h:MxO W base mid C M Ls β)(t:TMx W W'):MxO W' base mid C M Ls β:=⟨h.m.tm t,h.e,h.k.tm t,aGq h.q t,h.l.kept t (jT h.l (by decide)),h.h.kept t (jT h.h (by decide)),h.bm,h.bh,h.vs,h.vz⟩
end
theorem mE (x:qO)(n cap:Nat)(rs:List Rg)(w:qw)(h:RS w x n cap rs)(F:Bool)(hF:F=(decide (n<=8)&&okB rs n)):
 qC 241 #[qS x n cap] w (qB w (.bool F)):=by
 have hl:=h.1;have hmx:=h.2.1;unfold maxLen at hmx;have HF:=zh hF;clear hF;by_cases h8:8<n
 .have h8':(8:Int)<(n:Int):=by omega
  go_enter func241,ntmps241
  go_wp2;go_ret;exact ⟨aA (by rw [HF.o];simp [show ¬ n<=8 by omega]),brf⟩
 .have h8':¬ (8:Int)<(n:Int):=by omega
  go_enter func241,ntmps241
  go_wp2;go_loopw [10] (fun i wr=>∃ j:Nat,j<=n/\i=qI j/\aC0 rs j/\qY w wr) (qf n)
  .exact ⟨0,xC _,rfl,fun i hi=>absurd hi (by omega),brf⟩
  .obtain ⟨j,hj,rfl,hok,hB⟩:=hrel;by_cases hlt:j<n
   .obtain ⟨b,off,rfl⟩:=h.some (by omega);have hin:(j:Int)<(n:Int):=by omega
    have hbw:b<wr.heap.size:=xD wr _ ((h.bw hB).at j hlt).1;have hat:=(h.bw hB).at j hlt;have HOK:=zh hok;clear hok;have hw1:=h.2.2.1 (rs.getD j z6) (by simp [xB,show j<rs.length by omega]);have hbad:gok (rs.getD j z6)=false->okB rs n=false:=aIf hlt;have hgood:gok (rs.getD j z6)=true->aC0 rs (j+1):=aIe HOK.o;have HBAD:=zh hbad;have HGOOD:=zh hgood;clear hbad hgood;generalize rs.getD j z6=g at *;obtain ⟨g1,g2,g3,g4,g5,g6⟩:=g;have hw:=wfl hw1.1;clear hw1;have q1:=hat.1;have q2:=hat.2.1;have q3:=hat.2.2.1;have q4:=hat.2.2.2.1;have q5:=hat.2.2.2.2.1;have q6:=hat.2.2.2.2.2;simp only at q1 q2 q3 q4 q5 q6;have hBw:qY w wr:=hB;have hsz:=hB.size;go_wp2_with fail
    refine (mI g1 g2 g3 g4 g5 g6 _ hw).mono ?_;rintro e w1 ⟨rfl,hb1⟩;have hB1:=(hB.alloc hB.size (.cells #[qI g1,qI g2,qI g3,.bool g4,.bool g5,.bool g6] 214)).trans (hb1.mono (by simp;omega));cases hr:rok g1 g2 g3
    .have H1:=zh (HBAD.o hr);clear hr HBAD HGOOD;go_wp2;go_ret;exact ⟨aA (by rw [HF.o,H1.o];simp),hB1⟩
    .have H1:=zh (HGOOD.o hr);clear hr HBAD HGOOD;go_wp2
     go_roundw
     .exact ⟨j+1,by omega,by go_num,H1.o,hB1⟩
     .simp [qf,intOf];omega
   .have hjn:j=n:=by omega
    subst hjn;have HOK:=zh (nJ.2 hok);clear hok;go_wp2;go_ret;exact ⟨aA (by rw [HF.o,HOK.o];simp;omega),hB⟩
theorem wN (x:qO)(j cap:Nat)(rs:List Rg)(a s k:Int)(w:qw)(h:RS w x j cap rs)(hn:j<=8)(hs:wd s=true)(hok:aC0 rs j)(ha:wfi a)(F:Bool)(hF:F=(okB rs j&&upB rs a k j s.toNat)):
 qC 222 #[qS x j cap,qI a,qI s,qI k] w (qB w (.bool F)):=by
 have hl:=h.1;obtain ⟨ha0,ha1⟩:=ha;have hs4:1<=s/\s<=4:=by have:=hs;simp [wd] at this;omega
 obtain ⟨hs1,hs4⟩:=hs4;have HS:=zh hs;have HF:=zh hF;have HOK:=zh hok;clear hs hF hok;go_enter func222,ntmps222
 go_wp2_with fail
 refine (gT s _).mono ?_;rw [HS.o];rintro e w2 ⟨rfl,rfl⟩;go_wp2_with fail
 refine (mE x j cap rs _ h true (by rw [nJ.2 HOK.o];simp;omega)).mono ?_;rintro e w0 ⟨rfl,hB⟩;go_wp2;go_loopw [19] (fun i wr=>∃ m:Nat,(m:Int)<=s/\i=qI m/\aHr rs a k j m/\qY w wr) (qf s.toNat)
 .exact ⟨0,by omega,rfl,fun i hi=>absurd hi (by omega),hB⟩
 .obtain ⟨m,hm,rfl,hup,hB⟩:=hrel;by_cases hlt:(m:Int)<s
  .have hbad:fQ rs (wrap64 (a+m)) k j=false->upB rs a k j s.toNat=false:=aHs (by omega);have hgood:fQ rs (wrap64 (a+m)) k j=true->aHr rs a k j (m+1):=aHq hup;have HBAD:=zh hbad;have HGOOD:=zh hgood;have HUP:=zh hup;clear hbad hgood hup;go_wp2_with fail
   refine (aMc x j cap rs _ k _ (h.bw hB) (aKh hl HOK.o) (aI8 _) hn).mono ?_;generalize fQ rs (wrap64 (a+m)) k j=r at *;rintro e w1 ⟨rfl,hb1⟩;have hB1:=hB.trans (hb1.mono hB.size);cases r
   .have H1:=zh (HBAD.o rfl);clear HBAD HGOOD;go_wp2;go_ret;exact ⟨aA (by rw [HF.o,H1.o];simp),hB1⟩
   .have H1:=zh (HGOOD.o rfl);clear HBAD HGOOD;go_wp2
    go_roundw
    .exact ⟨m+1,by omega,by go_num,H1.o,hB1⟩
    .simp [qf,intOf];omega
  .have hms:s.toNat=m:=by omega
   have HM:=zh (zV.2 hup);rw [<- hms] at HM;have HUP:=zh hup;clear hup hms;go_wp2;go_ret;exact ⟨aA (by rw [HF.o,HM.o];rw [nJ.2 HOK.o];rfl),hB⟩
theorem nR (x:qO)(n cap:Nat)(rs:List Rg)(a s k:Int)(w:qw)(h:RS w x n cap rs)(hb:wd s=false\/(decide (n<=8)&&okB rs n)=false):
 qC 222 #[qS x n cap,qI a,qI s,qI k] w (qB w (.bool false)):=by
 cases hs:wd s
 .clear hb;go_enter func222,ntmps222
  go_wp2_with fail
  refine (gT s _).mono ?_;rw [hs];rintro e w2 ⟨rfl,rfl⟩;go_wp2;go_ret;exact ⟨rfl,brf⟩
 .have hb:=zh (show false=(decide (n<=8)&&okB rs n) by rcases hb with hb|hb;rw [hs] at hb;simp at hb;exact hb.symm);go_enter func222,ntmps222
  go_wp2_with fail
  refine (gT s _).mono ?_;rw [hs];rintro e w2 ⟨rfl,rfl⟩;go_wp2_with fail
  refine (mE x n cap rs _ h false hb.o).mono ?_;rintro e w0 ⟨rfl,hB⟩;go_wp2;go_ret;exact ⟨rfl,hB⟩
theorem aBk (x:qO)(n cap:Nat)(rs:List Rg)(a s k:Int)(w:qw)(h:RS w x n cap rs)(ha:wfi a):
 qC 222 #[qS x n cap,qI a,qI s,qI k] w (qB w (.bool (alw rs n a s k))):=by
 cases hs:wd s
 .have hf:alw rs n a s k=false:=by simp [alw,hs]
  rw [hf];exact nR x n cap rs a s k w h (Or.inl hs)
 .cases hr:(decide (n<=8)&&okB rs n)
  .have hf:alw rs n a s k=false:=by
    unfold alw;cases h8:decide (n<=8)
    .rfl
    .rw [h8] at hr;simp at hr;simp [hr]
   rw [hf];exact nR x n cap rs a s k w h (Or.inr hr)
  .simp at hr;exact wN x n cap rs a s k w h hr.1 hs (nJ.1 hr.2) ha _ (by simp [alw,hs,hr.1])
theorem pS {W:qw}{ty:TypeId}{af:Array _}{gd:Option _}{v6 v7 v8 v9 v10 v11 v12 v13 v14:Value}(kb:Blk W G #[v0,v1,v2,v3,v4,v5,v6,v7,v8,v9,v10,v11,v12,v13,v14] 43)(h:a.tmps[k]?.getD undef=.pointer (qP G)):(execOp a.eval { dst:=d,op:=Op.load 43 (Operand.tmp k),type:=ty,pos:=p,after:=af,guard:=gd }).run prog W=.ok (.value (.agg #[v0,v1,v2,v3,v4,v5,v6,v7,v8,v9,v10,v11,v12,v13,v14])) W:=by
 obtain ⟨q0,q1,q2,q3,q4,q5,q6,q7,q8,q9,q10,q11,q12,q13,q14⟩:=kb.mc;go_simp
theorem aK5 {W:qw}{ty:TypeId}{af:Array _}{gd:Option _}(kb:Blk W G #[v0,v1,v2,v3,v4,v5] 71)(h:a.tmps[k]?.getD undef=.pointer (qP G)):(execOp a.eval { dst:=d,op:=Op.load 71 (Operand.tmp k),type:=ty,pos:=p,after:=af,guard:=gd }).run prog W=.ok (.value (.agg #[v0,v1,v2,v3,v4,v5])) W:=by
 obtain ⟨q0,q1,q2,q3,q4,q5⟩:=kb.ly6;go_simp
theorem aOt {W:qw}{ty:TypeId}{af:Array _}{gd:Option _}(kb:Blk W G #[v0,v1,v2,v3] 142)(h:a.tmps[k]?.getD undef=.pointer (qP G)):(execOp a.eval { dst:=d,op:=Op.load 142 (Operand.tmp k),type:=ty,pos:=p,after:=af,guard:=gd }).run prog W=.ok (.value (.agg #[v0,v1,v2,v3])) W:=by
 have q0:=kb.cell 0;have q1:=kb.cell 1;have q2:=kb.cell 2;have q3:=kb.cell 3;simp at q0 q1 q2 q3;go_simp
theorem aOs {W:qw}{ty:TypeId}{af:Array _}{gd:Option _}(q:W.cell? ⟨G,i,none⟩=some v)(h:a.tmps[k]?.getD undef=.pointer (some ⟨G,i,none⟩)):(execOp a.eval { dst:=d,op:=Op.load 40 (Operand.tmp k),type:=ty,pos:=p,after:=af,guard:=gd }).run prog W=.ok (.value v) W:=by
 go_simp
theorem aQq {W:qw}{ty:TypeId}{af:Array _}{gd:Option _}(q:W.cell? ⟨G,i,none⟩=some v)(h:a.tmps[k]?.getD undef=.pointer (some ⟨G,i,none⟩)):(execOp a.eval { dst:=d,op:=Op.load 4 (Operand.tmp k),type:=ty,pos:=p,after:=af,guard:=gd }).run prog W=.ok (.value v) W:=by
 go_simp
def upN (n:Nat):List Int:=(List.range n).map (fun i:Nat=>(i:Int))
theorem lO (n:Nat):(upN n).length=n:=by simp [upN]
theorem aO5 (n k:Nat)(h:k<n):(upN n).getD k 0=(k:Int):=by simp [upN,xB,h]
theorem vT (L:Lay)(a0:qO)(c0:Nat)(xs:List PB)(a2:qO)(c2:Nat)(a5:qO)(c5:Nat)(ts:List TB)(b:Int)(l:Nat)(w:qw)(hb:¬ b=-1)(h0:¬ l=0)(h1:l<=1048576):
 qC 189 #[.agg (qL L a0 xs.length c0 a2 l c2 a5 ts.length c5),qI b] w fun e w'=>∃ g,e=.returned (qS (qP g) l l)/\RowI w' g (upN l)/\qY w w':=by
 obtain ⟨i0,hi,hz0,hz1,hz2⟩:=info_parts jV;have hz:(b == -1)=false:=by simpa using hb
 have hl0:((l:Int)==0)=false:=by simpa using h0
 obtain ⟨W,hW⟩:=eqx (w.alloc (.cells (qL L a0 xs.length c0 a2 l c2 a5 ts.length c5) 71));have HBW:=zh (show qY w W by rw [hW];exact bal);have k0:Blk W w.heap.size (qL L a0 xs.length c0 a2 l c2 a5 ts.length c5) 71:=by rw [hW];exact Blk.new w _ _
 have d2:=k0.e2;have HW:=zh hW;clear hW k0;generalize xs.length=n at *;generalize ts.length=k at *;go_enter func189,ntmps189
 go_wp2_with (first|rw [<- HW.o]|(at_make;refine wpList_make_full _ rfl _ _ 25 rfl W.heap.size 3 i0 (qI 0) 1 underlying25 hi hz0 hz1 .i64 .i64 _ _ l rfl rfl rfl rfl (by rw [hz2];omega) (by unfold maxLen;omega) aN ?_;intro w1 hown hgr))
 have hrow:=jD hown;have hbel:=aW hgr;clear hown hgr hi hz0 hz1 hz2 d2;go_loopw [6,22] (fun _ i wr=>∃ k:Nat,k<=l/\i=qI k/\RowI wr W.heap.size (mid (upN l) k)/\qY W wr) (fun _ i _=>l-(intOf i).toNat)
 .exact ⟨0,xC _,rfl,by rw [tK,lO];exact hrow,hbel⟩
 .obtain ⟨k,hk,rfl,hR,hB⟩:=hrel;clear hrow hbel;by_cases hlt:k<l
  .have hlt':(k:Int)<(l:Int):=by omega
   have hgk:wr.cell? (qR W.heap.size k)=some (qI ((mid (upN l) k).getD k 0)):=hR.cell k (by rw [aA7,lO];omega);have hfk:wr.frozen? (qR W.heap.size k)=false:=hR.frozen k;have R':=hR.set k ((upN l).getD k 0);rw [aA6 (upN l) k (by rw [lO];omega),aO5 l k hlt] at R';have B':qY W (wr.setCell (qR W.heap.size k) (qI (k:Int))):=hB.setCell aN _;have HR:=zh R';have HB:=zh B';generalize (mid (upN l) k).getD k 0=z0 at *;clear hR hB R' B';go_wp2
   go_roundw
   .exact ⟨k+1,by omega,by go_num,HR.o,HB.o⟩
   .simp [intOf];omega
  .have e:Zh (k=l):=by show k=l;omega
   have HX:=zh (xA hR hB);clear hR hB;go_wp2;go_ret;refine ⟨_,rfl,?_,HBW.o.trans (HX.o.2.mono HBW.o.size)⟩;have:=HX.o.1;have e2:mid (upN l) l=upN l:=by have:=aA8 (upN l);rwa [lO] at this
   rw [e.o,e2] at this;exact this
