import Derived.Test.YtncccmeomcaabaaGreatP22
set_option maxHeartbeats 8000000
namespace Go.Proofs.YtncccmeomcaabaaGreat
open Go.RowKit Classical
open Go.Proofs.Tryz
set_option linter.all false
set_option maxRecDepth 100000
variable {L:Lay}{M:Mn}{T b c cs cw d k m s:Int}{a:Act}{i j n t:Nat}{listed:Array Bool}{ps:List PMod}{v:Value}{xs:List SlT}
theorem fI (h0:1<=c)(h1:c<=64):((slz c:Nat):Int)=rnd (4*c)/\slz c<=256/\4*c<=(slz c:Int):=by
 have:=aQ (x:=4*c);have e:rnd (4*c)=(4*c+31)/32*32:=rfl;unfold slz;omega
theorem aBm (h:lkc ps s c k d=0)(hs:0<s)(hp:0<=pcq ps m b)(hb:0<=b):4*(bnk ps m b).length<=slz c/\∀ i,i<(bnk ps m b).length->0<=(bnk ps m b).getD i 0/\(bnk ps m b).getD i 0<=4294967295:=by
 obtain ⟨h1,h2,h3,h4,h5,h6,h7,h8,h9⟩:=fU.1 h;unfold cfo at h1;simp at h1;obtain ⟨s0,s1,w0,w1,_⟩:=h1;obtain ⟨z1,z2,z3⟩:=fI w0 w1;unfold pcq at hp;by_cases c1:0<=m/\m<(ps.length:Int)
 .rw [if_pos c1,if_neg (by omega)] at hp;by_cases c2:0<=b/\b<((ps.getD m.toNat zP).bl.length:Int)
  .have hv:=aDu (h4 m.toNat (by omega));have hsh:=h7 hs m.toNat (by omega) b.toNat (by omega);exact ⟨by unfold bnk;omega,hv.2 b.toNat (by omega)⟩
  .rw [if_neg c2] at hp;exact absurd hp (by decide)
 .rw [if_neg c1] at hp;exact absurd hp (by decide)
theorem aG1 {w:qw}{a:qO}{cap:Nat}{ms:List Md}(h:MSD w a n cap ms)(hp:0<=pcq (aD ms) m b)(hb:0<=b):∃ gm om gb ob dn dc ba bc,a=some (qR gm om)/\(0<=m/\m<(n:Int))/\b<((dn:Nat):Int)/\dn<=9223372036854775807/\(∀ X,qY w X->X.cell? (qR gm (om+m.toNat*8+2))=some (qS (some (qR gb ob)) dn dc)/\X.cell? (qR gb (ob+b.toNat))=some (.slice ba (bnk (aD ms) m b).length bc))/\IS w ba (bnk (aD ms) m b).length bc (bnk (aD ms) m b):=by
 obtain ⟨⟨h0,h1⟩,hq⟩:=mC h hp;obtain ⟨gm,om,rfl,v0,v1,v2,v3,v4,v5,v6,v7⟩:=h.s.at m.toNat (by omega);have hd:=h.d m.toNat (by omega);have hn:=h.s.1;have hbn:bnk (aD ms) m b=((ms.getD m.toNat aK).pm.bl).getD b.toNat []:=by unfold bnk;rw [cH]
 generalize ms.getD m.toNat aK=D at *
 have hlt:b<(D.bn:Int):=by
  unfold pcn at hq;rw [if_neg (by omega)] at hq;by_cases c:0<=b/\b<(D.bn:Int)
  .exact c.2
  .rw [if_neg c] at hq;omega
 obtain ⟨b1,b2,b3,b4,b5⟩:=hd.b;obtain ⟨gb,ob,hba,hc⟩:=b3 (by omega);have r:=b4 b.toNat (by omega);have ec:=hc b.toNat (by omega)
 have e1:bnk (aD ms) m b=(D.bl.getD b.toNat zB).2.2.2:=by
  rw [hbn];simp [Md.pm,xB,show b.toNat<D.bl.length by omega]
 rw [<- e1] at r;rw [hba] at v2;have e2:=r.1;rw [<- e2] at r ec;unfold maxLen at b2;exact ⟨gm,om,gb,ob,D.bn,D.bc,_,_,rfl,⟨h0,h1⟩,hlt,by omega,fun X hX=>⟨aB hX v2,aB hX ec⟩,r⟩
theorem iZ (s c k d:Int)(w:qw)(h0:1<=c)(h1:c<=64):
 qC 202 #[.agg (qW s c k d)] w (qB w (qI (slz c:Nat))):=by
 have HR:=zh (fun (X:qw)=>gP (4*c) X);rw [<- (fI h0 h1).1] at HR;have HB:=zh ((Below.refl w.heap.size w).alloc aN (.cells (qW s c k d) 37));go_enter func202,ntmps202
 go_wp2_with (go_at_call 212;refine (HR.o _).mono ?_;rintro e w1 ⟨rfl,rfl⟩)
 go_ret;exact ⟨rfl,HB.o⟩
def BkB (w:qw)(ps:List PMod)(c m b:Int)(e:Ending)(w':qw):Prop:=∃ g,e=.returned (qS (qP g) (slz c) (slz c))/\OB w' w.heap.size (qS (qP g) (slz c) (slz c)) (bkb ps c m b)/\qY w w'
theorem jO (M:Mn)(x0:Bool)(x1 x2 x3:Int)(w:qw)(h:MnD w M)(hk:lkc (aD M.ms) M.cs M.cw M.ck M.cd=0)(hs:0<M.cs)(hp:0<=pcq (aD M.ms) x1 x2)(hb:0<=x2):
 qC 118 #[.agg (qA M),.agg #[.bool x0,qI x1,qI x2,qI x3]] w (BkB w (aD M.ms) M.cw x1 x2):=by
 obtain ⟨w0,w1⟩:1<=M.cw/\M.cw<=64:=by
  have h1:=(fU.1 hk).1;unfold cfo at h1;simp at h1;exact ⟨h1.2.2.1,h1.2.2.2.1⟩
 obtain ⟨f1,f2⟩:=aBm hk hs hp hb;obtain ⟨z1,z2,z3⟩:=fI w0 w1;obtain ⟨U,hU,bU,kU⟩:=nwb w (qA M) 43;obtain ⟨V,hV,bV,kV⟩:=nwb U #[.bool x0,qI x1,qI x2,qI x3] 142;have hUs:U.heap.size=w.heap.size+1:=by rw [hU];simp
 have BV:=bU.trans (bV.mono bU.size);have kU':=kU.bw bV;obtain ⟨gm,om,gb,ob,dn,dc,ba,bc,ha,⟨m0,m1⟩,b1,b2,hcell,hrow⟩:=aG1 (h.m.bw BV) hp hb;have HRW:=zh hrow;have HFT:=zh (xA f1 f2);have HRN:=zh (fun (X:qw)=>dM (4*M.cw) X);rw [<- (fI w0 w1).1] at HRN;have hmk:=yG (slz M.cw) (by omega);have HDE:Zh (bkb (aD M.ms) M.cw x1 x2=bL (List.replicate (slz M.cw) 0) 0 (bnk (aD M.ms) x1 x2) (bnk (aD M.ms) x1 x2).length):=rfl;have hmx:=h.m.s.2.1;unfold maxLen at hmx
 have HC:=zh (fun (X:qw) (hX:qY V X)=>show (X.cell? (qR w.heap.size 0)=some (qS M.ma M.mn M.mc)/\X.cell? (qR w.heap.size 1)=some (qI M.cs)/\X.cell? (qR w.heap.size 2)=some (qI M.cw)/\X.cell? (qR w.heap.size 3)=some (qI M.ck)/\X.cell? (qR w.heap.size 4)=some (qI M.cd))/\X.cell? (qR (w.heap.size+1) 1)=some (qI x1)/\X.cell? (qR (w.heap.size+1) 2)=some (qI x2)/\X.cell? (qR gm (om+x1.toNat*8+2))=some (qS (some (qR gb ob)) dn dc)/\X.cell? (qR gb (ob+x2.toNat))=some (.slice ba (bnk (aD M.ms) x1 x2).length bc) from
  ⟨⟨(kU'.bw hX).cell 0,(kU'.bw hX).cell 1,(kU'.bw hX).cell 2,(kU'.bw hX).cell 3,(kU'.bw hX).cell 4⟩,by rw [<- hUs];exact (kV.bw hX).cell 1,by rw [<- hUs];exact (kV.bw hX).cell 2,(hcell X hX).1,(hcell X hX).2⟩)
 have HBV:=zh BV;have HU:=zh hU;have HV:=zh hV;unfold BkB;rw [HDE.o];generalize bnk (aD M.ms) x1 x2=ws at *;generalize slz M.cw=sz at *;rw [ha] at HC;rw [<- hUs] at HC;clear hU hV bU bV kU kU' kV hcell hrow BV h hk hp z1 HDE hUs f1 f2;have HA:=zh ha;clear ha;obtain ⟨⟨y0,y1,y2,y3,y4⟩,s1,s2,u0,u1⟩:=HC.o V brf;go_enter func118,ntmps118
 go_wp2_with (first|rw [<- HU.o]|rw [<- HV.o])
 refine (HRN.o _).mono ?_;rintro e X1 ⟨rfl,hx1⟩;have hb1:qY V X1:=by rw [hx1];exact brf
 clear hx1;have HX1:=zh hb1;obtain ⟨V2,hV2,b2',k2⟩:=nwb X1 (zby sz) 5;have B2:=hb1.trans (b2'.mono hb1.size);have HV2:=zh hV2;have hg:w.heap.size<=X1.heap.size:=by have h1:=HBV.o.size;have h2:=hb1.size;omega
 have HP:=zh (fun (X:qw) (hX:qY V2 X)=>(mI X1.heap.size sz sz 0 ba ws.length bc ws (List.replicate sz 0) w.heap.size X1 X (HRW.o.bw HX1.o) (b2'.trans (hX.mono b2'.size)) aN ((nS k2 hg (by omega)).bw hX) (by omega) (by have:=HFT.o.1;omega) HFT.o.2).mono (fun e w' he=>show e=.returned (.tuple #[])/\OB w' w.heap.size (qS (qP X1.heap.size) sz sz) (bL (List.replicate sz 0) 0 ws ws.length)/\qY V w' from ⟨he.1,he.2.1,HX1.o.trans ((cX (b2'.trans (hX.mono b2'.size)) he.2.2 aN).mono HX1.o.size)⟩));rw [show ((0:Nat):Int)=0 from rfl] at HP;have HB2:=zh B2;clear y0 y1 y2 y3 y4 s1 s2 u0 u1 HRN HU HV;obtain ⟨⟨y0,y1,y2,y3,y4⟩,s1,s2,u0,u1⟩:=HC.o V2 B2;clear hb1 b2' k2 B2 hV2 hg;go_wp2_with (rw [<- HV2.o])
 go_region_held3 (fun w'=>w'.cell? (qR w.heap.size 0)=some (qS (some (qR gm om)) M.mn M.mc)/\w'.cell? (qR U.heap.size 1)=some (qI x1)/\w'.cell? (qR U.heap.size 2)=some (qI x2)/\w'.cell? (qR gm (om+x1.toNat*8+2))=some (qS (some (qR gb ob)) dn dc)/\w'.cell? (qR gb (ob+x2.toNat))=some (qS ba ws.length bc)) (go_keep)
  (first
    | (go_at_call 144;first
        | with_reducible refine (HP.o _ brf).mono ?_
        | with_reducible refine (HP.o _ brf.drew).mono ?_
       rintro e w1 ⟨rfl,ho1,hb1⟩;have HE:=zh (xA ho1 hb1);obtain ⟨⟨p0,p1,p2,p3,p4⟩,t1,t2,v0,v1⟩:=HC.o w1 hb1
       clear ho1 hb1))
 clear y0 y1 y2 y3 y4 s1 s2 u0 u1 p0 p1 p2 p3 p4 t1 t2 v0 v1 HP HC;go_wp2;go_ret;exact ⟨_,rfl,HE.o.1,HBV.o.trans (HE.o.2.mono HBV.o.size)⟩
theorem wL (M:Mn)(x0:Bool)(x1 x2 x3:Int)(w:qw)(h:MnD w M)(hk:lkc (aD M.ms) M.cs M.cw M.ck M.cd=0)(hs:0<M.cs)(hp:0<=pcq (aD M.ms) x1 x2)(hb:0<=x2):
 qC 197 #[.agg (qA M),.agg #[.bool x0,qI x1,qI x2,qI x3]] w (BkB w (aD M.ms) M.cw x1 x2):=by
 obtain ⟨w0,w1⟩:1<=M.cw/\M.cw<=64:=by
  have h1:=(fU.1 hk).1;unfold cfo at h1;simp at h1;exact ⟨h1.2.2.1,h1.2.2.2.1⟩
 obtain ⟨f1,f2⟩:=aBm hk hs hp hb;obtain ⟨z1,z2,z3⟩:=fI w0 w1;obtain ⟨U,hU,bU,kU⟩:=nwb w (qA M) 43;obtain ⟨V,hV,bV,kV⟩:=nwb U #[.bool x0,qI x1,qI x2,qI x3] 142;have hUs:U.heap.size=w.heap.size+1:=by rw [hU];simp
 have BV:=bU.trans (bV.mono bU.size);have kU':=kU.bw bV;obtain ⟨gm,om,gb,ob,dn,dc,ba,bc,ha,⟨m0,m1⟩,b1,b2,hcell,hrow⟩:=aG1 (h.m.bw BV) hp hb;have HRW:=zh hrow;have HFT:=zh (xA f1 f2);have HRN:=zh (fun (X:qw)=>iZ M.cs M.cw M.ck M.cd X w0 w1);have hmk:=yG (slz M.cw) (by omega);have HDE:Zh (bkb (aD M.ms) M.cw x1 x2=bL (List.replicate (slz M.cw) 0) 0 (bnk (aD M.ms) x1 x2) (bnk (aD M.ms) x1 x2).length):=rfl;have hmx:=h.m.s.2.1;unfold maxLen at hmx
 have HC:=zh (fun (X:qw) (hX:qY V X)=>show (X.cell? (qR w.heap.size 0)=some (qS M.ma M.mn M.mc)/\X.cell? (qR w.heap.size 1)=some (qI M.cs)/\X.cell? (qR w.heap.size 2)=some (qI M.cw)/\X.cell? (qR w.heap.size 3)=some (qI M.ck)/\X.cell? (qR w.heap.size 4)=some (qI M.cd))/\X.cell? (qR (w.heap.size+1) 1)=some (qI x1)/\X.cell? (qR (w.heap.size+1) 2)=some (qI x2)/\X.cell? (qR gm (om+x1.toNat*8+2))=some (qS (some (qR gb ob)) dn dc)/\X.cell? (qR gb (ob+x2.toNat))=some (.slice ba (bnk (aD M.ms) x1 x2).length bc) from
  ⟨⟨(kU'.bw hX).cell 0,(kU'.bw hX).cell 1,(kU'.bw hX).cell 2,(kU'.bw hX).cell 3,(kU'.bw hX).cell 4⟩,by rw [<- hUs];exact (kV.bw hX).cell 1,by rw [<- hUs];exact (kV.bw hX).cell 2,(hcell X hX).1,(hcell X hX).2⟩)
 have HBV:=zh BV;have HU:=zh hU;have HV:=zh hV;unfold BkB;rw [HDE.o];generalize bnk (aD M.ms) x1 x2=ws at *;generalize slz M.cw=sz at *;rw [ha] at HC;rw [<- hUs] at HC;clear hU hV bU bV kU kU' kV hcell hrow BV h hk hp z1 HDE hUs f1 f2;have HA:=zh ha;clear ha;obtain ⟨⟨y0,y1,y2,y3,y4⟩,s1,s2,u0,u1⟩:=HC.o V brf;go_enter func197,ntmps197
 go_wp2_with (first|rw [<- HU.o]|rw [<- HV.o])
 refine (HRN.o _).mono ?_;rintro e X1 ⟨rfl,hb1⟩;have HX1:=zh hb1;obtain ⟨V2,hV2,b2',k2⟩:=nwb X1 (zby sz) 5;have B2:=hb1.trans (b2'.mono hb1.size);have HV2:=zh hV2;have hg:w.heap.size<=X1.heap.size:=by have h1:=HBV.o.size;have h2:=hb1.size;omega
 have HP:=zh (fun (X:qw) (hX:qY V2 X)=>(jB X1.heap.size sz sz 0 sz sz ba ws.length bc ws (List.replicate sz 0) w.heap.size X1 X (HRW.o.bw HX1.o) (b2'.trans (hX.mono b2'.size)) aN ((nS k2 hg (by omega)).bw hX) (by omega) (by have:=HFT.o.1;omega) (by have:=HFT.o.1;omega) aN (by omega)).mono (fun e w' he=>show e=.returned (.tuple #[])/\OB w' w.heap.size (qS (qP X1.heap.size) sz sz) (bL (List.replicate sz 0) 0 ws ws.length)/\qY V w' from ⟨he.1,he.2.1,HX1.o.trans ((cX (b2'.trans (hX.mono b2'.size)) he.2.2 aN).mono HX1.o.size)⟩));have HB2:=zh B2;clear y0 y1 y2 y3 y4 s1 s2 u0 u1 HRN HU HV;obtain ⟨⟨y0,y1,y2,y3,y4⟩,s1,s2,u0,u1⟩:=HC.o V2 B2;clear hb1 b2' k2 B2 hV2 hg;go_wp2_with (rw [<- HV2.o])
 go_region_held3 (fun w'=>w'.cell? (qR w.heap.size 0)=some (qS (some (qR gm om)) M.mn M.mc)/\w'.cell? (qR U.heap.size 1)=some (qI x1)/\w'.cell? (qR U.heap.size 2)=some (qI x2)/\w'.cell? (qR gm (om+x1.toNat*8+2))=some (qS (some (qR gb ob)) dn dc)/\w'.cell? (qR gb (ob+x2.toNat))=some (qS ba ws.length bc)) (go_keep)
  (first
    | (go_at_call 219;first
        | with_reducible refine (HP.o _ brf).mono ?_
        | with_reducible refine (HP.o _ brf.drew).mono ?_
       rintro e w1 ⟨rfl,ho1,hb1⟩;have HE:=zh (xA ho1 hb1);obtain ⟨⟨p0,p1,p2,p3,p4⟩,t1,t2,v0,v1⟩:=HC.o w1 hb1
       clear ho1 hb1))
 clear y0 y1 y2 y3 y4 s1 s2 u0 u1 p0 p1 p2 p3 p4 t1 t2 v0 v1 HP HC;go_wp2;go_ret;exact ⟨_,rfl,HE.o.1,HBV.o.trans (HE.o.2.mono HBV.o.size)⟩
theorem rW (h:lkc ps s c k d=0)(hi:i<(lkL ps s c k d).slots.length):65536<=(lkL ps s c k d).slots.getD i 0/\(lkL ps s c k d).slots.getD i 0-65536+(slz c:Int)<=(lkL ps s c k d).ram/\(lkL ps s c k d).ram<=16384/\((lkL ps s c k d).slots.length:Int)=s/\0<s:=by
 have e:lkL ps s c k d=lay ps s c k:=by unfold lkL;rw [if_pos h]
 rw [e] at hi ⊢;obtain ⟨h1,h2,h3,h4,h5,h6,h7,h8,h9⟩:=fU.1 h;unfold cfo at h1;simp at h1;obtain ⟨s0,s1,w0,w1,k0,_⟩:=h1;obtain ⟨z1,z2,z3⟩:=fI w0 w1;have a1:=bO h4 ps.length aN;have hl:(lay ps s c k).slots.length=s.toNat:=by simp [lay]
 rw [hl] at hi
 have e2:(lay ps s c k).slots.getD i 0=65536+Ra ps ps.length+k+(i:Int)*rnd (4*c):=by
  simp [lay,xB,hi,slt]
 have e3:(lay ps s c k).ram=Ra ps ps.length+k+(s.toNat:Int)*rnd (4*c):=rfl
 have hm:(i:Int)*rnd (4*c)+rnd (4*c)<=(s.toNat:Int)*rnd (4*c):=by
  have:((i:Int)+1)*rnd (4*c)<=(s.toNat:Int)*rnd (4*c):=Int.mul_le_mul_of_nonneg_right (by omega) (by omega);rw [Int.add_mul,Int.one_mul] at this;exact this
 have hm0:(0:Int)<=(i:Int)*rnd (4*c):=Int.mul_nonneg (by omega) (by omega);rw [e2,z1];exact ⟨by omega,by omega,h9,by omega,by omega⟩
theorem vI (M:Mn)(L:Lay)(a0:qO)(c0:Nat)(xs:List PB)(a2:qO)(c2:Nat)(a5:qO)(c5:Nat)(ts:List TB)(i:Nat)(w:qw)(h:MnD w M)(hs:IS w a2 L.slots.length c2 L.slots)(hi:i<L.slots.length)(w0:1<=M.cw)(w1:M.cw<=64)(hA0:65536<=L.slots.getD i 0)(hA1:L.slots.getD i 0-65536+(slz M.cw:Int)<=M.rn)(hrn:M.rn<=16384):
 qC 196 #[.agg (qA M),.agg (qJ L a0 xs c0 a2 c2 a5 ts c5),qI i] w fun e w'=>∃ a c,e=.returned (qS a (slz M.cw) c)/\BS w' a (slz M.cw) c (slb M.rz L M.cw i)/\qY w w':=by
 obtain ⟨z1,z2,z3⟩:=fI w0 w1;obtain ⟨U,hU,bU,kU⟩:=nwb w (qA M) 43;obtain ⟨V,hV,bV,kV⟩:=nwb U (qJ L a0 xs c0 a2 c2 a5 ts c5) 71;have BV:=bU.trans (bV.mono bU.size);have kU':=kU.bw bV;obtain ⟨gs,os,rfl,hcs⟩:=(hs.bw BV).2.2.2.1 (by omega);have q:=hcs i hi;obtain ⟨A,hA⟩:∃ A:Nat,L.slots.getD i 0=65536+(A:Int):=⟨(L.slots.getD i 0-65536).toNat,by omega⟩;have HSB:=zh (show slb M.rz L M.cw i=(M.rz.drop A).take (slz M.cw) from by unfold slb;rw [hA,show (65536+(A:Int)-65536).toNat=A by omega]);rw [hA] at q hA1;have hrc:=h.r.2.2.2.2;have hrm:=h.r.2.1;have hi':(i:Int)<(L.slots.length:Int):=by omega
 have hlm:=hs.2.1;unfold maxLen at hrm hlm;have HSS:=zh (fun (X:qw)=>iZ M.cs M.cw M.ck M.cd X w0 w1);have HR:=zh (fun (X:qw) (hX:qY V X)=>(h.r.bw BV).bw hX)
 have HC:=zh (fun (X:qw) (hX:qY V X)=>show X.cell? (qR w.heap.size 1)=some (qI M.cs)/\X.cell? (qR w.heap.size 2)=some (qI M.cw)/\X.cell? (qR w.heap.size 3)=some (qI M.ck)/\X.cell? (qR w.heap.size 4)=some (qI M.cd)/\X.cell? (qR w.heap.size 8)=some (qS M.ra M.rn M.rc) from
  ⟨(kU'.bw hX).cell 1,(kU'.bw hX).cell 2,(kU'.bw hX).cell 3,(kU'.bw hX).cell 4,(kU'.bw hX).cell 8⟩)
 have s2:=kV.e2;rw [HSB.o];generalize slz M.cw=sz at *;generalize hrr:M.ra=ra at *;generalize hrcc:M.rc=rc at *;obtain ⟨rb,ro,rfl,_⟩:=(HR.o V brf).2.2.2.1 (by omega);obtain ⟨E,hE⟩:∃ E:Nat,E=A+sz:=⟨_,rfl⟩
 have HBS:=zh (fun (X:qw) (hX:qY V X)=>show BS X (some (qR rb (ro+A))) (E-A) (rc-A) ((M.rz.drop A).take sz) from by
  have h1:=((HR.o X hX).drop A (by omega)).take sz (by omega);rw [show E-A=sz by omega]
  exact h1)
 have HES:=zh (show E-A=sz by omega);have hwA:IntKind.i64.wrap (65536+(A:Int)-65536)=(A:Int):=by rw [xP,xQ _ (by omega)];omega
 have hwA2:IntKind.i64.wrap (A:Int)=(A:Int):=by rw [xP,xQ _ (by omega)]
 have hwE:IntKind.i64.wrap ((A:Int)+(sz:Int))=(E:Int):=by rw [xP,xQ _ (by omega)];omega
 have g0:(0:Int)<=(A:Int):=by omega
 have g1:(A:Int)<=(E:Int):=by omega
 have g2:(E:Int)<=(rc:Int):=by omega
 have g3:(A:Int)<(rc:Int):=by omega
 have g4:A<=E:=by omega
 have g5:¬ (rc=A):=by omega
 have g6:A<rc:=by omega
 have HBV:=zh BV;have HU:=zh hU;have HV:=zh hV;have HX0:=zh (xA hrr hrcc);obtain ⟨y1,y2,y3,y4,y8⟩:=HC.o V brf;clear hU hV bU bV kU kU' kV BV h hs hcs hA hE hrr hrcc HSB HR hrc hA0 hA1 z1 z3;go_enter func196,ntmps196
 go_wp2_with (first|rw [<- HU.o]|rw [<- HV.o])
 have HP:=zh (fun (X:qw) (hX:qY V X)=>(HSS.o X).mono (fun e w' he=>show e=.returned (qI sz)/\qY V w' from ⟨he.1,hX.trans (he.2.mono hX.size)⟩));clear s2 q
 go_region_held3 (fun w'=>w'.cell? (qR w.heap.size 1)=some (qI M.cs)/\w'.cell? (qR w.heap.size 2)=some (qI M.cw)/\w'.cell? (qR w.heap.size 3)=some (qI M.ck)/\w'.cell? (qR w.heap.size 4)=some (qI M.cd)/\w'.cell? (qR w.heap.size 8)=some (qS (some (qR rb ro)) M.rn rc)) (go_keep)
  (first
    | (go_at_call 202;first
        | with_reducible refine (HP.o _ brf).mono ?_
        | with_reducible refine (HP.o _ brf.drew).mono ?_
       rintro e w1 ⟨rfl,hb1⟩;have HE:=zh hb1;obtain ⟨t1,t2,t3,t4,t8⟩:=HC.o w1 hb1
       clear hb1))
 clear y1 y2 y3 y4 y8 t1 t2 t3 t4 t8 HP HC;go_wp2;go_ret;exact ⟨some (qR rb (ro+A)),rc-A,by rw [<- HES.o];rfl,by have:=HBS.o _ HE.o;rw [HES.o] at this;exact this,HBV.o.trans (HE.o.mono HBV.o.size)⟩
theorem aF9 (zs:qi)(k:Nat)(v:Int):∀ (s p:Nat),(put zs k v s)[p]?=if k<=p/\p<k+s/\p<zs.length then some (bt v (p-k)) else zs[p]?
 | 0,p=>by rw [if_neg (by omega)];rfl
 | s+1,p=>by
   show ((put zs k v s).set (k+s) (bt v s))[p]?=_;rw [List.getElem?_set,qU,aF9 zs k v s p];by_cases c:k+s=p
   .subst c;rw [if_pos rfl];by_cases c2:k+s<zs.length
    .rw [if_pos c2,if_pos (by omega),show k+s-k=s by omega]
    .rw [if_neg c2,if_neg (by omega),xO (by omega)]
   .rw [if_neg c];by_cases c2:k<=p/\p<k+s/\p<zs.length
    .rw [if_pos c2,if_pos (by omega)]
    .rw [if_neg c2,if_neg (by omega)]
theorem sE (zs:qi)(k:Nat)(ws:qi):∀ (n p:Nat),(bL zs k ws n)[p]?=if k<=p/\p<k+4*n/\p<zs.length then some (bt (ws.getD ((p-k)/4) 0) ((p-k)%4)) else zs[p]?
 | 0,p=>by rw [if_neg (by omega)];rfl
 | n+1,p=>by
   rw [bL,aF9,eZ,sE zs k ws n p];by_cases c:k+4*n<=p/\p<k+4*n+4/\p<zs.length
   .rw [if_pos c,if_pos (by omega),show (p-k)/4=n by omega,show (p-k)%4=p-(k+4*n) by omega]
   .rw [if_neg c];by_cases c2:k<=p/\p<k+4*n/\p<zs.length
    .rw [if_pos c2,if_pos (by omega)]
    .rw [if_neg c2,if_neg (by omega)]
theorem aGd (zs:qi)(f:Nat)(ds:qi)(p:Nat)(h:f+ds.length<=zs.length):(ovr zs f ds)[p]?=if f<=p/\p<f+ds.length then ds[p-f]? else zs[p]?:=by
 unfold ovr;by_cases c1:p<f
 .rw [List.getElem?_append_left (by simp;omega),List.getElem?_take_of_lt c1,if_neg (by omega)]
 .rw [List.getElem?_append_right (by simp;omega),List.length_take,Nat.min_eq_left (by omega)];by_cases c2:p<f+ds.length
  .rw [List.getElem?_append_left (by omega),if_pos (by omega)]
  .rw [List.getElem?_append_right (by omega),List.getElem?_drop,if_neg (by omega)];congr 1;omega
theorem aNf (R:qi)(f n:Nat)(ws:qi)(hw:ws.length<=n)(hf:f+4*n<=R.length):bL R f ws n=ovr R f (bL (List.replicate (4*n) 0) 0 ws ws.length):=by
 apply List.ext_getElem?;intro p;rw [sE,aGd _ _ _ _ (by rw [eZ,List.length_replicate];omega),eZ,List.length_replicate,sE,List.length_replicate];by_cases c:f<=p/\p<f+4*n
 .rw [if_pos (by omega),if_pos c];by_cases c2:p-f<4*ws.length
  .rw [if_pos (by omega),Nat.sub_zero]
  .rw [if_neg (by omega),List.getElem?_replicate,if_pos (by omega),show ws.getD ((p-f)/4) 0=0 from by rw [xB,xO (by omega)];rfl];simp [bt]
 .rw [if_neg (by omega),if_neg c]
theorem aO2 {R D:qi}{f:Nat}(h:(R.drop f).take n=D)(hl:f+n<=R.length):ovr R f D=R:=by
 have hn:D.length=n:=by rw [<- h];simp;omega
 apply List.ext_getElem?;intro p;rw [aGd _ _ _ _ (by omega)];by_cases c:f<=p/\p<f+D.length
 .rw [if_pos c,<- h,List.getElem?_take_of_lt (by omega),List.getElem?_drop];congr 1;omega
 .rw [if_neg c]
def lst (xs:List SlT):Nat->Nat
 | 0=>0
 | i+1=>if (xs.getD i zSl).2.2.2<(xs.getD (lst xs i) zSl).2.2.2 then i else lst xs i
theorem tL (xs:List SlT):∀ i,lst xs i<i\/(i=0/\lst xs i=0)
 | 0=>.inr ⟨rfl,rfl⟩
 | i+1=>by
   unfold lst;split
   .exact .inl (by omega)
   .rcases tL xs i with h|h
    .exact .inl (by omega)
    .exact .inl (by omega)
def slq (xs:List SlT)(m b:Int):Nat:=if hld xs m b=-1 then lst xs xs.length else (hld xs m b).toNat
theorem lX (m b:Int)(h:xs.length≠0):slq xs m b<xs.length:=by
 unfold slq;split
 .rcases tL xs xs.length with q|q
  .exact q
  .omega
 .rcases fZ xs m b with q|q
  .contradiction
  .omega
def Tnz (xs:List SlT):Prop:=∀ i,i<xs.length->((xs.getD i zSl).1=false->(xs.getD i zSl).2.2.2=0)/\((xs.getD i zSl).1=true->1<=(xs.getD i zSl).2.2.2)
theorem aKm (hv:Tnz xs)(hj:j<xs.length)(hu:(xs.getD j zSl).1=false)(hb:∀ i,i<j->(xs.getD i zSl).1=true):lst xs xs.length=j:=by
 have h0:=(hv j hj).1 hu
 have A:lst xs (j+1)=j:=by
  unfold lst;rcases tL xs j with h|⟨h,h'⟩
  .have:=(hv (lst xs j) (by omega)).2 (hb _ h);rw [if_pos (by omega)]
  .split
   .rfl
   .omega
 have B:∀ k,j+1<=k->k<=xs.length->lst xs k=j:=by
  intro k hk
  induction k with
  | zero=>omega
  | succ k ih=>
    intro hl;by_cases e:k=j
    .subst e;exact A
    .have:=ih (by omega) (by omega);unfold lst;rw [this,if_neg];rw [h0];have q:=hv k (by omega);cases e2:(xs.getD k zSl).1
     .have:=q.1 e2;omega
     .have:=q.2 e2;omega
 exact B _ (by omega) aN
def iL (C:Cn)(L:Lay)(m b t:Int):Cn:=
 if C.lz.length≠0/\b≠-1 then
  { C with tn:=C.tn+1,lz:=C.lz.set (slq C.lz m b) (true,m,b,C.tn+1),rz:=ovr C.rz (L.slots.getD (slq C.lz m b) 0-65536).toNat (bkb C.ps C.cw m b),md:=m,bk:=b,pc:=gB L (plc C.ps m.toNat) b (slq C.lz m b:Nat)+4*t,kz:=C.kz.set 7 (plc C.ps m.toNat).data }
 else { C with md:=m,bk:=b,pc:=gB L (plc C.ps m.toNat) b (-1)+4*t,kz:=C.kz.set 7 (plc C.ps m.toNat).data }
theorem aL4 {rz:qi}(h:cV ps L cs cw T rz xs):Tnz xs:=fun i hi=>by
 have h0:=(h.2 i hi).1;unfold slk at h0;rcases h0 with h1|h1
 .exact ⟨fun _=>by rw [h1.2];rfl,fun e=>(by rw [h1.1] at e;cases e)⟩
 .exact ⟨fun e=>(by rw [h1.1] at e;cases e),fun _=>h1.2.2.2.1⟩
theorem aL3 {rz:qi}(h:cV ps L cs cw T rz xs)(hh:hld xs m b≠-1)(hf:(L.slots.getD (slq xs m b) 0-65536).toNat+slz cw<=rz.length):ovr rz (L.slots.getD (slq xs m b) 0-65536).toNat (bkb ps cw m b)=rz:=by
 have key:∀ (ys:List SlT) (i:Nat),fL m b i ys≠-1->∃ k:Nat,fL m b i ys=(i+k:Nat)/\k<ys.length/\usd m b (ys.getD k zSl):=by
  intro ys
  induction ys with
  | nil=>intro i h;exact absurd rfl h
  | cons y ys ih=>
    intro i h;unfold fL at h ⊢;by_cases c:usd m b y
    .rw [if_pos c];exact ⟨0,rfl,by simp,c⟩
    .rw [if_neg c] at h ⊢;obtain ⟨k,e,h1,h2⟩:=ih (i+1) h;exact ⟨k+1,by rw [e];congr 1;omega,by simp;omega,by simpa using h2⟩
 obtain ⟨k,e,h1,h2⟩:=key xs 0 hh
 have e':slq xs m b=k:=by
  unfold slq;rw [if_neg hh];unfold hld;rw [e];omega
 rw [e'] at hf ⊢;obtain ⟨_,_,h5⟩:=h.2 k h1;obtain ⟨u1,u2,u3⟩:=h2;have:=h5 u1;rw [u2,u3] at this;exact aO2 this hf
theorem rX (a:qO)(n c:Nat)(xs:List SlT)(w:qw)(h:QS bS zSl w a n c xs):
 qC 177 #[qS a n c] w (qB w (qI (lst xs n:Nat))):=by
 have hl:=h.1;have hmx:=h.2.1;unfold maxLen at hmx;go_enter func177,ntmps177
 go_wp2;go_loopw [3,8] (fun l i wr=>∃ k p:Nat,k<=n/\i=qI k/\l=qI p/\Hid (p=lst xs k)/\qY w wr) (fun _ i _=>n-(intOf i).toNat)
 .exact ⟨0,0,xC _,rfl,rfl,zh rfl,brf⟩
 .obtain ⟨k,p,hk,rfl,rfl,HP,hB⟩:=hrel;by_cases hlt:k<n
  .have hlt':(k:Int)<(n:Int):=by omega
   have hp:p<n:=by have:=tL xs k;rw [<- HP.out] at this;omega
   have hp':(p:Int)<(n:Int):=by omega
   have hp0:(0:Int)<=(p:Int):=by omega
   obtain ⟨g,f,rfl,q0,q1,q2,q3⟩:=(h.bw hB).at k hlt _ _ _ _ rfl;obtain ⟨g',f',e',_,_,_,r3⟩:=(h.bw hB).at p hp _ _ _ _ rfl;cases e'
   have HS:=zh (show lst xs (k+1)=if (xs.getD k zSl).2.2.2<(xs.getD p zSl).2.2.2 then k else p from by rw [HP.out];rfl);have HBB:=zh (xA hB h);generalize xs.getD k zSl=x at *;generalize (xs.getD p zSl).2.2.2=y at *;obtain ⟨x0,x1,x2,x3⟩:=x;dsimp only at q0 q1 q2 q3 HS;obtain ⟨V,hV,bV,kV⟩:=nwb wr #[.bool x0,qI x1,qI x2,qI x3] 142;have v3:=kV.e3;have u3:V.cell? (qR g (f+p*4+3))=some (qI y):=aGz bV r3;have HB:=zh (hB.trans (bV.mono hB.size));have HV:=zh hV;clear h hB hV bV kV r3;by_cases c1:x3<y
   .have HN:=zh (show lst xs (k+1)=k by rw [HS.o,if_pos c1]);clear HS;go_wp2_with (rw [<- HV.o])
    clear q0 q1 q2 q3
    go_region_held3 (fun w'=>w'.cell? (qR wr.heap.size 3)=some (qI x3)/\w'.cell? (qR g (f+p*4+3))=some (qI y)) (go_keep) (fail)
    all_goals
     go_wp2
     go_roundw
     .exact ⟨k+1,k,by omega,by go_num,rfl,zh HN.o.symm,by first|exact HB.o.drew|exact HB.o⟩
     .simp [intOf];omega
   .have HN:=zh (show lst xs (k+1)=p by rw [HS.o,if_neg c1]);clear HS;go_wp2_with (rw [<- HV.o])
    clear q0 q1 q2 q3
    go_region_held3 (fun w'=>w'.cell? (qR wr.heap.size 3)=some (qI x3)/\w'.cell? (qR g (f+p*4+3))=some (qI y)) (go_keep) (fail)
    all_goals
     go_wp2
     go_roundw
     .exact ⟨k+1,p,by omega,by go_num,rfl,zh HN.o.symm,by first|exact HB.o.drew|exact HB.o⟩
     .simp [intOf];omega
  .obtain rfl:k=n:=by omega
   have HB:=zh hB;clear hB;go_wp2;go_ret;exact ⟨aH (by rw [HP.out]),HB.o⟩
theorem aEt (a:qO)(n c:Nat)(xs:List SlT)(m b t:Int)(w:qw)(h:QS bS zSl w a n c xs)(hv:Tnz xs):
 qC 117 #[qS a n c,.agg (qT m b t)] w (qB w (qI (slq xs m b:Nat))):=by
 have hl:=h.1;have hmx:=h.2.1;unfold maxLen at hmx;obtain ⟨V,hV,bV,kV⟩:=nwb w (qT m b t) 58;have HHL:=zh (pG a n c xs m b V (h.bw bV));have HR:=zh (fZ xs m b);have HQ:=zh (show slq xs m b=if hld xs m b=-1 then lst xs n else (hld xs m b).toNat from by unfold slq;rw [hl]);generalize hld xs m b=r at *;generalize hs:slq xs m b=s at *;have x0:=kV.cell 0;have x1:=kV.cell 1;have HV:=zh hV;have HBV:=zh bV;clear hV bV kV hs;go_enter func117,ntmps117
 go_wp2_with (rw [<- HV.o])
 refine HHL.o.mono ?_;rintro e X1 ⟨rfl,hb1⟩;have HB1:=zh (HBV.o.trans (hb1.mono HBV.o.size));clear x0 x1 hb1 HHL HV HBV;by_cases c1:0<=r
 .have HE:=zh (show r=(s:Nat) by rw [HQ.o,if_neg (by omega)];omega);go_wp2;go_ret;exact ⟨aH HE.o,HB1.o⟩
 have HE:=zh (show s=lst xs n by rw [HQ.o,if_pos (by have:=HR.o;omega)]);clear HQ HR;go_wp2_with fail
 go_loopw [5,6] (fun q i wr=>∃ k p:Nat,k<=n/\i=qI k/\q=qI p/\Hid (p=lst xs k)/\Hid (∀ j,j<k->(xs.getD j zSl).1=true)/\qY w wr) (fun _ i _=>n-(intOf i).toNat)
 .exact ⟨0,0,xC _,rfl,rfl,zh rfl,zh (fun j hj=>by omega),HB1.o⟩
 .obtain ⟨k,p,hk,rfl,rfl,HP,HU,hB⟩:=hrel;clear HB1;by_cases hlt:k<n
  .have hlt':(k:Int)<(n:Int):=by omega
   have hp:p<n:=by have:=tL xs k;rw [<- HP.out] at this;omega
   have hp':(p:Int)<(n:Int):=by omega
   have hp0:(0:Int)<=(p:Int):=by omega
   obtain ⟨g,f,rfl,q0,q1,q2,q3⟩:=(h.bw hB).at k hlt _ _ _ _ rfl;obtain ⟨g',f',e',_,_,_,r3⟩:=(h.bw hB).at p hp _ _ _ _ rfl;cases e'
   have HS:=zh (show lst xs (k+1)=if (xs.getD k zSl).2.2.2<(xs.getD p zSl).2.2.2 then k else p from by rw [HP.out];rfl);have HFR:=zh (fun (e:(xs.getD k zSl).1=false)=>show lst xs n=k from by rw [<- hl];exact aKm hv (by omega) e HU.out)
   have HUN:=zh (fun (e:(xs.getD k zSl).1=true)=>show ∀ j,j<k+1->(xs.getD j zSl).1=true from fun j hj=>by
    by_cases q:j=k
    .rw [q];exact e
    .exact HU.out j (by omega))
   generalize xs.getD k zSl=x at *;generalize (xs.getD p zSl).2.2.2=y at *;obtain ⟨x0,x1,x2,x3⟩:=x;dsimp only at q0 q1 q2 q3 HS HFR HUN;have HB:=zh hB;clear h hB hv;cases x0 with
   | false=>
     have HN:=zh (show s=k by rw [HE.o,HFR.o rfl]);clear HFR HUN HS;go_wp2;go_ret;exact ⟨aH (by rw [HN.o]),HB.o⟩
   | true=>
     have HN:=zh (HUN.o rfl);clear HFR HUN;by_cases c1:x3<y
     .have HM:=zh (show lst xs (k+1)=k by rw [HS.o,if_pos c1]);clear HS;go_wp2_with fail
      go_region_held3 (fun w'=>w'.cell? (qR g (f+k*4+3))=some (qI x3)/\w'.cell? (qR g (f+p*4+3))=some (qI y)) (go_keep) (fail)
      all_goals
       go_wp2
       go_roundw
       .exact ⟨k+1,k,by omega,by go_num,rfl,zh HM.o.symm,HN,by first|exact HB.o.drew|exact HB.o⟩
       .simp [intOf];omega
     .have HM:=zh (show lst xs (k+1)=p by rw [HS.o,if_neg c1]);clear HS;go_wp2_with fail
      go_region_held3 (fun w'=>w'.cell? (qR g (f+k*4+3))=some (qI x3)/\w'.cell? (qR g (f+p*4+3))=some (qI y)) (go_keep) (fail)
      all_goals
       go_wp2
       go_roundw
       .exact ⟨k+1,p,by omega,by go_num,rfl,zh HM.o.symm,HN,by first|exact HB.o.drew|exact HB.o⟩
       .simp [intOf];omega
  .obtain rfl:k=n:=by omega
   have HB:=zh hB;clear hB;go_wp2;go_ret;exact ⟨aH (by rw [HE.o,HP.out]),HB.o⟩
def VlP (w:qw)(M:Mn)(e:Ending)(w':qw):Prop:=qY w w'/\∃ y0 n0 d0 i1 y2 n2 d2 i3 i4 y5 n5 d5 b,e=.returned (.tuple #[.agg #[qS y0 n0 d0,qI i1,qS y2 n2 d2,qI i3,qI i4,qS y5 n5 d5],.bool b])/\(b=true ↔ MOk M)/\(b=true->∃ a0 c0 xs a2 c2 a5 c5 ts,#[qS y0 n0 d0,qI i1,qS y2 n2 d2,qI i3,qI i4,qS y5 n5 d5]=mG M.L a0 c0 xs a2 c2 a5 c5 ts/\LyT w' M.L a0 c0 xs a2 c2 a5 c5 ts)
theorem dR {w w':qw}{y0 y2 y5:qO}{n0 d0 n2 d2 n5 d5:Nat}{i1 i3 i4:Int}(hb:qY w w')(h:¬ MOk M):VlP w M (.returned (.tuple #[.agg #[qS y0 n0 d0,qI i1,qS y2 n2 d2,qI i3,qI i4,qS y5 n5 d5],.bool false])) w':=⟨hb,y0,n0,d0,i1,y2,n2,d2,i3,i4,y5,n5,d5,false,rfl,by simp [h],fun h=>by cases h⟩
theorem aIy {w w':qw}{a0:qO}{c0:Nat}{xs:List PB}{a2:qO}{c2:Nat}{a5:qO}{c5:Nat}{ts:List TB}(eL:L=M.L)(hb:qY w w')(h:MOk M)(hl:LyT w' L a0 c0 xs a2 c2 a5 c5 ts):VlP w M (.returned (.tuple #[.agg (qJ L a0 xs c0 a2 c2 a5 ts c5),.bool true])) w':=by
 subst eL;exact ⟨hb,_,_,_,_,_,_,_,_,_,_,_,_,true,rfl,by simp [h],fun _=>⟨a0,c0,xs,a2,c2,a5,c5,ts,rfl,hl⟩⟩
theorem aMq (w:qw)(base g:Nat)(hb:base<=g)(h:Blk w g #[] 3):OI w base (qS (qP g) 0 0) []:=
 ⟨⟨rfl,.inr ⟨g,0,#[],rfl,hb,h,aN,xC _,rfl,rfl⟩⟩,fun _ h=>by cases h⟩
theorem aO3 (w:qw)(base:Nat):OI w base (qS none 0 0) []:=⟨⟨rfl,.inl ⟨rfl,rfl⟩⟩,fun _ h=>by cases h⟩
theorem aC2 (pc:Int)(b off cap:Nat)(w:qw):
 qC 84 #[.agg #[qI pc,qS (some (qR b off)) 0 cap]] w (iQ w pc 0 []):=by
 obtain ⟨i0,hi,hz0,hz1,hz2⟩:=info_parts jP;go_enter func84,ntmps84
 go_wp2
 go_region_law (first
  | (refine step_append_room rfl _ _ 25 rfl 3 i0 1 underlying25 hi hz1 (w.heap.size+1+1) 0 0 0 rfl (qR b off) 0 cap [] rfl rfl (by intro j u hj;simp at hj) (by intro u hu;simp at hu) aN (by intro j hj;simp at hj) ?_;simp only [World.setCells]))
 all_goals
  have x3:=Blk.new ((w.alloc (.cells #[qI pc,qS (some (qR b off)) 0 cap] 38)).alloc (.cells #[qI pc,qS (some (qR (w.heap.size+1+1) 0)) 0 0] 38)) #[] 3;try unfold qY at *
  simp only [xF] at x3;have hB:qY w (((w.alloc (.cells #[qI pc,qS (some (qR b off)) 0 cap] 38)).alloc (.cells #[qI pc,qS (some (qR (w.heap.size+1+1) 0)) 0 0] 38)).alloc (.cells #[] 3)):=(bal.alloc (by simp) _).alloc (by simp;omega) _;have HX:=zh (xA x3 hB);clear x3 hB;go_wp2;exact bodyPost_ret (v:=.agg #[qI pc,qS (some (qR (w.heap.size+1+1) 0)) 0 0]) (by simp [results,results84,go_sem]) rfl ⟨_,_,rfl,aMq _ _ _ (by omega) (by exact HX.o.1),HX.o.2.drew⟩
theorem wJ (pc:Int)(b off cap:Nat)(w:qw):
 qC 95 #[.agg #[qI pc,qS (some (qR b off)) 0 cap]] w (iQ w pc 0 []):=by
 obtain ⟨i0,hi,hz0,hz1,hz2⟩:=info_parts jP;go_enter func95,ntmps95
 go_wp2
 go_region
 all_goals
  have hB:qY w ((w.alloc (.cells #[qI pc,qS (some (qR b off)) 0 cap] 38)).alloc (.cells #[qI pc,qS none 0 0] 38)):=bal.alloc (by simp) _;have HX:=zh hB;clear hB;go_wp2;exact bodyPost_ret (v:=.agg #[qI pc,qS none 0 0]) (by simp [results,results95,go_sem]) rfl ⟨_,_,rfl,aO3 _ _,HX.o.drew⟩
theorem wK (pc:Int)(b off n cap:Nat)(zs:qi)(w:qw)(h:IS w (some (qR b off)) n cap zs)(hn0:0<n)(hn:n<=1048576):
 qC 95 #[.agg #[qI pc,qS (some (qR b off)) n cap]] w (iQ w pc n zs):=by
 obtain ⟨i0,hi,hz0,hz1,hz2⟩:=info_parts jP;have hl:=h.1;have hB0:qY w ((w.alloc (.cells #[qI pc,qS (some (qR b off)) n cap] 38)).alloc (.cells #[qI 0,qS none 0 0] 38)):=bal.alloc (by simp) _;have h':=h.bw hB0;have kr:=Blk.new (w.alloc (.cells #[qI pc,qS (some (qR b off)) n cap] 38)) #[qI 0,qS none 0 0] 38;try unfold qY at *
 simp only [xF] at kr;have hnews:=zh (aA3 h');have hone:=zh (ints_oneCell .i64 zs);have hlen:=zh (show (zs.map (Value.int .i64)).length=n*1 by simp;omega);have HB:=zh hB0;have KR:=zh kr;have HH:=zh h;have kb:=(Blk.new w #[qI pc,qS (some (qR b off)) n cap] 38).alloc (.cells #[qI 0,qS none 0 0] 38);have KB:=zh kb;clear hB0 kr h h' kb;go_enter func95,ntmps95
 go_wp2
 go_region_law (first
  | (refine step_append_lies _ rfl _ _ 25 rfl (w.heap.size+1+1) 3 i0 (qI 0) 1 8 underlying25 hi hz0 hz1 hz2 rfl (by decide) (qS none 0 0) 0 [] rfl ⟨rfl,.inl ⟨rfl,rfl⟩⟩ (qR b off) n cap (zs.map (Value.int .i64)) rfl hlen.o (by exact hnews.o) hone.o hn0 (by unfold maxLen;omega) (by omega) (by simp only [heap_drew,xF];omega) _ rfl ?_;intro g cap1 w1 hown1 hgr1 hat1 hlt1;obtain ⟨c1,c2,c3⟩:=(cK hgr1 (by exact KB.o) (by intro e;cases e)).two';have kr1:=zh (cK hgr1 (by exact KR.o) (by intro e;cases e));obtain ⟨r1,r2,r3⟩:=kr1.o.two'))
 all_goals
  have hown2:w1.ownsRow (w.heap.size+1+1) 3 1 (qS (qP g) n cap1) n (zs.map (Value.int .i64)):=by simpa using hown1
  have o1:OI w1 (w.heap.size+1+1) (qS (qP g) n cap1) zs:=⟨by rw [hl];exact hown2,HH.o.2.2.1⟩;have hB1:qY w w1:=HB.o.drew.grown hgr1 (by simp only [heap_drew,xF];omega) (fun k hk=>by cases hk);have hz:=(kr1.o.set 0 (qI pc)).set 1 (qS (qP g) n cap1);have o2:=((o1.other (qR (w.heap.size+1) 0) (qI pc) (by dsimp only;omega)).other (qR (w.heap.size+1) 1) (qS (qP g) n cap1) (by dsimp only;omega)).mono (base':=w.heap.size) (by omega);have hB2:=(hB1.setCell (p:=(qR (w.heap.size+1) 0)) (by dsimp only;omega) (qI pc)).setCell (p:=(qR (w.heap.size+1) 1)) (by dsimp only;omega) (qS (qP g) n cap1);have hz':Blk ((w1.setCell (qR (w.heap.size+1) 0) (qI pc)).setCell (qR (w.heap.size+1) 1) (qS (qP g) n cap1)) (w.heap.size+1) #[qI pc,qS (qP g) n cap1] 38:=by simpa using hz
  obtain ⟨p1,p2,p3⟩:=hz'.two';have HX:=zh (xA o2 hB2);clear hz hz' o1 o2 hB1 hB2 hown1 hown2 hgr1 hat1 hlt1;go_wp2;exact bodyPost_ret (v:=.agg #[qI pc,qS (qP g) n cap1]) (by simp [results,results95,go_sem,p1,p2]) rfl ⟨some (qR g 0),cap1,rfl,HX.o.1,HX.o.2⟩
theorem aEx (pc:Int)(b off n cap:Nat)(zs:qi)(w:qw)(h:IS w (some (qR b off)) n cap zs)(hn:n<=1048576):
 qC 84 #[.agg #[qI pc,qS (some (qR b off)) n cap]] w (iQ w pc n zs):=by
 by_cases h0:n=0
 .subst h0;obtain rfl:zs=[]:=xE h.1;exact aC2 pc b off cap w
 .exact aC3 pc b off n cap zs w h (by omega) hn
theorem aBh (pc:Int)(b off n cap:Nat)(zs:qi)(w:qw)(h:IS w (some (qR b off)) n cap zs)(hn:n<=1048576):
 qC 95 #[.agg #[qI pc,qS (some (qR b off)) n cap]] w (iQ w pc n zs):=by
 by_cases h0:n=0
 .subst h0;obtain rfl:zs=[]:=xE h.1;exact wJ pc b off cap w
 .exact wK pc b off n cap zs w h (by omega) hn
theorem aNs {b:Act}(hd:a.defers=b.defers)(hs:a.tmps.size=b.tmps.size)(h:∀ t,t<a.tmps.size->a.tmps.getD t undef=b.tmps.getD t undef):a=b:=by
 obtain ⟨ta,da⟩:=a;obtain ⟨tb,db⟩:=b;dsimp only at hd hs h;subst hd;congr 1;refine Array.ext hs fun i h1 h2=>?_;have:=h i h1;simpa [h1,h2] using this
theorem aEb {t':Nat}(h:t≠t'):(a.put (some t) v).tmps.getD t' undef=a.tmps.getD t' undef:=by
 show (a.tmps.setIfInBounds t v).getD t' undef=_;simp [Array.getElem?_setIfInBounds_ne h]
theorem aO0 (h:t<a.tmps.size):(a.put (some t) v).tmps.getD t undef=v:=by
 show (a.tmps.setIfInBounds t v).getD t undef=_;simp [h]
theorem put_sz {t:Option Nat}:(a.put t v).tmps.size=a.tmps.size:=by
 cases t with
 | none=>rfl
 | some t=>show (a.tmps.setIfInBounds t v).size=_;simp
theorem put_df {t:Option Nat}:(a.put t v).defers=a.defers:=by cases t<;>rfl
def sB (A:Act)(y:Nat->Value):List Nat->Act
 | []=>A
 | s::l=>(sB A y l).put (some s) (y s)
theorem nY (A:Act)(y:Nat->Value):∀ l,(sB A y l).tmps.size=A.tmps.size
 | []=>rfl
 | s::l=>put_sz.trans (nY A y l)
theorem pC (A:Act)(y:Nat->Value):∀ l,(sB A y l).defers=A.defers
 | []=>rfl
 | s::l=>put_df.trans (pC A y l)
theorem sA {A:Act}{y:Nat->Value}{t:Nat}:∀ {l:List Nat},t ∉ l->(sB A y l).tmps.getD t undef=A.tmps.getD t undef
 | [],_=>rfl
 | s::l,h=>(aEb (fun e=>h (by rw [e];exact List.mem_cons_self ..))).trans (sA (fun q=>h (List.mem_cons_of_mem _ q)))
theorem aCe {A:Act}{y:Nat->Value}{t:Nat}(ht:t<A.tmps.size):∀ {l:List Nat},t∈l->(sB A y l).tmps.getD t undef=y t
 | [],h=>by cases h
 | s::l,h=>by
   by_cases e:s=t
   .subst e;exact aO0 (by rw [nY];exact ht)
   .exact (aEb e).trans (aCe ht ((List.mem_cons.1 h).resolve_left (fun q=>e q.symm)))
theorem aGa {A:Act}{l:List Nat}(hd:a.defers=A.defers)(hs:a.tmps.size=A.tmps.size)(ho:∀ t,t ∉ l->a.tmps.getD t undef=A.tmps.getD t undef):a=sB A (fun t=>a.tmps.getD t undef) l:=by
 refine aNs (by rw [pC];exact hd) (by rw [nY];exact hs) fun t ht=>?_;by_cases e:t∈l
 .rw [aCe (by omega) e]
 .rw [sA e];exact ho t e
theorem aPe (h:(listed.setIfInBounds i true).getD j false=true):j=i\/listed.getD j false=true:=by
 by_cases e:i=j
 .exact .inl e.symm
 .rw [getD_set_ne false e] at h;exact .inr h
theorem aMy (hs:i<listed.size)(b:Bool):listed.getD i b=listed.getD i false:=by simp [hs]
theorem aG3 {md:Region.Mode}{ops:Array Oper}(hr:Region.ready md ops listed=[])(h:((List.range ops.size).all fun i=>match ops[i]? with|some o=>o.after.all (fun e=>!Region.binds md e || decide (e.on<i))|none=>true)=true)(hs:listed.size=ops.size):∀ i,i<ops.size->listed.getD i false=true:=by
 intro i
 induction i using Nat.strongRecOn with
 | _ i ih=>
   intro hi;have h1:=List.all_eq_true.1 h i (List.mem_range.2 hi);rw [Array.getElem?_eq_getElem hi] at h1;dsimp only at h1;refine (aMy (by omega) true).symm.trans (aJs hr i ops[i] (Array.getElem?_eq_getElem hi) fun e he hb=>?_);have h2:=Array.all_eq_true'.1 h1 e he;rw [hb] at h2;simp at h2;exact ih e.on h2 (by omega)
