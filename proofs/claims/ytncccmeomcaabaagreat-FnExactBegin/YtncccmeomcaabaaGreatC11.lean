import Derived.Test.YtncccmeomcaabaaGreatC09
import Derived.Test.YtncccmeomcaabaaGreatC10
set_option linter.all false
set_option maxHeartbeats 8000000
namespace Go.Proofs.YtncccmeomcaabaaGreat
open Go.RowKit Classical
open Go.Proofs.Tryz
set_option maxRecDepth 100000
variable {C:Cn}{G cap n:Nat}{M:Mn}{P:Prop}{a:qO}{b c cs cw m:Int}{ms:List Md}{ps:List PMod}{v13 vr:Value}{xs:List SlT}
def slk (ps:List PMod)(T:Int)(x:SlT):Prop:=(x.1=false/\x=zSl)\/(x.1=true/\0<=x.2.2.1/\0<=pcq ps x.2.1 x.2.2.1/\1<=x.2.2.2/\x.2.2.2<=T)
def cmn (x y:SlT):Prop:=x.1=true/\y.1=true/\(y.2.2.2=x.2.2.2\/(y.2.1=x.2.1/\y.2.2.1=x.2.2.1))
def aln (xs:List SlT)(i:Nat):Prop:=∀ k,k<i->¬ cmn (xs.getD i zSl) (xs.getD k zSl)
def slz (cw:Int):Nat:=(rnd (4*cw)).toNat
def bnk (ps:List PMod)(m b:Int):List Int:=(ps.getD m.toNat zP).bl.getD b.toNat []
def bkb (ps:List PMod)(cw m b:Int):List Int:=bN (List.replicate (slz cw) 0) 0 (bnk ps m b) (bnk ps m b).length
def slb (rz:qi)(L:Lay)(cw:Int)(i:Nat):List Int:=(rz.drop (L.slots.getD i 0-65536).toNat).take (slz cw)
def nF (ps:List PMod)(L:Lay)(cw T:Int)(rz:qi)(xs:List SlT)(i:Nat):Prop:=slk ps T (xs.getD i zSl)/\aln xs i/\((xs.getD i zSl).1=true->slb rz L cw i=bkb ps cw (xs.getD i zSl).2.1 (xs.getD i zSl).2.2.1)
def cW (ps:List PMod)(L:Lay)(cs cw T:Int)(rz:qi)(xs:List SlT):Prop:=(xs.length:Int)=cs/\∀ i,i<xs.length->nF ps L cw T rz xs i
def vY (ps:List PMod)(cs m b:Int)(xs:List SlT):Prop:=0<=pcq ps m b/\(cs=0\/b=-1\/hld xs m b≠-1)
abbrev tgk (ps:List PMod)(m b t:Int):Prop:=0<=pcq ps m b/\0<=t/\t<=pcq ps m b
abbrev frk (ps:List PMod)(x:FrT):Prop:=tgk ps x.1 x.2.1 x.2.2.1/\0<=x.2.2.2/\x.2.2.2<=4294967295
def jW (ps:List PMod)(cd:Int)(xs:List FrT):Prop:=(xs.length:Int)<=cd/\∀ i,i<xs.length->frk ps (xs.getD i zFr)
def Mn.L (M:Mn):Lay:=lkL (aE M.ms) M.cs M.cw M.ck M.cd
structure MOk (M:Mn):Prop where
 l:lkc (aE M.ms) M.cs M.cw M.ck M.cd=0
 p:vG (aE M.ms) M.L
 c:cok M.pc M.kn M.kz=true
 b:mok M.fn M.rn M.on=true
 f:imF (aE M.ms) M.L=M.fz
 r:(M.rn:Int)=M.L.ram
 t:0<=M.tn/\M.tn<=1000000000
 s:cW (aE M.ms) M.L M.cs M.cw M.tn M.rz M.lz
 n:vY (aE M.ms) M.cs M.md M.bk M.lz
 h:jW (aE M.ms) M.cd M.hz
def Yn (P:Prop)(w:qw)(e:Ending)(w':qw):Prop:=∃ r:Bool,e=.returned (.bool r)/\(r=true ↔ P)/\qY w w'
theorem pZ {w w':qw}(h:P)(hb:qY w w'):Yn P w (.returned (.bool true)) w':=⟨true,rfl,by simp [h],hb⟩
theorem cV {w w':qw}(h:¬ P)(hb:qY w w'):Yn P w (.returned (.bool false)) w':=⟨false,rfl,by simp [h],hb⟩
theorem aP9 {Q:Prop}[Decidable Q]{w w':qw}(h:Q ↔ P)(hb:qY w w'):Yn P w (.returned (.bool (decide Q))) w':=⟨_,rfl,by simp [h],hb⟩
theorem kJ {w:qw}(h:MSD w a n cap ms)(hp:0<=pcq (aE ms) m b):(0<=m/\m<(n:Int))/\pcn (ms.getD m.toNat aK).tn (ms.getD m.toNat aK).bn (ms.getD m.toNat aK).bl b=pcq (aE ms) m b:=by
 have hn:=h.s.1;rw [<- dX h] at hp ⊢;unfold pcm at hp ⊢;rw [hn] at hp ⊢;by_cases c:0<=m/\m<(n:Int)
 .exact ⟨c,by rw [if_pos c]⟩
 .rw [if_neg c] at hp;exact absurd hp (by decide)
theorem aIc {w:qw}(h:MSD w a n cap ms)(hp:0<=pcq (aE ms) m b){M:Md}(hM:ms.getD m.toNat aK=M)(X:qw)(hX:qY w X):qC 175 #[.agg (qM M.nm M.ta M.tn M.tc M.ba M.bn M.bc M.da M.dn M.dc M.bss M.ra M.rn M.rc M.ia M.im M.ic M.ea M.en M.ec),qI b] X (fun e w'=>∃ xa xn xc,e=.returned (.tuple #[qS xa xn xc,.bool true])/\(xn:Int)=pcq (aE ms) m b/\qY w w'):=by
 obtain ⟨⟨h0,h1⟩,hq⟩:=kJ h hp;have hmt:=h.s.2.2.2.1 m.toNat (by omega);rw [hM] at hmt hq;refine (gP M.nm M.ta M.tn M.tc M.ba M.bn M.bc M.bl (qS M.da M.dn M.dc) (qS M.ra M.rn M.rc) (qS M.ia M.im M.ic) (qS M.ea M.en M.ec) M.bss b X hmt.t.2.1 (hmt.b.bw hX)).mono fun e w' ⟨xa,xn,xc,ok,he,ho,hx,_,hb⟩=>?_;have ho':ok=true:=by rw [ho,hq];simp;omega
 exact ⟨xa,xn,xc,by rw [he,ho'],by rw [hx ho',hq],hX.trans (hb.mono hX.size)⟩
theorem oX {w:qw}(h:MSD w a n cap ms)(hp:0<=pcq (aE ms) m b){M:Md}(hM:ms.getD m.toNat aK=M)(X:qw)(hX:qY w X):qC 115 #[.agg (qM M.nm M.ta M.tn M.tc M.ba M.bn M.bc M.da M.dn M.dc M.bss M.ra M.rn M.rc M.ia M.im M.ic M.ea M.en M.ec),qI b] X (fun e w'=>∃ xa xn xc,e=.returned (.tuple #[qS xa xn xc,.bool true])/\(xn:Int)=pcq (aE ms) m b/\qY w w'):=by
 obtain ⟨⟨h0,h1⟩,hq⟩:=kJ h hp;have hmt:=h.s.2.2.2.1 m.toNat (by omega);rw [hM] at hmt hq;refine (gS M.nm M.ta M.tn M.tc M.ba M.bn M.bc M.bl (qS M.da M.dn M.dc) (qS M.ra M.rn M.rc) (qS M.ia M.im M.ic) (qS M.ea M.en M.ec) M.bss b X hmt.t.2.1 (hmt.b.bw hX)).mono fun e w' ⟨xa,xn,xc,ok,he,ho,hx,_,hb⟩=>?_;have ho':ok=true:=by rw [ho,hq];simp;omega
 exact ⟨xa,xn,xc,by rw [he,ho'],by rw [hx ho',hq],hX.trans (hb.mono hX.size)⟩
theorem jA (a:qO)(n cap:Nat)(ms:List Md)(m b t:Int)(w:qw)(h:MSD w a n cap ms):
 qC 126 #[qS a n cap,.agg (qT m b t)] w fun e w'=>e=.returned (.bool (decide (tgk (aE ms) m b t)))/\qY w w':=by
 obtain ⟨V,hV,bV,kV⟩:=nwb w (qT m b t) 58;have HIP:=zh (lG a n cap ms m b V (h.s.bw bV));rw [dX h m b] at HIP;have HV:=zh hV;have HK:=zh (xA bV kV);obtain ⟨r,hr⟩:=eqx (decide (tgk (aE ms) m b t));rw [<- hr];have HR:=zh hr;have hmx:=h.s.2.1;unfold maxLen at hmx;clear hV hr;by_cases c:0<=pcq (aE ms) m b
 .rw [xR c] at HIP;obtain ⟨⟨m0,m1⟩,_⟩:=kJ h c;obtain ⟨gm,om,rfl,v0,v1,v2,v3,v4,v5,v6,v7⟩:=(h.s.bw bV).at m.toNat (by omega);have HPC:=zh (fun (M:Md) (hM:ms.getD m.toNat aK=M) (X:qw) (hX:qY V X)=>(aIc (h.bw bV) c hM X hX));obtain ⟨M,hM⟩:=eqx (ms.getD m.toNat aK);rw [<- hM] at v0 v1 v2 v3 v4 v5 v6 v7;have HP:=zh (HPC.o M hM.symm);have HRQ:=zh (show r=decide (0<=t/\t<=pcq (aE ms) m b) from by rw [HR.o];unfold tgk;simp [c]);clear HR;generalize pcq (aE ms) m b=q at *
  have HC:=zh (fun (X:qw) (hX:qY V X)=>show (X.cell? (qR w.heap.size 0)=some (qI m)/\X.cell? (qR w.heap.size 1)=some (qI b)/\X.cell? (qR w.heap.size 2)=some (qI t))/\X.cell? (qR gm (om+m.toNat*8))=some (.string M.nm)/\X.cell? (qR gm (om+m.toNat*8+1))=some (qS M.ta M.tn M.tc)/\X.cell? (qR gm (om+m.toNat*8+2))=some (qS M.ba M.bn M.bc)/\X.cell? (qR gm (om+m.toNat*8+3))=some (qS M.da M.dn M.dc)/\X.cell? (qR gm (om+m.toNat*8+4))=some (qI M.bss)/\X.cell? (qR gm (om+m.toNat*8+5))=some (qS M.ra M.rn M.rc)/\X.cell? (qR gm (om+m.toNat*8+6))=some (qS M.ia M.im M.ic)/\X.cell? (qR gm (om+m.toNat*8+7))=some (qS M.ea M.en M.ec) from
   ⟨⟨(kV.bw hX).cell 0,(kV.bw hX).cell 1,(kV.bw hX).cell 2⟩,aB hX v0,aB hX v1,aB hX v2,aB hX v3,aB hX v4,aB hX v5,aB hX v6,aB hX v7⟩)
  clear HPC hM h bV kV c v0 v1 v2 v3 v4 v5 v6 v7;obtain ⟨⟨x0,x1,x2⟩,_⟩:=HC.o V brf;go_enter func126,ntmps126
  go_wp2_with (rw [<- HV.o])
  refine HIP.o.mono ?_;rintro e X1 ⟨rfl,hb1⟩;have HX1:=zh hb1;clear x0 x1 x2;have HP2:=zh (fun (X:qw) (hX:qY X1 X)=>(HP.o X (HX1.o.trans (hX.mono HX1.o.size))).mono (fun e w' he=>show ∃ xa xn xc,e=.returned (.tuple #[qS xa xn xc,.bool true])/\(xn:Int)=q/\qY V w' from he));obtain ⟨⟨y0,y1,y2⟩,u0,u1,u2,u3,u4,u5,u6,u7⟩:=HC.o X1 hb1;clear hb1 HIP HV HP;go_wp2_with fail
  go_region_held3 (fun w'=>w'.cell? (qR w.heap.size 0)=some (qI m)/\w'.cell? (qR w.heap.size 1)=some (qI b)/\w'.cell? (qR gm (om+m.toNat*8))=some (.string M.nm)/\w'.cell? (qR gm (om+m.toNat*8+1))=some (qS M.ta M.tn M.tc)/\w'.cell? (qR gm (om+m.toNat*8+2))=some (qS M.ba M.bn M.bc)/\w'.cell? (qR gm (om+m.toNat*8+3))=some (qS M.da M.dn M.dc)/\w'.cell? (qR gm (om+m.toNat*8+4))=some (qI M.bss)/\w'.cell? (qR gm (om+m.toNat*8+5))=some (qS M.ra M.rn M.rc)/\w'.cell? (qR gm (om+m.toNat*8+6))=some (qS M.ia M.im M.ic)/\w'.cell? (qR gm (om+m.toNat*8+7))=some (qS M.ea M.en M.ec)) (go_keep)
   (first
     | (go_at_call 175;first
         | with_reducible refine (HP2.o _ brf).mono ?_
         | with_reducible refine (HP2.o _ brf.drew).mono ?_
        rintro e w1 ⟨xa,xn,xc,rfl,hxn,hb1⟩;have HXN:=zh hxn;have HB1:=zh hb1;obtain ⟨⟨z0,z1,z2⟩,t0,t1,t2,t3,t4,t5,t6,t7⟩:=HC.o w1 hb1
        clear hb1 hxn))
  clear y0 y1 y2 u0 u1 u2 u3 u4 u5 u6 u7 t0 t1 t2 t3 t4 t5 t6 t7 HP2 HC HX1;have HU:=zh (cZ t (xn:Int));go_wp2_with (go_at_call 155;refine (HU.o _).mono ?_;rintro e w2 ⟨rfl,rfl⟩)
  go_ret;exact ⟨aA (by rw [HRQ.o,HXN.o];simp),HK.o.1.trans (HB1.o.mono HK.o.1.size)⟩
 .rw [xS c] at HIP;have e:=zh (show r=false from by rw [HR.o];exact xS (fun k=>c k.1));have x0:=kV.cell 0;have x1:=kV.cell 1;clear h bV kV;go_enter func126,ntmps126
  go_wp2_with (rw [<- HV.o])
  refine HIP.o.mono ?_;rintro e X1 ⟨rfl,hb1⟩;go_wp2;go_ret;exact ⟨aA e.o.symm,HK.o.1.trans (hb1.mono HK.o.1.size)⟩
theorem fK (h0:1<=c)(h1:c<=64):((slz c:Nat):Int)=rnd (4*c)/\slz c<=256/\4*c<=(slz c:Int):=by
 have:=aQ (x:=4*c);have e:rnd (4*c)=(4*c+31)/32*32:=rfl;unfold slz;omega
theorem aBz {s k d:Int}(h:lkc ps s c k d=0)(hs:0<s)(hp:0<=pcq ps m b)(hb:0<=b):4*(bnk ps m b).length<=slz c/\∀ i,i<(bnk ps m b).length->0<=(bnk ps m b).getD i 0/\(bnk ps m b).getD i 0<=4294967295:=by
 obtain ⟨h1,h2,h3,h4,h5,h6,h7,h8,h9⟩:=eQ.1 h;unfold cfo at h1;simp at h1;obtain ⟨s0,s1,w0,w1,_⟩:=h1;obtain ⟨z1,z2,z3⟩:=fK w0 w1;unfold pcq at hp;by_cases c1:0<=m/\m<(ps.length:Int)
 .rw [if_pos c1,if_neg (by omega)] at hp;by_cases c2:0<=b/\b<((ps.getD m.toNat zP).bl.length:Int)
  .have hv:=aD5 (h4 m.toNat (by omega));have hsh:=h7 hs m.toNat (by omega) b.toNat (by omega);exact ⟨by unfold bnk;omega,hv.2 b.toNat (by omega)⟩
  .rw [if_neg c2] at hp;exact absurd hp (by decide)
 .rw [if_neg c1] at hp;exact absurd hp (by decide)
theorem aHh {w:qw}(h:MSD w a n cap ms)(hp:0<=pcq (aE ms) m b)(hb:0<=b):∃ gm om gb ob dn dc ba bc,a=some (qR gm om)/\(0<=m/\m<(n:Int))/\b<((dn:Nat):Int)/\dn<=9223372036854775807/\(∀ X,qY w X->X.cell? (qR gm (om+m.toNat*8+2))=some (qS (some (qR gb ob)) dn dc)/\X.cell? (qR gb (ob+b.toNat))=some (.slice ba (bnk (aE ms) m b).length bc))/\IS w ba (bnk (aE ms) m b).length bc (bnk (aE ms) m b):=by
 obtain ⟨⟨h0,h1⟩,hq⟩:=kJ h hp;obtain ⟨gm,om,rfl,v0,v1,v2,v3,v4,v5,v6,v7⟩:=h.s.at m.toNat (by omega);have hd:=h.d m.toNat (by omega);have hn:=h.s.1;have hbn:bnk (aE ms) m b=((ms.getD m.toNat aK).pm.bl).getD b.toNat []:=by unfold bnk;rw [cI]
 generalize ms.getD m.toNat aK=D at *
 have hlt:b<(D.bn:Int):=by
  unfold pcn at hq;rw [if_neg (by omega)] at hq;by_cases c:0<=b/\b<(D.bn:Int)
  .exact c.2
  .rw [if_neg c] at hq;omega
 obtain ⟨b1,b2,b3,b4,b5⟩:=hd.b;obtain ⟨gb,ob,hba,hc⟩:=b3 (by omega);have r:=b4 b.toNat (by omega);have ec:=hc b.toNat (by omega)
 have e1:bnk (aE ms) m b=(D.bl.getD b.toNat zB).2.2.2:=by
  rw [hbn];simp [Md.pm,xB,show b.toNat<D.bl.length by omega]
 rw [<- e1] at r;rw [hba] at v2;have e2:=r.1;rw [<- e2] at r ec;unfold maxLen at b2;exact ⟨gm,om,gb,ob,D.bn,D.bc,_,_,rfl,⟨h0,h1⟩,hlt,by omega,fun X hX=>⟨aB hX v2,aB hX ec⟩,r⟩
theorem jC (s c k d:Int)(w:qw)(h0:1<=c)(h1:c<=64):
 qC 202 #[.agg (qW s c k d)] w (qB w (qI (slz c:Nat))):=by
 have HR:=zh (fun (X:qw)=>gO (4*c) X);rw [<- (fK h0 h1).1] at HR;have HB:=zh ((Below.refl w.heap.size w).alloc aN (.cells (qW s c k d) 37));go_enter func202,ntmps202
 go_wp2_with (go_at_call 212;refine (HR.o _).mono ?_;rintro e w1 ⟨rfl,rfl⟩)
 go_ret;exact ⟨rfl,HB.o⟩
def BkB (w:qw)(ps:List PMod)(c m b:Int)(e:Ending)(w':qw):Prop:=∃ g,e=.returned (qS (qP g) (slz c) (slz c))/\OB w' w.heap.size (qS (qP g) (slz c) (slz c)) (bkb ps c m b)/\qY w w'
theorem jU (M:Mn)(x0:Bool)(x1 x2 x3:Int)(w:qw)(h:MnD w M)(hk:lkc (aE M.ms) M.cs M.cw M.ck M.cd=0)(hs:0<M.cs)(hp:0<=pcq (aE M.ms) x1 x2)(hb:0<=x2):
 qC 118 #[.agg (qA M),.agg #[.bool x0,qI x1,qI x2,qI x3]] w (BkB w (aE M.ms) M.cw x1 x2):=by
 obtain ⟨w0,w1⟩:1<=M.cw/\M.cw<=64:=by
  have h1:=(eQ.1 hk).1;unfold cfo at h1;simp at h1;exact ⟨h1.2.2.1,h1.2.2.2.1⟩
 obtain ⟨f1,f2⟩:=aBz hk hs hp hb;obtain ⟨z1,z2,z3⟩:=fK w0 w1;obtain ⟨U,hU,bU,kU⟩:=nwb w (qA M) 43;obtain ⟨V,hV,bV,kV⟩:=nwb U #[.bool x0,qI x1,qI x2,qI x3] 142;have hUs:U.heap.size=w.heap.size+1:=by rw [hU];simp
 have BV:=bU.trans (bV.mono bU.size);have kU':=kU.bw bV;obtain ⟨gm,om,gb,ob,dn,dc,ba,bc,ha,⟨m0,m1⟩,b1,b2,hcell,hrow⟩:=aHh (h.m.bw BV) hp hb;have HRW:=zh hrow;have HFT:=zh (xA f1 f2);have HRN:=zh (fun (X:qw)=>dO (4*M.cw) X);rw [<- (fK w0 w1).1] at HRN;have hmk:=yU (slz M.cw) (by omega);have HDE:Zh (bkb (aE M.ms) M.cw x1 x2=bN (List.replicate (slz M.cw) 0) 0 (bnk (aE M.ms) x1 x2) (bnk (aE M.ms) x1 x2).length):=rfl;have hmx:=h.m.s.2.1;unfold maxLen at hmx
 have HC:=zh (fun (X:qw) (hX:qY V X)=>show (X.cell? (qR w.heap.size 0)=some (qS M.ma M.mn M.mc)/\X.cell? (qR w.heap.size 1)=some (qI M.cs)/\X.cell? (qR w.heap.size 2)=some (qI M.cw)/\X.cell? (qR w.heap.size 3)=some (qI M.ck)/\X.cell? (qR w.heap.size 4)=some (qI M.cd))/\X.cell? (qR (w.heap.size+1) 1)=some (qI x1)/\X.cell? (qR (w.heap.size+1) 2)=some (qI x2)/\X.cell? (qR gm (om+x1.toNat*8+2))=some (qS (some (qR gb ob)) dn dc)/\X.cell? (qR gb (ob+x2.toNat))=some (.slice ba (bnk (aE M.ms) x1 x2).length bc) from
  ⟨⟨(kU'.bw hX).cell 0,(kU'.bw hX).cell 1,(kU'.bw hX).cell 2,(kU'.bw hX).cell 3,(kU'.bw hX).cell 4⟩,by rw [<- hUs];exact (kV.bw hX).cell 1,by rw [<- hUs];exact (kV.bw hX).cell 2,(hcell X hX).1,(hcell X hX).2⟩)
 have HBV:=zh BV;have HU:=zh hU;have HV:=zh hV;unfold BkB;rw [HDE.o];generalize bnk (aE M.ms) x1 x2=ws at *;generalize slz M.cw=sz at *;rw [ha] at HC;rw [<- hUs] at HC;clear hU hV bU bV kU kU' kV hcell hrow BV h hk hp z1 HDE hUs f1 f2;have HA:=zh ha;clear ha;obtain ⟨⟨y0,y1,y2,y3,y4⟩,s1,s2,u0,u1⟩:=HC.o V brf;go_enter func118,ntmps118
 go_wp2_with (first|rw [<- HU.o]|rw [<- HV.o])
 refine (HRN.o _).mono ?_;rintro e X1 ⟨rfl,hx1⟩;have hb1:qY V X1:=by rw [hx1];exact brf
 clear hx1;have HX1:=zh hb1;obtain ⟨V2,hV2,b2',k2⟩:=nwb X1 (zby sz) 5;have B2:=hb1.trans (b2'.mono hb1.size);have HV2:=zh hV2;have hg:w.heap.size<=X1.heap.size:=by have h1:=HBV.o.size;have h2:=hb1.size;omega
 have HP:=zh (fun (X:qw) (hX:qY V2 X)=>(mW X1.heap.size sz sz 0 ba ws.length bc ws (List.replicate sz 0) w.heap.size X1 X (HRW.o.bw HX1.o) (b2'.trans (hX.mono b2'.size)) aN ((oD k2 hg (by omega)).bw hX) (by omega) (by have:=HFT.o.1;omega) HFT.o.2).mono (fun e w' he=>show e=.returned (.tuple #[])/\OB w' w.heap.size (qS (qP X1.heap.size) sz sz) (bN (List.replicate sz 0) 0 ws ws.length)/\qY V w' from ⟨he.1,he.2.1,HX1.o.trans ((cY (b2'.trans (hX.mono b2'.size)) he.2.2 aN).mono HX1.o.size)⟩));rw [show ((0:Nat):Int)=0 from rfl] at HP;have HB2:=zh B2;clear y0 y1 y2 y3 y4 s1 s2 u0 u1 HRN HU HV;obtain ⟨⟨y0,y1,y2,y3,y4⟩,s1,s2,u0,u1⟩:=HC.o V2 B2;clear hb1 b2' k2 B2 hV2 hg;go_wp2_with (rw [<- HV2.o])
 go_region_held3 (fun w'=>w'.cell? (qR w.heap.size 0)=some (qS (some (qR gm om)) M.mn M.mc)/\w'.cell? (qR U.heap.size 1)=some (qI x1)/\w'.cell? (qR U.heap.size 2)=some (qI x2)/\w'.cell? (qR gm (om+x1.toNat*8+2))=some (qS (some (qR gb ob)) dn dc)/\w'.cell? (qR gb (ob+x2.toNat))=some (qS ba ws.length bc)) (go_keep)
  (first
    | (go_at_call 144;first
        | with_reducible refine (HP.o _ brf).mono ?_
        | with_reducible refine (HP.o _ brf.drew).mono ?_
       rintro e w1 ⟨rfl,ho1,hb1⟩;have HE:=zh (xA ho1 hb1);obtain ⟨⟨p0,p1,p2,p3,p4⟩,t1,t2,v0,v1⟩:=HC.o w1 hb1
       clear ho1 hb1))
 clear y0 y1 y2 y3 y4 s1 s2 u0 u1 p0 p1 p2 p3 p4 t1 t2 v0 v1 HP HC;go_wp2;go_ret;exact ⟨_,rfl,HE.o.1,HBV.o.trans (HE.o.2.mono HBV.o.size)⟩
theorem wX (M:Mn)(x0:Bool)(x1 x2 x3:Int)(w:qw)(h:MnD w M)(hk:lkc (aE M.ms) M.cs M.cw M.ck M.cd=0)(hs:0<M.cs)(hp:0<=pcq (aE M.ms) x1 x2)(hb:0<=x2):
 qC 197 #[.agg (qA M),.agg #[.bool x0,qI x1,qI x2,qI x3]] w (BkB w (aE M.ms) M.cw x1 x2):=by
 obtain ⟨w0,w1⟩:1<=M.cw/\M.cw<=64:=by
  have h1:=(eQ.1 hk).1;unfold cfo at h1;simp at h1;exact ⟨h1.2.2.1,h1.2.2.2.1⟩
 obtain ⟨f1,f2⟩:=aBz hk hs hp hb;obtain ⟨z1,z2,z3⟩:=fK w0 w1;obtain ⟨U,hU,bU,kU⟩:=nwb w (qA M) 43;obtain ⟨V,hV,bV,kV⟩:=nwb U #[.bool x0,qI x1,qI x2,qI x3] 142;have hUs:U.heap.size=w.heap.size+1:=by rw [hU];simp
 have BV:=bU.trans (bV.mono bU.size);have kU':=kU.bw bV;obtain ⟨gm,om,gb,ob,dn,dc,ba,bc,ha,⟨m0,m1⟩,b1,b2,hcell,hrow⟩:=aHh (h.m.bw BV) hp hb;have HRW:=zh hrow;have HFT:=zh (xA f1 f2);have HRN:=zh (fun (X:qw)=>jC M.cs M.cw M.ck M.cd X w0 w1);have hmk:=yU (slz M.cw) (by omega);have HDE:Zh (bkb (aE M.ms) M.cw x1 x2=bN (List.replicate (slz M.cw) 0) 0 (bnk (aE M.ms) x1 x2) (bnk (aE M.ms) x1 x2).length):=rfl;have hmx:=h.m.s.2.1;unfold maxLen at hmx
 have HC:=zh (fun (X:qw) (hX:qY V X)=>show (X.cell? (qR w.heap.size 0)=some (qS M.ma M.mn M.mc)/\X.cell? (qR w.heap.size 1)=some (qI M.cs)/\X.cell? (qR w.heap.size 2)=some (qI M.cw)/\X.cell? (qR w.heap.size 3)=some (qI M.ck)/\X.cell? (qR w.heap.size 4)=some (qI M.cd))/\X.cell? (qR (w.heap.size+1) 1)=some (qI x1)/\X.cell? (qR (w.heap.size+1) 2)=some (qI x2)/\X.cell? (qR gm (om+x1.toNat*8+2))=some (qS (some (qR gb ob)) dn dc)/\X.cell? (qR gb (ob+x2.toNat))=some (.slice ba (bnk (aE M.ms) x1 x2).length bc) from
  ⟨⟨(kU'.bw hX).cell 0,(kU'.bw hX).cell 1,(kU'.bw hX).cell 2,(kU'.bw hX).cell 3,(kU'.bw hX).cell 4⟩,by rw [<- hUs];exact (kV.bw hX).cell 1,by rw [<- hUs];exact (kV.bw hX).cell 2,(hcell X hX).1,(hcell X hX).2⟩)
 have HBV:=zh BV;have HU:=zh hU;have HV:=zh hV;unfold BkB;rw [HDE.o];generalize bnk (aE M.ms) x1 x2=ws at *;generalize slz M.cw=sz at *;rw [ha] at HC;rw [<- hUs] at HC;clear hU hV bU bV kU kU' kV hcell hrow BV h hk hp z1 HDE hUs f1 f2;have HA:=zh ha;clear ha;obtain ⟨⟨y0,y1,y2,y3,y4⟩,s1,s2,u0,u1⟩:=HC.o V brf;go_enter func197,ntmps197
 go_wp2_with (first|rw [<- HU.o]|rw [<- HV.o])
 refine (HRN.o _).mono ?_;rintro e X1 ⟨rfl,hb1⟩;have HX1:=zh hb1;obtain ⟨V2,hV2,b2',k2⟩:=nwb X1 (zby sz) 5;have B2:=hb1.trans (b2'.mono hb1.size);have HV2:=zh hV2;have hg:w.heap.size<=X1.heap.size:=by have h1:=HBV.o.size;have h2:=hb1.size;omega
 have HP:=zh (fun (X:qw) (hX:qY V2 X)=>(jE X1.heap.size sz sz 0 sz sz ba ws.length bc ws (List.replicate sz 0) w.heap.size X1 X (HRW.o.bw HX1.o) (b2'.trans (hX.mono b2'.size)) aN ((oD k2 hg (by omega)).bw hX) (by omega) (by have:=HFT.o.1;omega) (by have:=HFT.o.1;omega) aN (by omega)).mono (fun e w' he=>show e=.returned (.tuple #[])/\OB w' w.heap.size (qS (qP X1.heap.size) sz sz) (bN (List.replicate sz 0) 0 ws ws.length)/\qY V w' from ⟨he.1,he.2.1,HX1.o.trans ((cY (b2'.trans (hX.mono b2'.size)) he.2.2 aN).mono HX1.o.size)⟩));have HB2:=zh B2;clear y0 y1 y2 y3 y4 s1 s2 u0 u1 HRN HU HV;obtain ⟨⟨y0,y1,y2,y3,y4⟩,s1,s2,u0,u1⟩:=HC.o V2 B2;clear hb1 b2' k2 B2 hV2 hg;go_wp2_with (rw [<- HV2.o])
 go_region_held3 (fun w'=>w'.cell? (qR w.heap.size 0)=some (qS (some (qR gm om)) M.mn M.mc)/\w'.cell? (qR U.heap.size 1)=some (qI x1)/\w'.cell? (qR U.heap.size 2)=some (qI x2)/\w'.cell? (qR gm (om+x1.toNat*8+2))=some (qS (some (qR gb ob)) dn dc)/\w'.cell? (qR gb (ob+x2.toNat))=some (qS ba ws.length bc)) (go_keep)
  (first
    | (go_at_call 219;first
        | with_reducible refine (HP.o _ brf).mono ?_
        | with_reducible refine (HP.o _ brf.drew).mono ?_
       rintro e w1 ⟨rfl,ho1,hb1⟩;have HE:=zh (xA ho1 hb1);obtain ⟨⟨p0,p1,p2,p3,p4⟩,t1,t2,v0,v1⟩:=HC.o w1 hb1
       clear ho1 hb1))
 clear y0 y1 y2 y3 y4 s1 s2 u0 u1 p0 p1 p2 p3 p4 t1 t2 v0 v1 HP HC;go_wp2;go_ret;exact ⟨_,rfl,HE.o.1,HBV.o.trans (HE.o.2.mono HBV.o.size)⟩
theorem aGn (zs:qi)(k:Nat)(v:Int):∀ (s p:Nat),(put zs k v s)[p]?=if k<=p/\p<k+s/\p<zs.length then some (bt v (p-k)) else zs[p]?
 | 0,p=>by rw [if_neg (by omega)];rfl
 | s+1,p=>by
   show ((put zs k v s).set (k+s) (bt v s))[p]?=_;rw [List.getElem?_set,rN,aGn zs k v s p];by_cases c:k+s=p
   .subst c;rw [if_pos rfl];by_cases c2:k+s<zs.length
    .rw [if_pos c2,if_pos (by omega),show k+s-k=s by omega]
    .rw [if_neg c2,if_neg (by omega),xO (by omega)]
   .rw [if_neg c];by_cases c2:k<=p/\p<k+s/\p<zs.length
    .rw [if_pos c2,if_pos (by omega)]
    .rw [if_neg c2,if_neg (by omega)]
theorem sO (zs:qi)(k:Nat)(ws:qi):∀ (n p:Nat),(bN zs k ws n)[p]?=if k<=p/\p<k+4*n/\p<zs.length then some (bt (ws.getD ((p-k)/4) 0) ((p-k)%4)) else zs[p]?
 | 0,p=>by rw [if_neg (by omega)];rfl
 | n+1,p=>by
   rw [bN,aGn,fB,sO zs k ws n p];by_cases c:k+4*n<=p/\p<k+4*n+4/\p<zs.length
   .rw [if_pos c,if_pos (by omega),show (p-k)/4=n by omega,show (p-k)%4=p-(k+4*n) by omega]
   .rw [if_neg c];by_cases c2:k<=p/\p<k+4*n/\p<zs.length
    .rw [if_pos c2,if_pos (by omega)]
    .rw [if_neg c2,if_neg (by omega)]
theorem aGr (zs:qi)(f:Nat)(ds:qi)(p:Nat)(h:f+ds.length<=zs.length):(ovr zs f ds)[p]?=if f<=p/\p<f+ds.length then ds[p-f]? else zs[p]?:=by
 unfold ovr;by_cases c1:p<f
 .rw [List.getElem?_append_left (by simp;omega),List.getElem?_take_of_lt c1,if_neg (by omega)]
 .rw [List.getElem?_append_right (by simp;omega),List.length_take,Nat.min_eq_left (by omega)];by_cases c2:p<f+ds.length
  .rw [List.getElem?_append_left (by omega),if_pos (by omega)]
  .rw [List.getElem?_append_right (by omega),List.getElem?_drop,if_neg (by omega)];congr 1;omega
theorem aNz (R:qi)(f n:Nat)(ws:qi)(hw:ws.length<=n)(hf:f+4*n<=R.length):bN R f ws n=ovr R f (bN (List.replicate (4*n) 0) 0 ws ws.length):=by
 apply List.ext_getElem?;intro p;rw [sO,aGr _ _ _ _ (by rw [fB,List.length_replicate];omega),fB,List.length_replicate,sO,List.length_replicate];by_cases c:f<=p/\p<f+4*n
 .rw [if_pos (by omega),if_pos c];by_cases c2:p-f<4*ws.length
  .rw [if_pos (by omega),Nat.sub_zero]
  .rw [if_neg (by omega),List.getElem?_replicate,if_pos (by omega),show ws.getD ((p-f)/4) 0=0 from by rw [xB,xO (by omega)];rfl];simp [bt]
 .rw [if_neg (by omega),if_neg c]
theorem aPm {R D:qi}{f:Nat}(h:(R.drop f).take n=D)(hl:f+n<=R.length):ovr R f D=R:=by
 have hn:D.length=n:=by rw [<- h];simp;omega
 apply List.ext_getElem?;intro p;rw [aGr _ _ _ _ (by omega)];by_cases c:f<=p/\p<f+D.length
 .rw [if_pos c,<- h,List.getElem?_take_of_lt (by omega),List.getElem?_drop];congr 1;omega
 .rw [if_neg c]
def lst (xs:List SlT):Nat->Nat
 | 0=>0
 | i+1=>if (xs.getD i zSl).2.2.2<(xs.getD (lst xs i) zSl).2.2.2 then i else lst xs i
theorem tT (xs:List SlT):∀ i,lst xs i<i\/(i=0/\lst xs i=0)
 | 0=>.inr ⟨rfl,rfl⟩
 | i+1=>by
   unfold lst;split
   .exact .inl (by omega)
   .rcases tT xs i with h|h
    .exact .inl (by omega)
    .exact .inl (by omega)
def slq (xs:List SlT)(m b:Int):Nat:=if hld xs m b=-1 then lst xs xs.length else (hld xs m b).toNat
theorem mN (m b:Int)(h:xs.length≠0):slq xs m b<xs.length:=by
 unfold slq;split
 .rcases tT xs xs.length with q|q
  .exact q
  .omega
 .rcases fZ xs m b with q|q
  .contradiction
  .omega
def Tnz (xs:List SlT):Prop:=∀ i,i<xs.length->((xs.getD i zSl).1=false->(xs.getD i zSl).2.2.2=0)/\((xs.getD i zSl).1=true->1<=(xs.getD i zSl).2.2.2)
theorem aK2 (hv:Tnz xs){j:Nat}(hj:j<xs.length)(hu:(xs.getD j zSl).1=false)(hb:∀ i,i<j->(xs.getD i zSl).1=true):lst xs xs.length=j:=by
 have h0:=(hv j hj).1 hu
 have A:lst xs (j+1)=j:=by
  unfold lst;rcases tT xs j with h|⟨h,h'⟩
  .have:=(hv (lst xs j) (by omega)).2 (hb _ h);rw [if_pos (by omega)]
  .split
   .rfl
   .omega
 have B:∀ k,j+1<=k->k<=xs.length->lst xs k=j:=by
  intro k hk
  induction k with
  | zero=>omega
  | succ k ih=>
    intro hl;by_cases e:k=j
    .subst e;exact A
    .have:=ih (by omega) (by omega);unfold lst;rw [this,if_neg];rw [h0];have q:=hv k (by omega);cases e2:(xs.getD k zSl).1
     .have:=q.1 e2;omega
     .have:=q.2 e2;omega
 exact B _ (by omega) aN
def gJ (C:Cn)(L:Lay)(m b t:Int):Cn:=
 if C.lz.length≠0/\b≠-1 then
  { C with tn:=C.tn+1,lz:=C.lz.set (slq C.lz m b) (true,m,b,C.tn+1),rz:=ovr C.rz (L.slots.getD (slq C.lz m b) 0-65536).toNat (bkb C.ps C.cw m b),md:=m,bk:=b,pc:=dY L (plc C.ps m.toNat) b (slq C.lz m b:Nat)+4*t,kz:=C.kz.set 7 (plc C.ps m.toNat).data }
 else { C with md:=m,bk:=b,pc:=dY L (plc C.ps m.toNat) b (-1)+4*t,kz:=C.kz.set 7 (plc C.ps m.toNat).data }
theorem aMn {L:Lay}{T:Int}{rz:qi}(h:cW ps L cs cw T rz xs):Tnz xs:=fun i hi=>by
 have h0:=(h.2 i hi).1;unfold slk at h0;rcases h0 with h1|h1
 .exact ⟨fun _=>by rw [h1.2];rfl,fun e=>(by rw [h1.1] at e;cases e)⟩
 .exact ⟨fun e=>(by rw [h1.1] at e;cases e),fun _=>h1.2.2.2.1⟩
theorem aN6 (ps:List PMod)(cw m b:Int):(bkb ps cw m b).length=slz cw:=by unfold bkb;rw [fB,List.length_replicate]
theorem aMm {L:Lay}{T:Int}{rz:qi}(h:cW ps L cs cw T rz xs)(hh:hld xs m b≠-1)(hf:(L.slots.getD (slq xs m b) 0-65536).toNat+slz cw<=rz.length):ovr rz (L.slots.getD (slq xs m b) 0-65536).toNat (bkb ps cw m b)=rz:=by
 have key:∀ (ys:List SlT) (i:Nat),fN m b i ys≠-1->∃ k:Nat,fN m b i ys=(i+k:Nat)/\k<ys.length/\usd m b (ys.getD k zSl):=by
  intro ys
  induction ys with
  | nil=>intro i h;exact absurd rfl h
  | cons y ys ih=>
    intro i h;unfold fN at h ⊢;by_cases c:usd m b y
    .rw [if_pos c];exact ⟨0,rfl,by simp,c⟩
    .rw [if_neg c] at h ⊢;obtain ⟨k,e,h1,h2⟩:=ih (i+1) h;exact ⟨k+1,by rw [e];congr 1;omega,by simp;omega,by simpa using h2⟩
 obtain ⟨k,e,h1,h2⟩:=key xs 0 hh
 have e':slq xs m b=k:=by
  unfold slq;rw [if_neg hh];unfold hld;rw [e];omega
 rw [e'] at hf ⊢;obtain ⟨_,_,h5⟩:=h.2 k h1;obtain ⟨u1,u2,u3⟩:=h2;have:=h5 u1;rw [u2,u3] at this;exact aPm this hf
structure Lyb where
 L:Lay
 a0:qO
 c0:Nat
 xs:List PB
 a2:qO
 c2:Nat
 a5:qO
 c5:Nat
 ts:List TB
abbrev Lyb.T (Y:Lyb)(w:qw):Prop:=LyT w Y.L Y.a0 Y.c0 Y.xs Y.a2 Y.c2 Y.a5 Y.c5 Y.ts
theorem Blk.mg {w:qw}{b:Nat}{t:TypeId}{v0 v1 v2 v3 v4 v5 v6 v7 v8 v9 v10 v11 v12 v14 v15 v16 v17 v18 v19 v20 v21 v22 v23:Value}(h:Blk w b #[v0,v1,v2,v3,v4,v5,v6,v7,v8,v9,v10,v11,v12,v13,v14,v15,v16,v17,v18,v19,v20,v21,v22,v23] t):w.cell? (qR b 0)=some v0/\w.cell? (qR b 1)=some v1/\w.cell? (qR b 2)=some v2/\w.cell? (qR b 3)=some v3/\w.cell? (qR b 4)=some v4/\w.cell? (qR b 5)=some v5/\w.cell? (qR b 6)=some v6/\w.cell? (qR b 7)=some v7/\w.cell? (qR b 8)=some v8/\w.cell? (qR b 9)=some v9/\w.cell? (qR b 10)=some v10/\w.cell? (qR b 11)=some v11/\w.cell? (qR b 12)=some v12/\w.cell? (qR b 13)=some v13/\w.cell? (qR b 14)=some v14/\w.cell? (qR b 15)=some v15/\w.cell? (qR b 16)=some v16/\w.cell? (qR b 17)=some v17/\w.cell? (qR b 18)=some v18/\w.cell? (qR b 19)=some v19/\w.cell? (qR b 20)=some v20/\w.cell? (qR b 21)=some v21/\w.cell? (qR b 22)=some v22/\w.cell? (qR b 23)=some v23:=⟨h.cell 0,h.cell 1,h.cell 2,h.cell 3,h.cell 4,h.cell 5,h.cell 6,h.cell 7,h.cell 8,h.cell 9,h.cell 10,h.cell 11,h.cell 12,h.cell 13,h.cell 14,h.cell 15,h.cell 16,h.cell 17,h.cell 18,h.cell 19,h.cell 20,h.cell 21,h.cell 22,h.cell 23⟩
structure Mg (w1 W:qw)(G:Nat)(Y:Lyb)(C:Cn)(M:Mn)(v13 vr:Value):Prop where
 b:qY w1 W
 g:w1.heap.size<=G
 k:Blk W G #[qS M.ma M.mn M.mc,qI M.cs,qI M.cw,qI M.ck,qI M.cd,qI M.pc,qS M.ka M.kn M.kc,qS M.fa M.fn M.fc,qS M.ra M.rn M.rc,qS M.oa M.on M.oc,qI M.md,qI M.bk,qS M.la M.ln M.lc,v13,qI M.tn,qS Y.a0 Y.xs.length Y.c0,qI Y.L.stack,qS Y.a2 Y.L.slots.length Y.c2,qI Y.L.flash,qI Y.L.ram,qS Y.a5 Y.ts.length Y.c5,qI M.cd,qS M.ha M.hn M.hc,vr] 110
 m:∃ base mid Ls β,MxO W base mid C M Ls β/\w1.heap.size<=base/\mid<=G
 l:Y.T w1
theorem Mg.bw {w1 W W':qw}{Y:Lyb}(h:Mg w1 W G Y C M v13 vr)(hb:qY W W'):Mg w1 W' G Y C M v13 vr:=by
 obtain ⟨base,mid,Ls,β,m,hm⟩:=h.m;exact ⟨h.b.trans (hb.mono h.b.size),h.g,h.k.bw hb,⟨base,mid,Ls,β,m.bw hb,hm⟩,h.l⟩
theorem Mg.ly {w1 W:qw}{Y:Lyb}(h:Mg w1 W G Y C M v13 vr):Y.T W:=h.l.bw h.b
theorem Mg.vs {w1 W:qw}{Y:Lyb}(h:Mg w1 W G Y C M v13 vr):(M.cs=C.cs/\M.cw=C.cw/\M.ck=C.ck/\M.cd=C.cd/\M.pc=C.pc/\M.md=C.md/\M.bk=C.bk/\M.tn=C.tn)/\aE M.ms=C.ps/\M.lz=C.lz:=by
 obtain ⟨base,mid,Ls,β,m,hm⟩:=h.m;exact ⟨m.vs,by rw [m.vz.1,m.m.pms,m.e],m.vz.2.2.2.2.2.1⟩
theorem Mg.mnd {w1 W:qw}{Y:Lyb}(h:Mg w1 W G Y C M v13 vr)(hn:C.ps.length<=4):MnD W M:=by
 have e:=h.vs.2.1;obtain ⟨base,mid,Ls,β,m,hm⟩:=h.m;refine m.mnd ?_;have h1:=m.len;have h2:=congrArg List.length m.e;rw [xH] at h2;omega
theorem yO (w1:qw)(G:Nat)(Y:Lyb)(C:Cn)(M:Mn)(v13 vr:Value)(w:qw)(h:Mg w1 w G Y C M v13 vr):qC 162 #[.pointer (qP G)] w (qB w (.agg (qT M.md M.bk 0))):=by
 obtain ⟨V,hV⟩:=eqx (w.alloc (.cells (qT 0 0 0) 58));have bV:qY w V:=by rw [hV];exact bal
 have k10:=(h.k.bw bV).e10;have k11:=(h.k.bw bV).e11;have kV:Blk V w.heap.size (qT 0 0 0) 58:=by rw [hV];exact Blk.new _ _ _
 obtain ⟨r0,r1,r2,rf⟩:=kV.three;have HV:=zh hV;have hg:G<w.heap.size:=h.k.lt;have hn1:¬ G=w.heap.size:=by omega
 have hn2:¬ w.heap.size=G:=by omega
 have HE:Zh (qY w (((V.setCell (qR w.heap.size 0) (qI M.md)).setCell (qR w.heap.size 1) (qI M.bk)).setCell (qR w.heap.size 2) (qI 0))):=((bV.setCell (by dsimp only;omega) _).setCell (by dsimp only;omega) _).setCell (by dsimp only;omega) _;clear hV bV kV h;go_enter func162,ntmps162
 go_wp2_with (rw [<- HV.o])
 go_region_held3 (fun w'=>w'.cell? (qR G 10)=some (qI M.md)/\w'.cell? (qR G 11)=some (qI M.bk)) (go_keep) (fail)
 all_goals
  go_wp2;exact bodyPost_ret (v:=.agg (qT M.md M.bk 0)) (by simp [results,results162,go_sem,r0,r1,r2]) rfl ⟨rfl,HE.o.drew⟩
theorem sH (w1:qw)(G:Nat)(Y:Lyb)(C:Cn)(M:Mn)(v13 vr:Value)(w:qw)(h:Mg w1 w G Y C M v13 vr):qC 131 #[.pointer (qP G)] w (qB w (qI (hld C.lz M.md M.bk))):=by
 have k10:=h.k.e10;have k11:=h.k.e11;have k12:=h.k.e12
 have HS:=zh (fun (X:qw) (hX:qY w X)=>(jB M.la M.ln M.lc C.lz M.md M.bk X (by
  obtain ⟨base,mid,Ls,β,m,_⟩:=h.m
  exact (tB bO m.l).bw hX)).mono (fun e w' he=>show e=.returned (qI (hld C.lz M.md M.bk))/\qY w w' from ⟨he.1,hX.trans (he.2.mono hX.size)⟩))
 generalize hld C.lz M.md M.bk=r at *;clear h;go_enter func131,ntmps131
 go_wp2_with fail
 go_region_held3 (fun w'=>w'.cell? (qR G 10)=some (qI M.md)/\w'.cell? (qR G 11)=some (qI M.bk)/\w'.cell? (qR G 12)=some (qS M.la M.ln M.lc)) (go_keep)
  (first
    | (go_at_call 176;first
        | with_reducible refine (HS.o _ brf).mono ?_
        | with_reducible refine (HS.o _ brf.drew).mono ?_
       rintro e w2 ⟨rfl,hb2⟩;have z10:=aB hb2 k10;have z11:=aB hb2 k11;have z12:=aB hb2 k12;have HB:=zh hb2
       clear hb2))
 all_goals
  go_wp2;go_ret;exact ⟨rfl,HB.o⟩
theorem wZ (w1:qw)(G:Nat)(Y:Lyb)(C:Cn)(M:Mn)(v13 vr:Value)(m b t:Int)(w:qw)(h:Mg w1 w G Y C M v13 vr)(hn:C.ps.length<=4):qC 64 #[.pointer (qP G),.agg (qT m b t)] w (qB w (.bool (decide (C.tn<1000000000/\tgk C.ps m b t)))):=by
 obtain ⟨V,hV,bV,kV⟩:=nwb w (qT m b t) 58;have k0:=(h.k.bw bV).e0;have k14:=(h.k.bw bV).e14;obtain ⟨r0,r1,r2,_⟩:=kV.three;have e1:=h.vs.1.2.2.2.2.2.2.2;have e2:=h.vs.2.1;have HS:=zh (fun (X:qw) (hX:qY V X)=>(jA M.ma M.mn M.mc M.ms m b t X (((h.mnd hn).m.bw bV).bw hX)).mono (fun e w' he=>show e=.returned (.bool (decide (tgk C.ps m b t)))/\qY V w' from ⟨by rw [he.1,e2],hX.trans (he.2.mono hX.size)⟩));rw [<- e1];have HV:=zh hV;have HB:=zh bV;obtain ⟨r,hr⟩:=eqx (decide (M.tn<1000000000/\tgk C.ps m b t));rw [<- hr];by_cases c1:M.tn<1000000000
 .have HR:=zh (show r=decide (tgk C.ps m b t) by rw [hr];simp [c1]);generalize decide (tgk C.ps m b t)=q at *;clear h hV bV kV e1 e2 hr;go_enter func64,ntmps64
  go_wp2_with (rw [<- HV.o])
  go_region_held3 (fun w'=>w'.cell? (qR G 0)=some (qS M.ma M.mn M.mc)/\w'.cell? (qR G 14)=some (qI M.tn)/\w'.cell? (qR w.heap.size 0)=some (qI m)/\w'.cell? (qR w.heap.size 1)=some (qI b)/\w'.cell? (qR w.heap.size 2)=some (qI t)) (go_keep)
   (first
     | (go_at_call 126;first
         | with_reducible refine (HS.o _ brf).mono ?_
         | with_reducible refine (HS.o _ brf.drew).mono ?_
        rintro e w2 ⟨rfl,hb2⟩;have z0:=aB hb2 k0;have z14:=aB hb2 k14;have y0:=aB hb2 r0;have y1:=aB hb2 r1;have y2:=aB hb2 r2;have HB2:=zh hb2
        clear hb2))
  all_goals
   go_wp2;go_ret;exact ⟨aA HR.o.symm,HB.o.trans (HB2.o.mono HB.o.size)⟩
 .have HR:=zh (show r=false by rw [hr];simp [c1]);have c2:decide (M.tn<1000000000)=false:=by simp [c1]
  have c3:(M.tn<1000000000)=False:=by simp [c1]
  clear h hV bV kV e1 e2 hr;go_enter func64,ntmps64
  go_wp2_with (rw [<- HV.o])
  refine wp_region_held_drew (S:=(fun w'=>w'.cell? (qR G 14)=some (qI M.tn))) (by kernel_rfl) ?_ (fun hHeld=>?_)
  .go_keep
  refine tkV 0 ?_ rfl ?_ ?_;rotate_left
  ·(intro w hSw;(try dsimp only at hSw);go_simp;try with_reducible rfl)
  try simp only [yD,yE,yF,Act.put,yA,yB,yC]
  refine tkV 1 ?_ rfl ?_ ?_;rotate_left
  ·(intro w hSw;(try dsimp only at hSw);go_simp;try with_reducible rfl)
  try simp only [yD,yE,yF,Act.put,yA,yB,yC]
  refine tkV 2 ?_ rfl ?_ ?_;rotate_left
  ·(intro w hSw;(try dsimp only at hSw);go_simp;try with_reducible rfl)
  try simp only [yD,yE,yF,Act.put,yA,yB,yC]
  refine tkV 3 ?_ rfl ?_ ?_;rotate_left
  ·(intro w hSw;(try dsimp only at hSw);go_simp;try with_reducible rfl)
  try simp only [yD,yE,yF,Act.put,yA,yB,yC]
  refine tkV 4 ?_ rfl ?_ ?_;rotate_left
  ·(intro w hSw;(try dsimp only at hSw);go_simp;try with_reducible rfl)
  try simp only [yD,yE,yF,Act.put,yA,yB,yC]
  refine tkV 5 ?_ rfl ?_ ?_;rotate_left
  ·(intro w hSw;(try dsimp only at hSw);go_simp;try with_reducible rfl)
  try simp only [yD,yE,yF,Act.put,yA,yB,yC]
  refine tkV 6 ?_ rfl ?_ ?_;rotate_left
  ·(intro w hSw;(try dsimp only at hSw);go_simp;try with_reducible rfl)
  try simp only [yD,yE,yF,Act.put,yA,yB,yC]
  refine tkS 7 rfl ?_;try simp only [yD,yE,yF,Act.put,yA,yB,yC]
  refine tkS 8 rfl ?_;try simp only [yD,yE,yF,Act.put,yA,yB,yC]
  refine tkS 9 rfl ?_;try simp only [yD,yE,yF,Act.put,yA,yB,yC]
  refine tkS 10 rfl ?_;try simp only [yD,yE,yF,Act.put,yA,yB,yC]
  refine tkS 11 rfl ?_;try simp only [yD,yE,yF,Act.put,yA,yB,yC]
  refine tkS 12 rfl ?_;try simp only [yD,yE,yF,Act.put,yA,yB,yC]
  refine tkS 13 rfl ?_;try simp only [yD,yE,yF,Act.put,yA,yB,yC]
  refine tkV 14 ?_ rfl ?_ ?_;rotate_left
  ·(intro w hSw;(try dsimp only at hSw);go_simp;try with_reducible rfl)
  try simp only [yD,yE,yF,Act.put,yA,yB,yC]
  refine tkV 15 ?_ rfl ?_ ?_;rotate_left
  ·(intro w hSw;(try dsimp only at hSw);go_simp;try with_reducible rfl)
  try simp only [yD,yE,yF,Act.put,yA,yB,yC]
  refine wpAnyH_done (by kernel_rfl) ?_ _;go_wp2;go_ret;exact ⟨aA HR.o.symm,by first|exact HB.o.drew|exact HB.o⟩
