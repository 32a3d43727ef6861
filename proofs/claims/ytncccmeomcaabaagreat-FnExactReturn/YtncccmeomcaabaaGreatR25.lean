import Derived.Test.YtncccmeomcaabaaGreatR24
set_option linter.all false
set_option maxHeartbeats 8000000
namespace Go.Proofs.YtncccmeomcaabaaGreat
open Go.RowKit Classical
open Go.Proofs.Tryz
set_option maxRecDepth 100000
variable {b c d k m s:Int}{ps:List PMod}
theorem aP8 {S F:Nat->World->Prop}{G:Prop}(main:(∀ g W,F g W->S g W)->G)(pf:∀ g W,F g W->S g W):G:=main pf
def wdS (L:Lay):Int:=if 4<L.slots.length then 1 else cfW L
theorem aMj (ps:List PMod)(L:Lay):Lok ps L ↔ (lkc ps (L.slots.length:Int) (wdS L) (cfK L) 0=0/\lkL ps (L.slots.length:Int) (wdS L) (cfK L) 0=L):=by
 unfold wdS;by_cases h:4<L.slots.length
 .rw [if_pos h]
  have key:∀ wd:Int,lkc ps (L.slots.length:Int) wd (cfK L) 0≠0:=fun wd e=>by
   have hc:=(fY e).1;unfold cfo at hc;simp at hc;omega
  constructor
  .intro e;exact absurd e.1 (key _)
  .intro e;exact absurd e.1 (key _)
 .rw [if_neg h];rfl
theorem tD (a:qO)(n0 cap:Nat)(ms:List Md)(L:Lay)(a0:qO)(c0:Nat)(xs:List PB)(a2:qO)(c2:Nat)(a5:qO)(c5:Nat)(ts:List TB)(w:qw)(h:MSD w a n0 cap ms)(hL:LyT w L a0 c0 xs a2 c2 a5 c5 ts):
 qC 142 #[qS a n0 cap,.agg (qL L a0 xs.length c0 a2 L.slots.length c2 a5 ts.length c5)] w fun e w'=>e=.returned (.bool (decide (Lok (aE ms) L)))/\qY w w':=by
 have hmx:=hL.s.2.1;unfold maxLen at hmx;obtain ⟨r,hr⟩:=eqx (decide (Lok (aE ms) L));rw [<- hr];replace hr:r=true ↔ Lok (aE ms) L:=by rw [hr];simp
 rw [aMj] at hr;have HLB:=zh (qQ (aE ms) (L.slots.length:Int) (wdS L) (cfK L) 0);have HLV:=zh (aF5 (aE ms) (L.slots.length:Int) (wdS L) (cfK L) 0)
 have HSP:=zh (fun (W:qw) (hb:qY w W)=>by
  have:=wE a n0 cap ms (L.slots.length:Int) (wdS L) (cfK L) 0 W (h.bw hb);unfold LkM mF at this
  exact this)
 generalize lkL (aE ms) (L.slots.length:Int) (wdS L) (cfK L) 0=LY at *;generalize lkc (aE ms) (L.slots.length:Int) (wdS L) (cfK L) 0=C at *;have HR:=zh hr;have HEN:=zh (fun (W:qw) (hb:qY w W)=>tE L a0 c0 xs a2 c2 a5 c5 ts W (hL.bw hb));have HSL:=zh (fun (LY:Lay) (b0:qO) (d0:Nat) (ys:List PB) (b2:qO) (d2:Nat) (b5:qO) (d5:Nat) (us:List TB) (W:qw) (o:LyT W LY b0 d0 ys b2 d2 b5 d5 us) (hb:qY w W)=>uI LY b0 d0 ys b2 d2 b5 d5 us L a0 c0 xs a2 c2 a5 c5 ts W o (hL.bw hb));have HWK:=zh (show IntKind.i64.wrap (cZ L-L.stack)=cfK L from xP _);have HWD:=zh (show wdS L=if 4<L.slots.length then 1 else cfW L from rfl);have HCW:=zh (show cfW L=if L.slots=[] then 1 else wrap64 ((cfQ L).tdiv 4) from rfl);have HCQ:=zh (show cfQ L=wrap64 ((wrap64 (wrap64 (65536+L.ram)-L.slots.getD 0 0)).tdiv (L.slots.length:Int)) from rfl);have HS:=zh hL.s;have HNE:=zh (show L.slots=[] ↔ L.slots.length=0 from List.length_eq_zero_iff.symm);have hC0:C=C:=rfl;clear h hL hr hC0;generalize cfK L=K at *;generalize wdS L=wd at *;generalize cZ L=E at *;generalize L.slots.length=n at *;have B0:qY w (w.alloc (.cells (qL L a0 xs.length c0 a2 n c2 a5 ts.length c5) 71)):=brf.alloc aN _;have k0:=Blk.new w (qL L a0 xs.length c0 a2 n c2 a5 ts.length c5) 71;go_enter func142,ntmps142
 go_wp2_with fail
 generalize w.alloc (.cells (qL L a0 xs.length c0 a2 n c2 a5 ts.length c5) 71)=W0 at *;have hw0:w.heap.size<W0.heap.size:=k0.lt;obtain ⟨x0,x1,x2,x3,x4,x5⟩:=k0.ly6;have HK0:=zh (xA B0 k0);have HEZ:=zh (fun (zc:Array Value) (t:TypeId) (X:qw) (o:Option Nat) (hz:Zb zc t W0 X o)=>(HEN.o X (HK0.o.1.trans (hz.1.mono HK0.o.1.size))).mono (fun e w' he=>show e=.returned (qI E)/\Zb zc t W0 w' o from ⟨he.1,hz.bw he.2⟩));have HCL:=zh (fun (W:qw) (hb:qY W0 W)=>(HK0.o.2.bw hb).ly6);have HY0:=zh (aN1 (qW 0 0 0 0) 37 W0);have HFB:=zh (fun (X:qw) (hz:Zb (qW 0 0 0 0) 37 W0 X none)=>show qY W0 (X.alloc (.cells (qW n 1 K 0) 37))/\Blk (X.alloc (.cells (qW n 1 K 0) 37)) X.heap.size (qW n 1 K 0) 37/\W0.heap.size<=X.heap.size from ⟨hz.1.alloc hz.1.size _,Blk.new _ _ _,hz.1.size⟩)
 have HFA:=zh (fun (X:qw) (g:Nat) (hz:Zb (qW 0 0 0 0) 37 W0 X (some g))=>show qY W0 ((((X.setCell ⟨g,0,none⟩ (qI n)).setCell ⟨g,1,none⟩ (qI 1)).setCell ⟨g,2,none⟩ (qI K)).setCell ⟨g,3,none⟩ (qI 0))/\Blk ((((X.setCell ⟨g,0,none⟩ (qI n)).setCell ⟨g,1,none⟩ (qI 1)).setCell ⟨g,2,none⟩ (qI K)).setCell ⟨g,3,none⟩ (qI 0)) g (qW n 1 K 0) 37/\W0.heap.size<=g from by
  obtain ⟨hg,hk⟩:=hz.2 g rfl;have T:Turn (fun j=>j=g) X ((((X.setCell ⟨g,0,none⟩ (qI n)).setCell ⟨g,1,none⟩ (qI 1)).setCell ⟨g,2,none⟩ (qI K)).setCell ⟨g,3,none⟩ (qI 0)):=(((aC _ _ _ _).trans (aC _ _ _ _)).trans (aC _ _ _ _)).trans (aC _ _ _ _);have kz:=(((hk.set 0 (qI n)).set 1 (qI 1)).set 2 (qI K)).set 3 (qI 0);simp only [yA,yB,yC] at kz
  exact ⟨aG hz.1 T (fun k e=>by omega) hz.1.size,kz,hg⟩)
 clear B0 k0;apply aP8 (F:=fun gc W=>qY W0 W/\Blk W gc (qW n 1 K 0) 37/\W0.heap.size<=gc)
 .intro REST0;have REST:=zh REST0;clear REST0
  go_region_held3 (fun w'=>w'.cell? ⟨w.heap.size,0,none⟩=some (qS a0 xs.length c0)/\w'.cell? ⟨w.heap.size,1,none⟩=some (qI L.stack)/\w'.cell? ⟨w.heap.size,2,none⟩=some (qS a2 n c2)/\w'.cell? ⟨w.heap.size,3,none⟩=some (qI L.flash)/\w'.cell? ⟨w.heap.size,4,none⟩=some (qI L.ram)/\w'.cell? ⟨w.heap.size,5,none⟩=some (qS a5 ts.length c5)) (go_keep)
   (first
     | (go_at_call 60;first
         | with_reducible refine (HEZ.o _ _ _ none HY0.o).mono ?_
         | with_reducible refine (HEZ.o _ _ _ none HY0.o.drew).mono ?_
         | with_reducible refine (HEZ.o _ _ _ _ HY0.o.box).mono ?_
         | with_reducible refine (HEZ.o _ _ _ _ HY0.o.drew.box).mono ?_
         | with_reducible refine (HEZ.o _ _ _ _ HY0.o.box.drew).mono ?_
        rintro e w1 ⟨rfl,hY1⟩;have HY1:=zh hY1;clear hY1;obtain ⟨d0,d1,d2,d3,d4,d5⟩:=HCL.o w1 HY1.o.1;have hwr:=HWK.o
        first
         | (have kz:=(HY1.o.2 _ rfl).2
            have z0:=kz.cell 0;have z1:=kz.cell 1;have z2:=kz.cell 2;have z3:=kz.cell 3;simp only [List.getElem?_toArray,List.getElem?_cons_zero,List.getElem?_cons_succ] at z0 z1 z2 z3;have zf:=kz.frozen;have hne:=Nat.ne_of_lt (Nat.lt_of_lt_of_le hw0 (HY1.o.2 _ rfl).1);have hne':=hne.symm
            clear kz)
         | skip))
  all_goals try simp only [HWK.o]
  .have HF:=zh (HFB.o _ HY1.o);generalize w1.alloc (.cells (qW n 1 K 0) 37)=W' at HF ⊢;generalize w1.heap.size=gc at HF ⊢;exact REST.o gc W' HF.o
  all_goals exact REST.o _ _ (HFA.o _ _ HY1.o)
 .rintro gc W ⟨hb,kc,hg⟩;show Exit.then _ _ _ _ _
  have B1:=HK0.o.1.trans (hb.mono HK0.o.1.size);have k1:=HK0.o.2.bw hb;obtain ⟨d0,d1,d2,d3,d4,d5⟩:=k1.ly6;have hne:=Nat.ne_of_lt (Nat.lt_of_lt_of_le hw0 hg);clear hb x0 x1 x2 x3 x4 x5 HK0 HEZ HCL HY0 HFA HFB HEN HWK;by_cases hB:0<n/\n<=4
  .obtain ⟨hn0,hn4⟩:=hB;have hn0':(0:Int)<(n:Int):=by omega
   have hn4':(n:Int)<=4:=by omega
   have he:((n:Int)==0)=false:=by simp;omega
   have hnz:¬ ((n:Int)=0):=by omega
   have hnn:¬ (n=0):=by omega
   obtain ⟨b,off,rfl,hc⟩:=HS.o.2.2.2.1 (by omega);have q0:=hc 0 hn0;rw [Nat.add_zero] at q0
   have nb:b≠gc:=by
    have h2:=xD _ _ q0;dsimp only at h2;omega
   have q:=aB B1 q0;clear q0;have HVW:=zh (show wrap64 ((wrap64 ((wrap64 (wrap64 (65536+L.ram)-L.slots.getD 0 0)).tdiv (n:Int))).tdiv 4)=wd by rw [HWD.o,if_neg (by omega),HCW.o,if_neg (by rw [HNE.o];omega),HCQ.o]);generalize L.slots.getD 0 0=z at *;have y0:W.cell? ⟨gc,1,none⟩=some (qI 1):=kc.cell 1;have yf:=kc.frozen;have nb':=nb.symm;have hne':=hne.symm;clear hc;have hgw:=zh (show w.heap.size<=gc by omega);have HX:=zh (xA B1 (xA k1 kc));clear B1 k1 kc hw0 hg;go_wp2
   go_region_held3 (fun w'=>w'.cell? ⟨w.heap.size,4,none⟩=some (qI L.ram)/\w'.cell? ⟨w.heap.size,2,none⟩=some (qS (some ⟨b,off,none⟩) n c2)/\w'.cell? ⟨b,off,none⟩=some (qI z)) (go_keep) (fail)
   simp only [xP];rw [HVW.o];obtain ⟨B1,k1,kc⟩:=HX.o;have T:Turn (fun j=>j=gc) W (W.setCell ⟨gc,1,none⟩ (qI wd)):=aC _ _ _ _;have B5:=(aG B1 T (fun k e=>by have:=hgw.o;omega) B1.size).drew;have k5':=aF T k1 (fun e=>hne e);have k5:Blk ((W.setCell ⟨gc,1,none⟩ (qI wd)).drew) w.heap.size _ _:=k5';have kc5:Blk ((W.setCell ⟨gc,1,none⟩ (qI wd)).drew) gc _ _:=kc.set 1 (qI wd);simp only [yA,yB,yC] at kc5;generalize (W.setCell ⟨gc,1,none⟩ (qI wd)).drew=W5 at *;clear T B1 k1 kc k5' HX q d0 d1 d2 d3 d4 d5 y0 yf nb nb';obtain ⟨d0,d1,d2,d3,d4,d5⟩:=k5.ly6;obtain ⟨y0,y1,y2,y3⟩:=kc5.z4;go_wp2_with fail
   refine (HSP.o _ B5).mono ?_;rintro e w2 ⟨hb2,b0,d0,ys,b2,d2,b5,d5,us,rfl,O2⟩;have hA:qY w2 (w2.alloc (.cells (qL LY b0 ys.length d0 b2 LY.slots.length d2 b5 us.length d5) 71)):=brf.alloc aN _;have kt:=Blk.new w2 (qL LY b0 ys.length d0 b2 LY.slots.length d2 b5 us.length d5) 71;have B2:=B5.trans (hb2.mono B5.size);have B3:=B2.trans (hA.mono B2.size);have k3:=(k5.bw hb2).bw hA;have O3:=O2.below' hA;have HSM:=zh (HSL.o LY b0 d0 ys b2 d2 b5 d5 us _ (O3.lyt HLB.o.r HLV.o) B3);have HB3:=zh B3;obtain ⟨p0,p1,p2,p3,p4,p5⟩:=k3.ly6;obtain ⟨q0,q1,q2,q3,q4,q5⟩:=kt.ly6;clear hb2 O2 O3 hA B2 B3 k3 kt y0 y1 y2 y3;by_cases hC:C=0
   .have g:(C==0)=true:=by simpa using hC
    have HV:=zh (show decide (LY=L)=r by rw [xJ,HR.o];simp [hC]);rw [HV.o] at HSM;clear hC HR;go_wp2_with fail
    refine HSM.o.mono ?_;rintro e w4 ⟨rfl,hb4⟩;have HB4:=zh (HB3.o.trans (hb4.mono HB3.o.size));clear hb4;cases r
    all_goals
     go_wp2;go_ret;exact ⟨rfl,HB4.o⟩
   .have g:(C==0)=false:=by simpa using hC
    have HV:=zh (show r=false by cases r;rfl;exact absurd (HR.o.1 rfl).1 hC);clear hC HR;go_wp2;go_ret;exact ⟨aA HV.o.symm,HB3.o⟩
  .have HVW:=zh (show (1:Int)=wd by
    rw [HWD.o];by_cases h4:4<n
    .rw [if_pos h4]
    .rw [if_neg h4,HCW.o,if_pos (by rw [HNE.o];omega)])
   have g1:0<n->¬ ((n:Int)<=4):=fun h=>by omega
   rw [HVW.o] at kc;by_cases hn0:0<n
   .have hn0':(0:Int)<(n:Int):=by omega
    have hn4':¬ ((n:Int)<=4):=by omega
    clear g1;obtain ⟨y0,y1,y2,y3⟩:=kc.z4;go_wp2_with fail
    refine (HSP.o _ B1).mono ?_;rintro e w2 ⟨hb2,b0,d0,ys,b2,d2,b5,d5,us,rfl,O2⟩;have hA:qY w2 (w2.alloc (.cells (qL LY b0 ys.length d0 b2 LY.slots.length d2 b5 us.length d5) 71)):=brf.alloc aN _;have kt:=Blk.new w2 (qL LY b0 ys.length d0 b2 LY.slots.length d2 b5 us.length d5) 71;have B2:=B1.trans (hb2.mono B1.size);have B3:=B2.trans (hA.mono B2.size);have k3:=(k1.bw hb2).bw hA;have O3:=O2.below' hA;have HSM:=zh (HSL.o LY b0 d0 ys b2 d2 b5 d5 us _ (O3.lyt HLB.o.r HLV.o) B3);have HB3:=zh B3;obtain ⟨p0,p1,p2,p3,p4,p5⟩:=k3.ly6;obtain ⟨q0,q1,q2,q3,q4,q5⟩:=kt.ly6;clear hb2 O2 O3 hA B2 B3 k3 kt y0 y1 y2 y3;by_cases hC:C=0
    .have g:(C==0)=true:=by simpa using hC
     have HV:=zh (show decide (LY=L)=r by rw [xJ,HR.o];simp [hC]);rw [HV.o] at HSM;clear hC HR;go_wp2_with fail
     refine HSM.o.mono ?_;rintro e w4 ⟨rfl,hb4⟩;have HB4:=zh (HB3.o.trans (hb4.mono HB3.o.size));clear hb4;cases r
     all_goals
      go_wp2;go_ret;exact ⟨rfl,HB4.o⟩
    .have g:(C==0)=false:=by simpa using hC
     have HV:=zh (show r=false by cases r;rfl;exact absurd (HR.o.1 rfl).1 hC);clear hC HR;go_wp2;go_ret;exact ⟨aA HV.o.symm,HB3.o⟩
   .have hn0':¬ ((0:Int)<(n:Int)):=by omega
    clear g1;obtain ⟨y0,y1,y2,y3⟩:=kc.z4;go_wp2_with fail
    refine (HSP.o _ B1).mono ?_;rintro e w2 ⟨hb2,b0,d0,ys,b2,d2,b5,d5,us,rfl,O2⟩;have hA:qY w2 (w2.alloc (.cells (qL LY b0 ys.length d0 b2 LY.slots.length d2 b5 us.length d5) 71)):=brf.alloc aN _;have kt:=Blk.new w2 (qL LY b0 ys.length d0 b2 LY.slots.length d2 b5 us.length d5) 71;have B2:=B1.trans (hb2.mono B1.size);have B3:=B2.trans (hA.mono B2.size);have k3:=(k1.bw hb2).bw hA;have O3:=O2.below' hA;have HSM:=zh (HSL.o LY b0 d0 ys b2 d2 b5 d5 us _ (O3.lyt HLB.o.r HLV.o) B3);have HB3:=zh B3;obtain ⟨p0,p1,p2,p3,p4,p5⟩:=k3.ly6;obtain ⟨q0,q1,q2,q3,q4,q5⟩:=kt.ly6;clear hb2 O2 O3 hA B2 B3 k3 kt y0 y1 y2 y3;by_cases hC:C=0
    .have g:(C==0)=true:=by simpa using hC
     have HV:=zh (show decide (LY=L)=r by rw [xJ,HR.o];simp [hC]);rw [HV.o] at HSM;clear hC HR;go_wp2_with fail
     refine HSM.o.mono ?_;rintro e w4 ⟨rfl,hb4⟩;have HB4:=zh (HB3.o.trans (hb4.mono HB3.o.size));clear hb4;cases r
     all_goals
      go_wp2;go_ret;exact ⟨rfl,HB4.o⟩
    .have g:(C==0)=false:=by simpa using hC
     have HV:=zh (show r=false by cases r;rfl;exact absurd (HR.o.1 rfl).1 hC);clear hC HR;go_wp2;go_ret;exact ⟨aA HV.o.symm,HB3.o⟩
theorem fH (h0:1<=c)(h1:c<=64):((slz c:Nat):Int)=rnd (4*c)/\slz c<=256/\4*c<=(slz c:Int):=by
 have:=aR (x:=4*c);have e:rnd (4*c)=(4*c+31)/32*32:=rfl;unfold slz;omega
theorem aBa (h:lkc ps s c k d=0)(hs:0<s)(hp:0<=pcq ps m b)(hb:0<=b):4*(bnk ps m b).length<=slz c/\∀ i,i<(bnk ps m b).length->0<=(bnk ps m b).getD i 0/\(bnk ps m b).getD i 0<=4294967295:=by
 obtain ⟨h1,h2,h3,h4,h5,h6,h7,h8,h9⟩:=fU.1 h;unfold cfo at h1;simp at h1;obtain ⟨s0,s1,w0,w1,_⟩:=h1;obtain ⟨z1,z2,z3⟩:=fH w0 w1;unfold pcq at hp;by_cases c1:0<=m/\m<(ps.length:Int)
 .rw [if_pos c1,if_neg (by omega)] at hp;by_cases c2:0<=b/\b<((ps.getD m.toNat zP).bl.length:Int)
  .have hv:=aDh (h4 m.toNat (by omega));have hsh:=h7 hs m.toNat (by omega) b.toNat (by omega);exact ⟨by unfold bnk;omega,hv.2 b.toNat (by omega)⟩
  .rw [if_neg c2] at hp;exact absurd hp (by decide)
 .rw [if_neg c1] at hp;exact absurd hp (by decide)
theorem aGl {w:qw}{a:qO}{n cap:Nat}{ms:List Md}(h:MSD w a n cap ms)(hp:0<=pcq (aE ms) m b)(hb:0<=b):∃ gm om gb ob dn dc ba bc,a=some (qR gm om)/\(0<=m/\m<(n:Int))/\b<((dn:Nat):Int)/\dn<=9223372036854775807/\(∀ X,qY w X->X.cell? (qR gm (om+m.toNat*8+2))=some (qS (some (qR gb ob)) dn dc)/\X.cell? (qR gb (ob+b.toNat))=some (.slice ba (bnk (aE ms) m b).length bc))/\IS w ba (bnk (aE ms) m b).length bc (bnk (aE ms) m b):=by
 obtain ⟨⟨h0,h1⟩,hq⟩:=nT h hp;obtain ⟨gm,om,rfl,v0,v1,v2,v3,v4,v5,v6,v7⟩:=h.s.at m.toNat (by omega);have hd:=h.d m.toNat (by omega);have hn:=h.s.1;have hbn:bnk (aE ms) m b=((ms.getD m.toNat aK).pm.bl).getD b.toNat []:=by unfold bnk;rw [cG]
 generalize ms.getD m.toNat aK=D at *
 have hlt:b<(D.bn:Int):=by
  unfold pcn at hq;rw [if_neg (by omega)] at hq;by_cases c:0<=b/\b<(D.bn:Int)
  .exact c.2
  .rw [if_neg c] at hq;omega
 obtain ⟨b1,b2,b3,b4,b5⟩:=hd.b;obtain ⟨gb,ob,hba,hc⟩:=b3 (by omega);have r:=b4 b.toNat (by omega);have ec:=hc b.toNat (by omega)
 have e1:bnk (aE ms) m b=(D.bl.getD b.toNat zB).2.2.2:=by
  rw [hbn];simp [Md.pm,xB,show b.toNat<D.bl.length by omega]
 rw [<- e1] at r;rw [hba] at v2;have e2:=r.1;rw [<- e2] at r ec;unfold maxLen at b2;exact ⟨gm,om,gb,ob,D.bn,D.bc,_,_,rfl,⟨h0,h1⟩,hlt,by omega,fun X hX=>⟨aB hX v2,aB hX ec⟩,r⟩
theorem iU (s c k d:Int)(w:qw)(h0:1<=c)(h1:c<=64):
 qC 202 #[.agg (qW s c k d)] w (qB w (qI (slz c:Nat))):=by
 have HR:=zh (fun (X:qw)=>gP (4*c) X);rw [<- (fH h0 h1).1] at HR;have HB:=zh ((Below.refl w.heap.size w).alloc aN (.cells (qW s c k d) 37));go_enter func202,ntmps202
 go_wp2_with (go_at_call 212;refine (HR.o _).mono ?_;rintro e w1 ⟨rfl,rfl⟩)
 go_ret;exact ⟨rfl,HB.o⟩
def BkB (w:qw)(ps:List PMod)(c m b:Int)(e:Ending)(w':qw):Prop:=∃ g,e=.returned (qS (qP g) (slz c) (slz c))/\OB w' w.heap.size (qS (qP g) (slz c) (slz c)) (bkb ps c m b)/\qY w w'
theorem jK (M:Mn)(x0:Bool)(x1 x2 x3:Int)(w:qw)(h:MnD w M)(hk:lkc (aE M.ms) M.cs M.cw M.ck M.cd=0)(hs:0<M.cs)(hp:0<=pcq (aE M.ms) x1 x2)(hb:0<=x2):
 qC 118 #[.agg (qA M),.agg #[.bool x0,qI x1,qI x2,qI x3]] w (BkB w (aE M.ms) M.cw x1 x2):=by
 obtain ⟨w0,w1⟩:1<=M.cw/\M.cw<=64:=by
  have h1:=(fU.1 hk).1;unfold cfo at h1;simp at h1;exact ⟨h1.2.2.1,h1.2.2.2.1⟩
 obtain ⟨f1,f2⟩:=aBa hk hs hp hb;obtain ⟨z1,z2,z3⟩:=fH w0 w1;obtain ⟨U,hU,bU,kU⟩:=nwb w (qA M) 43;obtain ⟨V,hV,bV,kV⟩:=nwb U #[.bool x0,qI x1,qI x2,qI x3] 142;have hUs:U.heap.size=w.heap.size+1:=by rw [hU];simp
 have BV:=bU.trans (bV.mono bU.size);have kU':=kU.bw bV;obtain ⟨gm,om,gb,ob,dn,dc,ba,bc,ha,⟨m0,m1⟩,b1,b2,hcell,hrow⟩:=aGl (h.m.bw BV) hp hb;have HRW:=zh hrow;have HFT:=zh (xA f1 f2);have HRN:=zh (fun (X:qw)=>dL (4*M.cw) X);rw [<- (fH w0 w1).1] at HRN;have hmk:=wO (slz M.cw) (by omega);have HDE:Zh (bkb (aE M.ms) M.cw x1 x2=bL (List.replicate (slz M.cw) 0) 0 (bnk (aE M.ms) x1 x2) (bnk (aE M.ms) x1 x2).length):=rfl;have hmx:=h.m.s.2.1;unfold maxLen at hmx
 have HC:=zh (fun (X:qw) (hX:qY V X)=>show (X.cell? (qR w.heap.size 0)=some (qS M.ma M.mn M.mc)/\X.cell? (qR w.heap.size 1)=some (qI M.cs)/\X.cell? (qR w.heap.size 2)=some (qI M.cw)/\X.cell? (qR w.heap.size 3)=some (qI M.ck)/\X.cell? (qR w.heap.size 4)=some (qI M.cd))/\X.cell? (qR (w.heap.size+1) 1)=some (qI x1)/\X.cell? (qR (w.heap.size+1) 2)=some (qI x2)/\X.cell? (qR gm (om+x1.toNat*8+2))=some (qS (some (qR gb ob)) dn dc)/\X.cell? (qR gb (ob+x2.toNat))=some (.slice ba (bnk (aE M.ms) x1 x2).length bc) from
  ⟨⟨(kU'.bw hX).cell 0,(kU'.bw hX).cell 1,(kU'.bw hX).cell 2,(kU'.bw hX).cell 3,(kU'.bw hX).cell 4⟩,by rw [<- hUs];exact (kV.bw hX).cell 1,by rw [<- hUs];exact (kV.bw hX).cell 2,(hcell X hX).1,(hcell X hX).2⟩)
 have HBV:=zh BV;have HU:=zh hU;have HV:=zh hV;unfold BkB;rw [HDE.o];generalize bnk (aE M.ms) x1 x2=ws at *;generalize slz M.cw=sz at *;rw [ha] at HC;rw [<- hUs] at HC;clear hU hV bU bV kU kU' kV hcell hrow BV h hk hp z1 HDE hUs f1 f2;have HA:=zh ha;clear ha;obtain ⟨⟨y0,y1,y2,y3,y4⟩,s1,s2,u0,u1⟩:=HC.o V brf;go_enter func118,ntmps118
 go_wp2_with (first|rw [<- HU.o]|rw [<- HV.o])
 refine (HRN.o _).mono ?_;rintro e X1 ⟨rfl,hx1⟩;have hb1:qY V X1:=by rw [hx1];exact brf
 clear hx1;have HX1:=zh hb1;obtain ⟨V2,hV2,b2',k2⟩:=nwb X1 (zby sz) 5;have B2:=hb1.trans (b2'.mono hb1.size);have HV2:=zh hV2;have hg:w.heap.size<=X1.heap.size:=by have h1:=HBV.o.size;have h2:=hb1.size;omega
 have HP:=zh (fun (X:qw) (hX:qY V2 X)=>(mG X1.heap.size sz sz 0 ba ws.length bc ws (List.replicate sz 0) w.heap.size X1 X (HRW.o.bw HX1.o) (b2'.trans (hX.mono b2'.size)) aN ((nM k2 hg (by omega)).bw hX) (by omega) (by have:=HFT.o.1;omega) HFT.o.2).mono (fun e w' he=>show e=.returned (.tuple #[])/\OB w' w.heap.size (qS (qP X1.heap.size) sz sz) (bL (List.replicate sz 0) 0 ws ws.length)/\qY V w' from ⟨he.1,he.2.1,HX1.o.trans ((cW (b2'.trans (hX.mono b2'.size)) he.2.2 aN).mono HX1.o.size)⟩));rw [show ((0:Nat):Int)=0 from rfl] at HP;have HB2:=zh B2;clear y0 y1 y2 y3 y4 s1 s2 u0 u1 HRN HU HV;obtain ⟨⟨y0,y1,y2,y3,y4⟩,s1,s2,u0,u1⟩:=HC.o V2 B2;clear hb1 b2' k2 B2 hV2 hg;go_wp2_with (rw [<- HV2.o])
 go_region_held3 (fun w'=>w'.cell? (qR w.heap.size 0)=some (qS (some (qR gm om)) M.mn M.mc)/\w'.cell? (qR U.heap.size 1)=some (qI x1)/\w'.cell? (qR U.heap.size 2)=some (qI x2)/\w'.cell? (qR gm (om+x1.toNat*8+2))=some (qS (some (qR gb ob)) dn dc)/\w'.cell? (qR gb (ob+x2.toNat))=some (qS ba ws.length bc)) (go_keep)
  (first
    | (go_at_call 144;first
        | with_reducible refine (HP.o _ brf).mono ?_
        | with_reducible refine (HP.o _ brf.drew).mono ?_
       rintro e w1 ⟨rfl,ho1,hb1⟩;have HE:=zh (xA ho1 hb1);obtain ⟨⟨p0,p1,p2,p3,p4⟩,t1,t2,v0,v1⟩:=HC.o w1 hb1
       clear ho1 hb1))
 clear y0 y1 y2 y3 y4 s1 s2 u0 u1 p0 p1 p2 p3 p4 t1 t2 v0 v1 HP HC;go_wp2;go_ret;exact ⟨_,rfl,HE.o.1,HBV.o.trans (HE.o.2.mono HBV.o.size)⟩
theorem vZ (M:Mn)(x0:Bool)(x1 x2 x3:Int)(w:qw)(h:MnD w M)(hk:lkc (aE M.ms) M.cs M.cw M.ck M.cd=0)(hs:0<M.cs)(hp:0<=pcq (aE M.ms) x1 x2)(hb:0<=x2):
 qC 197 #[.agg (qA M),.agg #[.bool x0,qI x1,qI x2,qI x3]] w (BkB w (aE M.ms) M.cw x1 x2):=by
 obtain ⟨w0,w1⟩:1<=M.cw/\M.cw<=64:=by
  have h1:=(fU.1 hk).1;unfold cfo at h1;simp at h1;exact ⟨h1.2.2.1,h1.2.2.2.1⟩
 obtain ⟨f1,f2⟩:=aBa hk hs hp hb;obtain ⟨z1,z2,z3⟩:=fH w0 w1;obtain ⟨U,hU,bU,kU⟩:=nwb w (qA M) 43;obtain ⟨V,hV,bV,kV⟩:=nwb U #[.bool x0,qI x1,qI x2,qI x3] 142;have hUs:U.heap.size=w.heap.size+1:=by rw [hU];simp
 have BV:=bU.trans (bV.mono bU.size);have kU':=kU.bw bV;obtain ⟨gm,om,gb,ob,dn,dc,ba,bc,ha,⟨m0,m1⟩,b1,b2,hcell,hrow⟩:=aGl (h.m.bw BV) hp hb;have HRW:=zh hrow;have HFT:=zh (xA f1 f2);have HRN:=zh (fun (X:qw)=>iU M.cs M.cw M.ck M.cd X w0 w1);have hmk:=wO (slz M.cw) (by omega);have HDE:Zh (bkb (aE M.ms) M.cw x1 x2=bL (List.replicate (slz M.cw) 0) 0 (bnk (aE M.ms) x1 x2) (bnk (aE M.ms) x1 x2).length):=rfl;have hmx:=h.m.s.2.1;unfold maxLen at hmx
 have HC:=zh (fun (X:qw) (hX:qY V X)=>show (X.cell? (qR w.heap.size 0)=some (qS M.ma M.mn M.mc)/\X.cell? (qR w.heap.size 1)=some (qI M.cs)/\X.cell? (qR w.heap.size 2)=some (qI M.cw)/\X.cell? (qR w.heap.size 3)=some (qI M.ck)/\X.cell? (qR w.heap.size 4)=some (qI M.cd))/\X.cell? (qR (w.heap.size+1) 1)=some (qI x1)/\X.cell? (qR (w.heap.size+1) 2)=some (qI x2)/\X.cell? (qR gm (om+x1.toNat*8+2))=some (qS (some (qR gb ob)) dn dc)/\X.cell? (qR gb (ob+x2.toNat))=some (.slice ba (bnk (aE M.ms) x1 x2).length bc) from
  ⟨⟨(kU'.bw hX).cell 0,(kU'.bw hX).cell 1,(kU'.bw hX).cell 2,(kU'.bw hX).cell 3,(kU'.bw hX).cell 4⟩,by rw [<- hUs];exact (kV.bw hX).cell 1,by rw [<- hUs];exact (kV.bw hX).cell 2,(hcell X hX).1,(hcell X hX).2⟩)
 have HBV:=zh BV;have HU:=zh hU;have HV:=zh hV;unfold BkB;rw [HDE.o];generalize bnk (aE M.ms) x1 x2=ws at *;generalize slz M.cw=sz at *;rw [ha] at HC;rw [<- hUs] at HC;clear hU hV bU bV kU kU' kV hcell hrow BV h hk hp z1 HDE hUs f1 f2;have HA:=zh ha;clear ha;obtain ⟨⟨y0,y1,y2,y3,y4⟩,s1,s2,u0,u1⟩:=HC.o V brf;go_enter func197,ntmps197
 go_wp2_with (first|rw [<- HU.o]|rw [<- HV.o])
 refine (HRN.o _).mono ?_;rintro e X1 ⟨rfl,hb1⟩;have HX1:=zh hb1;obtain ⟨V2,hV2,b2',k2⟩:=nwb X1 (zby sz) 5;have B2:=hb1.trans (b2'.mono hb1.size);have HV2:=zh hV2;have hg:w.heap.size<=X1.heap.size:=by have h1:=HBV.o.size;have h2:=hb1.size;omega
 have HP:=zh (fun (X:qw) (hX:qY V2 X)=>(iY X1.heap.size sz sz 0 sz sz ba ws.length bc ws (List.replicate sz 0) w.heap.size X1 X (HRW.o.bw HX1.o) (b2'.trans (hX.mono b2'.size)) aN ((nM k2 hg (by omega)).bw hX) (by omega) (by have:=HFT.o.1;omega) (by have:=HFT.o.1;omega) aN (by omega)).mono (fun e w' he=>show e=.returned (.tuple #[])/\OB w' w.heap.size (qS (qP X1.heap.size) sz sz) (bL (List.replicate sz 0) 0 ws ws.length)/\qY V w' from ⟨he.1,he.2.1,HX1.o.trans ((cW (b2'.trans (hX.mono b2'.size)) he.2.2 aN).mono HX1.o.size)⟩));have HB2:=zh B2;clear y0 y1 y2 y3 y4 s1 s2 u0 u1 HRN HU HV;obtain ⟨⟨y0,y1,y2,y3,y4⟩,s1,s2,u0,u1⟩:=HC.o V2 B2;clear hb1 b2' k2 B2 hV2 hg;go_wp2_with (rw [<- HV2.o])
 go_region_held3 (fun w'=>w'.cell? (qR w.heap.size 0)=some (qS (some (qR gm om)) M.mn M.mc)/\w'.cell? (qR U.heap.size 1)=some (qI x1)/\w'.cell? (qR U.heap.size 2)=some (qI x2)/\w'.cell? (qR gm (om+x1.toNat*8+2))=some (qS (some (qR gb ob)) dn dc)/\w'.cell? (qR gb (ob+x2.toNat))=some (qS ba ws.length bc)) (go_keep)
  (first
    | (go_at_call 219;first
        | with_reducible refine (HP.o _ brf).mono ?_
        | with_reducible refine (HP.o _ brf.drew).mono ?_
       rintro e w1 ⟨rfl,ho1,hb1⟩;have HE:=zh (xA ho1 hb1);obtain ⟨⟨p0,p1,p2,p3,p4⟩,t1,t2,v0,v1⟩:=HC.o w1 hb1
       clear ho1 hb1))
 clear y0 y1 y2 y3 y4 s1 s2 u0 u1 p0 p1 p2 p3 p4 t1 t2 v0 v1 HP HC;go_wp2;go_ret;exact ⟨_,rfl,HE.o.1,HBV.o.trans (HE.o.2.mono HBV.o.size)⟩
theorem rK (h:lkc ps s c k d=0){i:Nat}(hi:i<(lkL ps s c k d).slots.length):65536<=(lkL ps s c k d).slots.getD i 0/\(lkL ps s c k d).slots.getD i 0-65536+(slz c:Int)<=(lkL ps s c k d).ram/\(lkL ps s c k d).ram<=16384/\((lkL ps s c k d).slots.length:Int)=s/\0<s:=by
 have e:lkL ps s c k d=lay ps s c k:=by unfold lkL;rw [if_pos h]
 rw [e] at hi ⊢;obtain ⟨h1,h2,h3,h4,h5,h6,h7,h8,h9⟩:=fU.1 h;unfold cfo at h1;simp at h1;obtain ⟨s0,s1,w0,w1,k0,_⟩:=h1;obtain ⟨z1,z2,z3⟩:=fH w0 w1;have a1:=bO h4 ps.length aN;have hl:(lay ps s c k).slots.length=s.toNat:=by simp [lay]
 rw [hl] at hi
 have e2:(lay ps s c k).slots.getD i 0=65536+Ra ps ps.length+k+(i:Int)*rnd (4*c):=by
  simp [lay,xB,hi,slt]
 have e3:(lay ps s c k).ram=Ra ps ps.length+k+(s.toNat:Int)*rnd (4*c):=rfl
 have hm:(i:Int)*rnd (4*c)+rnd (4*c)<=(s.toNat:Int)*rnd (4*c):=by
  have:((i:Int)+1)*rnd (4*c)<=(s.toNat:Int)*rnd (4*c):=Int.mul_le_mul_of_nonneg_right (by omega) (by omega);rw [Int.add_mul,Int.one_mul] at this;exact this
 have hm0:(0:Int)<=(i:Int)*rnd (4*c):=Int.mul_nonneg (by omega) (by omega);rw [e2,z1];exact ⟨by omega,by omega,h9,by omega,by omega⟩
theorem uW (M:Mn)(L:Lay)(a0:qO)(c0:Nat)(xs:List PB)(a2:qO)(c2:Nat)(a5:qO)(c5:Nat)(ts:List TB)(i:Nat)(w:qw)(h:MnD w M)(hs:IS w a2 L.slots.length c2 L.slots)(hi:i<L.slots.length)(w0:1<=M.cw)(w1:M.cw<=64)(hA0:65536<=L.slots.getD i 0)(hA1:L.slots.getD i 0-65536+(slz M.cw:Int)<=M.rn)(hrn:M.rn<=16384):
 qC 196 #[.agg (qA M),.agg (qJ L a0 xs c0 a2 c2 a5 ts c5),qI i] w fun e w'=>∃ a c,e=.returned (qS a (slz M.cw) c)/\BS w' a (slz M.cw) c (slb M.rz L M.cw i)/\qY w w':=by
 obtain ⟨z1,z2,z3⟩:=fH w0 w1;obtain ⟨U,hU,bU,kU⟩:=nwb w (qA M) 43;obtain ⟨V,hV,bV,kV⟩:=nwb U (qJ L a0 xs c0 a2 c2 a5 ts c5) 71;have BV:=bU.trans (bV.mono bU.size);have kU':=kU.bw bV;obtain ⟨gs,os,rfl,hcs⟩:=(hs.bw BV).2.2.2.1 (by omega);have q:=hcs i hi;obtain ⟨A,hA⟩:∃ A:Nat,L.slots.getD i 0=65536+(A:Int):=⟨(L.slots.getD i 0-65536).toNat,by omega⟩;have HSB:=zh (show slb M.rz L M.cw i=(M.rz.drop A).take (slz M.cw) from by unfold slb;rw [hA,show (65536+(A:Int)-65536).toNat=A by omega]);rw [hA] at q hA1;have hrc:=h.r.2.2.2.2;have hrm:=h.r.2.1;have hi':(i:Int)<(L.slots.length:Int):=by omega
 have hlm:=hs.2.1;unfold maxLen at hrm hlm;have HSS:=zh (fun (X:qw)=>iU M.cs M.cw M.ck M.cd X w0 w1);have HR:=zh (fun (X:qw) (hX:qY V X)=>(h.r.bw BV).bw hX)
 have HC:=zh (fun (X:qw) (hX:qY V X)=>show X.cell? (qR w.heap.size 1)=some (qI M.cs)/\X.cell? (qR w.heap.size 2)=some (qI M.cw)/\X.cell? (qR w.heap.size 3)=some (qI M.ck)/\X.cell? (qR w.heap.size 4)=some (qI M.cd)/\X.cell? (qR w.heap.size 8)=some (qS M.ra M.rn M.rc) from
  ⟨(kU'.bw hX).cell 1,(kU'.bw hX).cell 2,(kU'.bw hX).cell 3,(kU'.bw hX).cell 4,(kU'.bw hX).cell 8⟩)
 have s2:=kV.e2;rw [HSB.o];generalize slz M.cw=sz at *;generalize hrr:M.ra=ra at *;generalize hrcc:M.rc=rc at *;obtain ⟨rb,ro,rfl,_⟩:=(HR.o V brf).2.2.2.1 (by omega);obtain ⟨E,hE⟩:∃ E:Nat,E=A+sz:=⟨_,rfl⟩
 have HBS:=zh (fun (X:qw) (hX:qY V X)=>show BS X (some (qR rb (ro+A))) (E-A) (rc-A) ((M.rz.drop A).take sz) from by
  have h1:=((HR.o X hX).drop A (by omega)).take sz (by omega);rw [show E-A=sz by omega]
  exact h1)
 have HES:=zh (show E-A=sz by omega);have hwA:IntKind.i64.wrap (65536+(A:Int)-65536)=(A:Int):=by rw [xP,xQ _ (by omega)];omega
 have hwA2:IntKind.i64.wrap (A:Int)=(A:Int):=by rw [xP,xQ _ (by omega)]
 have hwE:IntKind.i64.wrap ((A:Int)+(sz:Int))=(E:Int):=by rw [xP,xQ _ (by omega)];omega
 have g0:(0:Int)<=(A:Int):=by omega
 have g1:(A:Int)<=(E:Int):=by omega
 have g2:(E:Int)<=(rc:Int):=by omega
 have g3:(A:Int)<(rc:Int):=by omega
 have g4:A<=E:=by omega
 have g5:¬ (rc=A):=by omega
 have g6:A<rc:=by omega
 have HBV:=zh BV;have HU:=zh hU;have HV:=zh hV;have HX0:=zh (xA hrr hrcc);obtain ⟨y1,y2,y3,y4,y8⟩:=HC.o V brf;clear hU hV bU bV kU kU' kV BV h hs hcs hA hE hrr hrcc HSB HR hrc hA0 hA1 z1 z3;go_enter func196,ntmps196
 go_wp2_with (first|rw [<- HU.o]|rw [<- HV.o])
 have HP:=zh (fun (X:qw) (hX:qY V X)=>(HSS.o X).mono (fun e w' he=>show e=.returned (qI sz)/\qY V w' from ⟨he.1,hX.trans (he.2.mono hX.size)⟩));clear s2 q
 go_region_held3 (fun w'=>w'.cell? (qR w.heap.size 1)=some (qI M.cs)/\w'.cell? (qR w.heap.size 2)=some (qI M.cw)/\w'.cell? (qR w.heap.size 3)=some (qI M.ck)/\w'.cell? (qR w.heap.size 4)=some (qI M.cd)/\w'.cell? (qR w.heap.size 8)=some (qS (some (qR rb ro)) M.rn rc)) (go_keep)
  (first
    | (go_at_call 202;first
        | with_reducible refine (HP.o _ brf).mono ?_
        | with_reducible refine (HP.o _ brf.drew).mono ?_
       rintro e w1 ⟨rfl,hb1⟩;have HE:=zh hb1;obtain ⟨t1,t2,t3,t4,t8⟩:=HC.o w1 hb1
       clear hb1))
 clear y1 y2 y3 y4 y8 t1 t2 t3 t4 t8 HP HC;go_wp2;go_ret;exact ⟨some (qR rb (ro+A)),rc-A,by rw [<- HES.o];rfl,by have:=HBS.o _ HE.o;rw [HES.o] at this;exact this,HBV.o.trans (HE.o.mono HBV.o.size)⟩
