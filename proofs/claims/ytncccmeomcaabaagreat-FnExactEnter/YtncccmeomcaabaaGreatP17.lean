import Derived.Test.YtncccmeomcaabaaGreatP07
import Derived.Test.YtncccmeomcaabaaGreatP11
import Derived.Test.YtncccmeomcaabaaGreatP13
import Derived.Test.YtncccmeomcaabaaGreatP16
set_option maxHeartbeats 8000000
namespace Go.Proofs.YtncccmeomcaabaaGreat
open Go.RowKit Classical
open Go.Proofs.Tryz
set_option linter.all false
set_option maxRecDepth 100000
variable {n:Nat}{pc:Int}
theorem aQv {S F:Nat->World->Prop}{G:Prop}(main:(∀ g W,F g W->S g W)->G)(pf:∀ g W,F g W->S g W):G:=main pf
def wdS (L:Lay):Int:=if 4<L.slots.length then 1 else cfW L
theorem aMz (ps:List PMod)(L:Lay):Lok ps L ↔ (lkc ps (L.slots.length:Int) (wdS L) (cfK L) 0=0/\lkL ps (L.slots.length:Int) (wdS L) (cfK L) 0=L):=by
 unfold wdS;by_cases h:4<L.slots.length
 .rw [if_pos h]
  have key:∀ wd:Int,lkc ps (L.slots.length:Int) wd (cfK L) 0≠0:=fun wd e=>by
   have hc:=(fY e).1;unfold cfo at hc;simp at hc;omega
  constructor
  .intro e;exact absurd e.1 (key _)
  .intro e;exact absurd e.1 (key _)
 .rw [if_neg h];rfl
theorem tP (a:qO)(n0 cap:Nat)(ms:List Md)(L:Lay)(a0:qO)(c0:Nat)(xs:List PB)(a2:qO)(c2:Nat)(a5:qO)(c5:Nat)(ts:List TB)(w:qw)(h:MSD w a n0 cap ms)(hL:LyT w L a0 c0 xs a2 c2 a5 c5 ts):
 qC 142 #[qS a n0 cap,.agg (qL L a0 xs.length c0 a2 L.slots.length c2 a5 ts.length c5)] w fun e w'=>e=.returned (.bool (decide (Lok (aD ms) L)))/\qY w w':=by
 have hmx:=hL.s.2.1;unfold maxLen at hmx;obtain ⟨r,hr⟩:=eqx (decide (Lok (aD ms) L));rw [<- hr];replace hr:r=true ↔ Lok (aD ms) L:=by rw [hr];simp
 rw [aMz] at hr;have HLB:=zh (rI (aD ms) (L.slots.length:Int) (wdS L) (cfK L) 0);have HLV:=zh (aGk (aD ms) (L.slots.length:Int) (wdS L) (cfK L) 0)
 have HSP:=zh (fun (W:qw) (hb:qY w W)=>by
  have:=wQ a n0 cap ms (L.slots.length:Int) (wdS L) (cfK L) 0 W (h.bw hb);unfold LkM mG at this
  exact this)
 generalize lkL (aD ms) (L.slots.length:Int) (wdS L) (cfK L) 0=LY at *;generalize lkc (aD ms) (L.slots.length:Int) (wdS L) (cfK L) 0=C at *;have HR:=zh hr;have HEN:=zh (fun (W:qw) (hb:qY w W)=>tQ L a0 c0 xs a2 c2 a5 c5 ts W (hL.bw hb));have HSL:=zh (fun (LY:Lay) (b0:qO) (d0:Nat) (ys:List PB) (b2:qO) (d2:Nat) (b5:qO) (d5:Nat) (us:List TB) (W:qw) (o:LyT W LY b0 d0 ys b2 d2 b5 d5 us) (hb:qY w W)=>uT LY b0 d0 ys b2 d2 b5 d5 us L a0 c0 xs a2 c2 a5 c5 ts W o (hL.bw hb));have HWK:=zh (show IntKind.i64.wrap (dA L-L.stack)=cfK L from xP _);have HWD:=zh (show wdS L=if 4<L.slots.length then 1 else cfW L from rfl);have HCW:=zh (show cfW L=if L.slots=[] then 1 else wrap64 ((cfQ L).tdiv 4) from rfl);have HCQ:=zh (show cfQ L=wrap64 ((wrap64 (wrap64 (65536+L.ram)-L.slots.getD 0 0)).tdiv (L.slots.length:Int)) from rfl);have HS:=zh hL.s;have HNE:=zh (show L.slots=[] ↔ L.slots.length=0 from List.length_eq_zero_iff.symm);have hC0:C=C:=rfl;clear h hL hr hC0;generalize cfK L=K at *;generalize wdS L=wd at *;generalize dA L=E at *;generalize L.slots.length=n at *;have B0:qY w (w.alloc (.cells (qL L a0 xs.length c0 a2 n c2 a5 ts.length c5) 71)):=brf.alloc aN _;have k0:=Blk.new w (qL L a0 xs.length c0 a2 n c2 a5 ts.length c5) 71;go_enter func142,ntmps142
 go_wp2_with fail
 generalize w.alloc (.cells (qL L a0 xs.length c0 a2 n c2 a5 ts.length c5) 71)=W0 at *;have hw0:w.heap.size<W0.heap.size:=k0.lt;obtain ⟨x0,x1,x2,x3,x4,x5⟩:=k0.ly6;have HK0:=zh (xA B0 k0);have HEZ:=zh (fun (zc:Array Value) (t:TypeId) (X:qw) (o:Option Nat) (hz:Zb zc t W0 X o)=>(HEN.o X (HK0.o.1.trans (hz.1.mono HK0.o.1.size))).mono (fun e w' he=>show e=.returned (qI E)/\Zb zc t W0 w' o from ⟨he.1,hz.bw he.2⟩));have HCL:=zh (fun (W:qw) (hb:qY W0 W)=>(HK0.o.2.bw hb).ly6);have HY0:=zh (aOh (qW 0 0 0 0) 37 W0);have HFB:=zh (fun (X:qw) (hz:Zb (qW 0 0 0 0) 37 W0 X none)=>show qY W0 (X.alloc (.cells (qW n 1 K 0) 37))/\Blk (X.alloc (.cells (qW n 1 K 0) 37)) X.heap.size (qW n 1 K 0) 37/\W0.heap.size<=X.heap.size from ⟨hz.1.alloc hz.1.size _,Blk.new _ _ _,hz.1.size⟩)
 have HFA:=zh (fun (X:qw) (g:Nat) (hz:Zb (qW 0 0 0 0) 37 W0 X (some g))=>show qY W0 ((((X.setCell ⟨g,0,none⟩ (qI n)).setCell ⟨g,1,none⟩ (qI 1)).setCell ⟨g,2,none⟩ (qI K)).setCell ⟨g,3,none⟩ (qI 0))/\Blk ((((X.setCell ⟨g,0,none⟩ (qI n)).setCell ⟨g,1,none⟩ (qI 1)).setCell ⟨g,2,none⟩ (qI K)).setCell ⟨g,3,none⟩ (qI 0)) g (qW n 1 K 0) 37/\W0.heap.size<=g from by
  obtain ⟨hg,hk⟩:=hz.2 g rfl;have T:Turn (fun j=>j=g) X ((((X.setCell ⟨g,0,none⟩ (qI n)).setCell ⟨g,1,none⟩ (qI 1)).setCell ⟨g,2,none⟩ (qI K)).setCell ⟨g,3,none⟩ (qI 0)):=(((aC _ _ _ _).trans (aC _ _ _ _)).trans (aC _ _ _ _)).trans (aC _ _ _ _);have kz:=(((hk.set 0 (qI n)).set 1 (qI 1)).set 2 (qI K)).set 3 (qI 0);simp only [yA,yB,yC] at kz
  exact ⟨aG hz.1 T (fun k e=>by omega) hz.1.size,kz,hg⟩)
 clear B0 k0;apply aQv (F:=fun gc W=>qY W0 W/\Blk W gc (qW n 1 K 0) 37/\W0.heap.size<=gc)
 .intro REST0;have REST:=zh REST0;clear REST0
  go_region_held3 (fun w'=>w'.cell? ⟨w.heap.size,0,none⟩=some (qS a0 xs.length c0)/\w'.cell? ⟨w.heap.size,1,none⟩=some (qI L.stack)/\w'.cell? ⟨w.heap.size,2,none⟩=some (qS a2 n c2)/\w'.cell? ⟨w.heap.size,3,none⟩=some (qI L.flash)/\w'.cell? ⟨w.heap.size,4,none⟩=some (qI L.ram)/\w'.cell? ⟨w.heap.size,5,none⟩=some (qS a5 ts.length c5)) (go_keep)
   (first
     | (go_at_call 60;first
         | with_reducible refine (HEZ.o _ _ _ none HY0.o).mono ?_
         | with_reducible refine (HEZ.o _ _ _ none HY0.o.drew).mono ?_
         | with_reducible refine (HEZ.o _ _ _ _ HY0.o.box).mono ?_
         | with_reducible refine (HEZ.o _ _ _ _ HY0.o.drew.box).mono ?_
         | with_reducible refine (HEZ.o _ _ _ _ HY0.o.box.drew).mono ?_
        rintro e w1 ⟨rfl,hY1⟩;have HY1:=zh hY1;clear hY1;obtain ⟨d0,d1,d2,d3,d4,d5⟩:=HCL.o w1 HY1.o.1;have hwr:=HWK.o
        first
         | (have kz:=(HY1.o.2 _ rfl).2
            have z0:=kz.cell 0;have z1:=kz.cell 1;have z2:=kz.cell 2;have z3:=kz.cell 3;simp only [List.getElem?_toArray,List.getElem?_cons_zero,List.getElem?_cons_succ] at z0 z1 z2 z3;have zf:=kz.frozen;have hne:=Nat.ne_of_lt (Nat.lt_of_lt_of_le hw0 (HY1.o.2 _ rfl).1);have hne':=hne.symm
            clear kz)
         | skip))
  all_goals try simp only [HWK.o]
  .have HF:=zh (HFB.o _ HY1.o);generalize w1.alloc (.cells (qW n 1 K 0) 37)=W' at HF ⊢;generalize w1.heap.size=gc at HF ⊢;exact REST.o gc W' HF.o
  all_goals exact REST.o _ _ (HFA.o _ _ HY1.o)
 .rintro gc W ⟨hb,kc,hg⟩;show Exit.then _ _ _ _ _
  have B1:=HK0.o.1.trans (hb.mono HK0.o.1.size);have k1:=HK0.o.2.bw hb;obtain ⟨d0,d1,d2,d3,d4,d5⟩:=k1.ly6;have hne:=Nat.ne_of_lt (Nat.lt_of_lt_of_le hw0 hg);clear hb x0 x1 x2 x3 x4 x5 HK0 HEZ HCL HY0 HFA HFB HEN HWK;by_cases hB:0<n/\n<=4
  .obtain ⟨hn0,hn4⟩:=hB;have hn0':(0:Int)<(n:Int):=by omega
   have hn4':(n:Int)<=4:=by omega
   have he:((n:Int)==0)=false:=by simp;omega
   have hnz:¬ ((n:Int)=0):=by omega
   have hnn:¬ (n=0):=by omega
   obtain ⟨b,off,rfl,hc⟩:=HS.o.2.2.2.1 (by omega);have q0:=hc 0 hn0;rw [Nat.add_zero] at q0
   have nb:b≠gc:=by
    have h2:=xD _ _ q0;dsimp only at h2;omega
   have q:=aB B1 q0;clear q0;have HVW:=zh (show wrap64 ((wrap64 ((wrap64 (wrap64 (65536+L.ram)-L.slots.getD 0 0)).tdiv (n:Int))).tdiv 4)=wd by rw [HWD.o,if_neg (by omega),HCW.o,if_neg (by rw [HNE.o];omega),HCQ.o]);generalize L.slots.getD 0 0=z at *;have y0:W.cell? ⟨gc,1,none⟩=some (qI 1):=kc.cell 1;have yf:=kc.frozen;have nb':=nb.symm;have hne':=hne.symm;clear hc;have hgw:=zh (show w.heap.size<=gc by omega);have HX:=zh (xA B1 (xA k1 kc));clear B1 k1 kc hw0 hg;go_wp2
   go_region_held3 (fun w'=>w'.cell? ⟨w.heap.size,4,none⟩=some (qI L.ram)/\w'.cell? ⟨w.heap.size,2,none⟩=some (qS (some ⟨b,off,none⟩) n c2)/\w'.cell? ⟨b,off,none⟩=some (qI z)) (go_keep) (fail)
   simp only [xP];rw [HVW.o];obtain ⟨B1,k1,kc⟩:=HX.o;have T:Turn (fun j=>j=gc) W (W.setCell ⟨gc,1,none⟩ (qI wd)):=aC _ _ _ _;have B5:=(aG B1 T (fun k e=>by have:=hgw.o;omega) B1.size).drew;have k5':=aF T k1 (fun e=>hne e);have k5:Blk ((W.setCell ⟨gc,1,none⟩ (qI wd)).drew) w.heap.size _ _:=k5';have kc5:Blk ((W.setCell ⟨gc,1,none⟩ (qI wd)).drew) gc _ _:=kc.set 1 (qI wd);simp only [yA,yB,yC] at kc5;generalize (W.setCell ⟨gc,1,none⟩ (qI wd)).drew=W5 at *;clear T B1 k1 kc k5' HX q d0 d1 d2 d3 d4 d5 y0 yf nb nb';obtain ⟨d0,d1,d2,d3,d4,d5⟩:=k5.ly6;obtain ⟨y0,y1,y2,y3⟩:=kc5.z4;go_wp2_with fail
   refine (HSP.o _ B5).mono ?_;rintro e w2 ⟨hb2,b0,d0,ys,b2,d2,b5,d5,us,rfl,O2⟩;have hA:qY w2 (w2.alloc (.cells (qL LY b0 ys.length d0 b2 LY.slots.length d2 b5 us.length d5) 71)):=brf.alloc aN _;have kt:=Blk.new w2 (qL LY b0 ys.length d0 b2 LY.slots.length d2 b5 us.length d5) 71;have B2:=B5.trans (hb2.mono B5.size);have B3:=B2.trans (hA.mono B2.size);have k3:=(k5.bw hb2).bw hA;have O3:=O2.below' hA;have HSM:=zh (HSL.o LY b0 d0 ys b2 d2 b5 d5 us _ (O3.lyt HLB.o.r HLV.o) B3);have HB3:=zh B3;obtain ⟨p0,p1,p2,p3,p4,p5⟩:=k3.ly6;obtain ⟨q0,q1,q2,q3,q4,q5⟩:=kt.ly6;clear hb2 O2 O3 hA B2 B3 k3 kt y0 y1 y2 y3;by_cases hC:C=0
   .have g:(C==0)=true:=by simpa using hC
    have HV:=zh (show decide (LY=L)=r by rw [xJ,HR.o];simp [hC]);rw [HV.o] at HSM;clear hC HR;go_wp2_with fail
    refine HSM.o.mono ?_;rintro e w4 ⟨rfl,hb4⟩;have HB4:=zh (HB3.o.trans (hb4.mono HB3.o.size));clear hb4;cases r
    all_goals
     go_wp2;go_ret;exact ⟨rfl,HB4.o⟩
   .have g:(C==0)=false:=by simpa using hC
    have HV:=zh (show r=false by cases r;rfl;exact absurd (HR.o.1 rfl).1 hC);clear hC HR;go_wp2;go_ret;exact ⟨aA HV.o.symm,HB3.o⟩
  .have HVW:=zh (show (1:Int)=wd by
    rw [HWD.o];by_cases h4:4<n
    .rw [if_pos h4]
    .rw [if_neg h4,HCW.o,if_pos (by rw [HNE.o];omega)])
   have g1:0<n->¬ ((n:Int)<=4):=fun h=>by omega
   rw [HVW.o] at kc;by_cases hn0:0<n
   .have hn0':(0:Int)<(n:Int):=by omega
    have hn4':¬ ((n:Int)<=4):=by omega
    clear g1;obtain ⟨y0,y1,y2,y3⟩:=kc.z4;go_wp2_with fail
    refine (HSP.o _ B1).mono ?_;rintro e w2 ⟨hb2,b0,d0,ys,b2,d2,b5,d5,us,rfl,O2⟩;have hA:qY w2 (w2.alloc (.cells (qL LY b0 ys.length d0 b2 LY.slots.length d2 b5 us.length d5) 71)):=brf.alloc aN _;have kt:=Blk.new w2 (qL LY b0 ys.length d0 b2 LY.slots.length d2 b5 us.length d5) 71;have B2:=B1.trans (hb2.mono B1.size);have B3:=B2.trans (hA.mono B2.size);have k3:=(k1.bw hb2).bw hA;have O3:=O2.below' hA;have HSM:=zh (HSL.o LY b0 d0 ys b2 d2 b5 d5 us _ (O3.lyt HLB.o.r HLV.o) B3);have HB3:=zh B3;obtain ⟨p0,p1,p2,p3,p4,p5⟩:=k3.ly6;obtain ⟨q0,q1,q2,q3,q4,q5⟩:=kt.ly6;clear hb2 O2 O3 hA B2 B3 k3 kt y0 y1 y2 y3;by_cases hC:C=0
    .have g:(C==0)=true:=by simpa using hC
     have HV:=zh (show decide (LY=L)=r by rw [xJ,HR.o];simp [hC]);rw [HV.o] at HSM;clear hC HR;go_wp2_with fail
     refine HSM.o.mono ?_;rintro e w4 ⟨rfl,hb4⟩;have HB4:=zh (HB3.o.trans (hb4.mono HB3.o.size));clear hb4;cases r
     all_goals
      go_wp2;go_ret;exact ⟨rfl,HB4.o⟩
    .have g:(C==0)=false:=by simpa using hC
     have HV:=zh (show r=false by cases r;rfl;exact absurd (HR.o.1 rfl).1 hC);clear hC HR;go_wp2;go_ret;exact ⟨aA HV.o.symm,HB3.o⟩
   .have hn0':¬ ((0:Int)<(n:Int)):=by omega
    clear g1;obtain ⟨y0,y1,y2,y3⟩:=kc.z4;go_wp2_with fail
    refine (HSP.o _ B1).mono ?_;rintro e w2 ⟨hb2,b0,d0,ys,b2,d2,b5,d5,us,rfl,O2⟩;have hA:qY w2 (w2.alloc (.cells (qL LY b0 ys.length d0 b2 LY.slots.length d2 b5 us.length d5) 71)):=brf.alloc aN _;have kt:=Blk.new w2 (qL LY b0 ys.length d0 b2 LY.slots.length d2 b5 us.length d5) 71;have B2:=B1.trans (hb2.mono B1.size);have B3:=B2.trans (hA.mono B2.size);have k3:=(k1.bw hb2).bw hA;have O3:=O2.below' hA;have HSM:=zh (HSL.o LY b0 d0 ys b2 d2 b5 d5 us _ (O3.lyt HLB.o.r HLV.o) B3);have HB3:=zh B3;obtain ⟨p0,p1,p2,p3,p4,p5⟩:=k3.ly6;obtain ⟨q0,q1,q2,q3,q4,q5⟩:=kt.ly6;clear hb2 O2 O3 hA B2 B3 k3 kt y0 y1 y2 y3;by_cases hC:C=0
    .have g:(C==0)=true:=by simpa using hC
     have HV:=zh (show decide (LY=L)=r by rw [xJ,HR.o];simp [hC]);rw [HV.o] at HSM;clear hC HR;go_wp2_with fail
     refine HSM.o.mono ?_;rintro e w4 ⟨rfl,hb4⟩;have HB4:=zh (HB3.o.trans (hb4.mono HB3.o.size));clear hb4;cases r
     all_goals
      go_wp2;go_ret;exact ⟨rfl,HB4.o⟩
    .have g:(C==0)=false:=by simpa using hC
     have HV:=zh (show r=false by cases r;rfl;exact absurd (HR.o.1 rfl).1 hC);clear hC HR;go_wp2;go_ret;exact ⟨aA HV.o.symm,HB3.o⟩
structure Pd (w0 w:qw)(cm:Array Value)(g n base:Nat)(zs:qi)(W:qw):Prop where
 be:qY w0 W
 km:Blk W w.heap.size cm 138
 o:OB W base (qS (qP g) n n) zs
 t:Turn (fun j=>j=g) w W
section
variable {w0 w:qw}{cm:Array Value}{g n base:Nat}{zs:qi}{W W':qw}
theorem Pd.bw (h:Pd w0 w cm g n base zs W)(hb:qY W W'):Pd w0 w cm g n base zs W':=⟨h.be.trans (hb.mono h.be.size),h.km.bw hb,h.o.bw hb,h.t.trans (aJ hb)⟩
theorem Pd.drew (h:Pd w0 w cm g n base zs W):Pd w0 w cm g n base zs W.drew:=h.bw brf.drew
theorem Pd.set (h:Pd w0 w cm g n base zs W){zs':qi}(hg:w0.heap.size<=g)(O:OB W' base (qS (qP g) n n) zs')(T:fG g W W'):Pd w0 w cm g n base zs' W':=by
 obtain ⟨c1,k1⟩:=gZ h.o;exact ⟨cX h.be T hg,bY T h.km (fun e=>absurd (aI (show Blk W g cm 138 from e ▸ h.km) k1) (by decide)),O,h.t.trans (sN T)⟩
end
theorem aO8 {W:qw}{base g A:Nat}{zs:qi}(h:OB W base (qS (qP g) n n) zs)(hA:A<=n):BS W (some (qR g A)) (n-A) (n-A) (zs.drop A):=by
 have hl:=(rH h).2.1;have hm:=(rH h).2.2.2;have hb:=h.bs;refine ⟨by simp;omega,by omega,fun z hz=>h.2 z (List.mem_of_mem_drop hz),fun _=>⟨g,A,rfl,fun i hi=>?_⟩,aN⟩;have h1:=hb.at (A+i) (by omega);rw [Nat.zero_add] at h1;rw [h1];congr 2;simp [xB,List.getElem?_drop]
theorem aCf (g R f:Nat)(bp:qO)(bl':Nat)(nm:ByteArray)(ta:qO)(tn tc:Nat)(ba:qO)(bn bc:Nat)(da:qO)(dn dc:Nat)(dz:qi)(bss:Int)(ra:qO)(rn rc:Nat)(rrz:qi)(ia:qO)(im ic:Nat)(ea:qO)(en ec:Nat)(rz:qi)(base:Nat)(w w0:qw)(hD:BS w0 da dn dc dz)(hRl:IS w0 ra rn rc rrz)(hb:qY w0 w)(hg:w0.heap.size<=g)(ho:OB w base (qS (qP g) R R) rz)(hR:R<=16384)(hrn:rn<=16)(hfd:f+dn<=R)(hrl:∀ q,q<rn->0<=rrz.getD q 0/\rrz.getD q 0+4<=(dn:Int))
 (hbp:(f<R/\bp=some (qR g f)/\bl'=R-f)\/(f=R/\bp=some (qR g 0)/\bl'=0)):
 qC 218 #[qS bp bl' bl',.agg (qM nm ta tn tc ba bn bc da dn dc bss ra rn rc ia im ic ea en ec),qI (65536+(f:Int))] w fun e w'=>e=.returned (.tuple #[])/\OB w' base (qS (qP g) R R) (iH (ovr rz f dz) f rrz (65536+(f:Int)) rn)/\Turn (fun j=>j=g) w w':=by
 have bb:qY w (w.alloc (.cells (qM nm ta tn tc ba bn bc da dn dc bss ra rn rc ia im ic ea en ec) 138)):=bal;have S0:Pd w0 w (qM nm ta tn tc ba bn bc da dn dc bss ra rn rc ia im ic ea en ec) g R base rz (w.alloc (.cells (qM nm ta tn tc ba bn bc da dn dc bss ra rn rc ia im ic ea en ec) 138)):=⟨hb.trans (bb.mono hb.size),Blk.new _ _ _,ho.bw bb,aJ bb⟩;have HBR:=zh (xA hbp (xA hD (xA hRl hrl)));obtain ⟨w1,hrun,O1,T1⟩:=uM (f:=f) S0.o 3 bp da bl' bl' dn dc (hD.bw S0.be) (by rcases hbp with h|h<;>omega) (by omega) (fun h0=>by rcases hbp with h|h;exact h.2.1;omega);have HS1:=zh (S0.set hg O1 T1);have x3:=S0.km.cell 3;simp only [List.getElem?_toArray,List.getElem?_cons_zero,List.getElem?_cons_succ] at x3;clear O1 T1 S0 bb ho hb hD hRl hrl hbp;obtain ⟨cm,hcm⟩:∃ cm:Array Value,cm=(qM nm ta tn tc ba bn bc da dn dc bss ra rn rc ia im ic ea en ec):=⟨_,rfl⟩;rw [<- hcm] at HS1
 have HCL:=zh (fun (zs:qi) (X:qw) (S:Pd w0 w cm g R base zs X)=>show X.cell? (qR w.heap.size 5)=some (qS ra rn rc) from by
  have h1:=S.km;rw [hcm] at h1
  exact h1.cell 5)
 clear hcm;go_enter func218,ntmps218
 have z5:=HCL.o _ _ HS1.o;go_wp2;clear hrun x3 z5;go_loopw [15] (fun i wr=>∃ q:Nat,q<=rn/\i=qI q/\Pd w0 w cm g R base (iH (ovr rz f dz) f rrz (65536+(f:Int)) q) wr) (qf rn)
 .exact ⟨0,xC _,rfl,HS1.o⟩
 .clear HS1;obtain ⟨q,hq,rfl,hQ⟩:=hrel;generalize wr=wq at *;have HQ:=zh hQ;by_cases hqr:q<rn
  .have hqr':(q:Int)<(rn:Int):=by omega
   obtain ⟨hbp,hD,hRl,hrl⟩:=HBR.o;obtain ⟨rb,ro,rfl,hrc⟩:=hRl.2.2.2.1 (show rn≠0 by omega);obtain ⟨h1,h2⟩:=hrl q hqr;have hfR:f<R:=by omega
   obtain ⟨_,hb1,hb2⟩:f<R/\bp=some ⟨g,f,none⟩/\bl'=R-f:=by rcases hbp with h|h;exact h;omega
   subst hb1 hb2;have s6:=aB hQ.be (hrc q hqr);have HRE:Zh (iH (ovr rz f dz) f rrz (65536+(f:Int)) (q+1)=put (iH (ovr rz f dz) f rrz (65536+(f:Int)) q) (f+(rrz.getD q 0).toNat) (low (((iH (ovr rz f dz) f rrz (65536+(f:Int)) q).drop (f+(rrz.getD q 0).toNat)).take 4)+(65536+(f:Int))) 4):=rfl;clear hrc hQ hD hRl hrl hbp;generalize hRQ1:iH (ovr rz f dz) f rrz (65536+(f:Int)) (q+1)=RQ1 at HRE;have HRQ1:=zh hRQ1;clear hRQ1;generalize iH (ovr rz f dz) f rrz (65536+(f:Int)) q=RQ at *;obtain ⟨x,hx⟩:∃ x:Nat,rrz.getD q 0=(x:Int):=⟨(rrz.getD q 0).toNat,by omega⟩;rw [hx] at s6 HRE h1 h2;rw [xY] at HRE;clear hx;have HLR:=zh (oI ((RQ.drop (f+x)).take 4) (fun z hz=>HQ.o.o.2 z (List.mem_of_mem_drop (List.mem_of_mem_take hz))) (by simp;omega));obtain ⟨lw,hlw⟩:=eqx (low ((RQ.drop (f+x)).take 4));rw [<- hlw] at HLR HRE;obtain ⟨VV,hVV⟩:=eqx (lw+(65536+(f:Int)));rw [<- hVV] at HRE;have hwV:IntKind.i64.wrap (lw+(65536+(f:Int)))=VV:=by rw [hVV,xP,xQ _ (by have:=HLR.o;omega)]
   have HVR:=zh (show -9223372036854775808<=VV/\VV<=9223372036854775807 by have:=HLR.o;omega)
   have HGB:=zh (fun (X:qw) (S:Pd w0 w cm g R base RQ X)=>show qC 234 #[qS (some (qR g (f+x))) (R-f-x) (R-f-x),qI 4] X fun e w'=>e=.returned (qI lw)/\Pd w0 w cm g R base RQ w' from by
    have hbs:=aO8 S.o (show f+x<=R by omega);rw [show R-(f+x)=R-f-x by omega] at hbs;have:=aFe g (f+x) (R-f-x) (R-f-x) _ X hbs (by omega);rw [<- hlw] at this
    exact this.mono (fun e w' he=>⟨he.1,S.bw he.2⟩))
   have HPB:=zh (fun (X:qw) (S:Pd w0 w cm g R base RQ X)=>show qC 233 #[qS (some (qR g (f+x))) (R-f-x) (R-f-x),qI 4,qI VV] X fun e w'=>e=.returned (.tuple #[])/\Pd w0 w cm g R base RQ1 w' from
    (mA g (R-f-x) (R-f-x) (f+x) VV X (sU S.o) (by omega) HVR.o).mono (fun e w' he=>⟨he.1,by
      rw [he.2,HRE.o]
      exact S.set hg (sV S.o (f+x) VV) (jC g (f+x) VV X)⟩))
   have t0:(0:Int)<=(x:Int):=by omega
   have t1:(x:Int)<=((R-f:Nat):Int):=by omega
   have t2:(x:Int)<((R-f:Nat):Int):=by omega
   have t3:¬ (R-f=x):=by omega
   have t4:x<=R-f:=by omega
   have t5:x<R-f:=by omega
   clear hlw hVV h1 h2;go_wp2_with fail
   go_region_held3 (fun w'=>True) (exact True.intro)
    (first
      | (go_at_call 234;first
          | with_reducible refine (HGB.o _ HQ.o).mono ?_
          | with_reducible refine (HGB.o _ HQ.o.drew).mono ?_
         rintro e w5 ⟨rfl,hS5⟩;have HS5:=zh hS5
         clear hS5)
      | (go_at_call 233;first
          | with_reducible refine (HPB.o _ HS5.o).mono ?_
          | (rw [hwV];with_reducible refine (HPB.o _ HS5.o).mono ?_)
         rintro e w6 ⟨rfl,hS6⟩;have HS6:=zh hS6
         clear hS6))
   clear hwV s6;go_wp2
   go_roundw
   .exact ⟨q+1,by omega,by go_num,by rw [HRQ1.o];exact HS6.o⟩
   .simp [qf,intOf];omega
  .have e:Zh (q=rn):=by show q=rn;omega
   clear hQ;go_wp2
   go_end0
   exact ⟨rfl,by rw [<- e.o];exact HQ.o.o,HQ.o.t⟩
theorem nF (L:Lay)(a0:qO)(c0:Nat)(xs:List PB)(a2:qO)(c2:Nat)(a5:qO)(c5:Nat)(ts:List TB)(m b at' s:Int)(w:qw)(h:LyT w L a0 c0 xs a2 c2 a5 c5 ts)
 (hm0:0<=m) (hm1:m<(xs.length:Int)) (hb:b=-1\/(0<=b/\b<((xs.getD m.toNat zPB).1.banks.length:Int))) (hs:s=-1\/(b≠-1/\0<=s/\s<(L.slots.length:Int))):
 qC 119 #[.agg (qJ L a0 xs c0 a2 c2 a5 ts c5),.agg (qT m b at'),qI s] w (qB w (qI (gC L (xs.getD m.toNat zPB) b s))):=by
 obtain ⟨W,hW⟩:=eqx ((w.alloc (.cells (qJ L a0 xs c0 a2 c2 a5 ts c5) 71)).alloc (.cells (qT m b at') 58));have hB:qY w W:=by rw [hW];exact bal.alloc (by simp) _
 have HB:=zh hB;have h1:=h.bw hB;have k0:Blk W w.heap.size (qJ L a0 xs c0 a2 c2 a5 ts c5) 71:=by rw [hW];exact (Blk.new w _ _).alloc _
 have k1:Blk W (w.heap.size+1) (qT m b at') 58:=by rw [hW];have:=Blk.new (w.alloc (.cells (qJ L a0 xs c0 a2 c2 a5 ts c5) 71)) (qT m b at') 58;simpa using this
 have hz:W.heap.size=w.heap.size+1+1:=by rw [hW];simp
 have HZ:=zh hz;clear hz;have d0:=k0.e0;have d2:=k0.e2;have t0:=k1.e0;have t1:=k1.e1;obtain ⟨g,off,rfl,q0,q1,q2,q3⟩:=h1.p.at m.toNat (by omega);have hbk:=h1.p.2.2.2.1 m.toNat (by omega);have hsl:=h1.s;have hmx:=h1.p.2.1;have hmy:=hsl.2.1;have hmz:=hbk.2.1;unfold maxLen at hmx hmy hmz;unfold svP at q1;generalize xs.getD m.toNat zPB=P at *;have kA:=k0.alloc (.cells #[qI P.1.text,qS P.2.1 P.1.banks.length P.2.2,qI P.1.data,qI P.1.size] 171);have kB:=k1.alloc (.cells #[qI P.1.text,qS P.2.1 P.1.banks.length P.2.2,qI P.1.data,qI P.1.size] 171);have kC:=Blk.new W #[qI P.1.text,qS P.2.1 P.1.banks.length P.2.2,qI P.1.data,qI P.1.size] 171;have v2:=kA.e2;have v1:=kB.e1;have u0:=kC.e0;have u1:=kC.e1;have HBV:Zh (qY W (W.alloc (.cells #[qI P.1.text,qS P.2.1 P.1.banks.length P.2.2,qI P.1.data,qI P.1.size] 171))):=bal;have HBW:Zh (qY w (W.alloc (.cells #[qI P.1.text,qS P.2.1 P.1.banks.length P.2.2,qI P.1.data,qI P.1.size] 171))):=hB.alloc hB.size _;have HW:=zh hW;clear hW hB k0 k1 h1 h kA kB kC;rcases hb with rfl|⟨hb0,hb1⟩
 .obtain rfl:s=-1:=by rcases hs with h|h;exact h;exact absurd rfl h.1
  have HO:Zh (gC L P (-1) (-1)=P.1.text):=rfl;rw [HO.o];clear hs hbk hsl;generalize P.1.text=x at *;generalize xs.length=n at *;generalize L.slots.length=l at *;go_enter func119,ntmps119
  go_wp2_with (rw [<- HW.o])
  all_goals go_ret
  all_goals exact ⟨rfl,(by first|exact HBW.o|exact HBW.o.drew|exact HB.o|exact (HB.o.alloc HB.o.size _)|exact ((HB.o.alloc HB.o.size _).setCells (by omega) _))⟩
 .have hb2:¬ b=-1:=by omega
  have hb3:(b == -1)=false:=by simpa using hb2
  rcases hs with rfl|⟨_,hs0,hs1⟩
  .have HO:=zh (show gC L P b (-1)=P.1.banks.getD b.toNat 0 by unfold gC;rw [if_neg hb2,if_pos rfl]);rw [HO.o];obtain ⟨u,v,e,hc⟩:=hbk.2.2.2.1 (by omega);have qq:=hc b.toNat (by omega);have qv:=aB HBV.o qq;rw [e] at q1;rw [e] at u1 u0 v1 v2 qv HBW;clear HBV;clear hbk hsl e hc HO;generalize P.1.banks.getD b.toNat 0=x at *;generalize P.1.banks.length=y at *;generalize xs.length=n at *;generalize L.slots.length=l at *;go_enter func119,ntmps119
   go_wp2_with (rw [<- HW.o])
   all_goals go_ret
   all_goals exact ⟨rfl,(by first|exact HBW.o|exact HBW.o.drew|exact HB.o|exact (HB.o.alloc HB.o.size _)|exact ((HB.o.alloc HB.o.size _).setCells (by omega) _))⟩
  .have hs2:¬ s=-1:=by omega
   have hs3:(s == -1)=false:=by simpa using hs2
   have HO:=zh (show gC L P b s=L.slots.getD s.toNat 0 by unfold gC;rw [if_neg hb2,if_neg hs2]);rw [HO.o];obtain ⟨u,v,e,hc⟩:=hsl.2.2.2.1 (by omega);have qq:=hc s.toNat (by omega);have qv:=aB HBV.o qq;rw [e] at d2 v2;clear HBV;clear hbk hsl e hc HO;generalize L.slots.getD s.toNat 0=x at *;generalize P.1.banks.length=y at *;generalize xs.length=n at *;generalize L.slots.length=l at *;go_enter func119,ntmps119
   go_wp2_with (rw [<- HW.o])
   all_goals go_ret
   all_goals exact ⟨rfl,(by first|exact HBW.o|exact HBW.o.drew|exact HB.o|exact (HB.o.alloc HB.o.size _)|exact ((HB.o.alloc HB.o.size _).setCells (by omega) _))⟩
def cok (pc:Int)(n:Nat)(zs:qi):Bool:=decide (0<=pc/\pc<=4294967295/\n=8)&&zs.all fun z=>decide (0<=z/\z<=4294967295)
theorem aGy {zs:qi}(k:Nat)(hk:k<zs.length)(h:¬ (0<=zs.getD k 0/\zs.getD k 0<=4294967295)):cok pc n zs=false:=by
 unfold cok;rw [Bool.and_eq_false_iff];right;rw [List.all_eq_false];refine ⟨zs.getD k 0,?_,by simpa using h⟩;rw [xB,xN hk];exact List.getElem_mem hk
theorem aDm {zs:qi}(h0:0<=pc)(h1:pc<=4294967295)(hl:zs.length=8)(h:∀ j,j<8->0<=zs.getD j 0/\zs.getD j 0<=4294967295):cok pc 8 zs=true:=by
 unfold cok;rw [Bool.and_eq_true];refine ⟨by simp;omega,?_⟩;rw [List.all_eq_true];intro z hz;obtain ⟨j,hj,rfl⟩:=List.getElem_of_mem hz;have:=h j (by omega);rw [xB,xN hj] at this;simpa using this
theorem aA1 (pc:Int)(a:qO)(n cap:Nat)(zs:qi)(w:qw)(h:IS w a n cap zs):
 qC 76 #[.agg #[qI pc,qS a n cap]] w (qB w (.bool (cok pc n zs))):=by
 have hB0:qY w (w.alloc (.cells #[qI pc,qS a n cap] 38)):=bal;have hmx:=h.2.1;unfold maxLen at hmx;have hl:=h.1;by_cases c1:pc<0
 .have HF:Zh (cok pc n zs=false):=by show _=_;unfold cok;simp;omega
  rw [HF.o];go_enter func76,ntmps76
  go_wp2;go_ret;exact ⟨rfl,hB0⟩
 .by_cases c2:4294967295<pc
  .have HF:Zh (cok pc n zs=false):=by show _=_;unfold cok;simp;omega
   rw [HF.o];go_enter func76,ntmps76
   go_wp2;go_ret;exact ⟨rfl,hB0⟩
  .by_cases c3:n=8
   .subst c3;obtain ⟨b,off,rfl⟩:=h.addr (by omega);have h':=h.bw hB0;have HB:=zh hB0;clear h hB0 hmx;have h8:(((8:Nat):Int) !=8)=false:=by simp
    go_enter func76,ntmps76
    go_wp2;go_loop [3] (fun i=>∃ k:Nat,k<=8/\i=qI k/\Hid (∀ j,j<k->0<=zs.getD j 0/\zs.getD j 0<=4294967295)) (fun i=>8-(intOf i).toNat)
    .exact ⟨0,by omega,rfl,zh (fun j hj=>by omega)⟩
    .obtain ⟨k,hk,rfl,HJ⟩:=hrel;by_cases hlt:k<8
     .have hlt':(k:Int)<8:=by omega
      have hc:=h'.at k hlt;have HZ:Zh (∀ z,z=zs.getD k 0->¬ (0<=z/\z<=4294967295)->cok pc 8 zs=false):=fun z hz hn=>aGy k (by omega) (by rw [<- hz];exact hn)
      have HG:=zh (show ∀ z,z=zs.getD k 0->(0<=z/\z<=4294967295)->∀ j,j<k+1->0<=zs.getD j 0/\zs.getD j 0<=4294967295 from fun z hz hn j hj=>by
       by_cases e:j=k
       .subst e;rw [<- hz];exact hn
       .exact HJ.out j (by omega))
      obtain ⟨z,hz⟩:=eqx (zs.getD k 0);rw [<- hz] at hc;have HZ:=zh (HZ.o z hz);have HG:=zh (HG.o z hz);clear hz;by_cases z0:z<0
      .have HX:=zh (HZ.o (by omega));go_wp2;go_ret;exact ⟨aA HX.o.symm,HB.o⟩
      .by_cases z1:4294967295<z
       .have HX:=zh (HZ.o (by omega));go_wp2;go_ret;exact ⟨aA HX.o.symm,HB.o⟩
       .go_wp2
        go_round
        .exact ⟨k+1,by omega,by go_num,zh (HG.o (by omega))⟩
        .simp [intOf];omega
     .have e:Zh (cok pc 8 zs=true):=zh (aDm (by omega) (by omega) hl (fun j hj=>HJ.out j (by omega)));go_wp2;go_ret;exact ⟨aA e.o.symm,HB.o⟩
   .have HF:Zh (cok pc n zs=false):=by show _=_;unfold cok;simp;omega
    rw [HF.o];have h8:((n:Int) !=8)=true:=by simp;omega
    go_enter func76,ntmps76
    go_wp2;go_ret;exact ⟨rfl,hB0⟩
theorem aFj (pc:Int)(a:qO)(n cap:Nat)(zs:qi)(w:qw)(h:IS w a n cap zs):
 qC 156 #[.agg #[qI pc,qS a n cap]] w (qB w (.bool (cok pc n zs))):=by
 have hB0:qY w (w.alloc (.cells #[qI pc,qS a n cap] 38)):=bal;have hmx:=h.2.1;unfold maxLen at hmx;have hl:=h.1;have HIW:=zh (fun v w=>cC v w);by_cases c1:pc<0
 .have HF:Zh (cok pc n zs=false):=by show _=_;unfold cok;simp;omega
  rw [HF.o];have HW:=zh (fun w=>cC pc w);rw [xS (by omega)] at HW;go_enter func156,ntmps156
  go_wp2_with (go_at_call 190;refine (HW.o _).mono ?_;rintro e w' ⟨rfl,rfl⟩)
  go_ret;exact ⟨rfl,hB0⟩
 .by_cases c2:4294967295<pc
  .have HF:Zh (cok pc n zs=false):=by show _=_;unfold cok;simp;omega
   rw [HF.o];have HW:=zh (fun w=>cC pc w);rw [xS (by omega)] at HW;go_enter func156,ntmps156
   go_wp2_with (go_at_call 190;refine (HW.o _).mono ?_;rintro e w' ⟨rfl,rfl⟩)
   go_ret;exact ⟨rfl,hB0⟩
  .by_cases c3:n=8
   .subst c3;obtain ⟨b,off,rfl⟩:=h.addr (by omega);have h':=h.bw hB0;have HB:=zh hB0;clear h hB0 hmx;have h8:(((8:Nat):Int) !=8)=false:=by simp
    have HW:=zh (fun w=>cC pc w);rw [xR (by omega)] at HW;go_enter func156,ntmps156
    go_wp2_with (go_at_call 190;refine (HW.o _).mono ?_;rintro e w' ⟨rfl,rfl⟩)
    go_loop [18] (fun i=>∃ k:Nat,k<=8/\i=qI k/\Hid (∀ j,j<k->0<=zs.getD j 0/\zs.getD j 0<=4294967295)) (fun i=>8-(intOf i).toNat)
    .exact ⟨0,by omega,rfl,zh (fun j hj=>by omega)⟩
    .obtain ⟨k,hk,rfl,HJ⟩:=hrel;by_cases hlt:k<8
     .have hlt':(k:Int)<8:=by omega
      have hc:=h'.at k hlt;have HZ:Zh (∀ z,z=zs.getD k 0->¬ (0<=z/\z<=4294967295)->cok pc 8 zs=false):=fun z hz hn=>aGy k (by omega) (by rw [<- hz];exact hn)
      have HG:=zh (show ∀ z,z=zs.getD k 0->(0<=z/\z<=4294967295)->∀ j,j<k+1->0<=zs.getD j 0/\zs.getD j 0<=4294967295 from fun z hz hn j hj=>by
       by_cases e:j=k
       .subst e;rw [<- hz];exact hn
       .exact HJ.out j (by omega))
      obtain ⟨z,hz⟩:=eqx (zs.getD k 0);rw [<- hz] at hc;have HZ:=zh (HZ.o z hz);have HG:=zh (HG.o z hz);clear hz;by_cases z0:z<0
      .have HX:=zh (HZ.o (by omega));have HV:=zh (fun w=>cC z w);rw [xS (by omega)] at HV;go_wp2_with (go_at_call 190;refine (HV.o _).mono ?_;rintro e w' ⟨rfl,rfl⟩)
       go_ret;exact ⟨aA HX.o.symm,HB.o⟩
      .by_cases z1:4294967295<z
       .have HX:=zh (HZ.o (by omega));have HV:=zh (fun w=>cC z w);rw [xS (by omega)] at HV;go_wp2_with (go_at_call 190;refine (HV.o _).mono ?_;rintro e w' ⟨rfl,rfl⟩)
        go_ret;exact ⟨aA HX.o.symm,HB.o⟩
       .have HV:=zh (fun w=>cC z w);rw [xR (by omega)] at HV;go_wp2_with (go_at_call 190;refine (HV.o _).mono ?_;rintro e w' ⟨rfl,rfl⟩)
        go_round
        .exact ⟨k+1,by omega,by go_num,zh (HG.o (by omega))⟩
        .simp [intOf];omega
     .have e:Zh (cok pc 8 zs=true):=zh (aDm (by omega) (by omega) hl (fun j hj=>HJ.out j (by omega)));go_wp2;go_ret;exact ⟨aA e.o.symm,HB.o⟩
   .have HF:Zh (cok pc n zs=false):=by show _=_;unfold cok;simp;omega
    rw [HF.o];have h8:((n:Int) !=8)=true:=by simp;omega
    have HW:=zh (fun w=>cC pc w);rw [xR (by omega)] at HW;go_enter func156,ntmps156
    go_wp2_with (go_at_call 190;refine (HW.o _).mono ?_;rintro e w' ⟨rfl,rfl⟩)
    go_ret;exact ⟨rfl,hB0⟩
theorem yX (a1 a2 a3:qO)(n1 c1 n2 c2 n3 c3 g o base k:Nat)(cs:Array Value)(t:TypeId)(x1 x2 x3:qi)(p v:Int)(w:qw)(hk:Blk w g cs t)(h1:cs[o]?=some (qS a1 n1 c1))(h2:cs[o+1]?=some (qS a2 n2 c2))(h3:cs[o+2]?=some (qS a3 n3 c3))(h:gL w base (qS a1 n1 c1) (qS a2 n2 c2) (qS a3 n3 c3) x1 x2 x3)
 (far:∀ v,v=qS a1 n1 c1\/v=qS a2 n2 c2\/v=qS a3 n3 c3->v.ownBlock≠some g) (hb:base<=w.heap.size) (hv:-9223372036854775808<=v/\v<=9223372036854775807) (hpk:p-65536=(k:Int)) (hkn:k+4<=n2) (hn2:n2<=16384) (hm:mok n1 n2 n3=true) (ha:p%4=0):
 qC 223 #[.pointer (some (qR g o)),qI p,qI 4,qI v] w (aPo w g o cs t base (qS a1 n1 c1) (qS a2 n2 c2) (qS a3 n3 c3) (x1,put x2 k v 4,x3,0)):=by
 have hmk:=hm;unfold mok at hmk;simp at hmk;have HF:=zh (fun w=>aLy a1 a2 a3 n1 c1 n2 c2 n3 c3 p w hm (by omega) (by rw [xL (by omega)];simp [ha]) (by simp;omega) (by unfold ins;simp;omega) (by unfold ins;simp;omega));have hp:(p==131072)=false:=by simp;omega
 have hp0:65536<=p:=by omega
 have hp1:p<=131072:=by omega
 obtain ⟨g2,rfl⟩:=aCp h.2.1;have q1:=(hk.cell o).trans h1;have q2:=(hk.cell (o+1)).trans h2;have q3:=(hk.cell (o+2)).trans h3;clear hm hmk ha;go_enter func223,ntmps223
 go_wp2_with fail
 refine (HF.o _).mono ?_;rintro e w1 ⟨rfl,hb1⟩;have k1:=hk.bw hb1;have O1:=sJ h hb1;have t1:Turn (fun j=>j=g\/(qS (qP g2) n2 c2).ownBlock=some j\/(qS a3 n3 c3).ownBlock=some j) w w1:=aJ hb1;have hcap:=(O1.2.1.bs).2.2.2.2;clear q1 q2 q3 hb1;have q1:=(k1.cell o).trans h1;have q2:=(k1.cell (o+1)).trans h2;have q3:=(k1.cell (o+2)).trans h3;have K1:=zh k1;have HO1:=zh O1;have HT1:=zh t1;have HFAR:=zh far;have H3:=zh h3;clear k1 O1 t1 far h1 h2 h3 h hk;go_wp2_with fail
 refine (mA g2 (n2-k) (c2-k) k v _ (sU HO1.o.2.1) (by omega) hv).mono ?_;rintro e w3 ⟨rfl,rfl⟩;obtain ⟨y1,y2⟩:=aMk (gg:=g) HO1.o (jC g2 k v _) (sV HO1.o.2.1 k v);have kk:=bY (jC g2 k v _) K1.o (fun e=>HFAR.o _ (Or.inr (Or.inl rfl)) (by rw [e];rfl));have HY:=zh (xA y1 y2);have KK:=zh kk;generalize sC w1 g2 k v=w3 at *;clear y1 y2 kk q1 q2 q3;go_wp2;go_ret;exact ⟨a3,n3,c3,rfl,by rw [aJf H3.o];exact KK.o,HY.o.1,HFAR.o _ (Or.inr (Or.inr rfl)),HT1.o.trans HY.o.2⟩
