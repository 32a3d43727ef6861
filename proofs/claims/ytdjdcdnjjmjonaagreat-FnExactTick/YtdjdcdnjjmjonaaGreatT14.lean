import Derived.Test.YtdjdcdnjjmjonaaGreatT11
import Derived.Test.YtdjdcdnjjmjonaaGreatT12
set_option linter.all false
set_option maxHeartbeats 4000000
namespace Go.Proofs.YtdjdcdnjjmjonaaGreat
open Go.RowKit
open Go.Proofs.Tryz
set_option maxRecDepth 100000
variable {A:qO}{C:Cn}{G c g k:Nat}{M:Mn}{R:List Rg}{cs:Array Value}{v13 vr:Value}
structure Lyb where
 L:Lay
 a0:qO
 c0:Nat
 xs:List PB
 a2:qO
 c2:Nat
 a5:qO
 c5:Nat
 ts:List TB
abbrev Lyb.T (Y:Lyb)(w:qw):Prop:=LyT w Y.L Y.a0 Y.c0 Y.xs Y.a2 Y.c2 Y.a5 Y.c5 Y.ts
def Blk.mg {w:qw}{b:Nat}{t:TypeId}{v0 v1 v2 v3 v4 E D F B y p a l f x j s e i d q u v23:Value}(h:Blk w b #[v0,v1,v2,v3,v4,E,D,F,B,y,p,a,l,v13,f,x,j,s,e,i,d,q,u,v23] t):w.cell? (qR b 0)=some v0/\w.cell? (qR b 1)=some v1/\w.cell? (qR b 2)=some v2/\w.cell? (qR b 3)=some v3/\w.cell? (qR b 4)=some v4/\w.cell? (qR b 5)=some E/\w.cell? (qR b 6)=some D/\w.cell? (qR b 7)=some F/\w.cell? (qR b 8)=some B/\w.cell? (qR b 9)=some y/\w.cell? (qR b 10)=some p/\w.cell? (qR b 11)=some a/\w.cell? (qR b 12)=some l/\w.cell? (qR b 13)=some v13/\w.cell? (qR b 14)=some f/\w.cell? (qR b 15)=some x/\w.cell? (qR b 16)=some j/\w.cell? (qR b 17)=some s/\w.cell? (qR b 18)=some e/\w.cell? (qR b 19)=some i/\w.cell? (qR b 20)=some d/\w.cell? (qR b 21)=some q/\w.cell? (qR b 22)=some u/\w.cell? (qR b 23)=some v23:=⟨h.cell 0,h.cell 1,h.cell 2,h.cell 3,h.cell 4,h.cell 5,h.cell 6,h.cell 7,h.cell 8,h.cell 9,h.cell 10,h.cell 11,h.cell 12,h.cell 13,h.cell 14,h.cell 15,h.cell 16,h.cell 17,h.cell 18,h.cell 19,h.cell 20,h.cell 21,h.cell 22,h.cell 23⟩
structure Mg (w1 W:qw)(G:Nat)(Y:Lyb)(C:Cn)(M:Mn)(v13 vr:Value):Prop where
 b:qY w1 W
 g:w1.heap.size<=G
 k:Blk W G #[qS M.ma M.mn M.mc,qI M.cs,qI M.cw,qI M.ck,qI M.cd,qI M.pc,qS M.ka M.kn M.kc,qS M.fa M.fn M.fc,qS M.ra M.rn M.rc,qS M.oa M.on M.oc,qI M.md,qI M.bk,qS M.la M.ln M.lc,v13,qI M.tn,qS Y.a0 Y.xs.length Y.c0,qI Y.L.stack,qS Y.a2 Y.L.slots.length Y.c2,qI Y.L.flash,qI Y.L.ram,qS Y.a5 Y.ts.length Y.c5,qI M.cd,qS M.ha M.hn M.hc,vr] 142
 m:∃base aP Ls β,MxO W base aP C M Ls β/\w1.heap.size<=base/\aP<=G
 l:Y.T w1
def Mg.bw {b W d:qw}{Y:Lyb}(h:Mg b W G Y C M v13 vr)(a:qY W d):Mg b d G Y C M v13 vr:=by
 let⟨f,aP,e,i,m,g⟩:=h.m;exact⟨yT h.b a,h.g,h.k.bw a,⟨f,aP,e,i,m.bw a,g⟩,h.l⟩
def Mg.ly {a W:qw}{Y:Lyb}(h:Mg a W G Y C M v13 vr):Y.T W:=h.l.bw h.b
def Mg.vs {a W:qw}{Y:Lyb}(h:Mg a W G Y C M v13 vr):(M.cs=C.cs/\M.cw=C.cw/\M.ck=C.ck/\M.cd=C.cd/\M.pc=C.pc/\M.md=C.md/\M.bk=C.bk/\M.tn=C.tn)/\aF M.ms=C.ps/\M.lz=C.lz:=by
 let⟨d,aP,b,f,m,e⟩:=h.m;exact⟨m.vs,by rw[m.vz.1,m.m.pms,m.e],m.vz.2.2.2.2.2.1⟩
def Mg.mnd {a W:qw}{Y:Lyb}(h:Mg a W G Y C M v13 vr)(hn:C.ps.length<=4):MnD W M:=by
 let⟨d,aP,b,f,m,e⟩:=h.m;refine m.mnd ?_;have:=m.len;have:=congrArg List.length m.e
 grind
def aBu (q G Y C M l p w)(h:Mg q w G Y C M l p):qC 148 #[.pointer$ qP G] w (qB w$ .agg$ qT M.md M.bk 0):=by
 let⟨V,d⟩:=aN$ w.alloc$ .cells (qT 0 0 0) 121;have a:qY w V:=by rw[d];exact bal
 have:=(h.k.bw a).e10;have:=(h.k.bw a).e11;have b:Blk V w.heap.size (qT 0 0 0) 121:=by rw[d];exact Blk.new _ _ _
 let⟨f,g,k,s⟩:=b.three;have j:=zh d;have:G<w.heap.size:=h.k.lt;have:¬w.heap.size=G:=J
 have i:Zh (qY w$ ((V.setCell (qh w 0)$ qI M.md).setCell (qh w 1)$ qI M.bk).setCell (qh w 2)$ qI 0):=((a.setCell Jd _).setCell Jd _).setCell Jd _;clear d a b h
 delta qC;go_in
 go_wp2_with (rw[<-j.o])
 go_region_held3 (λe=>qN e G 10=qj M.md/\qN e G 11=qj M.bk) (go_keep) (fail)
 all_goals
  go_wp2;exact bodyPost_ret (v:=.agg$ qT M.md M.bk 0) (by simp[results,results148,go_sem,f,g,k]) rfl ⟨rfl,i.o.drew⟩
def vO (q G Y C M k p w)(h:Mg q w G Y C M k p):qC 149 #[.pointer$ qP G] w (qB w$ qI$ hld C.lz M.md M.bk):=by
 have d:=h.k.e10;have b:=h.k.e11;have f:=h.k.e12
 have j:=zh (λ(X:qw)(l:qY w X)=>(lJ M.la M.ln M.lc C.lz M.md M.bk X (by
  let⟨x,aP,s,y,m,_⟩:=h.m
  exact(tU cH m.l).bw l)).mono λe g i=>show e=.returned (qI$ hld C.lz M.md M.bk)/\qY w g from⟨i.1,yT l i.2⟩)
 generalize hld C.lz M.md M.bk=r at *
 delta qC;go_in
 go_wp2_with fail
 go_region_held3 (λg=>qN g G 10=qj M.md/\qN g G 11=qj M.bk/\qN g G 12=qk M.la M.ln M.lc) (go_keep)
  (first
    | (go_at_call 192;first
        | with_reducible refine(j.o _ brf).mono ?_
        | with_reducible refine(j.o _ brf.drew).mono ?_
       rintro e u ⟨rfl,a⟩;have:=aB a d;have:=aB a b;have:=aB a f;have t:=zh a
       clear a))
 all_goals
  go_wp2;go_ret;exact⟨rfl,t⟩
def aBj (O G Y C M K N m b t w)(h:Mg O w G Y C M K N)(hn:C.ps.length<=4):qC 279 #[.pointer$ qP G,.agg$ qT m b t] w (qB w$ .bool$ decide$ C.tn<1000000000/\tgk C.ps m b t):=by
 let⟨V,B,k,D⟩:=nwb w (qT m b t) 121;have x:=(h.k.bw k).e0;have i:=(h.k.bw k).e14;let⟨E,F,I,_⟩:=D.three;have e1:=h.vs.1.2.2.2.2.2.2.2;have e2:=h.vs.2.1;have p:=zb V λX u=>(lI M.ma M.mn M.mc M.ms m b t X$ ((h.mnd hn).m.bw k).bw u).mono (λe g l=>show e=.returned (.bool$ decide$ tgk C.ps m b t)/\qY V g from⟨by rw[l.1,e2],yT u l.2⟩);rw[<-e1];have s:=zh B;have j:=zh k;let⟨r,y⟩:=aN$ decide$ M.tn<1000000000/\tgk C.ps m b t;rw[<-y];by_cases A:M.tn<1000000000
 .have d:=zh (show r=decide (tgk C.ps m b t)by rw[y];simp[A]);generalize decide (tgk C.ps m b t)=q at *;clear h B k D e1 e2 y
  delta qC;go_in
  go_wp2_with (rw[<-s.o])
  go_region_held3 (λg=>qN g G 0=qk M.ma M.mn M.mc/\qN g G 14=qj M.tn/\qn g w 0=qj m/\qn g w 1=qj b/\qn g w 2=qj t) (go_keep)
   (first
     | (go_at_call 193;first
         | with_reducible refine(p.o _ brf).mono ?_
         | with_reducible refine(p.o _ brf.drew).mono ?_
        rintro e H ⟨rfl,a⟩;have:=aB a x;have:=aB a i;have:=aB a E;have:=aB a F;have:=aB a I;have f:=zh a
        clear a))
  all_goals
   go_wp2;go_ret;exact⟨aA d.symm,yT j f⟩
 .have d:=zh (show r=false by rw[y];simp[A]);have:decide (M.tn<1000000000)=false:=by simp[A]
  have:(M.tn<1000000000)=False:=by simp[A]
  clear h B k D e1 e2 y
  delta qC;go_in
  go_wp2_with (rw[<-s.o])
  refine wp_region_held_drew (S:=(λg=>qN g G 14=qj M.tn)) Je ?_ λhHeld=>?_
  .go_keep
  refine tkV 0 ?_ rfl ?_ ?_;rotate_left
  ·(intro w hSw;(try dsimp only at hSw);go_simp;try with_reducible rfl)
  try simp only[yG,Act.put]
  refine tkV 1 ?_ rfl ?_ ?_;rotate_left
  ·(intro w hSw;(try dsimp only at hSw);go_simp;try with_reducible rfl)
  try simp only[yG,Act.put]
  refine tkV 2 ?_ rfl ?_ ?_;rotate_left
  ·(intro w hSw;(try dsimp only at hSw);go_simp;try with_reducible rfl)
  try simp only[yG,Act.put]
  refine tkV 3 ?_ rfl ?_ ?_;rotate_left
  ·(intro w hSw;(try dsimp only at hSw);go_simp;try with_reducible rfl)
  try simp only[yG,Act.put]
  refine tkV 4 ?_ rfl ?_ ?_;rotate_left
  ·(intro w hSw;(try dsimp only at hSw);go_simp;try with_reducible rfl)
  try simp only[yG,Act.put]
  refine tkV 5 ?_ rfl ?_ ?_;rotate_left
  ·(intro w hSw;(try dsimp only at hSw);go_simp;try with_reducible rfl)
  try simp only[yG,Act.put]
  refine tkV 6 ?_ rfl ?_ ?_;rotate_left
  ·(intro w hSw;(try dsimp only at hSw);go_simp;try with_reducible rfl)
  try simp only[yG,Act.put]
  refine tkS 7 rfl ?_;try simp only[yG,Act.put]
  refine tkS 8 rfl ?_;try simp only[yG,Act.put]
  refine tkS 9 rfl ?_;try simp only[yG,Act.put]
  refine tkS 10 rfl ?_;try simp only[yG,Act.put]
  refine tkS 11 rfl ?_;try simp only[yG,Act.put]
  refine tkS 12 rfl ?_;try simp only[yG,Act.put]
  refine tkS 13 rfl ?_;try simp only[yG,Act.put]
  refine tkV 14 ?_ rfl ?_ ?_;rotate_left
  ·(intro w hSw;(try dsimp only at hSw);go_simp;try with_reducible rfl)
  try simp only[yG,Act.put]
  refine tkV 15 ?_ rfl ?_ ?_;rotate_left
  ·(intro w hSw;(try dsimp only at hSw);go_simp;try with_reducible rfl)
  try simp only[yG,Act.put]
  refine wpAnyH_done Je ?_ _;go_wp2;go_ret;exact⟨aA d.symm,by first|exact j.drew|exact j⟩
def aJo (w:qw)(R:List Rg)(e:Ending)(w':qw):Prop:=
 ∃A k c,e=.returned (.tuple #[qS A k c,.bool$ decide$ R.length<=8])/\ORg w' w.heap.size (qS A k c) (if R.length<=8 then R else [])/\qY w w'
def aVj {w V X:qw}(a:qY w V)(h:k=R.length/\ORg X V.heap.size (qS A k c) R/\qY V X)(b:k<=8):aJo w R (.returned$ .tuple #[qS A k c,.bool true]) X:=by
 have e:R.length<=8:=J
 refine⟨A,k,c,by grind,by rw[if_pos e];exact vW h.2.1 a.size,yT a h.2.2⟩
def aVk {w V X:qw}(a:qY w V)(h:k=R.length/\ORg X V.heap.size (qS A k c) R/\qY V X)(b:¬k<=8):aJo w R (.returned$ .tuple #[qS none 0 0,.bool false]) X:=by
 have e:¬R.length<=8:=J
 refine⟨none,0,0,by grind,by rw[if_neg e];exact uX _ _,yT a h.2.2⟩
def vU (a n ao ms L a1 c0 xs a2 c2 R c5 ts m b a0 s w)(h:MSD w a n ao ms)(hL:LyT w L a1 c0 xs a2 c2 R c5 ts)
 (Y:Lok (aF ms) L) (hp:0<=pcq (aF ms) m b) (hs:s=-1\/(b≠-1/\0<=s/\s<(L.slots.length:Int))):
 qC 147 #[qS a n ao,.agg$ qJ L a1 xs c0 a2 c2 R ts c5,.agg$ qT m b a0,qI s] w (aJo w$ plR (aF ms) L m b s):=by
 have K:=pA (s:=s) hL Y hp;have hn:=h.s.1;have ap:=cK ms;obtain⟨m0,m1,m2,a3,a4,hw,hd,b0,az⟩:=K;have F:wfi (iR L (xs.getD m.toNat zPB) b s):=aFq hL Y hp hs;have ax:=zh$ fG h m b;let⟨W,hW⟩:=aN$ (w.alloc$ .cells (qJ L a1 xs c0 a2 c2 R ts c5) 65).alloc$ .cells (qT m b a0) 121;have hB:qY w W:=by rw[hW];exact bal.alloc Jb _
 have k0:Blk W w.heap.size (qJ L a1 xs c0 a2 c2 R ts c5) 65:=by rw[hW];exact(Blk.new w _ _).alloc _
 have k1:Blk W (w.heap.size+1) (qT m b a0) 121:=by rw[hW];have:=Blk.new (w.alloc$ .cells (qJ L a1 xs c0 a2 c2 R ts c5) 65) (qT m b a0) 121;simpa using this
 have h1:=h.bw hB;have p:=hL.bw hB;obtain⟨gp,op,rfl,q0,q1,q2,q3⟩:=p.p.at m.toNat J;unfold svP at q1;have b6:=p.p.2.1;have d0:=k0.e0;have t0:=k1.e0;let⟨P,hP⟩:=aN$ xs.getD m.toNat zPB;rw[<-hP]at q0 q1 q2 q3 a3 a4 F;rw[<-a3]at hd;obtain⟨⟨tx,bk,C,sz⟩,pa,pc⟩:=P;dsimp only at q0 q1 q2 q3 a3 a4 hd;have HP:=zh hP;obtain⟨b9,ba,bb,bc⟩:=hd;obtain⟨bd,be⟩:=b0;obtain⟨b7,b8⟩:=az;let⟨q,hq⟩:=aN$ pcq (aF ms) m b;have HQ:=zh hq
 have a9:=zh (show plR (aF ms) L m b s=(([]++rts true true false (cvL C sz))++rts true true false (cvL L.stack$ cW L-L.stack)++rts false true false (cvL 131072 32))++rts false false true (cvL (iR L ((⟨tx,bk,C,sz⟩,pa,pc):PB) b s)$ rnd$ 4*q)by
  unfold plR;rw[<-a3,hq]
  rfl)
 rw[a9.o];rw[<-hq]at hw hp;clear a9;let⟨V,hV,bV,kV⟩:=nwb W #[qI tx,qS pa bk.length pc,qI C,qI sz] 170;have ak:=k0.bw bV;have a8:=k1.bw bV;have ay:=zh$ yT hB bV;have h2:=h1.bw bV;have av:=p.bw bV;have HW:=zh hW;have HV:=zh hV;have HM:=zh h2;have aa:=zh av;have f:=zh$ xA ak$ xA a8 kV;clear hW hV k0 k1 h h1 hL p hB bV ak a8 kV hP a3 hq
 delta qC;go_in
 go_wp2_with (first|rw[<-HW.o]|rw[<-HV.o])
 obtain⟨gm,om,rfl,v0,v1,v2,v3,v4,v5,v6,v7⟩:=HM.s.at m.toNat J;have N:=HM.s.2.2.2.1 m.toNat J
 have U:pcn (ms.getD m.toNat aL).tn (ms.getD m.toNat aL).bn (ms.getD m.toNat aL).bl b=q:=by
  rw[HQ.o,<-ax.o];unfold pcm;rw[if_pos J]
 generalize ms.getD m.toNat aL=M at *
 have S:=zh (show ∀X,qY V X->qC 195 #[.agg$ qM M.nm M.ta M.tn M.tc M.ba M.bn M.bc M.da M.dn M.dc M.bss M.ra M.rn M.rc M.ia M.im M.ic M.ea M.en M.ec,qI b] X (λe g=>∃xa l xc,e=.returned (.tuple #[qS xa l xc,.bool true])/\(l:Int)=q/\qY V g)from λX hX=>
  (jQ M.nm M.ta M.tn M.tc M.ba M.bn M.bc M.bl (qS M.da M.dn M.dc) (qS M.ra M.rn M.rc) (qS M.ia M.im M.ic) (qS M.ea M.en M.ec) M.bss b X N.t.2.1$ N.b.bw hX).mono λe g⟨xa,l,xc,ok,H,ho,hx,_,hb⟩=>by
    have ac:ok=true:=by rw[ho,U];simp;omega
    exact⟨xa,l,xc,by rw[H,ac],by rw[hx ac,U],yT hX hb⟩)
 have x0:=f.1.ly6;have y0:=f.2.1.e0;have y1:=f.2.1.e1;have aw:=HM.s.2.1;unfold maxLen at aw;have b4:m<(n:Int):=J
 clear q0 q1 q2 q3 d0 t0 N U ap hn
 go_region_held3 (λg=>qg g w 0=qj m/\qg g w 1=qj b/\qN g gm (om+m.toNat*8)=some (.string M.nm)/\qN g gm (om+m.toNat*8+1)=qk M.ta M.tn M.tc/\qN g gm (om+m.toNat*8+2)=qk M.ba M.bn M.bc/\qN g gm (om+m.toNat*8+3)=qk M.da M.dn M.dc/\qN g gm (om+m.toNat*8+4)=qj M.bss/\qN g gm (om+m.toNat*8+5)=qk M.ra M.rn M.rc/\qN g gm (om+m.toNat*8+6)=qk M.ia M.im M.ic/\qN g gm (om+m.toNat*8+7)=qk M.ea M.en M.ec) (go_keep)
  (first
    | (go_at_call 195;first
        | with_reducible refine(S.o _ brf).mono ?_
        | with_reducible refine(S.o _ brf.drew).mono ?_
       rintro e w1 ⟨xa,l,xc,rfl,ab,d⟩;have y:=zh d;have af:=zh ab;have C1:=(f.2.1.bw d).cell 0;have C2:=(f.2.1.bw d).cell 1;have u0:=aB d v0;have u1:=aB d v1;have u2:=aB d v2;have u3:=aB d v3;have u4:=aB d v4;have u5:=aB d v5;have u6:=aB d v6;have u7:=aB d v7
       clear d ab))
 have u:=zh (show ∀X,qY V X->qn X W 2=qj C/\qn X W 3=qj sz/\(qn X w 0=qk (qe gp op) xs.length c0/\qn X w 1=qj L.stack/\qn X w 2=qk a2 L.slots.length c2/\qn X w 3=qj L.flash/\qn X w 4=qj L.ram/\qn X w 5=qk R ts.length c5)/\qg X w 0=qj m/\qg X w 1=qj b/\qg X w 2=qj a0 from λX G=>
  ⟨(f.2.2.bw G).cell 2,(f.2.2.bw G).cell 3,(f.1.bw G).ly6,(f.2.1.bw G).cell 0,(f.2.1.bw G).cell 1,(f.2.1.bw G).cell 2⟩)
 have ah:Zh (∀X,qY V X->qC 197 #[.agg$ qL L (qe gp op) xs.length c0 a2 L.slots.length c2 R ts.length c5] X (λe g=>e=.returned (qI$ cW L)/\qY V g)):=λX G=>(aCw L (qe gp op) c0 xs a2 c2 R c5 ts X$ aa.bw G).mono λe g H=>⟨H.1,yT G H.2⟩;have am:Zh (∀X,qY V X->qC 198 #[.agg$ qL L (qe gp op) xs.length c0 a2 L.slots.length c2 R ts.length c5,.agg$ qT m b a0,qI s] X (λe g=>e=.returned (qI$ iR L ((⟨tx,bk,C,sz⟩,pa,pc):PB) b s)/\qY V g)):=λX G=>(lP L (qe gp op) c0 xs a2 c2 R c5 ts m b a0 s X (aa.o.bw G) m0 m1 (by rw[<-HP.o];exact a4) hs).mono λe g H=>⟨by rw[HP.o];exact H.1,yT G H.2⟩;have b3:(l:Int)<=200:=by rw[af.o];exact hw.2
 have au:=zh λ(X:qw)=>oK xa l xc X J;have b2:=bC (x:=4*(l:Int));have ai:=zh (show rnd (4*q)=rnd (4*(l:Int))by rw[af.o]);generalize ag:iR L ((⟨tx,bk,C,sz⟩,pa,pc):PB) b s=og at *;generalize hE:cW L=E at *;generalize rnd (4*(l:Int))=D at *;have b5:=zh ag;have HE:=zh hE;have ar:Zh (IntKind.i64.wrap (E-L.stack)=E-L.stack):=rP
 have HJ:=zh (show ∀X,qY V X->qC 196 #[qS (qp X) 4 4] (X.alloc$ .cells #[qI C,qI sz,.bool true,.bool true,.bool false,qI L.stack,qI$ IntKind.i64.wrap$ E-L.stack,.bool true,.bool true,.bool false,qI 131072,qI 32,.bool false,.bool true,.bool false,qI og,qI D,.bool false,.bool false,.bool true] 252) (λe g=>∃A k c,e=.returned (qS A k c)/\k=((([]++rts true true false (cvL C sz))++rts true true false (cvL L.stack$ E-L.stack)++rts false true false (cvL 131072 32))++rts false false true (cvL og D)).length/\ORg g V.heap.size (qS A k c) ((([]++rts true true false (cvL C sz))++rts true true false (cvL L.stack$ E-L.stack)++rts false true false (cvL 131072 32))++rts false false true (cvL og D))/\qY V g)from λX hX=>by
  have j:=Blk.new X #[qI C,qI sz,.bool true,.bool true,.bool false,qI L.stack,qI$ IntKind.i64.wrap$ E-L.stack,.bool true,.bool true,.bool false,qI 131072,qI 32,.bool false,.bool true,.bool false,qI og,qI D,.bool false,.bool false,.bool true] 252;have BX:qY V (X.alloc$ .cells #[qI C,qI sz,.bool true,.bool true,.bool false,qI L.stack,qI$ IntKind.i64.wrap$ E-L.stack,.bool true,.bool true,.bool false,qI 131072,qI 32,.bool false,.bool true,.bool false,qI og,qI D,.bool false,.bool false,.bool true] 252):=hX.alloc hX.size _;rw[ar.o]at j BX⊢;refine(aIo X.heap.size 0 4 4 [(C,sz,true,true,false),(L.stack,E-L.stack,true,true,false),(131072,32,false,true,false),(og,D,false,false,true)] _ rfl aO ?_ ?_).mono ?_
  .intro i hi
   match i with
   | 0=>exact⟨by unfold wfi;simp;omega,by unfold wfi;simp;omega⟩
   | 1=>exact⟨by unfold wfi;simp;omega,by unfold wfi;simp;omega⟩
   | 2=>exact⟨by unfold wfi;simp,by unfold wfi;simp⟩
   | 3=>exact⟨F,by unfold wfi;simp;omega⟩
  .intro i hi
   match i with
   | 0=>exact⟨j.cell 0,j.cell 1,j.cell 2,j.cell 3,j.cell 4⟩
   | 1=>exact⟨j.cell 5,j.cell 6,j.cell 7,j.cell 8,j.cell 9⟩
   | 2=>exact⟨j.cell 10,j.cell 11,j.cell 12,j.cell 13,j.cell 14⟩
   | 3=>exact⟨j.cell 15,j.cell 16,j.cell 17,j.cell 18,j.cell 19⟩
  .rintro e g ⟨A,k,c,rfl,Y,ho,hb⟩;have er:([(C,sz,true,true,false),(L.stack,E-L.stack,true,true,false),(131072,32,false,true,false),(og,D,false,false,true)]:List Spn).flatMap spR=(([]++rts true true false (cvL C sz))++rts true true false (cvL L.stack$ E-L.stack)++rts false true false (cvL 131072 32))++rts false false true (cvL og D):=by simp[spR]
   rw[er]at Y ho
   exact⟨A,k,c,rfl,Y,vW ho BX.size,yT BX hb⟩)
 clear ag hE u0 u1 u2 u3 u4 u5 u6 u7 C1 C2 v0 v1 v2 v3 v4 v5 v6 v7 x0 y0 y1 S a4 hs Y;let⟨z2,z3,⟨z4,z5,z6,z7,z8,z9⟩,a5,a6,a7⟩:=u _ y;go_wp2_with fail
 go_region_held3 (λg=>qn g W 2=qj C/\qn g W 3=qj sz/\qn g w 0=qk (qe gp op) xs.length c0/\qn g w 1=qj L.stack/\qn g w 2=qk a2 L.slots.length c2/\qn g w 3=qj L.flash/\qn g w 4=qj L.ram/\qn g w 5=qk R ts.length c5/\qg g w 0=qj m/\qg g w 1=qj b/\qg g w 2=qj a0) (go_keep)
  (first
    | (go_at_call 197;first
        | with_reducible refine(ah.o _ y.o).mono ?_
        | with_reducible refine(ah.o _ y.o.drew).mono ?_
       rintro e w3 ⟨rfl,ae⟩;have t:=zh ae;clear ae
       let⟨z2,z3,⟨z4,z5,z6,z7,z8,z9⟩,a5,a6,a7⟩:=u _ t)
    | (go_at_call 198;first
        | with_reducible refine(am.o _ t.o).mono ?_
        | with_reducible refine(am.o _ t.o.drew).mono ?_
       rintro e w4 ⟨rfl,Z⟩;have B:=zh Z;clear Z
       let⟨z2,z3,⟨z4,z5,z6,z7,z8,z9⟩,a5,a6,a7⟩:=u _ B)
    | (go_at_call 199;with_reducible refine(au.o _).mono ?_;rintro e w5 ⟨rfl,rfl⟩)
    | (go_at_call 196;first
        | with_reducible refine(HJ.o _ B.o).mono ?_
        | with_reducible refine(HJ.o _ B.o.drew).mono ?_
       rintro e w6 ⟨A,k,c,rfl,an,aj,ad⟩;have I:=zh$ xA an$ xA aj ad;clear an aj ad
       let⟨z2,z3,⟨z4,z5,z6,z7,z8,z9⟩,a5,a6,a7⟩:=u _ I.2.2))
 have Q:=zh$ xA ay I;clear I y t B z2 z3 z4 z5 z6 z7 z8 z9 a5 a6 a7;rw[List.nil_append]at Q;by_cases h8:k<=8
 .have aq:(k:Int)<=8:=J
  have O:=zh$ aVj Q.1 Q.2 h8;rw[<-ai.o]at O;clear Q;go_wp2
  go_ret2
  first
   | exact O
   | (have hx:=O.o
      simp only[List.append_assoc]at hx
      exact hx)
 .have aq:¬(k:Int)<=8:=J
  have b1:(8:Int)<(k:Int):=J
  have O:=zh$ aVk Q.1 Q.2 h8;rw[<-ai.o]at O;clear Q;go_wp2
  go_ret2
  first
   | exact O
   | (have hx:=O.o
      simp only[List.append_assoc]at hx
      exact hx)
def aJi {P:Program}{f:FuncId}{fn:Func}{c:Code}{args:Array Value}{w:qw}{R:Ending->World->Prop}(a:P.funcs[f]?=some fn)(b:fn.body=some c)(h:c.wp P (bodyPost P fn R) { tmps:=args++Array.replicate (fn.ntmps-args.size) undef,defers:=[] } w):Calls P f args w R/\∀u,CallsD P f args u w λe d w'=>d=u/\R e w':=⟨calls_of_wp a b h,λu=>callsD_of_wp a b h⟩
def MxO.gm {W d:qw}{base aP:Nat}{b:List (PMod×Mb)}{β:Nat->Nat}(h:MxO W base aP C M b β)(kb:Blk W G cs 142)(e:aP<=G)(T:Turn (λj=>j=G) W d):MxO d base aP C M b β:=
 ⟨h.upd T (λj a=>by grind),h.e,aX T h.k$ aU kb h.k.1 Ja,dX h.q T (λj a=>by
  rcases a with q|q|q
  .exact aU kb h.q.1.1 Ja j q
  .exact aU kb h.q.2.1.1 Ja j q
  .exact aU kb h.q.2.2.1.1 Ja j q),h.l.kept T$ aU kb h.l Ja,h.h.kept T$ aU kb h.h Ja,h.bm,h.bh,h.vs,h.vz⟩
def Mg.put {p W:qw}{Y:Lyb}(h:Mg p W G Y C M v13 vr)(i v){a:Mn}{l:Cn}{b vr':Value}(e:(#[qS M.ma M.mn M.mc,qI M.cs,qI M.cw,qI M.ck,qI M.cd,qI M.pc,qS M.ka M.kn M.kc,qS M.fa M.fn M.fc,qS M.ra M.rn M.rc,qS M.oa M.on M.oc,qI M.md,qI M.bk,qS M.la M.ln M.lc,v13,qI M.tn,qS Y.a0 Y.xs.length Y.c0,qI Y.L.stack,qS Y.a2 Y.L.slots.length Y.c2,qI Y.L.flash,qI Y.L.ram,qS Y.a5 Y.ts.length Y.c5,qI M.cd,qS M.ha M.hn M.hc,vr]:Array Value).setIfInBounds i v=#[qS a.ma a.mn a.mc,qI a.cs,qI a.cw,qI a.ck,qI a.cd,qI a.pc,qS a.ka a.kn a.kc,qS a.fa a.fn a.fc,qS a.ra a.rn a.rc,qS a.oa a.on a.oc,qI a.md,qI a.bk,qS a.la a.ln a.lc,b,qI a.tn,qS Y.a0 Y.xs.length Y.c0,qI Y.L.stack,qS Y.a2 Y.L.slots.length Y.c2,qI Y.L.flash,qI Y.L.ram,qS Y.a5 Y.ts.length Y.c5,qI a.cd,qS a.ha a.hn a.hc,vr'])(q:∀{X:qw}{g aP:Nat}{d:List (PMod×Mb)}{f:Nat->Nat},MxO X g aP C M d f->MxO X g aP l a d f):Mg p (W.setCell (qR G i) v) G Y l a b vr':=by
 have T:=aC W G i v;let⟨g,aP,d,f,m,u,t⟩:=h.m;have k:=h.k.set i v;rw[e]at k;exact⟨aG h.b T (λj s=>jK h.g) h.b.size,h.g,k,⟨g,aP,d,f,q$ m.gm h.k t T,u,t⟩,h.l⟩
def gkd (ty:TypeId):Prop:=ty=5\/ty=142\/ty=132\/ty=3
def TGx (W W':qw):Prop:=Turn (λj=>∃cs ty,Blk W j cs ty/\gkd ty) W W'
def TGx.trans {A B C:qw}(h:TGx A B)(k:TGx B C):TGx A C:=
 ⟨k.os.trans h.os,k.tape.trans h.tape,k.output.trans h.output,xM h.size k.size,λj a hs=>by
  have e:=h.block j a hs
  exact(k.block j (Nat.lt_of_lt_of_le a h.size) λ⟨b,d,kb,q⟩=>hs ⟨b,d,e.symm.trans kb,q⟩).trans e⟩
def bP {W W':qw}(h:qY W W'):TGx W W':=aI h
def fD {S:Nat->Prop}{W W':qw}(t:Turn S W W')(h:∀j,S j->∃cs a,Blk W j cs a/\gkd a):TGx W W':=t.mono h
def TGx.blk {W a:qw}{ty:TypeId}(t:TGx W a)(k:Blk W g cs ty)(h:¬gkd ty):Blk a g cs ty:=aD t k (λ⟨c,y,kb,q⟩=>h (by rw[aH k kb];exact q))
def Kb (w w':qw):Prop:=∀(j:Nat)(cs:Array Value)(t:TypeId),¬(gkd t\/t=136)->Blk w j cs t->Blk w' j cs t
def Kb.trans {A B C:qw}(h:Kb A B)(k:Kb B C):Kb A C:=λj a t n b=>k j a t n$ h j a t n b
def TGx.kb {A B:qw}(h:TGx A B):Kb A B:=λj a t n b=>h.blk b λq=>n$ .inl q
def cG {A B:qw}(h:qY A B):Kb A B:=λj a t n b=>b.bw h
def rgR:Rg:=(65536,14,0,false,true,false)
def aQy (a)(b:65536<=a)(d:a<81920):cQ [rgR] a 2 1=true:=by
 have e1:rH rgR a=true:=by
  unfold rH rgR hs;simp;omega
 show(if rH ([rgR].getD 0 z6) a then yM ([rgR].getD 0 z6) 2 else cQ [rgR] a 2 0)=true;rw[show([rgR].getD 0 z6)=rgR from rfl,e1];rfl
def aQz (a)(b:65536<=a)(d:a+4<=81920):alw [rgR] 1 a 4 2=true:=by
 have e1:okB [rgR] 1=true:=Ja
 have e2:upB [rgR] a 2 1 (4:Int).toNat=true:=pM.2 (λi hi=>by
  have hi:i<4:=hi;have:wrap64 (a+i)=a+i:=by unfold wrap64;omega
  rw[this]
  exact aQy _ J J)
 unfold alw;rw[e1,e2];rfl
def aVg {W:qw}(k:Blk W g #[qI 65536,qI 14,qI 0,.bool false,.bool true,.bool false] 231):RS W (qP g) 1 1 [rgR]:=by
 refine⟨rfl,Ja,λg a=>?_,λ_=>⟨g,0,rfl,λi hi=>?_⟩,aO⟩
 .simp at a;subst a;unfold rgR wfi;simp
 .obtain rfl:i=0:=J
  exact⟨k.cell 0,k.cell 1,k.cell 2,k.cell 3,k.cell 4,k.cell 5⟩
def aLn (k G Y C M i s w)(h:Mg k w G Y C M i s):qC 281 #[.pointer$ qP G] w λe w'=>e=.returned (.tuple #[])/\∃g,Mg k w' G Y C M i (qS (qP g) 1 1)/\Blk w' g #[qI 65536,qI 14,qI 0,.bool false,.bool true,.bool false] 231/\TGx w w':=by
 let⟨V,p,f,q⟩:=nwb w #[qI 65536,qI 14,qI 0,.bool false,.bool true,.bool false] 231;have a:=h.bw f;have:=a.k.cell 23;have:=a.k.frozen 23;have:G<w.heap.size:=h.k.lt;have b:Zh (Mg k (V.setCell (qR G 23)$ qS (qp w) 1 1) G Y C M i (qS (qp w) 1 1)/\Blk (V.setCell (qR G 23)$ qS (qp w) 1 1) w.heap.size #[qI 65536,qI 14,qI 0,.bool false,.bool true,.bool false] 231/\TGx w (V.setCell (qR G 23)$ qS (qp w) 1 1)):=⟨a.put 23 _ rfl λx=>x,q.other (qR G 23) (qS (qp w) 1 1) Jd,(bP f).trans (fD (aC _ G 23 _) (λj d=>by subst d;exact⟨_,_,a.k,.inr$ .inl rfl⟩))⟩;have l:=zh p;clear p f q a h
 delta qC;go_in
 go_wp2_with (rw[<-l.o])
 go_end0
 exact⟨rfl,w.heap.size,b.1,b.2.1,b.2.2⟩
structure Cz (C:Cn)(L:Lay):Prop where
 l:Lok C.ps L
 n:C.ps.length<=4
 p:0<=pcq C.ps C.md C.bk
 s:hld C.lz C.md C.bk=-1\/(C.bk≠-1/\0<=hld C.lz C.md C.bk/\hld C.lz C.md C.bk<(L.slots.length:Int))
abbrev plQ (C:Cn)(L:Lay):List Rg:=if (plR C.ps L C.md C.bk (hld C.lz C.md C.bk)).length<=8 then plR C.ps L C.md C.bk (hld C.lz C.md C.bk) else []
def LwP (w1 w:qw)(G:Nat)(Y:Lyb)(C:Cn)(M:Mn)(v13:Value)(e:Ending)(w':qw):Prop:=e=.returned (.tuple #[])/\∃A k c,Mg w1 w' G Y C M v13 (qS A k c)/\RS w' A k c (plQ C Y.L)/\Turn (λj=>j=G) w w'
def sQ (R G Y C M g vr w)(h:Mg R w G Y C M g vr)(hz:Cz C Y.L):qC 83 #[.pointer$ qP G] w (LwP R w G Y C M g)/\∀u,CallsD prog 83 #[.pointer$ qP G] u w λe F w'=>F=u/\LwP R w G Y C M g e w':=by
 let⟨⟨_,_,_,_,_,e6,e7,_⟩,e9,_⟩:=h.vs;have B:=zb w λX a=>(aBu R G Y C M g vr X$ h.bw a).mono λe w' d=>show e=.returned (.agg$ qT M.md M.bk 0)/\qY w w' from⟨d.1,yT a d.2⟩;have t:=zb w λX a=>(vO R G Y C M g vr X$ h.bw a).mono λe w' d=>show e=.returned (qI$ hld C.lz M.md M.bk)/\qY w w' from⟨d.1,yT a d.2⟩
 have l:=zh (λ(X:qw)(a:qY w X)=>(vU M.ma M.mn M.mc M.ms Y.L Y.a0 Y.c0 Y.xs Y.a2 Y.c2 Y.a5 Y.c5 Y.ts M.md M.bk 0 (hld C.lz M.md M.bk) X ((h.bw a).mnd hz.n).m (h.bw a).ly (by rw[e9];exact hz.l) (by rw[e9,e6,e7];exact hz.p) (by rw[e6,e7];exact hz.s)).mono (λe w' d=>show ∃A k c q,e=.returned (.tuple #[qS A k c,.bool q])/\qY w w'/\((w'.setCell (qR G 23)$ qS A k c).cell? (qR G 0)=qk M.ma M.mn M.mc/\(w'.setCell (qR G 23)$ qS A k c).cell? (qR G 15)=qk Y.a0 Y.xs.length Y.c0/\(w'.setCell (qR G 23)$ qS A k c).cell? (qR G 16)=qj Y.L.stack/\(w'.setCell (qR G 23)$ qS A k c).cell? (qR G 17)=qk Y.a2 Y.L.slots.length Y.c2/\(w'.setCell (qR G 23)$ qS A k c).cell? (qR G 18)=qj Y.L.flash/\(w'.setCell (qR G 23)$ qS A k c).cell? (qR G 19)=qj Y.L.ram/\(w'.setCell (qR G 23)$ qS A k c).cell? (qR G 20)=qk Y.a5 Y.ts.length Y.c5)/\(qN w' G 23=some vr/\w'.frozen? (qR G 23)=false)/\LwP R w G Y C M g (.returned$ .tuple #[]) (w'.setCell (qR G 23)$ qS A k c)by
  obtain⟨A,k,c,d,ho,hb⟩:=d;have D:=yT a hb;have b:=(h.bw D);rw[e9,e6,e7]at ho;refine⟨A,k,c,_,d,D,⟨(b.put 23 (qS A k c) (vr':=qS A k c) rfl λx=>x).k.cell 0,(b.put 23 (qS A k c) (vr':=qS A k c) rfl λx=>x).k.cell 15,(b.put 23 (qS A k c) (vr':=qS A k c) rfl λx=>x).k.cell 16,(b.put 23 (qS A k c) (vr':=qS A k c) rfl λx=>x).k.cell 17,(b.put 23 (qS A k c) (vr':=qS A k c) rfl λx=>x).k.cell 18,(b.put 23 (qS A k c) (vr':=qS A k c) rfl λx=>x).k.cell 19,(b.put 23 (qS A k c) (vr':=qS A k c) rfl λx=>x).k.cell 20⟩,⟨b.k.cell 23,b.k.frozen 23⟩,rfl,A,k,c,b.put 23 _ rfl λx=>x,?_,(aI D).trans$ aC _ G 23 _⟩;have T:=aC w' G 23$ qS A k c;refine eM$ gF T ho λj O e=>?_;subst e;have:=(World.ownsRow.lt ho.1 _ O).1;have:=h.k.lt;have:=a.size
  omega))
 have p:=zb w λX a=>show qN X G 0=qk M.ma M.mn M.mc/\qN X G 15=qk Y.a0 Y.xs.length Y.c0/\qN X G 16=qj Y.L.stack/\qN X G 17=qk Y.a2 Y.L.slots.length Y.c2/\qN X G 18=qj Y.L.flash/\qN X G 19=qj Y.L.ram/\qN X G 20=qk Y.a5 Y.ts.length Y.c5 from⟨(h.bw a).k.cell 0,(h.bw a).k.cell 15,(h.bw a).k.cell 16,(h.bw a).k.cell 17,(h.bw a).k.cell 18,(h.bw a).k.cell 19,(h.bw a).k.cell 20⟩;generalize hld C.lz M.md M.bk=s at *;have:=p w brf;clear h hz e6 e7 e9;refine aJi func83 rfl ?_;simp only[ntmps83,List.size_toArray,List.length_cons,List.length_nil,Nat.reduceAdd,Nat.reduceSub,Array.replicate_succ,Array.replicate_zero,List.push_toArray,List.append_toArray,List.nil_append,List.cons_append];go_wp2_with fail
 go_region_held3 (λw'=>qN w' G 0=qk M.ma M.mn M.mc/\qN w' G 15=qk Y.a0 Y.xs.length Y.c0/\qN w' G 16=qj Y.L.stack/\qN w' G 17=qk Y.a2 Y.L.slots.length Y.c2/\qN w' G 18=qj Y.L.flash/\qN w' G 19=qj Y.L.ram/\qN w' G 20=qk Y.a5 Y.ts.length Y.c5) (go_keep)
  (first
    | (go_at_call 148;refine(B _ (by first|exact brf|exact brf.drew|exact i)).mono ?_
       rintro e H ⟨rfl,f⟩
       have:=p H f)
    | (go_at_call 149;refine(t _ (by first|exact brf|exact brf.drew|exact f)).mono ?_
       rintro e U ⟨rfl,i⟩
       have:=p U i)
    | (go_at_call 147;first
        | with_reducible refine(l.o _ i).mono ?_
        | with_reducible refine(l.o _ f).mono ?_
       rintro e w4 ⟨A,k,c,q,rfl,y,⟨m0,N,W,S,Q,I,K⟩,⟨V,Z⟩,E⟩;have:=p w4 y;have P:=zh E
       clear E))
 all_goals
  go_wp2
  go_end0
  exact P
def alu (op i d a:Int):Int:=
 if op=2 then i else if op=3 then d%65536+i*65536 else if op=4 then a else if op=5 then (d+a)%4294967296
 else if op=6 then (a+eA i)%4294967296 else if op=7 then (d-a)%4294967296 else if op=8 then (d*a)%4294967296
 else if op=9 then bits .and .i64 d a else if op=10 then bits .or .i64 d a else if op=11 then bits .xor .i64 d a
 else if op=12 then (d*(2:Int)^(a%32).toNat)%4294967296 else d/(2:Int)^(a%32).toNat
def aLy (d a:Int):(d%65536*a+d/65536*(a%65536)*65536)%4294967296=(d*a)%4294967296:=by
 have:d=d%65536+65536*(d/65536):=(Int.emod_add_mul_ediv d 65536).symm;have:a=a%65536+65536*(a/65536):=(Int.emod_add_mul_ediv a 65536).symm
 have:d*a=(d%65536*a+d/65536*(a%65536)*65536)+4294967296*(d/65536*(a/65536)):=by
  grind
 grind
def aLc (d s)(hs:s<32):d%(4294967296/(2:Int)^s)*(2:Int)^s=(d*(2:Int)^s)%4294967296:=by
 have b:(4294967296:Int)=(2:Int)^(32-s)*(2:Int)^s:=by rw[<-Int.pow_add,show 32-s+s=32 from J];rfl
 have f:=pow_pos s
 have i:(4294967296:Int)/(2:Int)^s=(2:Int)^(32-s):=by
  rw[b];exact Int.mul_ediv_cancel _ J
 have e:=Int.mul_emod_mul_of_pos (a:=(2:Int)^s) d ((2:Int)^(32-s)) f;rw[i,b,Int.mul_comm d,Int.mul_comm ((2:Int)^(32-s))$ (2:Int)^s,e,Int.mul_comm]
def aLq (a:Int)(b:0<=a):(a%32<16->(2:Int)^(a%16).toNat=(2:Int)^(a%32).toNat)/\(16<=a%32->(2:Int)^(a%16).toNat*65536=(2:Int)^(a%32).toNat):=by
 constructor
 .grind
 .intro h;rw[show(65536:Int)=(2:Int)^16 from rfl,<-Int.pow_add,show(a%16).toNat+16=(a%32).toNat from J]
def aWg (n)(h:n<=15):(2:Int)^n<=32768:=by
 have:(2:Nat)^n<=2^15:=Nat.pow_le_pow_right J h
 grind
def aLd (d a Q:Int)(t:0<=d)(s:0<=a)(b:Q=(2:Int)^(a%32).toNat):0<4294967296/Q/\4294967296/Q<=4294967296/\0<=d%(4294967296/Q)/\d%(4294967296/Q)<=4294967296/\0<=d%(4294967296/Q)*Q/\d%(4294967296/Q)*Q<=4294967295/\d%(4294967296/Q)*Q=(d*(2:Int)^(a%32).toNat)%4294967296:=by
 have:=pow_pos (a%32).toNat;have e:(4294967296:Int)=(2:Int)^(32-(a%32).toNat)*(2:Int)^(a%32).toNat:=by rw[<-Int.pow_add,show 32-(a%32).toNat+(a%32).toNat=32 from J];rfl
 have i:(4294967296:Int)/Q=(2:Int)^(32-(a%32).toNat):=by
  rw[b,e];exact Int.mul_ediv_cancel _ J
 have:=pow_pos$ 32-(a%32).toNat;have hs:=aLc d (a%32).toNat J;rw[<-b]at hs
 have:(4294967296:Int)/Q<=4294967296:=by
  rw[i,e];have:=Int.mul_le_mul_of_nonneg_left (show(1:Int)<=(2:Int)^(a%32).toNat from J)$ show 0<=(2:Int)^(32-(a%32).toNat)from J;omega
 have:0<=d%(4294967296/Q):=Int.emod_nonneg _ J;have:d%(4294967296/Q)<4294967296/Q:=Int.emod_lt_of_pos _ J
 grind
def aMf (op A l i d a w)(H:2<=op)(N:op<=13)(b:0<=i)(f:i<=65535)(t:0<=d)(K:d<=4294967295)(j:0<=a)(a1:a<=4294967295):
 qC 130 #[.agg$ qW op A l i,qI d,qI a] w (qB w$ qI$ alu op i d a):=by
 have:=aWg (a%16).toNat J;have:=pow_pos (a%16).toNat;have p:=zh λw=>cE (a%16) J J w;obtain⟨s1,s2⟩:=aLq a j;have:0<=d%65536*a:=Int.mul_nonneg J J;have:d%65536*a<=65535*4294967295:=Int.mul_le_mul J J J J;have:0<=d/65536*(a%65536):=Int.mul_nonneg J J;have:d/65536*(a%65536)<=65535*65535:=Int.mul_le_mul J J J J;have q:=zh$ aLy d a;obtain⟨G,I⟩:=lF i b f;have y:=zh λw=>lW i w b f;by_cases hs:16<=a%32
 have e:=s2 hs;rotate_left;have e:=s1 J
 all_goals
  obtain⟨B,C,D,f4,E,F,g⟩:=aLd d a _ t j e;have x:=zh g;have u:=zh e;clear s1 s2 e g;generalize (2:Int)^(a%16).toNat=P at *;have:(P*65536==0)=false:=Jc
  have:(P==0)=false:=Jc
  first|(have s:(4294967296/(P*65536)==0)=false:=by simp;omega)|(have s:(4294967296/P==0)=false:=by simp;omega)
  rcases(show op=2\/op=3\/op=4\/op=5\/op=6\/op=7\/op=8\/op=9\/op=10\/op=11\/op=12\/op=13 from J)with rfl|rfl|rfl|rfl|rfl|rfl|rfl|rfl|rfl|rfl|rfl|rfl
  all_goals
   go_enter func130,ntmps130
   go_wp2_with (first|(go_at_call 174;refine(p.o _).mono ?_;rintro e k ⟨rfl,rfl⟩)|(go_at_call 132;refine(y.o _).mono ?_;rintro e k ⟨rfl,rfl⟩)|(go_at_call 116;refine(dR _ _ J).mono ?_;rintro e k ⟨rfl,rfl⟩))
   go_ret;exact⟨aJ (by first|rfl|exact q.o|exact x.o|(show d/_=d/_;rw[u.o])),bal⟩
