import Derived.Handy
import Derived.Test.YtdjdcdnjjmjonaaGreatR32
import Derived.Test.YtdjdcdnjjmjonaaGreatR35
import Derived.Test.YtdjdcdnjjmjonaaGreatR36
set_option linter.all false
set_option maxHeartbeats 16000000
namespace Go.Proofs.YtdjdcdnjjmjonaaGreat
open Go.RowKit
set_option maxRecDepth 100000
variable {N:Mn}{Q:Ending->World->Prop}{W:World}{a b g q:Nat}{fn:Func}{tmps:Array Value}
def MQ3 (w:qw)(r:Int×Int×Cn)(e:Ending)(w':qw):Prop:=qY w w'/\∃N base aN L β,e=.returned (.tuple #[mnV N,qI r.1,qI r.2.1])/\MxO w' base aN r.2.2 N L β/\w.heap.size<=base
def eM {w X:qw}{base aN:Nat}{r:Int×Int×Cn}{L:List (PMod×Mb)}{d:Nat->Nat}(B:qY w X)(k:Blk X q z15 43)(i:w.heap.size<=q)(f:MxO X base aN r.2.2 N L d)(e:w.heap.size<=base):MQ3 w r (.returned$ .tuple #[.agg$ qA N,qI r.1,qI r.2.1]) (stM X q N):=
 ⟨aF B (bG _ _ _ _ _ _ _ _ _ _ _ _ _ _ _ _ _) (λj l=>J) B.size,N,base,aN,L,d,rfl,f.tm$ dH k$ bG _ _ _ _ _ _ _ _ _ _ _ _ _ _ _ _ _,e⟩
def dY {c:Nat}{W:qw}(N){x y:Value}(e:fn.results=#[.cell a 43,.tmp b,.tmp c])(k:Blk W q z15 43)(ha:tmps[a]?=some (.pointer$ qP q))(f:tmps[b]?=some x)(hc:tmps[c]?=some y)(d:Q (.returned$ .tuple #[.agg$ qA N,x,y]) (stM W q N)):bodyPost Tryz.prog fn Q Exit.ret ⟨tmps,[]⟩ (stM W q N):=by
 let⟨g,i,u,w,A,B,C,D,E,G,j,l,p,s,t⟩:=(lC k (qS N.ma N.mn N.mc) (qI N.cs) (qI N.cw) (qI N.ck) (qI N.cd) (qI N.pc) (qS N.ka N.kn N.kc) (qS N.fa N.fn N.fc) (qS N.ra N.rn N.rc) (qS N.oa N.on N.oc) (qI N.md) (qI N.bk) (qS N.la N.ln N.lc) (qS N.ha N.hn N.hc)$ qI N.tn).mc;refine bodyPost_ret_by (v:=.tuple #[.agg$ qA N,x,y]) ?_ rfl d;simp[results,e,go_sem,ha,f,hc,g,i,u,w,A,B,C,D,E,G,j,l,p,s,t]
def rnN (f:Int):Nat:=(min (max f 0) 2000).toNat
def rnI (n:Nat)(C:Cn):Int×Int×Int×Cn:=if n=0 then (3,0,0,C) else (2,2,1,C)
def rnX (M:Mn)(f:Int):Int×Int×Int×Cn:=@ite _ (MOk M) (aVk M) (rnF M.L (rnN f) 0 M.cn)$ rnI (rnN f) M.cn
def MQo (w:qw)(r:Int×Int×Int×Cn)(e:Ending)(w':qw):Prop:=qY w w'/\∃N base aN L β X A n c,e=.returned (.tuple #[mnV N,.agg #[qI r.1,qI r.2.1,qI r.2.2.1,qS A n c]])/\MxO w' base aN r.2.2.2 N L β/\MxO X base aN r.2.2.2 N L β/\w.heap.size<=base/\w.heap.size<=X.heap.size/\OB w' X.heap.size (qS A n c) r.2.2.2.oz
def aMo (n:Nat)(C w):qC 53 #[qI n] w λe w'=>e=.returned (.agg #[qI (rnI n C).1,qI (rnI n C).2.1,qI (rnI n C).2.2.1,qS none 0 0])/\qY w w':=by
 let⟨U,g,b,a⟩:=nwb w zOc 51;have:=a.cell 0;have:=a.cell 1;have:=a.cell 2;have:=a.cell 3;have:=a.frozen;have i:=zh$ xA a b;have k:=zh g;have f:∀{W':qw},Turn (λj=>j=w.heap.size) U W'->qY w W':=λT=>aF b T (λj u=>J) b.size;have d:=zh λW'=>@f W';clear g b a f;unfold rnI;by_cases c:n=0
 .subst c;rw[if_pos rfl]
  delta qC;go_in
  go_wp2_with (rw[<-k.o])
  exact aIt rfl rfl i.1 λT=>⟨rfl,d.o _ T⟩
 .rw[if_neg c];have:((n:Int)==0)=false:=Jc
  delta qC;go_in
  go_wp2_with (rw[<-k.o])
  exact aIt rfl rfl i.1 λT=>⟨rfl,d.o _ T⟩
def Blk.nw {W:qw}{cs:Array Value}{t:TypeId}(h:W.heap.size=g:=by simp):Blk (W.alloc$ .cells cs t) g cs t:=h ▸ Blk.new W cs t
structure Rb (w W:qw):Prop where
 be:qY w W
 k1:Blk W (w.heap.size+1) z15 43
 k2:Blk W (w.heap.size+1+1) zOc 51
 k3:Blk W (w.heap.size+1+1+1) z15 43
def Rb.bw {w W W':qw}(h:Rb w W)(b:qY W W'):Rb w W':=⟨yT h.be b,h.k1.bw b,h.k2.bw b,h.k3.bw b⟩
def Rb.bx {w W W':qw}{cs:Array Value}{t:TypeId}(h:Rb w W)(k:Blk W g cs t)(d:w.heap.size+3<g)(T:Turn (λj=>j=g) W W'):Rb w W':=⟨aF h.be T (λj e=>J) h.be.size,aC T h.k1 J,aC T h.k2 J,aC T h.k3 J⟩
def aFz (W q i j k v):Turn (λj=>j=q) W (stO W q i j k v):=(((aK W q 0$ qI i).trans$ aK _ q 1$ qI j).trans$ aK _ q 2$ qI k).trans$ aK _ q 3 v
def aN7 {W:qw}{v0 v1 v2 v3:Value}{t:TypeId}(h:Blk W q #[v0,v1,v2,v3] t)(i j k v):Blk (stO W q i j k v) q #[qI i,qI j,qI k,v] t:=(((h.set 0$ qI i).set 1$ qI j).set 2$ qI k).set 3 v
def aOw {p:Nat}{W:qw}(N){i j k:Int}{v:Value}(u:fn.results=#[.cell a 43,.cell b 51])(f:Blk W q z15 43)(kp:Blk W p zOc 51)(ha:tmps[a]?=some (.pointer$ qP q))(l:tmps[b]?=some (.pointer$ qP p))(t:Q (.returned$ .tuple #[.agg$ qA N,.agg #[qI i,qI j,qI k,v]]) (stO (stM W q N) p i j k v).drew):bodyPost Tryz.prog fn Q Exit.ret ⟨tmps,[]⟩ (stO (stM W q N) p i j k v).drew:=by
 have s:Turn (λj=>j=q) W (stM W q N):=bG _ _ _ _ _ _ _ _ _ _ _ _ _ _ _ _ _;have d:=kp.kp f s;have e:Blk (stM W q N) q (qA N) 43:=lC f _ _ _ _ _ _ _ _ _ _ _ _ _ _ _;let⟨g,w,D,E,G,H,I,K,M,O,x,y,A,B,C⟩:=((e.kp d$ aFz (stM W q N) p i j k v).bw brf.drew).mc;let⟨e0,e1,e2,e3⟩:=((aN7 d i j k v).bw brf.drew).z4;refine bodyPost_ret_by (v:=.tuple #[.agg$ qA N,.agg #[qI i,qI j,qI k,v]]) ?_ rfl t;simp[results,u,go_sem,ha,l,g,w,D,E,G,H,I,K,M,O,x,y,A,B,C,e0,e1,e2,e3]
def MQo.dr {w W:qw}{r e}(h:MQo w r e W):MQo w r e W.drew:=
 let⟨b,N,a,aN,L,j,X,A,n,c,g,m,i,d,f,o⟩:=h
 ⟨b.drew,N,a,aN,L,j,X,A,n,c,g,m.bw brf.drew,i,d,f,o.bw brf.drew⟩
def MOk.vmc {M:Mn}{w:qw}(k:MOk M)(h:MnD w M):Vmc M.cn M.L:=
 let⟨b,d,_,a⟩:=iO k.c
 ⟨k.cv h,⟨b,d⟩,a,k.h,k.f,k.p⟩
abbrev mcA (X:World)(b:Nat)(N:Mn):Prop:=X.cell? (qR b 0)=some (qS N.ma N.mn N.mc)/\X.cell? (qR b 1)=some (qI N.cs)/\X.cell? (qR b 2)=some (qI N.cw)/\X.cell? (qR b 3)=some (qI N.ck)/\X.cell? (qR b 4)=some (qI N.cd)/\X.cell? (qR b 5)=some (qI N.pc)/\X.cell? (qR b 6)=some (qS N.ka N.kn N.kc)/\X.cell? (qR b 7)=some (qS N.fa N.fn N.fc)/\X.cell? (qR b 8)=some (qS N.ra N.rn N.rc)/\X.cell? (qR b 9)=some (qS N.oa N.on N.oc)/\X.cell? (qR b 10)=some (qI N.md)/\X.cell? (qR b 11)=some (qI N.bk)/\X.cell? (qR b 12)=some (qS N.la N.ln N.lc)/\X.cell? (qR b 13)=some (qS N.ha N.hn N.hc)/\X.cell? (qR b 14)=some (qI N.tn)
abbrev mgA (M:Mn)(Y:Lyb)(v13 vr:Value):Array Value:=#[qS M.ma M.mn M.mc,qI M.cs,qI M.cw,qI M.ck,qI M.cd,qI M.pc,qS M.ka M.kn M.kc,qS M.fa M.fn M.fc,qS M.ra M.rn M.rc,qS M.oa M.on M.oc,qI M.md,qI M.bk,qS M.la M.ln M.lc,v13,qI M.tn,qS Y.a0 Y.xs.length Y.c0,qI Y.L.stack,qS Y.a2 Y.L.slots.length Y.c2,qI Y.L.flash,qI Y.L.ram,qS Y.a5 Y.ts.length Y.c5,qI M.cd,qS M.ha M.hn M.hc,vr]
def aQ8 (G M g u q)(Y:Lyb)(B w)(h:Blk w G (mgA M Y (qS g u q) B) 142):qC 34 #[.pointer$ qP G] w (qB w$ .agg$ qA M):=by
 let⟨V,a⟩:=aO$ w.alloc$ .cells qZ 43;have d:qY w V:=by rw[a];exact bal
 have s:Blk V w.heap.size z15 43:=by rw[a];exact Blk.new _ _ _
 have l:V.heap.size=w.heap.size+1:=by rw[a];simp
 let⟨X,b⟩:=aO$ V.alloc$ .cells (qA M) 43;have i:qY V X:=by rw[b];exact bal
 have t:Blk X (w.heap.size+1) (qA M) 43:=by rw[b,<-l];exact Blk.new _ _ _
 have p:=s.bw i;have e:=p;unfold z15 at e;have:=e.mc;have:=e.frozen;have:=t.mc;have:=(h.bw d).mg;have k:=yT d i;have:(V.alloc$ .cells (qX M M.ma M.mn M.mc M.ka M.kn M.kc M.fa M.fn M.fc M.ra M.rn M.rc M.oa M.on M.oc M.la M.ln M.lc g u q) 43).cell? (qR G 22)=qk M.ha M.hn M.hc:=((h.bw d).alloc _).cell 22;have x:Zh (qY w$ sH X w.heap.size (qS M.ma M.mn M.mc) (qI M.cs) (qI M.cw) (qI M.ck) (qI M.cd) (qI M.pc) (qS M.ka M.kn M.kc) (qS M.fa M.fn M.fc) (qS M.ra M.rn M.rc) (qS M.oa M.on M.oc) (qI M.md) (qI M.bk) (qS M.la M.ln M.lc) (qS M.ha M.hn M.hc)$ qI M.tn):=aF k (bG _ _ _ _ _ _ _ _ _ _ _ _ _ _ _ _ _ ) (λj D=>J) k.size;have f:=zh p;have y:=zh b;have A:=zh a;clear b a i d s p e t k h
 delta qC;go_in
 go_wp2_with (first|rw[<-A.o]|rw[<-y.o])
 exact aTp f _ _ _ _ _ _ _ _ _ _ _ _ _ _ _ _ _ rfl ⟨rfl,x⟩
def aQf (M Ls f w)(h:MnD w M)(H:MnS w M Ls)(hf:wfi f):qC 13 #[.agg$ qA M,qI f] w λe w'=>MQo w (rnX M f) e w'/\(MOk M->∃L,Vmc (rnX M f).2.2.2 L):=by
 let⟨U,W⟩:=aO$ ((((w.alloc$ .cells (qA M) 43).alloc$ .cells qZ 43).alloc$ .cells zOc 51).alloc$ .cells qZ 43).alloc$ .cells zOc 51;have bU:qY w U:=by rw[W];go_grown
 have V:Blk U w.heap.size (qA M) 43:=by rw[W];exact((((Blk.new _ _ _).alloc _).alloc _).alloc _).alloc _
 have l:Blk U (w.heap.size+1+1+1+1) zOc 51:=by rw[W];exact .nw
 have K:Rb w U:=⟨bU,by rw[W];exact(((Blk.nw).alloc _).alloc _).alloc _,by rw[W];exact((Blk.nw).alloc _).alloc _,by rw[W];exact(Blk.nw).alloc _⟩;have aj:=zh$ wY M Ls U (h.bw bU)$ H.bw bU;have ag:=zb w λX hX=>H.bw hX;have O:=zb U λX hX=>show qY w X/\MnS X M Ls/\Blk X w.heap.size (qA M) 43/\Blk X (w.heap.size+1+1+1+1) zOc 51/\Rb w X from⟨yT bU hX,(H.bw bU).bw hX,V.bw hX,l.bw hX,K.bw hX⟩;have HU:=zh W;have x0:=V.mc;let⟨g,hg⟩:=aO$ if f<0 then (0:Int) else f;have h1:(if f<0 then (0:Int) else f)=g:=hg.symm;have h2:(if 0 > f then (0:Int) else f)=g:=hg.symm;have h3:(if (2000:Int)<g then (2000:Int) else g)=(rnN f:Nat):=by unfold rnN;omega
 have hN:rnN f<=2000:=by unfold rnN;omega
 generalize hq:rnN f=n at *;have HQ:rnX M f=@ite _ (MOk M) (aVk M) (rnF M.L n 0 M.cn) (rnI n M.cn):=by unfold rnX;rw[hq]
 generalize rnX M f=R at *;have ak:=zh (show M.oz.length<=1048576 by have:=H.z;have:=bC H.o;omega)
 have ai:=zh (show ¬MOk M->R.2.2.2=M.cn/\∀X,qC 53 #[qI (n:Nat)] X λe w'=>e=.returned (.agg #[qI R.1,qI R.2.1,qI R.2.2.1,qS none 0 0])/\qY X w' from λt=>by
  rw[HQ,if_neg t]
  exact⟨by unfold rnI;split<;>rfl,aMo n M.cn⟩)
 have B:=zh (show ∀w1 X G Y E,MOk M->Y.L=M.L->Mr w1 X G Y M.cn E->qC 52 #[.pointer$ qP G,qI (n:Nat)] X (RnP w1 X G Y E R)from λw1 X G Y E t e m=>by
  rw[HQ,if_pos t,<-e]
  exact aMw w1 G Y M.cn E n X m (by rw[e];exact t.vmc h) hN)
 clear W bU V l K h H hq hf HQ hN hg
 delta qC;go_in
 go_wp2_with (rw[<-HU.o])
 clear h1 h2 h3;apply aj.mono;rintro e X0 (⟨t,rfl,a5⟩|⟨t,w1,G,Y,N,am,ao,ah,A,k,c,rfl,ab,a9,ad,a8⟩)
 focus
  let⟨er,D⟩:=ai.o t;have a6:=zh a5;have D:=zh$ D X0;obtain⟨i,j,k,C⟩:=R;replace er:=zh er;have m0:=(O.o X0 a5).2.2.1.mc;have HV:=zh (show MOk M->∃L,Vmc C L from λk=>absurd k t);clear x0 a5 t;go_wp2_with fail
  apply D.mono;rintro e b ⟨rfl,a3⟩;let⟨a0,mS,V,l,K⟩:=O.o b$ yT a6 a3;have hz:=l.lt;obtain⟨X2,a⟩:=aO$ (((b.setCell (qR (w.heap.size+1+1+1+1) 0)$ qI i).setCell (qR (w.heap.size+1+1+1+1) 1)$ qI j).setCell (qR (w.heap.size+1+1+1+1) 2)$ qI k).setCell (qR (w.heap.size+1+1+1+1) 3)$ qS none 0 0;have y:Turn (λj=>j=w.heap.size+1+1+1+1) b X2:=by rw[a];exact aFz _ _ _ _ _ _
  have b2:=aF a0 y (λj I=>J) a0.size;have R2:Rb w X2:=K.bx l J y;have o2:Blk X2 (w.heap.size+1+1+1+1) #[qI i,qI j,qI k,qS none 0 0] 51:=by rw[a];exact aN7 l i j k _
  have aa:=zh$ mK M Ls X2$ ag.o X2 b2;have u:=zh a;have s:=zh$ xA R2 o2;have of:=l.frozen;have l:=l.z4;have an:=(s.o.2).lt;have m2:=(V.kp (O.o b$ yT a6 a3).2.2.2.1 y).mc;clear y R2 o2 b2 a0 mS V K a a3 m0;go_wp2_with (rw[<-u.o])
  apply aa.mono;rintro e X3 ⟨p,N,base,aN,L,β,rfl,P,a4,ap⟩;unfold mnV;have x:=s.o.1.bw p;have o3:=s.o.2.bw p;have hb:w.heap.size+4<base:=J
  have on:C.oz.length<=1048576:=by rw[er.o];exact ak
  rw[<-show C=M.cn from er.o]at P;clear of l m2 s p er u aa D a6 a4 ap an hz
 rotate_left
 focus
  have B:=zh$ B.o w1 X0 G Y _ t ad ⟨N,_,a9,a8⟩;have HB:=zh ab;obtain⟨i,j,k,C⟩:=R;clear x0 ad a9 a8 t ab;go_wp2_with fail
  apply B.mono;rintro e b ⟨rfl,⟨M',ar,hM,_⟩,hV,_⟩;dsimp only at hM hV;let⟨a0,mS,V,l,K⟩:=O.o b$ yT HB hM.b;have hz:=(O.o w1 HB).2.2.2.1.lt;obtain⟨X2,a⟩:=aO$ (((b.setCell (qR (w.heap.size+1+1+1+1) 0)$ qI i).setCell (qR (w.heap.size+1+1+1+1) 1)$ qI j).setCell (qR (w.heap.size+1+1+1+1) 2)$ qI k).setCell (qR (w.heap.size+1+1+1+1) 3)$ qS none 0 0;have y:Turn (λj=>j=w.heap.size+1+1+1+1) b X2:=by rw[a];exact aFz _ _ _ _ _ _
  have R2:Rb w X2:=K.bx l J y;have o2:Blk X2 (w.heap.size+1+1+1+1) #[qI i,qI j,qI k,qS none 0 0] 51:=by rw[a];exact aN7 l i j k _
  have ae:=zh$ aQ8 G M' am ao ah Y ar X2$ hM.k.kp l y;obtain⟨base,aN,L,β,P,a4,_⟩:=hM.m;have u:=zh a;have s:=zh$ xA R2$ xA o2$ P.turn y λj I=>J;have of:=l.frozen;have l:=l.z4;have hb:w.heap.size+4<base:=J
  have HV:=zh (show MOk M->∃L,Vmc C L from λ_=>⟨_,hV⟩);have on:C.oz.length<=1048576:=by have h1:=hV.v.b;unfold mok at h1;simp at h1;omega
  clear y R2 o2 a0 mS V K a P a4 hM hV;go_wp2_with (rw[<-u.o])
  apply ae.mono;rintro e X3 ⟨rfl,p⟩;have x:=s.o.1.bw p;have o3:=s.o.2.1.bw p;have P:=s.o.2.2.bw p;obtain⟨N,af⟩:=aO M';rw[<-af]at P⊢;clear of l s p u ae B HB hz af
 all_goals
  obtain⟨X4,a1⟩:=aO$ stM X3 (w.heap.size+1+1+1) N;have T4:Turn (λj=>j=w.heap.size+1+1+1) X3 X4:=by rw[a1];exact bG _ _ _ _ _ _ _ _ _ _ _ _ _ _ _ _ _
  have k4:Blk X4 (w.heap.size+1+1+1) (qA N) 43:=by rw[a1];exact lC x.k3 _ _ _ _ _ _ _ _ _ _ _ _ _ _ _
  have S:=P.turn T4 λj I=>J;have Z:=o3.kp x.k3 T4;have r4:qY w X4/\Blk X4 (w.heap.size+1) z15 43/\Blk X4 (w.heap.size+1+1) zOc 51:=⟨aF x.be T4 (λj I=>J) x.be.size,aC T4 x.k1 J,x.k2.kp x.k3 T4⟩;have a7:=zh (aHt N.oa N.on N.oc C.oz X4 (S.q.2.2.1.mono$ xC _) (by rw[bC S.q.2.2.1];exact on));unfold stM sH at a1;have ac:=zh a1;have c3:=x.k3;unfold z15 at c3;have f3:=c3.frozen;have c3:=c3.mc;have c4:=k4.mc;have s:=zh$ xA k4$ xA S$ xA Z r4;clear T4 k4 S Z r4 a1 x o3 P on;go_wp2_with (rw[<-ac.o])
  apply a7.mono;rintro e X5 ⟨q,d,rfl,ho,Q⟩;obtain⟨k4,S,Z,be,r1,r2⟩:=s.o;obtain⟨X6,a2⟩:=aO$ X5.setCell (qR (w.heap.size+1+1+1+1) 3)$ qS q N.on d;have o5:=Z.bw Q;have T6:Turn (λj=>j=w.heap.size+1+1+1+1) X5 X6:=by rw[a2];exact aK _ _ _ _
  have o6:Blk X6 (w.heap.size+1+1+1+1) #[qI i,qI j,qI k,qS q N.on d] 51:=by rw[a2];exact o5.set 3$ qS q N.on d
  have k6:=(k4.bw Q).kp o5 T6;have q1:=(r1.bw Q).kp o5 T6;have q2:Blk X6 (w.heap.size+1+1) zOc 51:=aC T6 (r2.bw Q) J;have:=o5.z4;have:=o5.frozen;have:mcA X6 (w.heap.size+1+1+1) N:=k6.mc;have:=o6.z4;have c1:=q1;unfold z15 at c1;have:=c1.frozen;have c1:=c1.mc;have:=q2.frozen;have:=q2.z4;have aq:=zh a2;have b6:=aF (yT be Q) T6 (λj I=>J) (yT be Q).size;have T7:Turn (λj=>j=w.heap.size+1) X6 (stM X6 (w.heap.size+1) N):=bG _ _ _ _ _ _ _ _ _ _ _ _ _ _ _ _ _;have T8:=aFz (stM X6 (w.heap.size+1) N) (w.heap.size+1+1) i j k$ qS q N.on d
  have HE:=zh (show MQo w (i,j,k,C) (.returned$ .tuple #[.agg$ qA N,.agg #[qI i,qI j,qI k,qS q N.on d]]) (stO (stM X6 (w.heap.size+1) N) (w.heap.size+1+1) i j k$ qS q N.on d)from
   ⟨aF (aF b6 T7 (λj I=>J) b6.size) T8 (λj I=>J)$ xM b6.size T7.size,N,base,aN,L,β,X4,q,N.on,d,rfl,(((S.bw Q).turn T6 λj I=>J).turn T7 λj I=>J).turn T8 λj I=>J,S,J,be.size,aP T8 (aP T7 (aP T6 ho (λk hk e=>by have:=(ho.lt k hk).1;have:=Z.lt;omega)) (λk hk e=>by have:=(ho.lt k hk).1;have:=Z.lt;omega)) (λk hk e=>by have:=(ho.lt k hk).1;have:=Z.lt;omega)⟩)
  have O:=zh$ xA q1 q2;clear k4 S Z be r1 r2 o5 T6 o6 k6 q1 q2 b6 T7 T8 ho Q a2 s ac c4 c3 f3 a7;go_wp2_with (rw[<-aq.o])
  go_region_held3 (λX=>mcA X (w.heap.size+1+1+1) N/\qN X (w.heap.size+1+1+1+1) 0=qj i/\qN X (w.heap.size+1+1+1+1) 1=qj j/\qN X (w.heap.size+1+1+1+1) 2=qj k/\qN X (w.heap.size+1+1+1+1) 3=qk q N.on d) ((unfold mcA;go_keep)) (fail)
  go_wp2;exact aOw N rfl O.o.1 O.o.2 rfl rfl ⟨HE.o.dr,HV.o⟩
def vT {k:Nat}{t:TypeId}(h:Blk W k (qA N) t)(M):Blk (stM W k M) k (qA M) t:=by
 unfold stM sH;have q:=(((((((((((((((h.set 0$ qS M.ma M.mn M.mc).set 1$ qI M.cs).set 2$ qI M.cw).set 3$ qI M.ck).set 4$ qI M.cd).set 5$ qI M.pc).set 6$ qS M.ka M.kn M.kc).set 7$ qS M.fa M.fn M.fc).set 8$ qS M.ra M.rn M.rc).set 9$ qS M.oa M.on M.oc).set 10$ qI M.md).set 11$ qI M.bk).set 12$ qS M.la M.ln M.lc).set 13$ qS M.ha M.hn M.hc).set 14$ qI M.tn);simpa using q
def pY (W k M):Turn (λj=>j=k) W (stM W k M):=bG _ _ _ _ _ _ _ _ _ _ _ _ _ _ _ _ _
def aVq (N)(e:fn.results=#[.cell a 43])(k:Blk W q z15 43)(ha:tmps[a]?=some (.pointer$ qP q))(d:Q (.returned$ .agg$ qA N) (stM W q N)):bodyPost Tryz.prog fn Q Exit.ret ⟨tmps,[]⟩ (stM W q N):=by
 obtain⟨b,f,s,t,u,w,x,y,A,B,g,i,j,l,p⟩:=(lC k (qS N.ma N.mn N.mc) (qI N.cs) (qI N.cw) (qI N.ck) (qI N.cd) (qI N.pc) (qS N.ka N.kn N.kc) (qS N.fa N.fn N.fc) (qS N.ra N.rn N.rc) (qS N.oa N.on N.oc) (qI N.md) (qI N.bk) (qS N.la N.ln N.lc) (qS N.ha N.hn N.hc)$ qI N.tn).mc;refine bodyPost_ret_by (v:=.agg$ qA N) ?_ rfl d;simp[results,e,go_sem,ha,b,f,s,t,u,w,x,y,A,B,g,i,j,l,p]
def lS (M Ls)(Y:Lyb)(w)(h:MnD w M)(H:MnS w M Ls)(hl:Y.T w)(eY:Y.L=M.L)(ok:MOk M)(c2:M.hz.length≠0)(ht:M.tn<1000000000):
 Calls Tryz.prog 133 #[.agg$ qA M,.agg$ qL Y.L Y.a0 Y.xs.length Y.c0 Y.a2 Y.L.slots.length Y.c2 Y.a5 Y.ts.length Y.c5] w λe w'=>∃N base aN L β,e=.returned (.agg$ qA N)/\qY w w'/\MxO w' base aN (mQ M.cn M.L) N L β/\w.heap.size<=base:=by
 obtain⟨n,hn⟩:∃n,M.hz.length=n+1:=⟨M.hz.length-1,J⟩;let⟨⟨a,b,g,Q⟩,hx⟩:=aO$ M.hz.getD n zFr;obtain⟨fk,av,aw⟩:frk (aI M.ms) (a,b,g,Q):=by rw[hx];exact ok.h.2 n J
 have HR:=zh (show mQ M.cn M.L={ dG { M.cn with hz:=M.hz.take n } Y.L a b g with kz:=(dG { M.cn with hz:=M.hz.take n } Y.L a b g).kz.set 7 Q } by
  unfold mQ aRw aR5 lFr
  rw[show M.cn.hz=M.hz from rfl,hn,show n+1-1=n from J,<-hx,eY])
 let⟨U,W⟩:=aO$ ((w.alloc$ .cells (qA M) 43).alloc$ .cells (qL Y.L Y.a0 Y.xs.length Y.c0 Y.a2 Y.L.slots.length Y.c2 Y.a5 Y.ts.length Y.c5) 65).alloc$ .cells qZ 43;have bU:qY w U:=by rw[W];exact(bal.alloc Jb _).alloc Jc _
 have kM:Blk U w.heap.size (qA M) 43:=by rw[W];exact((Blk.new _ _ _).alloc _).alloc _
 have kL:Blk U (w.heap.size+1) (qL Y.L Y.a0 Y.xs.length Y.c0 Y.a2 Y.L.slots.length Y.c2 Y.a5 Y.ts.length Y.c5) 65:=by rw[W];have:=(Blk.new (w.alloc$ .cells (qA M) 43) (qL Y.L Y.a0 Y.xs.length Y.c0 Y.a2 Y.L.slots.length Y.c2 Y.a5 Y.ts.length Y.c5) 65).alloc$ .cells qZ 43;simpa using this
 have kR:Blk U (w.heap.size+1+1) z15 43:=by rw[W];have:=Blk.new ((w.alloc$ .cells (qA M) 43).alloc$ .cells (qL Y.L Y.a0 Y.xs.length Y.c0 Y.a2 Y.L.slots.length Y.c2 Y.a5 Y.ts.length Y.c5) 65) z15 43;simpa[z15]using this
 have ai:=zh$ bD M Ls U$ H.bw bU;have af:M.hn=n+1:=jK h.h.1;have mx:=h.h.2.1;unfold maxLen at mx;have x:=zh$ xA kM$ xA kL kR;let⟨gh,oh,hg,G,C,y,I⟩:=(h.h.bw bU).at n J _ _ _ _ rfl;rw[<-hx]at G C y I;dsimp only at G C y I;have HQ:=zh$ xA hg$ xA G$ xA C$ xA y I;have d:=zh$ ok.cv h;have HU:=zh W;have B:=zh bU;have az:=zh$ hl.bw bU;have hw:IntKind.i64.wrap ((M.hn:Int)-1)=(n:Int):=by rw[show(M.hn:Int)-1=(n:Int)from J,xP,xQ _ J]
 have b0:(n:Int)<(M.hn:Int):=J
 have m0:=kM.mc;have b3:=zh$ xA eY af;have b5:=zh hn;have V:=zh$ xA fk$ xA av$ xA aw ht;clear W bU kM kL kR h H hl ok hx hn G C y I hg eY mx c2 af fk av aw ht
 go_in
 go_wp2_with (rw[<-HU.o])
 apply ai.mono;rintro e t ⟨O,N,base,aN,L,β,rfl,hm,X,b4⟩;unfold mnV;let⟨V1,ab,a9,kA⟩:=nwb t (qA N) 43;let⟨V2,ax,a2,kF⟩:=nwb V1 (qW a b g Q) 136;have f:=yT O a9;have Z:=yT f a2;have am:V1.heap.size=t.heap.size+1:=by rw[ab];simp
 have sU:=x.2.2.lt;have sX:=O.size;have ap:N.hn=n+1:=by rw[eP hm.h];exact b5.o
 let⟨gn,a0⟩:=gJ hm.h J;have nc:=(aW hm.h).2.2.1;have p:=kA.bw a2;let⟨N1,aa⟩:=aO ({ N with hn:=n,hz:=M.hz.take n }:Mn);let⟨V3,a3⟩:=aO$ V2.setCell ⟨t.heap.size,13,none⟩$ qS (some ⟨gn,0,none⟩) n N.hc;have a8:Blk V3 t.heap.size (qA N1) 43:=by rw[a3,aa,<-a0];exact p.set 13$ qS N.ha n N.hc
 have T3:Turn (λj=>j=t.heap.size) V2 V3:=by rw[a3];exact aD _ _ _ _
 have a6:qY U V3:=aF Z T3 (λj hj=>J) Z.size;have an:MxO V3 base aN { M.cn with hz:=M.hz.take n } N1 L β:=by rw[aa];exact((hm.bw$ yT a9 a2).tm$ dH p T3).pop ap
 have P:=aC T3 kF λe=>J;have ak:=zh (uD U base aN L β Y _ N1 a b g V3 an a6 X az.o (by rw[b3.o.1];exact⟨d.o.k,d.o.e,d.o.b,d.o.r,d.o.g,d.o.s,d.o.n,d.o.t⟩) V.o.2.2.2 V.o.1);let⟨hg,G,C,y,I⟩:=HQ.o;have G:=aB f G;have C:=aB f C;have y:=aB f y;have I:=aB f I;have aq:=(x.1.bw f).e13;rw[hg]at aq;have ao:=p.e13;rw[a0]at ao;have ay:=p.frozen 13;have b2:(n:Int)<=(N.hc:Int):=J
 have y0:=a8.mc;have l0:=(x.2.1.bw a6).z6;let⟨f0,f1,f2,f3⟩:=P.z4;have aj:=zh ab;have au:=zh ax;have ah:=zh a3;have HA:=zh$ xA a8$ xA P$ xA X$ xA am$ xA sU sX;clear m0 O hm X b4 ab a9 kA ax a2 kF f Z ap a0 p aa a3 a8 T3 a6 an P hg am sU sX nc ai HU;go_wp2_with (first|rw[<-aj.o]|rw[<-au.o]|rw[<-ah.o])
 apply ak.mono;rintro e X4 ⟨l,rfl,ar,a7,T4⟩;clear G C y I aq ao ay y0 l0 f0 f1 f2 f3 hw b0 b2 aj au ah ak HQ;have s:=T4.blk HA.1 Jg;have ag:=T4.blk HA.2.1 Jg;let⟨X5,a1⟩:=aO$ stM X4 t.heap.size l;have D:Blk X5 t.heap.size (qA l) 43:=by rw[a1];exact vT s l
 have T5:Turn (λj=>j=t.heap.size) X4 X5:=by rw[a1];exact pY _ _ _
 have E:=ar.tm$ dH s T5;have h1:=HA.o;have a5:=aC T5 ag λe=>J;have S:=aC T5 (x.2.2.bw a7) λe=>J;have K:=d.g
 obtain⟨gk,ac,a0,x7,xf,n1,n2,n3,b7⟩:∃gk,l.ka=some ⟨gk,0,none⟩/\l.kn=8/\(∃u,X5.cell? ⟨gk,7,none⟩=some u)/\(∀i,X5.frozen? ⟨gk,i,none⟩=false)/\gk≠t.heap.size/\gk≠V1.heap.size/\gk≠w.heap.size+1+1/\base<=gk:=by
  have mk:=E.k;have e8:l.kn=8:=by rw[gU mk,vP];exact K
  let⟨gk,cp,e,_⟩:=World.ownsRow.form mk.1 (by rw[vP];show 0<M.cn.kz.length;rw[K];decide);simp only[Value.slice.injEq]at e;rw[e.1]at mk;let⟨cs,kb⟩:=aE mk.1 (k:=gk) rfl;have lo:=(mk.lt gk rfl).1;have bm:=E.bm;exact⟨gk,e.1,e8,⟨_,mk.is.at 7 J⟩,kb.frozen,λq=>by rw[q]at kb;exact absurd (aH kb D) Ja,λq=>by rw[q]at kb;exact absurd (aH kb a5) Ja,λq=>by rw[q]at kb;exact absurd (aH kb S) Ja,J⟩
 obtain⟨u,x7⟩:=x7;let⟨X6,a4⟩:=aO$ X5.setCell ⟨gk,7,none⟩$ qI Q;have T6:Turn (λj=>j=gk) X5 X6:=by rw[a4];exact aD _ _ _ _
 have ae:MxO X6 base aN (mQ M.cn M.L) { l with kz:=(dG { M.cn with hz:=M.hz.take n } Y.L a b g).kz.set 7 Q } L β:=by
  rw[a4,HR.o];exact E.reg ac 7 J Q (by obtain⟨_,C,y,_⟩:=V.o;unfold wfi;omega)
 have ad:=aC T6 D λe=>n1 e.symm;have A:=aC T6 S λe=>n3 e.symm
 have HF:=zh (xA A (show ∃N base aN L β,Ending.returned (.agg$ qA l)=.returned (.agg$ qA N)/\qY w (stM X6 (w.heap.size+1+1) l)/\MxO (stM X6 (w.heap.size+1+1) l) base aN (mQ M.cn M.L) N L β/\w.heap.size<=base by
  have B4:=yT B a7;have B5:=aF B4 T5 (λj hj=>jK B.size) B4.size;have B6:=aF B5 T6 (λj hj=>jK B.size) B5.size
  exact⟨{ l with kz:=(dG { M.cn with hz:=M.hz.take n } Y.L a b g).kz.set 7 Q },base,aN,L,β,rfl,aF B6 (pY _ _ _) (λj hj=>J) B6.size,ae.tm$ dH A$ pY _ _ l,jK B.size⟩))
 have y0:=s.mc;have yf:=s.frozen;have c6:X5.cell? ⟨t.heap.size,6,none⟩=qk (some ⟨gk,0,none⟩) 8 l.kc:=by rw[<-ac,<-a0];exact D.cell 6
 have f3:=a5.e3;have z0:=ad.mc;have KR:=A;unfold z15 at KR;have r0:=KR.mc;have rf:=KR.frozen;unfold stM sH at a1;have b1:=zh a1;have b6:=zh a4;have n4:¬t.heap.size=gk:=λe=>n1 e.symm;have n5:¬V1.heap.size=gk:=λe=>n2 e.symm;clear ar a7 T4 s ag a1 D T5 E a5 S ac a0 a4 T6 ae ad A KR h1 b7 K;go_wp2_with (first|rw[<-b1.o]|rw[<-b6.o])
 exact aVq l rfl HF.1 rfl HF.2
