import Derived.Test.YtdjdcdnjjmjonaaGreatR20
import Derived.Test.YtdjdcdnjjmjonaaGreatR26
import Derived.Test.YtdjdcdnjjmjonaaGreatR29
set_option linter.all false
set_option maxHeartbeats 16000000
namespace Go.Proofs.YtdjdcdnjjmjonaaGreat
open Go.RowKit
open Go.Proofs.Tryz
set_option maxRecDepth 100000
variable {L:List (PMod×Mb)}{M:Mn}{T b cd m x1 x2 x3:Int}{ax cs:Array Value}{base g i k n:Nat}{ps:List PMod}{xs:List FrT}
def mnV (M:Mn):Value:=.agg$ qA M
structure MnS (w:qw)(M:Mn)(L:List (PMod×Mb)):Prop where
 a:(∃g,M.ma=qP g)/\∃b o,M.ka=some (qR b o)
 m:OMq w M.ma L
 n:L.length=M.mn
 e:L.map (fun x=>x.1)=aI M.ms
 k:IS w M.ka M.kn M.kc M.kz
 f:OB w 0 (qS M.fa M.fn M.fc) M.fz
 r:OB w 0 (qS M.ra M.rn M.rc) M.rz
 o:OB w 0 (qS M.oa M.on M.oc) M.oz
 l:Srd cO w M.la M.ln M.lc M.lz
 h:Srd bS w M.ha M.hn M.hc M.hz
 z:M.mn<=1048576/\M.kn<=1048576/\M.fn+M.rn+M.on<=1048576/\M.ln<=1048576/\M.hn<=1048576
def MnS.bw {w w':qw}(h:MnS w M L)(a:qY w w'):MnS w' M L:=⟨h.a,h.m.bw a,h.n,h.e,h.k.bw a,h.f.bw a,h.r.bw a,h.o.bw a,h.l.bw a,h.h.bw a,h.z⟩
abbrev Mn.vm (M:Mn)(a:qO)(n c:Nat):Array Value:=qX M a n c M.ka M.kn M.kc M.fa M.fn M.fc M.ra M.rn M.rc M.oa M.on M.oc M.la M.ln M.lc M.ha M.hn M.hc
structure Cpx (w X:qw)(ax cs:Array Value):Prop where
 b:qY w X
 ka:Blk X w.heap.size ax 43
 kr:Blk X (w.heap.size+1) z15 43
 kg:Blk X (w.heap.size+1+1) cs 43
def Cpx.bw {w X d:qw}(h:Cpx w X ax cs)(a:qY X d):Cpx w d ax cs:=⟨h.b.trans$ a.mono h.b.size,h.ka.bw a,h.kr.bw a,h.kg.bw a⟩
theorem Cpx.set {w X:qw}(h:Cpx w X ax cs)(i v):Cpx w (X.setCell ⟨(w.heap.size+1+1),i,none⟩ v) ax (cs.setIfInBounds i v)/\TMx X (X.setCell ⟨(w.heap.size+1+1),i,none⟩ v):=⟨⟨aF h.b (aD X _ i v) (λk a=>J) h.b.size,h.ka.other _ _ (by grind),h.kr.other _ _ (by grind),h.kg.set i v⟩,dH h.kg$ aD X _ i v⟩
def vM (fn:Func)(a:Nat)(j:fn.results=#[.cell a 43]){W:qw}{q:Nat}(e:Blk W q z15 43)(v0 v1 v2 v3 v4 p s u w x b g i k l)(Q:Ending->World->Prop)(tmps)(d:tmps[a]?=some (.pointer$ qP q))(f:Q (.returned$ .agg #[v0,v1,v2,v3,v4,p,s,u,w,x,b,g,i,k,l]) (sH W q v0 v1 v2 v3 v4 p s u w x b g i k l)):
 bodyPost prog fn Q Exit.ret ⟨tmps,[]⟩ (sH W q v0 v1 v2 v3 v4 p s u w x b g i k l):=by
 have t:=(lC e v0 v1 v2 v3 v4 p s u w x b g i k l).mc;refine bodyPost_ret_by (v:=.agg #[v0,v1,v2,v3,v4,p,s,u,w,x,b,g,i,k,l]) ?_ rfl f;simp[results,j,go_sem,d,t]
def aTe:=@vM f32 2 rfl
def aGf {w d X w4:qw}{b:Nat}{v:Value}{p:Nat->Nat}(O:OMp d base v L p)(l:b<=base)(B:Below b w d)(hs:b<=d.heap.size)(j:qY d X)(a:X.grownBy w4 v.ownBlock):Below b w w4:=
 aF (B.trans$ j.mono hs) (S:=λq=>v.ownBlock=some q) ⟨a.os,a.tape,a.output,a.size,λq f hs=>a.block q f λe=>hs e.symm⟩ (λq f=>xM l (O.o.lt q f).1) (xM hs j.size)
def CpP (w:qw)(C:Cn)(e:Ending)(w':qw):Prop:=qY w w'/\∃N base aN L β,e=.returned (mnV N)/\MxO w' base aN C N L β/\w.heap.size<=base/\aN<=w'.heap.size
def aQv {w XX H P V Q O:qw}{p a U S N:Nat}{l C E B j al q:qO}{A y cf t D G s:Nat}{e:List (PMod×Mb)}{f:Nat->Nat}(W:qY w XX)(d:OMp H p (qS l M.mn A) e f)(e1:e.map (λx=>x.1)=aI M.ms)(u:w.heap.size<=p)(g:TMx H XX)
 (Z:OI P a (qS C M.kn y) M.kz) (i:TMx P XX) (h1:H.heap.size<=a) (b:cB V U (qS E M.fn cf) (qS B M.rn t) (qS j M.on D) M.fz M.rz M.oz) (k:TMx V XX) (h2:a<=U) (K:OG 132 4 cO Q S (qS al M.ln G) M.lz) (X:TMx Q XX) (h3:a<=S) (I:OG 136 4 bS O N (qS q M.hn s) M.hz) (Y:TMx O XX) (h4:a<=N) (hq:a<=XX.heap.size):
 CpP w M.cn (.returned$ .agg$ qX M l M.mn A C M.kn y E M.fn cf B M.rn t j M.on D al M.ln G q M.hn s) XX:=by
 refine⟨W,⟨l,M.mn,A,e.map mdP,M.cs,M.cw,M.ck,M.cd,M.pc,C,M.kn,y,M.kz,E,M.fn,cf,M.fz,B,M.rn,t,M.rz,j,M.on,D,M.oz,M.md,M.bk,al,M.ln,G,M.lz,q,M.hn,s,M.hz,M.tn⟩,p,a,e,f,rfl,⟨d.tm g,e1,Z.tm i,fT (aK0 b k) h2,(K.kept X$ oQ K Ja).mono h3,(I.kept Y$ oQ I Ja).mono h4,?_,?_,⟨rfl,rfl,rfl,rfl,rfl,rfl,rfl,rfl⟩,⟨rfl,rfl,rfl,rfl,rfl,rfl,rfl⟩⟩,u,hq⟩
 .have:=d.lo;have:=d.mono 0 e.length (xC _) aQ;have:=d.hi;omega
 .exact xM d.hi h1
def mK (M Ls w)(H:MnS w M Ls):qC 32 #[.agg$ qA M] w (CpP w M.cn):=by
 obtain⟨iM,bh,bi,bj,bk⟩:=info_parts aQc;obtain⟨⟨⟨g,ea⟩,b1,o1,ek⟩,hm,aq,ap,hk,hf,hr,ho,hl,hh,zm,zk,zq,zl,zh⟩:=H;obtain⟨w1,a0⟩:=aO$ ((w.alloc$ .cells (qA M) 43).alloc$ .cells qZ 43).alloc$ .cells (M.vm none 0 0) 43;have B1:qY w w1:=by rw[a0];exact((brf.alloc aQ _).alloc Jb _).alloc Jc _
 have S:Cpx w w1 (qA M) (M.vm none 0 0):=by
  refine⟨B1,?_,?_,?_⟩
  .rw[a0];exact((Blk.new _ _ _).alloc _).alloc _
  .rw[a0];have:=(Blk.new (w.alloc$ .cells (qA M) 43) z15 43).alloc$ .cells (M.vm none 0 0) 43;simpa[z15]using this
  .rw[a0];have:=Blk.new ((w.alloc$ .cells (qA M) 43).alloc$ .cells qZ 43) (M.vm none 0 0) 43;simpa using this
 have a6:w1.heap.size=w.heap.size+1+1+1:=by rw[a0];simp
 have S0:=aSg w1 w1.heap.size aQ;rw[ea]at hm;have aw:=bK λ(X:qw)(y:qY w X)=>hm.bw y;have b9:=bK (λ(X:qw)(y:qY w X)=>show qC 85 #[.agg #[qI M.pc,qS M.ka M.kn M.kc]] X (fQ X M.pc M.kn M.kz)by rw[ek]at hk⊢;exact aFc M.pc b1 o1 M.kn M.kc M.kz X (hk.bw y) zk);have b8:=bK λ(X:qw)(y:qY w X)=>aJ2 M.fa M.ra M.oa M.fn M.fc M.rn M.rc M.on M.oc M.fz M.rz M.oz X (hf.bw y) (hr.bw y) (ho.bw y) zq;have b0:=bK λ(X:qw)(y:qY w X)=>aJ6 M.la M.ln M.lc M.lz X (hl.bw y) zl;have b4:=bK λ(X:qw)(y:qY w X)=>aJ7 M.ha M.hn M.hc M.hz X (hh.bw y) zh;have E:=bK$ xA aq ap;have bm:=bK a6;have x0:w1.cell? (qR w.heap.size 0)=some (qS (qP g) M.mn M.mc):=by rw[<-ea];exact S.ka.cell 0
 have d:=bK$ xA S S0;have D:=bK a0;obtain⟨B,hB⟩:=aO$ w1.heap.size;rw[<-hB]at d;have a9:=bK$ show w.heap.size+1+1<B from J;clear a0 B1 S S0 hm hk hf hr ho hl hh zk zq zl zh aq ap ea ek a6 hB;go_enter func32,ntmps32
 go_wp2_with (rw[<-D.out])
 go_loopw [11] (λi wr=>∃(j:Nat) (A:qO) (C:Nat) (L':List (PMod×Mb)) (am:Nat->Nat),j<=M.mn/\i=qI j/\OMp wr B (qS A j C) L' am/\L'.map (λx=>x.1)=(Ls.take j).map (λx=>x.1)/\Cpx w wr (qA M) (M.vm A j C)) (λi _=>M.mn-(intOf i).toNat)
 case atStart=>exact⟨0,none,0,[],_,xC _,rfl,d.out.2,Jb,d.out.1⟩
 case round=>
  obtain⟨j,A,C,L',am,hj,rfl,O,hL,K⟩:=hrel;have Q:L'.length=j:=by have h1:=congrArg List.length hL;have h2:=E.out.1;simp at h1;omega
  clear x0 d D;by_cases bo:j<M.mn
  .have au:(j:Int)<(M.mn:Int):=J
   have bn:(0:Int)<=(j:Int):=J
   obtain⟨⟨P,⟨b1,d1,b2,d2,bq,b3,d3,b5,d5,b6,d6,b7,d7⟩⟩,hx⟩:∃x,Ls[j]?=some x:=⟨Ls[j]'(jK E.out.1),xN _⟩;obtain⟨⟨s0,s1,s2,s3,s4,s5,s6,s7⟩,ms,R⟩:=(aw.out wr K.b).srcM hx;obtain⟨W1,an,a1,km⟩:=nwb wr (qM P.nm b1 P.tz.length d1 b2 bq.length d2 b3 P.dz.length d3 P.bss b5 P.rz.length d5 b6 P.ss.length d6 b7 P.es.length d7) 128;have q0:=Blk.eight' km;have ae:=bK λ(X:qw)(y:qY W1 X)=>aAj P b1 d1 b2 d2 bq b3 d3 b5 d5 b6 d6 b7 d7 X ((ms.bw a1).bw y) R;have S:=K.bw a1;have O1:=O.bw a1;have p1:=S.kg.cell 0;simp only[Array.getElem?_eq_getElem,List.getElem?_toArray,List.getElem?_cons_succ,List.getElem?_cons_zero]at p1;have d:=bK$ xA O1$ xA S$ xA Q hL;have HX:=bK$ xA hx R;have D:=bK an;have bf:B<=W1.heap.size:=by have:=O1.lo;have:=O1.hi;have:=O1.mono 0 L'.length (xC _) aQ;omega
   clear ms R O K an a1 km S O1 hL hx;go_wp2_with (rw[<-D.out])
   clear s0 s1 s2 s3 s4 s5 s6 s7
   go_region_law
    (first
      | (go_simp;go_at_call 84;first|refine(ae.out _ brf).mono ?_|refine(ae.out _ brf.drew).mono ?_
         rintro e w6 ⟨x,rfl,M6,a⟩;replace a:qY W1 w6:=(by first|exact a|exact aU a)
         have ax:w6.cell? ⟨(w.heap.size+1+1),0,none⟩=some (qS A j C):=(d.out.2.1.bw a).kg.cell 0;have be:(w6.alloc$ .cells (qM P.nm x.a1 P.tz.length x.c1 x.a2 x.bl.length x.c2 x.a3 P.dz.length x.c3 P.bss x.a5 P.rz.length x.c5 x.a6 P.ss.length x.c6 x.a7 P.es.length x.c7) 128).cell? ⟨(w.heap.size+1+1),0,none⟩=some (qS A j C):=((d.out.2.1.bw a).kg.alloc _).cell 0;have bA:qY w6 (w6.alloc$ .cells (qM P.nm x.a1 P.tz.length x.c1 x.a2 x.bl.length x.c2 x.a3 P.dz.length x.c3 P.bss x.a5 P.rz.length x.c5 x.a6 P.ss.length x.c6 x.a7 P.es.length x.c7) 128):=brf.alloc aQ _;have p:=bK$ aKz Q (d.out.1.bw$ a.trans$ bA.mono a.size).o;have I:=bK$ cA w6 (qM P.nm x.a1 P.tz.length x.c1 x.a2 x.bl.length x.c2 x.a3 P.dz.length x.c3 P.bss x.a5 P.rz.length x.c5 x.a6 P.ss.length x.c6 x.a7 P.es.length x.c7) 128 (clB (P,x)) rfl;have af:B<=(w6.alloc$ .cells (qM P.nm x.a1 P.tz.length x.c1 x.a2 x.bl.length x.c2 x.a3 P.dz.length x.c3 P.bss x.a5 P.rz.length x.c5 x.a6 P.ss.length x.c6 x.a7 P.es.length x.c7) 128).heap.size:=xM bf$ xM a.size bA.size;have ac:=bK λ(v':Value)(w4:qw)s(f:World.grownBy _ w4 _)=>xA (d.out.1.push (x:=(P,x)) (v':=v') (w4:=w4) Q a M6 HX.out.2 bA s f)$ xA (aGf d.out.1 (jK a9.out) d.out.2.1.b d.out.2.1.b.size (a.trans$ bA.mono a.size) f)$ show TMx W1 w4\/True from .inr trivial;have aa:=bK (λ(w4:qw)(f:World.grownBy _ w4 _)=>xA (bL f ((d.out.2.1.bw a).ka.alloc$ .cells (qM P.nm x.a1 P.tz.length x.c1 x.a2 x.bl.length x.c2 x.a3 P.dz.length x.c3 P.bss x.a5 P.rz.length x.c5 x.a6 P.ss.length x.c6 x.a7 P.es.length x.c7) 128) (λe=>by obtain⟨c,kk⟩:=aE p.out e.symm;exact absurd (aH kk$ (d.out.2.1.bw a).ka.alloc$ .cells (qM P.nm x.a1 P.tz.length x.c1 x.a2 x.bl.length x.c2 x.a3 P.dz.length x.c3 P.bss x.a5 P.rz.length x.c5 x.a6 P.ss.length x.c6 x.a7 P.es.length x.c7) 128) Ja)) (xA (bL f ((d.out.2.1.bw a).kr.alloc$ .cells (qM P.nm x.a1 P.tz.length x.c1 x.a2 x.bl.length x.c2 x.a3 P.dz.length x.c3 P.bss x.a5 P.rz.length x.c5 x.a6 P.ss.length x.c6 x.a7 P.es.length x.c7) 128) (λe=>by obtain⟨c,kk⟩:=aE p.out e.symm;exact absurd (aH kk$ (d.out.2.1.bw a).kr.alloc$ .cells (qM P.nm x.a1 P.tz.length x.c1 x.a2 x.bl.length x.c2 x.a3 P.dz.length x.c3 P.bss x.a5 P.rz.length x.c5 x.a6 P.ss.length x.c6 x.a7 P.es.length x.c7) 128) Ja)) (bL f ((d.out.2.1.bw a).kg.alloc$ .cells (qM P.nm x.a1 P.tz.length x.c1 x.a2 x.bl.length x.c2 x.a3 P.dz.length x.c3 P.bss x.a5 P.rz.length x.c5 x.a6 P.ss.length x.c6 x.a7 P.es.length x.c7) 128) (λe=>by obtain⟨c,kk⟩:=aE p.out e.symm;exact absurd (aH kk$ (d.out.2.1.bw a).kg.alloc$ .cells (qM P.nm x.a1 P.tz.length x.c1 x.a2 x.bl.length x.c2 x.a3 P.dz.length x.c3 P.bss x.a5 P.rz.length x.c5 x.a6 P.ss.length x.c6 x.a7 P.es.length x.c7) 128) Ja))));clear M6 a bA)
      | (refine step_append_lies _ (by rfl) _ _ 36 (by rfl) B 128 iM _ 8 _ underlying36 bh bi bj bk rfl Ja (qS A j C) j (L'.flatMap clB) (by rfl) p.out ⟨w6.heap.size,0,none⟩ 1 1 (clB (P,x)) (by rfl) (by rfl) I.out (by intro u hu;simp[clB,clH,hdP]at hu;rcases hu with rfl|rfl|rfl|rfl|rfl|rfl|rfl|rfl<;>rfl) Ja Jf J af _ rfl ?_;intro g4 c4 w4 s f _ _;have W:=bK$ xA (ac.out _ w4 s f)$ aa.out w4 f;have av:w4.cell? ⟨(w.heap.size+1+1),0,none⟩=some (qS A j C):=W.out.2.2.2.cell 0;have f4:=W.out.2.2.2.frozen 0;clear s f))
   all_goals
    clear q0 p1 ax be av f4 p I ac aa af;go_wp2
    go_roundw
    case rel=>
     obtain⟨⟨PO,bw,_⟩,ka,kr,kg⟩:=W.out;have KX:Cpx w w4 _ _:=⟨bw,ka,kr,kg⟩;obtain⟨KY,TY⟩:=KX.set 0$ qS (qP g4) (j+1) c4;exact⟨j+1,some ⟨g4,0,none⟩,c4,_,_,J,by go_num,PO.tm TY,by rw[List.map_append,d.out.2.2.2,nP HX.out.1];rfl,KY⟩
    case measure=>simp[intOf];omega
  .have au:¬(j:Int)<(M.mn:Int):=J
   obtain rfl:j=M.mn:=J
   rw[<-E.out.1,List.take_length,E.out.2]at hL;have x5:=K.ka.cell 5;have x6:=K.ka.cell 6;have ai:=bK$ b9.out wr K.b;have HO:=bK$ xA O$ xA hL K;clear O hL K;go_wp2_with fail
   apply ai.out.mono;rintro e w2 ⟨ak,ck,rfl,O2,V⟩;obtain⟨O,hL,K⟩:=HO.out;have Z:=K.bw V;obtain⟨k,T3⟩:=(Z.set 5$ qI M.pc).1.set 6$ qS ak M.kn ck;have T2:=(Z.set 5$ qI M.pc).2;simp only[yA,yB,yC]at k;have y5:=Z.kg.cell 5;have y6:=Z.kg.cell 6;have yf:=Z.kg.frozen;obtain⟨X3,a2⟩:=aO$ (w2.setCell ⟨(w.heap.size+1+1),5,none⟩$ qI M.pc).setCell ⟨(w.heap.size+1+1),6,none⟩$ qS ak M.kn ck;rw[<-a2]at k T3;have l:=bK$ xA (T2.trans T3)$ xA k$ xA O2$ fH V;have x7:=k.ka.cell 7;have x8:=k.ka.cell 8;have x9:=k.ka.cell 9;have ad:=bK$ b8.out X3 k.b;have a7:=bK a2;clear x5 x6 O hL K Z k T3 T2 a2 O2 V ai;go_wp2_with (rw[<-a7.out])
   apply ad.out.mono;rintro e w4 ⟨U,cf,ar,cr,ao,co,rfl,O4,Y⟩;have G:=l.out.2.1.bw Y;obtain⟨K5,T5⟩:=((G.set 7$ qS U M.fn cf).1.set 8$ qS ar M.rn cr).1.set 9$ qS ao M.on co;have T4:=(G.set 7$ qS U M.fn cf).2.trans ((G.set 7$ qS U M.fn cf).1.set 8$ qS ar M.rn cr).2;simp only[yA,yB,yC]at K5;have y7:=G.kg.cell 7;have y8:=G.kg.cell 8;have y9:=G.kg.cell 9;have az:=G.kg.frozen;obtain⟨X5,a3⟩:=aO$ ((w4.setCell ⟨(w.heap.size+1+1),7,none⟩$ qS U M.fn cf).setCell ⟨(w.heap.size+1+1),8,none⟩$ qS ar M.rn cr).setCell ⟨(w.heap.size+1+1),9,none⟩$ qS ao M.on co;rw[<-a3]at K5 T5;have q:=bK$ xA (T4.trans T5)$ xA K5$ xA O4$ fH Y;have bc:=K5.ka.cell 12;have a8:=bK$ b0.out X5 K5.b;have ab:=bK a3;clear x7 x8 x9 y5 y6 yf G K5 T4 T5 a3 O4 Y ad a7;go_wp2_with (rw[<-ab.out])
   apply a8.out.mono;rintro e w6 ⟨al,cl,rfl,O6,a⟩;have K6:=q.out.2.1.bw a;obtain⟨K7,T7⟩:=K6.set 12$ qS al M.ln cl;simp only[yA,yB,yC]at K7;have bb:=K6.kg.cell 12;have ba:=K6.kg.frozen;obtain⟨X7,a4⟩:=aO$ w6.setCell ⟨(w.heap.size+1+1),12,none⟩$ qS al M.ln cl;rw[<-a4]at K7 T7;have t:=bK$ xA T7$ xA K7$ xA O6$ fH a;have bg:=K7.ka.cell 13;have aj:=bK$ b4.out X7 K7.b;have ag:=bK a4;clear bc y7 y8 y9 az K6 K7 T7 a4 O6 a a8 ab;go_wp2_with (rw[<-ag.out])
   apply aj.out.mono;rintro e w8 ⟨ah,ch,rfl,O8,N⟩;have K8:=t.out.2.1.bw N;obtain⟨b,T9⟩:=K8.set 13$ qS ah M.hn ch;simp only[yA,yB,yC]at b;have bl:=K8.kg.cell 13;have bp:=K8.kg.frozen;obtain⟨X9,a5⟩:=aO$ w8.setCell ⟨(w.heap.size+1+1),13,none⟩$ qS ah M.hn ch;rw[<-a5]at b T9;have u0:=b.kg.mc;have KZ:=b.kr;unfold z15 at KZ;have r0:=KZ.mc;have rf:=KZ.frozen
   have HE:=bK (show CpP w M.cn (.returned$ .agg$ qX M A M.mn C ak M.kn ck U M.fn cf ar M.rn cr ao M.on co al M.ln cl ah M.hn ch) (sH X9 (w.heap.size+1) (qS A M.mn C) (qI M.cs) (qI M.cw) (qI M.ck) (qI M.cd) (qI M.pc) (qS ak M.kn ck) (qS U M.fn cf) (qS ar M.rn cr) (qS ao M.on co) (qI M.md) (qI M.bk) (qS al M.ln cl) (qS ah M.hn ch)$ qI M.tn)by
    have TE:=dH b.kr$ bG X9 (w.heap.size+1) (qS A M.mn C) (qI M.cs) (qI M.cw) (qI M.ck) (qI M.cd) (qI M.pc) (qS ak M.kn ck) (qS U M.fn cf) (qS ar M.rn cr) (qS ao M.on co) (qI M.md) (qI M.bk) (qS al M.ln cl) (qS ah M.hn ch)$ qI M.tn;have U9:=T9.trans TE;have U7:=(t.out.1.trans$ fH N).trans U9;have U5:=(q.out.1.trans t.out.2.2.2).trans U7;have U3:=(l.out.1.trans q.out.2.2.2).trans U5;have U1:=l.out.2.2.2.trans U3
    exact aQv (aF b.b (bG _ _ _ _ _ _ _ _ _ _ _ _ _ _ _ _ _ ) (λj hj=>J) b.b.size) HO.out.1 HO.out.2.1 (jK a9.out) U1 l.out.2.2.1 U3 aQ q.out.2.2.1 U5 (by have h1:=l.out.1.size;have h2:=l.out.2.2.2.size;omega) t.out.2.2.1 U7 (by have h1:=l.out.1.size;have h2:=l.out.2.2.2.size;have h3:=q.out.1.size;have h4:=q.out.2.2.2.size;omega) O8 U9 (by have h1:=l.out.1.size;have h2:=l.out.2.2.2.size;have h3:=q.out.1.size;have h4:=q.out.2.2.2.size;have h5:=t.out.1.size;have h6:=t.out.2.2.2.size;omega) U1.size)
   have bd:=bK b.kr;have ay:=bK a5;clear bg bb ba K8 b T9 a5 O8 N aj ag KZ;go_wp2_with (rw[<-ay.out])
   exact aTe bd.out _ _ _ _ _ _ _ _ _ _ _ _ _ _ _ _ _ rfl HE.out
def aQl (a:k<xs.length)(h:¬frk ps (xs.getD k zFr)):¬lB ps cd xs:=λf=>h$ f.2 k a
def aLe (a:xs.length=n)(d:(n:Int)<=cd)(e:¬k<n)(h:∀i,i<k->frk ps (xs.getD i zFr)):lB ps cd xs:=⟨by rw[a];exact d,λi hi=>h i J⟩
def aWz {w:qw}{a:qO}{f:Nat}{ms:List Md}(h:MSD w a n f ms)(j:0<=pcq (aI ms) m b):∃gm d D,a=some (qR gm d)/\ms.getD m.toNat aM=D/\(0<=m/\m<(n:Int))/\∀X,qY w X->X.cell? (qR gm$ d+m.toNat*8)=some (.string D.nm)/\X.cell? (qR gm$ d+m.toNat*8+1)=some (qS D.ta D.tn D.tc)/\X.cell? (qR gm$ d+m.toNat*8+2)=some (qS D.ba D.bn D.bc)/\X.cell? (qR gm$ d+m.toNat*8+3)=some (qS D.da D.dn D.dc)/\X.cell? (qR gm$ d+m.toNat*8+4)=some (qI D.bss)/\X.cell? (qR gm$ d+m.toNat*8+5)=some (qS D.ra D.rn D.rc)/\X.cell? (qR gm$ d+m.toNat*8+6)=some (qS D.ia D.im D.ic)/\X.cell? (qR gm$ d+m.toNat*8+7)=some (qS D.ea D.en D.ec):=by
 let⟨⟨g,i⟩,_⟩:=pF h j;obtain⟨gm,d,rfl,k,v1,v2,v3,v4,l,p,q⟩:=h.s.at m.toNat J;exact⟨gm,d,_,rfl,rfl,⟨g,i⟩,λX e=>⟨aB e k,aB e v1,aB e v2,aB e v3,aB e v4,aB e l,aB e p,aB e q⟩⟩
def yW (M w)(h:MnD w M):
 qC 69 #[.agg$ qA M] w (Yn (lB (aI M.ms) M.cd M.hz) w):=by
 let⟨V,hV,bV,kV⟩:=nwb w (qA M) 43;have hl:=h.h.1;have Y:=h.h.2.1;have a2:=h.m.s.2.1;unfold maxLen at Y a2;have G:=zh$ h.bw bV;have HV:=zh hV;have y:=zh$ xA bV kV;have N:=zb V λX l=>show qn X w 0=qk M.ma M.mn M.mc/\qn X w 4=qj M.cd/\qn X w 13=qk M.ha M.hn M.hc from⟨(kV.bw l).cell 0,(kV.bw l).cell 4,(kV.bw l).cell 13⟩;by_cases c0:M.cd<(M.hn:Int)
 .have t:Zh (¬lB (aI M.ms) M.cd M.hz):=λf=>jK f.1;let⟨y0,y4,a0⟩:=N V brf
  delta qC;go_in
  go_wp2_with (rw[<-HV.o])
  go_ret;exact dL t$ y.1
 have a3:(M.hn:Int)<=M.cd:=J
 have Z:=zh$ Below.refl V.heap.size V;let⟨y0,y4,a0⟩:=N V brf
 delta qC;go_in
 go_wp2_with (rw[<-HV.o])
 go_loopw [3] (λi wr=>∃k:Nat,k<=M.hn/\i=qI k/\(∀i,i<k->frk (aI M.ms) (M.hz.getD i zFr))/\qY V wr) (qf M.hn)
 .exact⟨0,xC _,rfl,λi hi=>absurd hi J,Z⟩
 .obtain⟨k,hk,rfl,O,C⟩:=hrel;let⟨y0,y4,a0⟩:=N wr C;have HB:=zh C;by_cases H:k<M.hn
  .have a4:(k:Int)<(M.hn:Int):=J
   let⟨g,f,hg,q0,q1,q2,q3⟩:=(G.h.bw C).at k H _ _ _ _ rfl;have s:=zh λ(q:¬frk (aI M.ms) (M.hz.getD k zFr))=>aQl (cd:=M.cd) (show k<M.hz.length from J) q
   have S:=zh (λ(q:frk (aI M.ms) (M.hz.getD k zFr))(i:Nat)(hi:i<k+1)=>show frk (aI M.ms) (M.hz.getD i zFr)by
    by_cases e:i=k
    .rw[e];exact q
    .exact O i J)
   generalize M.hz.getD k zFr=x at *;obtain⟨b,x1,x2,x3⟩:=x;let⟨U,hU,bU,kU⟩:=nwb wr (qW b x1 x2 x3) 136;have Q:=yT C bU;have j:=zh$ jQ M.ma M.mn M.mc M.ms b x1 U$ G.m.s.bw Q;rw[fL G.o.m b x1]at j;have d:=zh Q;have HU:=zh hU;have u:=zh kU;rw[hg]at a0;let⟨j0,_,_⟩:=N U Q;have j1:=kU.cell 0;have j2:=kU.cell 1;clear C O hU kU bU Q hg;by_cases c1:0<=pcq (aI M.ms) b x1
   .rw[xR c1]at j;let⟨gm,om,D,ha,hD,⟨m0,m1⟩,a1⟩:=aWz (G.m.bw d) c1;have HP:=zb U λX l=>tB (G.m.bw d) c1 hD X l;have E:=zb U λX l=>xA (a1 X l)$ xA (N X$ yT d l).1$ xA ((u.bw l).cell 0)$ xA ((u.bw l).cell 1)$ xA ((u.bw l).cell 2)$ (u.bw l).cell 3;have p:=zh (show frk (aI M.ms) (b,x1,x2,x3) ↔ (0<=x2/\x2<=pcq (aI M.ms) b x1)/\0<=x3/\x3<=4294967295 by unfold frk tgk;simp[c1]);generalize pcq (aI M.ms) b x1=q at *;rw[ha]at y0 j0 j;have HA:=zh ha;clear a1 hD c1 ha;go_wp2_with (rw[<-HU.o])
    apply j.mono;rintro e X1 ⟨rfl,a⟩;let⟨⟨u0,u1,u2,u3,u4,u5,u6,u7⟩,z0,t0,t1,t2,t3⟩:=E X1 a;have A:=zh a;have B:=zb X1 λX l=>(HP X$ yT A l).mono (λe w' he=>show ∃xa P xc,e=.returned (.tuple #[qS xa P xc,.bool true])/\(P:Int)=q/\qY U w' from he);rw[HA.o]at z0;clear a q0 q1 q2 q3 y0 y4 a0 j0 j1 j2 j HU HP;by_cases c3:x3<0
    .have t:=zh$ s λf=>jK$ p.1 f;go_wp2;go_ret;exact dL t$ yT y.1$ yT d A
    by_cases c4:4294967295<x3
    .have t:=zh$ s λf=>jK$ p.1 f;go_wp2;go_ret;exact dL t$ yT y.1$ yT d A
    go_wp2_with fail
    go_region_held3 (λw'=>qn w' w 0=qk (qe gm om) M.mn M.mc/\qn w' wr 0=qj b/\qn w' wr 1=qj x1/\qN w' gm (om+b.toNat*8)=some (.string D.nm)/\qN w' gm (om+b.toNat*8+1)=qk D.ta D.tn D.tc/\qN w' gm (om+b.toNat*8+2)=qk D.ba D.bn D.bc/\qN w' gm (om+b.toNat*8+3)=qk D.da D.dn D.dc/\qN w' gm (om+b.toNat*8+4)=qj D.bss/\qN w' gm (om+b.toNat*8+5)=qk D.ra D.rn D.rc/\qN w' gm (om+b.toNat*8+6)=qk D.ia D.im D.ic/\qN w' gm (om+b.toNat*8+7)=qk D.ea D.en D.ec) (go_keep)
     (first
       | (go_at_call 118;first
           | with_reducible refine(B.o _ brf).mono ?_
           | with_reducible refine(B.o _ brf.drew).mono ?_
          rintro e w1 ⟨xa,P,xc,rfl,K,a⟩;have I:=zh K;have W:=zh a;let⟨⟨s0,s1,s2,s3,s4,s5,s6,s7⟩,p0,r0,r1,r2,r3⟩:=E w1 a;rw[HA.o]at p0
          clear a K))
    clear u0 u1 u2 u3 u4 u5 u6 u7 s0 s1 s2 s3 s4 s5 s6 s7 z0 t0 t1 t2 t3 B;have HE:=zh$ yT d W;by_cases c5:x2<0
    .have t:=zh$ s λf=>jK$ p.1 f;go_wp2;go_ret;exact dL t$ yT y.1 HE
    by_cases c6:(P:Int)<x2
    .have t:=zh$ s (λf=>by have:=p.1 f;have h2:=I.o;omega);go_wp2;go_ret;exact dL t$ yT y.1 HE
    have HY:=zh$ S$ p.2 (by have h2:=I.o;omega);go_wp2
    go_roundw
    .exact⟨k+1,J,by go_num,HY,HE⟩
    .simp[qf,intOf];omega
   .rw[xS c1]at j;have t:=zh$ s λf=>c1 f.1.1;go_wp2_with (rw[<-HU.o])
    apply j.mono;rintro e X1 ⟨rfl,a⟩;go_wp2;go_ret;exact dL t$ yT y.1$ yT d a
  .have HY:=zh$ aLe hl a3 H O;clear C O;go_wp2;go_ret;exact uK HY$ yT y.1 HB
def mJ (a x1 x2 x3 w):
 qC 194 #[.agg$ qW a x1 x2 x3] w (qB w$ .agg$ qT a x1 x2):=by
 delta qC;go_in
 go_wp2;refine bodyPost_ret (v:=.agg$ qT a x1 x2) (by simp[results,results194,go_sem]) rfl ⟨rfl,?_⟩;exact bal.alloc Jb _
def aDt (M w)(h:MnD w M):
 qC 146 #[.agg$ qA M] w (Yn (lB (aI M.ms) M.cd M.hz) w):=by
 let⟨V,hV,bV,kV⟩:=nwb w (qA M) 43;have hl:=h.h.1;have a1:=h.h.2.1;unfold maxLen at a1;have a0:=zh$ h.h.bw bV;have a3:=zh$ h.m.bw bV;have HV:=zh hV;have P:=zh$ xA bV kV;have HC:=zb V λX u=>show qn X w 0=qk M.ma M.mn M.mc/\qn X w 4=qj M.cd/\qn X w 13=qk M.ha M.hn M.hc from⟨(kV.bw u).cell 0,(kV.bw u).cell 4,(kV.bw u).cell 13⟩;clear hV kV bV h;generalize M.ha=hA at *;have y0:=HC V brf;by_cases c0:M.cd<(M.hn:Int)
 .have G:Zh (¬lB (aI M.ms) M.cd M.hz):=λf=>jK f.1
  delta qC;go_in
  go_wp2_with (rw[<-HV.o])
  go_ret;exact dL G$ P.1
 have a4:(M.hn:Int)<=M.cd:=J
 have a2:=zh$ Below.refl V.heap.size V
 delta qC;go_in
 go_wp2_with (rw[<-HV.o])
 clear y0;go_loopw [15] (λi wr=>∃k:Nat,k<=M.hn/\i=qI k/\(∀i,i<k->frk (aI M.ms) (M.hz.getD i zFr))/\qY V wr) (qf M.hn)
 .exact⟨0,xC _,rfl,λi hi=>absurd hi J,a2⟩
 .obtain⟨k,hk,rfl,O,N⟩:=hrel;have HB:=zh N;by_cases E:k<M.hn
  .have a5:(k:Int)<(M.hn:Int):=J
   obtain⟨g,f,rfl,q0,q1,q2,q3⟩:=(a0.bw N).at k E _ _ _ _ rfl;have D:=zh λ(q:¬frk (aI M.ms) (M.hz.getD k zFr))=>aQl (cd:=M.cd) (show k<M.hz.length from J) q
   have Z:=zh (λ(q:frk (aI M.ms) (M.hz.getD k zFr))(i:Nat)(hi:i<k+1)=>show frk (aI M.ms) (M.hz.getD i zFr)by
    by_cases e:i=k
    .rw[e];exact q
    .exact O i J)
   generalize M.hz.getD k zFr=x at *;obtain⟨x0,x1,x2,x3⟩:=x;let⟨U,hU,bU,kU⟩:=nwb wr (qW x0 x1 x2 x3) 136;have W:=yT N bU;have A:=zh W;have HU:=zh hU;have a:=zb U λX u=>show qn X w 0=qk M.ma M.mn M.mc/\qn X wr 0=qj x0/\qn X wr 1=qj x1/\qn X wr 2=qj x2/\qn X wr 3=qj x3 from⟨(HC X$ yT W u).1,(kU.bw u).cell 0,(kU.bw u).cell 1,(kU.bw u).cell 2,(kU.bw u).cell 3⟩;have t:=zb U λX u=>(mJ x0 x1 x2 x3 X).mono λe b I=>show e=.returned (.agg$ qT x0 x1 x2)/\qY U b from⟨I.1,yT u I.2⟩;have p:=zb U λX u=>(lG M.ma M.mn M.mc M.ms x0 x1 x2 X$ (a3.bw W).bw u).mono λe b I=>show e=.returned (.bool$ decide$ tgk (aI M.ms) x0 x1 x2)/\qY U b from⟨I.1,yT u I.2⟩;have y:=zh$ cL x3;have B:Zh (frk (aI M.ms) (x0,x1,x2,x3) ↔ tgk (aI M.ms) x0 x1 x2/\0<=x3/\x3<=4294967295):=Iff.rfl;clear N O hU kU bU W;by_cases c1:tgk (aI M.ms) x0 x1 x2
   .rw[xR c1]at p;by_cases c2:0<=x3/\x3<=4294967295
    .rw[xR c2]at y;have HY:=zh$ Z$ B.2 ⟨c1,c2⟩;clear c1 c2;have p0:=a U brf;go_wp2_with (rw[<-HU.o])
     first|(go_region_held3 (λb=>qn b w 0=qk M.ma M.mn M.mc/\qn b wr 0=qj x0/\qn b wr 1=qj x1/\qn b wr 2=qj x2/\qn b wr 3=qj x3) (go_keep)
      (first
        | (go_at_call 194;first
            | with_reducible refine(t.o _ brf).mono ?_
            | with_reducible refine(t.o _ brf.drew).mono ?_
           rintro e Q ⟨rfl,l⟩;have d:=zh l;have r0:=a Q l
           clear l)
        | (go_at_call 193;first
            | with_reducible refine(p.o _ d.o).mono ?_
            | with_reducible refine(p.o _ d.o.drew).mono ?_
           rintro e Y ⟨rfl,j⟩;have s:=zh j;have n0:=a Y j
           clear j)
        | (go_at_call 183;refine(y _).mono ?_;rintro e w3 ⟨rfl,rfl⟩)))|fail
     have H:=zh$ yT A s;clear p0 r0 n0 t p a d s;go_wp2
     go_roundw
     .exact⟨k+1,J,by go_num,HY,H⟩
     .simp[qf,intOf];omega
    .rw[xS c2]at y;have G:=zh$ D λf=>c2 (B.1 f).2;clear c1 c2;have p0:=a U brf;go_wp2_with (rw[<-HU.o])
     first|(go_region_held3 (λb=>qn b w 0=qk M.ma M.mn M.mc/\qn b wr 0=qj x0/\qn b wr 1=qj x1/\qn b wr 2=qj x2/\qn b wr 3=qj x3) (go_keep)
      (first
        | (go_at_call 194;first
            | with_reducible refine(t.o _ brf).mono ?_
            | with_reducible refine(t.o _ brf.drew).mono ?_
           rintro e Q ⟨rfl,l⟩;have d:=zh l;have r0:=a Q l
           clear l)
        | (go_at_call 193;first
            | with_reducible refine(p.o _ d.o).mono ?_
            | with_reducible refine(p.o _ d.o.drew).mono ?_
           rintro e Y ⟨rfl,j⟩;have s:=zh j;have n0:=a Y j
           clear j)
        | (go_at_call 183;refine(y _).mono ?_;rintro e w3 ⟨rfl,rfl⟩)))|fail
     have H:=zh$ yT A s;clear p0 r0 n0 t p a d s;go_wp2;go_ret;exact dL G$ yT P.1 H
   .rw[xS c1]at p
    .have G:=zh$ D λf=>c1 (B.1 f).1;clear c1;go_wp2_with (rw[<-HU.o])
     refine wp_region_held_drew (S:=(λb=>qn b w 0=qk M.ma M.mn M.mc/\qn b wr 0=qj x0/\qn b wr 1=qj x1/\qn b wr 2=qj x2/\qn b wr 3=qj x3)) Je ?_ λhHeld=>?_
     .exact a _ brf.drew
     refine tkW 0 rfl ?_;try simp only[yG,Act.put]
     refine tkW 1 rfl ?_;try simp only[yG,Act.put]
     refine tkW 2 rfl ?_;try simp only[yG,Act.put]
     refine wpAnyH_ready (rs:=[3]) Je Jb$ AllReadyH.cons rfl (λK C=>?_) AllReadyH.nil;go_simp;apply(t _ brf.drew).mono;rintro e Q ⟨rfl,l⟩;have d:=zh l;clear l;try go_wp2_with fail
     refine C.out _ _ ?_ λhHeld=>?_
     .exact a _ d
     clear C K;try simp only[yG,Act.put]
     refine wpAnyH_ready (rs:=[4]) Je Jb$ AllReadyH.cons rfl (λK C=>?_) AllReadyH.nil;go_simp;apply(p _ d).mono;rintro e Y ⟨rfl,j⟩;have s:=zh j;clear j;try go_wp2_with fail
     refine C.out _ _ ?_ λhHeld=>?_
     .exact a _ s
     clear C K;try simp only[yG,Act.put]
     refine tkW 5 rfl ?_;try simp only[yG,Act.put]
     refine tkW 6 rfl ?_;try simp only[yG,Act.put]
     refine tkS 7 rfl ?_;try simp only[yG,Act.put]
     refine tkS 8 rfl ?_;try simp only[yG,Act.put]
     refine tkS 9 rfl ?_;try simp only[yG,Act.put]
     refine tkS 10 rfl ?_;try simp only[yG,Act.put]
     refine tkW 11 rfl ?_;try simp only[yG,Act.put]
     refine wpAnyH_done Je ?_ _;have H:=zh$ yT A s;clear t p a d s;go_wp2;go_ret;exact dL G$ yT P.1 H
  .have HY:=zh$ aLe hl a4 E O;clear N O;go_wp2;go_ret;exact uK HY$ yT P.1 HB
def aW4 {rg:qi}(h:rg.length=8):∃l f q a d j p e,rg=[l,f,q,a,d,j,p,e]:=by
 match rg,h with
 | [l,f,q,a,d,j,p,e],_=>exact⟨l,f,q,a,d,j,p,e,rfl⟩
def RowI.oi {w:qw}{zs:qi}(h:RowI w g zs)(d:base<=g)(a:zs.length<=maxLen)(hz:∀z∈zs,wfi z):OI w base (qS (qP g) zs.length zs.length) zs:=
 ⟨⟨Jb,.inr ⟨g,zs.length,(zs.map$ Value.int .i64).toArray,rfl,d,h,aQ,a,Jb,by simp[xG]⟩⟩,hz⟩
abbrev z8i:Array Value:=#[qI 0,qI 0,qI 0,qI 0,qI 0,qI 0,qI 0,qI 0]
abbrev z8u (a b c d e f g h:Int):Value:=.agg #[.int .u32 a,.int .u32 b,.int .u32 c,.int .u32 d,.int .u32 e,.int .u32 f,.int .u32 g,.int .u32 h]
def aV8 {pc:Int}{rg:qi}{s1 s2 s3 N:Value}(w)(h:Pr w g pc rg s1 s2 s3 N):
 qC 91 #[.pointer$ qP g] w (fQ w pc 8 rg):=by
 have hc:=h.pc;have p0:=h.pcw;have q:=h.blk.lt;have l:=h.len;have H:=zh h.rgw;let⟨r0,r1,r2,r3,r4,r5,r6,r7,a0⟩:=aW4 h.len;have s:∀w:World,(Instr.makeSlice 25 (qI 8)$ qI 8).run prog w=.ok (qS (qP w.heap.size) 8 8) (w.alloc$ .cells z8i 3):=λw=>Je
 have O:Zh (∀k:Nat,k<8->∀w:World,(Instr.index 150 (z8u r0 r1 r2 r3 r4 r5 r6 r7)$ qI k).run prog w=.ok (.int .u32$ rg.getD k 0) w):=by
  intro k K w;subst a0;rcases(show k=0\/k=1\/k=2\/k=3\/k=4\/k=5\/k=6\/k=7 from J)with rfl|rfl|rfl|rfl|rfl|rfl|rfl|rfl<;>kernel_rfl
 have S:Zh (∀W,qY w W->qN W g 1=some (.int .u32 r0)/\qN W g 2=some (.int .u32 r1)/\qN W g 3=some (.int .u32 r2)/\qN W g 4=some (.int .u32 r3)/\qN W g 5=some (.int .u32 r4)/\qN W g 6=some (.int .u32 r5)/\qN W g 7=some (.int .u32 r6)/\qN W g 8=some (.int .u32 r7)):=λW a=>by
  have:=λi hi=>(h.bw a).reg i hi;subst a0;exact⟨this 0 J,this 1 J,this 2 J,this 3 J,this 4 J,this 5 J,this 6 J,this 7 J⟩
 clear h a0;have l2:g<w.heap.size+1+1:=J
 have U:g<w.heap.size+1+1+1:=J
 have P:w.heap.size+1≠w.heap.size+1+1:=J
 have V:=P.symm;have Z:w.heap.size<w.heap.size+1:=J
 have Y:w.heap.size<w.heap.size+1+1:=J
 delta qC;go_in
 go_wp2
 go_region
 let⟨W,b⟩:=aO$ (((w.alloc$ .cells #[qI 0,qS none 0 0] 38).alloc$ .cells z8i 3).alloc$ .cells #[qI pc,qS (qP$ w.heap.size+1) 8 8] 38).drew;have a:qY w W:=by rw[b];exact((bal.alloc Jb _).alloc Jc _).drew
 have t:=((Blk.new w #[qI 0,qS none 0 0] 38).alloc$ .cells z8i 3).alloc$ .cells #[qI pc,qS (qP$ w.heap.size+1) 8 8] 38;have e:=(Blk.new (w.alloc$ .cells #[qI 0,qS none 0 0] 38) z8i 3).alloc$ .cells #[qI pc,qS (qP$ w.heap.size+1) 8 8] 38;have j:=Blk.new ((w.alloc$ .cells #[qI 0,qS none 0 0] 38).alloc$ .cells z8i 3) #[qI pc,qS (qP$ w.heap.size+1) 8 8] 38;simp only[xF]at e j;have D:Blk W w.heap.size #[qI 0,qS none 0 0] 38:=by rw[b];exact t
 have B:Blk W (w.heap.size+1+1) #[qI pc,qS (qP$ w.heap.size+1) 8 8] 38:=by rw[b];exact j
 have E:RowI W (w.heap.size+1) (aN rg 0):=by rw[b,kY,l];exact e
 rw[<-b];clear b t e j s hc;generalize w.heap.size+1+1=C at *;generalize w.heap.size+1=R at *;rotate_left;let⟨W,b⟩:=aO$ (((w.alloc$ .cells #[qI 0,qS none 0 0] 38).alloc$ .cells #[qI pc,qS (qP$ w.heap.size+1+1) 8 8] 38).alloc$ .cells z8i 3).drew;have a:qY w W:=by rw[b];exact((bal.alloc Jb _).alloc Jc _).drew
 have t:=((Blk.new w #[qI 0,qS none 0 0] 38).alloc$ .cells #[qI pc,qS (qP$ w.heap.size+1+1) 8 8] 38).alloc$ .cells z8i 3;have e:=(Blk.new (qm w #[qI 0,qS none 0 0] 38) #[qI pc,qS (qP$ w.heap.size+1+1) 8 8] 38).alloc$ .cells z8i 3;have j:=Blk.new (qm (qm w #[qI 0,qS none 0 0] 38) #[qI pc,qS (qP$ w.heap.size+1+1) 8 8] 38) z8i 3;simp only[xF]at e j;have D:Blk W w.heap.size #[qI 0,qS none 0 0] 38:=by rw[b];exact t
 have B:Blk W (w.heap.size+1) #[qI pc,qS (qP$ w.heap.size+1+1) 8 8] 38:=by rw[b];exact e
 have E:RowI W (w.heap.size+1+1) (aN rg 0):=by rw[b,kY,l];exact j
 rw[<-b];clear b t e j s hc;generalize w.heap.size+1+1=R at *;generalize w.heap.size+1=C at *;rotate_left
 all_goals
  have Q:=S W a;go_wp2;go_loopw [17] (λi wr=>∃k:Nat,k<=8/\i=qI k/\RowI wr R (aN rg k)/\Blk wr C #[qI pc,qS (qP R) 8 8] 38/\Blk wr w.heap.size #[qI 0,qS none 0 0] 38/\qY w wr) (qf 8)
  .exact⟨0,xC _,rfl,E,B,D,a⟩
  .obtain⟨k,K,rfl,f,A,x,a⟩:=hrel;clear E B D Q;have X:=A.two';by_cases q:k<8
   .have hi:=O k q;have u:(k:Int)<8:=J
    have I:=f.cell k (by rw[rG];omega);have M:=f.frozen k;have G:=f.set k$ rg.getD k 0;rw[rE rg k J]at G;have hz:=H.o (rg.getD k 0) (by rw[xB,xN$ show k<rg.length from J];exact List.getElem_mem _);obtain⟨u0,u1⟩:=hz;generalize rg.getD k 0=z at *;have d:=zh$ xA G$ xA (A.other (qR R k) (qI z) Jd)$ xA (x.other (qR R k) (qI z) Jd)$ a.setCell (p:=(qR R k)) Jd$ qI z;generalize (aN rg k).getD k 0=y at *;clear G f A x a;go_wp2
    go_roundw
    .exact⟨k+1,J,by go_num,d.1,d.2.1,d.2.2.1,d.2.2.2⟩
    .simp[qf,intOf];omega
   .obtain rfl:k=8:=J
    have u:¬((8:Nat):Int)<8:=J
    have z0:=x.two';let⟨y0,y1,y2⟩:=Blk.two'$ (x.set 0$ qI pc).set 1$ qS (qP R) 8 8;rw[show aN rg 8=rg by rw[<-l,rH]]at f;have d:=zh (xA (RowI.oi (base:=w.heap.size) (Blk.other (Blk.other f (qh w 0) (qI pc) Jd) (qh w 1) (qS (qP R) 8 8) Jd) J (by rw[l];decide) (λz hz=>by have:=H.o z hz;unfold wfi;omega))$ (a.setCell (p:=(qh w 0)) aQ$ qI pc).setCell (p:=(qh w 1)) aQ$ qS (qP R) 8 8);rw[l]at d;clear f A x a;go_wp2;exact bodyPost_ret (v:=.agg #[qI pc,qS (qP R) 8 8]) (by simp[results,results91,go_sem,y0,y1]) rfl ⟨_,_,rfl,d.o.1,d.o.2⟩
theorem aWt (h:0<=pcq ps m b)(a:b≠-1):0<=b:=by
 unfold pcq at h
 grind
def aTz:slk ps T (false,x1,x2,x3) ↔ (false,x1,x2,x3)=zSl:=by unfold slk;simp
def aKp:slk ps T (true,x1,x2,x3) ↔ 0<=x2/\0<=pcq ps x1 x2/\1<=x3/\x3<=T:=by unfold slk;simp
def aIb (M i x1 x2 x3 w)(h:MnD w M):
 qC 187 #[.agg$ qA M,.agg #[.bool i,qI x1,qI x2,qI x3]] w (Yn (slk (aI M.ms) M.tn (i,x1,x2,x3)) w):=by
 let⟨U,G,O,Q⟩:=nwb w (qA M) 43;let⟨V,P,k,g⟩:=nwb U #[.bool i,qI x1,qI x2,qI x3] 132;have d:U.heap.size=w.heap.size+1:=by rw[G];simp
 have B:=yT O k;have s:=Q.bw k;have a:=zh$ nG M.ma M.mn M.mc M.ms x1 x2 V$ h.m.s.bw B;rw[fL h.m x1 x2]at a
 have x:=zh (λ(X:qw)(y:qY V X)=>show(X.cell? (qR (qs w) 0)=some (qS M.ma M.mn M.mc)/\X.cell? (qR (qs w) 14)=some (qI M.tn))/\X.cell? (qR (qs w+1) 0)=some (.bool i)/\X.cell? (qR (qs w+1) 1)=some (qI x1)/\X.cell? (qR (qs w+1) 2)=some (qI x2)/\X.cell? (qR (qs w+1) 3)=some (qI x3)from
  ⟨⟨(s.bw y).cell 0,(s.bw y).cell 14⟩,by rw[<-d];exact(g.bw y).cell 0,by rw[<-d];exact(g.bw y).cell 1,by rw[<-d];exact(g.bw y).cell 2,by rw[<-d];exact(g.bw y).cell 3⟩)
 have t:=zh B;have l:=zh G;have p:=zh P;rw[<-d]at x;clear G P O k Q s g B h d;let⟨⟨K,N⟩,s0,s1,s2,s3⟩:=x V brf;cases i with
 | false=>
   rw[aTz];clear a x K N;by_cases e1:x1=0
   .by_cases e2:x2=0
    .by_cases e3:x3=0
     .subst e1 e2 e3
      delta qC;go_in
      go_wp2_with (first|rw[<-l.o]|rw[<-p.o])
      go_ret;exact uK rfl$ t
     .have I:(x3==0)=false:=by simp[e3]
      have A:Zh (¬(false,x1,x2,x3)=zSl):=λq=>e3 (by unfold zSl at q;simp at q;exact q.2.2);subst e1 e2;clear e3
      delta qC;go_in
      go_wp2_with (first|rw[<-l.o]|rw[<-p.o])
      go_ret;exact dL A$ t
    .have E:(x2==0)=false:=by simp[e2]
     have A:Zh (¬(false,x1,x2,x3)=zSl):=λq=>e2 (by unfold zSl at q;simp at q;exact q.2.1);subst e1;clear e2
     delta qC;go_in
     go_wp2_with (first|rw[<-l.o]|rw[<-p.o])
     go_ret;exact dL A$ t
   .have H:(x1==0)=false:=by simp[e1]
    have A:Zh (¬(false,x1,x2,x3)=zSl):=λq=>e1 (by unfold zSl at q;simp at q;exact q.1);clear e1
    delta qC;go_in
    go_wp2_with (first|rw[<-l.o]|rw[<-p.o])
    go_ret;exact dL A$ t
 | true=>
   rw[aKp];by_cases b:x2=-1
   .subst b;have e1:((-1:Int) !=-1)=false:=Ja
    clear a x
    delta qC;go_in
    go_wp2_with (first|rw[<-l.o]|rw[<-p.o])
    go_ret;exact dL Jb t.o
   have:(x2 !=-1)=true:=by simp[b]
   by_cases c2:0<=pcq (aI M.ms) x1 x2
   .have C:=zh$ aWt c2 b;have u:=zh c2;rw[xR c2]at a;clear c2 b
    delta qC;go_in
    go_wp2_with (first|rw[<-l.o]|rw[<-p.o])
    apply a.mono;rintro e D ⟨rfl,f⟩;have j:=zh$ yT t f;let⟨⟨W,Y⟩,Z,t1,t2,t3⟩:=x D f;clear f a x l p K N s0 s1 s2 s3;by_cases S:x3<1
    .go_wp2;go_ret;exact dL (λq=>J) j
    go_wp2;go_ret;exact aV9 ⟨λq=>⟨C,u,J,q⟩,λq=>q.2.2.2⟩ j
   .rw[xS c2]at a;have u:=zh c2;clear b c2
    delta qC;go_in
    go_wp2_with (first|rw[<-l.o]|rw[<-p.o])
    apply a.mono;rintro e D ⟨rfl,f⟩;have j:=zh$ yT t f;clear f a x l p K N s0 s1 s2 s3;go_wp2;go_ret;exact dL (λq=>by have:=u.o;have:=q.2.1;omega) j
def aRa {xs:List SlT}(a:k<i)(h:cmn (xs.getD i zSl) (xs.getD k zSl)):¬aln xs i:=λq=>q k a h
theorem aQ9 {xs:List SlT}(a:∀j,j<k->¬cmn (xs.getD i zSl) (xs.getD j zSl))(h:¬cmn (xs.getD i zSl) (xs.getD k zSl)):∀j,j<k+1->¬cmn (xs.getD i zSl) (xs.getD j zSl):=by grind
def aG9 (a n c i xs w)(h:QS cO zSl w a n c xs)(hi:i<n):
 qC 188 #[qS a n c,qI i] w (Yn (aln xs i) w):=by
 have H:=h.2.1;have Y:=h.2.2.2;unfold maxLen at H;obtain⟨g,f,rfl,q0,q1,q2,q3⟩:=h.at i hi _ _ _ _ rfl;have u:=zh λ(k:Nat)(M:k<i)(q:cmn (xs.getD i zSl) (xs.getD k zSl))=>aRa M q;have B:=zh λ(k:Nat)(D:∀j,j<k->¬cmn (xs.getD i zSl) (xs.getD j zSl))(q:¬cmn (xs.getD i zSl) (xs.getD k zSl))=>aQ9 D q;have A:Zh ((∀j,j<i->¬cmn (xs.getD i zSl) (xs.getD j zSl))->aln xs i):=λq=>q;generalize xs.getD i zSl=x at *;obtain⟨x0,x1,x2,x3⟩:=x;dsimp only at q0 q1 q2 q3;let⟨V,hV,bV,kV⟩:=nwb w #[.bool x0,qI x1,qI x2,qI x3] 132;have P:=zh$ h.bw bV;have S:=zh hV;have t:=zh$ xA bV kV;have E:=zh$ Below.refl V.heap.size V;have U:(i:Int)<=(c:Int):=J
 clear hV bV kV h
 delta qC;go_in
 go_wp2_with (rw[<-S.o])
 clear q0 q1 q2 q3 S;go_loopw [16] (λj wr=>∃k:Nat,k<=i/\j=qI k/\(∀j,j<k->¬cmn (x0,x1,x2,x3) (xs.getD j zSl))/\qY V wr) (qf i)
 .exact⟨0,xC _,rfl,λj N=>absurd N J,E⟩
 .obtain⟨k,M,rfl,D,G⟩:=hrel;by_cases K:k<i
  .have Q:(k:Int)<(i:Int):=J
   let⟨g',f',a0,q0,q1,q2,q3⟩:=(P.bw G).at k J _ _ _ _ rfl;simp at a0;obtain⟨rfl,rfl⟩:=a0;have l:=zh$ u k K;have d:=zh$ B k D;generalize xs.getD k zSl=y at *;obtain⟨o0,o1,o2,o3⟩:=y;dsimp only at q0 q1 q2 q3;let⟨W,hW,bW,kW⟩:=nwb wr #[.bool o0,qI o1,qI o2,qI o3] 132;have I:=yT G bW;have p:=zh I;have C:=zh hW;have O:=t.2.bw I;have t0:=O.z4;have p0:=kW.z4;clear hW bW kW I O G D u B A P E;cases x0 with
   | false=>
     have s:=zh$ d (λq=>by have:=q.1;cases this);clear l d;go_wp2_with (rw[<-C.o])
     go_roundw
     .exact⟨k+1,J,by go_num,s,p⟩
     .simp[qf,intOf];omega
   | true=>
     cases o0 with
     | false=>
       have s:=zh$ d (λq=>by have:=q.2.1;cases this);clear l d;go_wp2_with (rw[<-C.o])
       go_roundw
       .exact⟨k+1,J,by go_num,s,p⟩
       .simp[qf,intOf];omega
     | true=>
       by_cases b:o3=x3
       .subst b;have s:=zh$ l ⟨rfl,rfl,.inl rfl⟩;clear l d;go_wp2_with (rw[<-C.o])
        go_ret;exact dL s$ yT t.1 p
       .have a2:(o3==x3)=false:=by simp[b]
        by_cases c1:o1=x1
        .by_cases c2:o2=x2
         .have s:=zh$ l ⟨rfl,rfl,.inr ⟨c1,c2⟩⟩;subst c1 c2;clear l d b;go_wp2_with (rw[<-C.o])
          go_ret;exact dL s$ yT t.1 p
         .have X:(o2==x2)=false:=by simp[c2]
          have s:=zh$ d (λq=>by rcases q.2.2 with e|e;exact b e;exact c2 e.2);subst c1;clear l d b c2;go_wp2_with (rw[<-C.o])
          go_roundw
          .exact⟨k+1,J,by go_num,s,p⟩
          .simp[qf,intOf];omega
        .have a1:(o1==x1)=false:=by simp[c1]
         have s:=zh$ d (λq=>by rcases q.2.2 with e|e;exact b e;exact c1 e.1);clear l d b c1;go_wp2_with (rw[<-C.o])
         go_roundw
         .exact⟨k+1,J,by go_num,s,p⟩
         .simp[qf,intOf];omega
  .have HY:=zh$ A λj N=>D j J;have Z:=zh G;clear G D;go_wp2;go_ret;exact uK HY$ yT t.1 Z
