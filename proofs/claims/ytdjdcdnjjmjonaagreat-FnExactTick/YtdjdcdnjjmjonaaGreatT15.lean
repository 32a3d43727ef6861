import Derived.Test.YtdjdcdnjjmjonaaGreatT13
import Derived.Test.YtdjdcdnjjmjonaaGreatT14
set_option linter.all false
set_option maxHeartbeats 8000000
namespace Go.Proofs.YtdjdcdnjjmjonaaGreat
open Go.RowKit
set_option maxRecDepth 100000
variable {C:Cn}{G i:Nat}{L:Lay}{b m:Int}{cs:Array Value}{e:Ending}{u v:Value}
def aK3 (W G g Y C M V)(p v:Int)(w)(h:Mg W w G Y C M V (qS (qP g) 1 1))(O:Blk w g #[qI 65536,qI 14,qI 0,.bool false,.bool true,.bool false] 231)(y:mok C.fz.length C.rz.length C.oz.length=true)(R:65536<=p)(S:p+4<=65536+C.rz.length)(ha:p%4=0)(Q:0<=v/\v<=4294967295):
 qC 317 #[.pointer$ qP G,qI p,qI v] w λe w'=>e=.returned (.tuple #[])/\∃oa on oc,Mg W w' G Y { C with rz:=put C.rz (p-65536).toNat v 4 } { M with rz:=put C.rz (p-65536).toNat v 4,oa:=oa,on:=on,oc:=oc,oz:=C.oz } V (qS (qP g) 1 1)/\TGx w w':=by
 have f:=y;unfold mok at f;simp at f;have l:=zh$ iD (qP g) 1 1 [rgR] p 4 2 w (aVg O) Jh;rw[aQz p R J]at l
 have s:=zh (λ(X:qw)(A:qY w X)=>show qC 278 #[.pointer$ qe G 7,qI p,qI 4,qI v] X (λe w'=>∃r,e=.returned (qI r)/\∃oa on oc,Mg W w' G Y { C with rz:=put C.rz (p-65536).toNat v 4 } { M with rz:=put C.rz (p-65536).toNat v 4,oa:=oa,on:=on,oc:=oc,oz:=C.oz } V (qS (qP g) 1 1)/\TGx w w')by
  have hx:=h.bw A;let⟨a0,aP,Ls,β,m,m1,Z⟩:=hx.m;have H:=cS m.q.1;have F:=cS m.q.2.1;have P:=cS m.q.2.2.1
  have x:=oJ M.fa M.ra M.oa M.fn M.fc M.rn M.rc M.on M.oc G 7 aP _ 142 C.fz C.rz C.oz p 4 v X hx.k Ja rfl rfl rfl m.q (λu hu e=>by
   rcases hu with rfl|rfl|rfl
   .exact aU hx.k m.q.1.1 Ja G e rfl
   .exact aU hx.k m.q.2.1.1 Ja G e rfl
   .exact aU hx.k m.q.2.2.1.1 Ja G e rfl) (jK hx.k.lt) Q J J
  rw[aTq (k:=(p-65536).toNat) (by rw[H,F,P];exact y) J J ha]at x;refine x.mono λe w' N=>?_;obtain⟨oa,on,oc,e1,k1,q1,_,T⟩:=N
  have hS:∀j,(j=G\/(qS M.ra M.rn M.rc).ownBlock=some j\/(qS M.oa M.on M.oc).ownBlock=some j)->aP<=j/\∃b d,Blk X j b d/\(d=5\/d=142\/d=43):=λj a=>by
   rcases a with rfl|a|a
   .exact⟨Z,_,_,hx.k,.inr$ .inl rfl⟩
   .have⟨b,kb⟩:=aE m.q.2.1.1 a;exact⟨(m.q.2.1.lt j a).1,b,_,kb,.inl rfl⟩
   .have⟨b,kb⟩:=aE m.q.2.2.1.1 a;exact⟨(m.q.2.2.1.lt j a).1,b,_,kb,.inl rfl⟩
  refine⟨_,e1,oa,on,oc,⟨aG hx.b T (λj a=>jL ((hS j a).1) m.bm) hx.b.size,h.g,k1,⟨a0,aP,Ls,β,m.mem T hS q1,m1,Z⟩,h.l⟩,(bP A).trans (fD T (λj a=>by
   let⟨_,b,d,kb,q⟩:=hS j a
   exact⟨b,d,kb,by rcases q with q|q|q;exact .inl q;exact .inr$ .inl q;exact absurd q (by
    rintro rfl;rcases a with rfl|a|a
    .have:=aH hx.k kb;revert this;decide
    .have⟨c2,i⟩:=aE m.q.2.1.1 a;have:=aH i kb;revert this;decide
    .have⟨c2,i⟩:=aE m.q.2.2.1.1 a;have:=aH i kb;revert this;decide)⟩))⟩)
 have E:=h.k.cell 23
 delta qC;go_in
 go_wp2_with fail
 apply l.mono;rintro e D ⟨rfl,t⟩;have K:=zh t;go_wp2_with fail
 apply(s D K).mono;rintro e U ⟨r,rfl,B⟩;have I:=zh B;go_wp2
 go_end0
 exact⟨rfl,I⟩
def aPu (u G g Y C M a0 s ba O bc b w)(h:Mg u w G Y C M a0 (qS (qP g) 1 1))(j:Blk w g #[qI 65536,qI 14,qI 0,.bool false,.bool true,.bool false] 231)(hm:mok C.fz.length C.rz.length C.oz.length=true)(hc:1<=C.cw/\C.cw<=64)(hs:s<Y.L.slots.length)(h0:65536<=Y.L.slots.getD s 0)(h1:(Y.L.slots.getD s 0-65536).toNat+slz C.cw<=C.rz.length)(ha:Y.L.slots.getD s 0%4=0)(hw:∀i,0<=b.getD i 0/\b.getD i 0<=4294967295)
 (hi:∀{X:qw}{C':Cn}{M':Mn}{a7:Value},Mg u X G Y C' M' a0 a7->M'.ms=M.ms->C'.ps=C.ps->IS X ba O bc b):
 qC 304 #[.pointer$ qP G,qI s,qS ba O bc] w λe w'=>e=.returned (.tuple #[])/\∃oa on oc,Mg u w' G Y { C with rz:=cF C.rz (Y.L.slots.getD s 0-65536).toNat b (slz C.cw/4) } { M with rz:=cF C.rz (Y.L.slots.getD s 0-65536).toNat b$ slz C.cw/4,oa:=oa,on:=on,oc:=oc,oz:=C.oz } a0 (qS (qP g) 1 1)/\TGx w w':=by
 have q:=hm;unfold mok at q;simp at q;let⟨z1,z2,z3⟩:=gO hc.1 hc.2;have P:4*(slz C.cw/4)=slz C.cw:=by unfold rnd at z1;omega
 let⟨N,hN⟩:=aN$ slz C.cw/4;let⟨f,hf⟩:=aN$ (Y.L.slots.getD s 0-65536).toNat;let⟨A,hA⟩:=aN$ Y.L.slots.getD s 0;rw[<-hA]at hf ha h0;rw[<-hN,<-hA,<-hf];rw[<-hA,<-hf]at h1;let⟨gs,os,ea,a6⟩:=h.ly.s.2.2.2.1 J;have a9:=h.ly.s.2.1
 have W:=zh (λ(X:qw)(S:qY u X)=>show qN X gs (os+s)=qj A by
  let⟨ah,ai,a1,a5⟩:=(h.l.bw S).s.2.2.2.1 J;rw[ea]at a1;cases a1
  rw[hA]
  exact a5 s J)
 have e2:=h.vs.1.2.1;have D:=zh (λ(X:qw)=>lK M.cs M.cw M.ck M.cd X (by rw[e2];exact hc.1) (by rw[e2];exact hc.2));rw[e2]at D
 have U:=zh (λ(k:Nat)(X:qw)(oa:qO)(on oc:Nat)(hk:k<N)(S:Mg u X G Y { C with rz:=cF C.rz f b k } { M with rz:=cF C.rz f b k,oa:=oa,on:=on,oc:=oc,oz:=C.oz } a0 (qS (qP g) 1 1))(V:Blk X g #[qI 65536,qI 14,qI 0,.bool false,.bool true,.bool false] 231)=>show qC 317 #[.pointer$ qP G,qI$ A+4*k,qI$ b.getD k 0] X (λe w'=>e=.returned (.tuple #[])/\∃oa on oc,Mg u w' G Y { C with rz:=cF C.rz f b (k+1) } { M with rz:=cF C.rz f b$ k+1,oa:=oa,on:=on,oc:=oc,oz:=C.oz } a0 (qS (qP g) 1 1)/\TGx X w')by
  have E:(cF C.rz f b k).length=C.rz.length:=gH _ _ _ _;have:=aK3 u G g Y { C with rz:=cF C.rz f b k } { M with rz:=cF C.rz f b k,oa:=oa,on:=on,oc:=oc,oz:=C.oz } a0 (A+4*k) (b.getD k 0) X S V (by show mok _ (cF C.rz f b k).length _=true;rw[E];exact hm) J (by show _<=65536+((cF C.rz f b k).length:Int);rw[E];omega) J$ hw k;rw[show(A+4*(k:Int)-65536).toNat=f+4*k from J]at this
  exact this)
 have HI:=zh λ(k:Nat)(X:qw)(oa:qO)(on oc:Nat)(S:Mg u X G Y { C with rz:=cF C.rz f b k } { M with rz:=cF C.rz f b k,oa:=oa,on:=on,oc:=oc,oz:=C.oz } a0 (qS (qP g) 1 1))=>hi S rfl rfl;have ac:=zh$ xA z1$ xA z2 P;have ad:((slz C.cw:Nat):Int).tdiv 4=(N:Nat):=by rw[Int.tdiv_eq_ediv_of_nonneg J];omega
 have ab:N<=64:=J
 have ae:A<=100000:=J
 have F:=(hi h rfl rfl).2.1;have aa:=(hi h rfl rfl).1;unfold maxLen at F
 have HS:=zh (show Mg u w G Y { C with rz:=cF C.rz f b 0 } { M with rz:=cF C.rz f b 0,oa:=M.oa,on:=M.on,oc:=M.oc,oz:=C.oz } a0 (qS (qP g) 1 1)by
  have e:M.rz=C.rz/\M.oz=C.oz:=by obtain⟨_,_,_,_,m,_⟩:=h.m;exact⟨m.vz.2.2.2.1,m.vz.2.2.2.2.1⟩
  have:=h;rw[show M={ M with rz:=C.rz,oa:=M.oa,on:=M.on,oc:=M.oc,oz:=C.oz } by rw[<-e.1,<-e.2]]at this
  exact this)
 have HK:=zh j;let⟨x1,x2,x3,x4⟩:=show w.cell? ⟨G,1,none⟩=qj M.cs/\w.cell? ⟨G,2,none⟩=qj M.cw/\w.cell? ⟨G,3,none⟩=qj M.ck/\w.cell? ⟨G,4,none⟩=qj M.cd from⟨h.k.cell 1,h.k.cell 2,h.k.cell 3,h.k.cell 4⟩;rw[e2]at x2;clear h j hm q hi a6 z1 z2 z3 P hN hf hA e2 h1 hc ha;generalize slz C.cw=Z at *
 delta qC;go_in
 go_wp2_with fail
 apply(D w).mono;rintro e wa ⟨rfl,p⟩;have R:=zh$ HS.bw p;have Q:=zh$ bP p;clear x1 x2 x3 x4 p HS D;go_wp2_with fail
 go_loopw [15] (λi wr=>∃(k:Nat) (oa:qO) (on oc:Nat),k<=N/\i=qI k/\Mg u wr G Y { C with rz:=cF C.rz f b k } { M with rz:=cF C.rz f b k,oa:=oa,on:=on,oc:=oc,oz:=C.oz } a0 (qS (qP g) 1 1)/\TGx w wr) (qf N)
 .exact⟨0,_,_,_,xC _,rfl,R,Q⟩
 .obtain⟨k,oa,on,oc,hk,rfl,l,j⟩:=hrel;clear R Q;by_cases a3:k<N
  .have a8:(k:Int)<(N:Int):=J
   have t:qN wr G 17=qk Y.a2 Y.L.slots.length Y.c2:=l.k.cell 17;rw[ea]at t;have xs:=W wr l.b;have I:=zh$ U k wr oa on oc a3 l$ j.blk HK Jg;have H:=zh j;have af:(s:Int)<(Y.L.slots.length:Int):=J
   have ag:(0:Int)<=(s:Int):=J
   by_cases c1:k<O
   .have a4:(k:Int)<(O:Int):=J
    let⟨gb,ob,eb,a2⟩:=(HI k wr oa on oc l).2.2.2.1 J;have xb:=a2 k c1;generalize b.getD k 0=z at *;subst eb;clear l j a2;go_wp2_with fail
    apply I.mono;rintro e wb ⟨rfl,y,B,x,a,d⟩;have K:=zh$ xA a$ H.trans d;clear a d t xs xb I;go_wp2
    go_roundw
    .exact⟨k+1,y,B,x,J,by go_num,K⟩
    .simp[qf,intOf];omega
   .have a4:¬(k:Int)<(O:Int):=J
    have ez:b.getD k 0=0:=by rw[xB,xO J];rfl
    rw[ez]at I;clear l j ez;go_wp2_with fail
    apply I.mono;rintro e wb ⟨rfl,y,B,x,a,d⟩;have K:=zh$ xA a$ H.trans d;clear a d t xs I;go_wp2
    go_roundw
    .exact⟨k+1,y,B,x,J,by go_num,K⟩
    .simp[qf,intOf];omega
  .obtain rfl:k=N:=J
   have K:=zh$ xA l j;clear l j;go_wp2
   go_end0
   exact⟨rfl,oa,on,oc,K⟩
structure Cv (C:Cn)(L:Lay):Prop where
 k:lkc C.ps C.cs C.cw C.ck C.cd=0
 e:L=lkL C.ps C.cs C.cw C.ck C.cd
 b:mok C.fz.length C.rz.length C.oz.length=true
 r:(C.rz.length:Int)=L.ram
 g:C.kz.length=8
 s:dO C.ps L C.cs C.cw C.tn C.rz C.lz
 n:aAq C.ps C.cs C.md C.bk C.lz
 t:0<=C.tn/\C.tn<=1000000000
def aUu (h:Cv C L)(m b i):0<=(bnk C.ps m b).getD i 0/\(bnk C.ps m b).getD i 0<=4294967295:=by
 have v:=(dZ.1 h.k).2.2.2.1;unfold bnk;have:∀{l:qi},¬i<l.length->0<=l.getD i 0/\l.getD i 0<=4294967295:=λ{l}c=>by grind
 by_cases a:i<((C.ps.getD m.toNat zP).bl.getD b.toNat []).length
 .by_cases c2:b.toNat<(C.ps.getD m.toNat zP).bl.length
  .by_cases d:m.toNat<C.ps.length
   .exact(aCh$ v _ d).2 _ c2 _ a
   .rw[xB,xO J]at c2;exact absurd c2$ Nat.not_lt_zero _
  .grind
 .grind
def aNy (x):rnd x%32=0:=by unfold rnd;omega
def aKy (ps):∀i,Ra ps i%32=0
 | 0=>rfl
 | i+1=>by
   have:=aKy ps i;have:=aNy$ ((ps.getD i zP).dz.length:Int)+(ps.getD i zP).bss;unfold Ra dsz;omega
def aTy {ps:List PMod}{s c k d:Int}(h:lkc ps s c k d=0)(hi:i<(lkL ps s c k d).slots.length):(lkL ps s c k d).slots.getD i 0%4=0:=by
 have e:lkL ps s c k d=lay ps s c k:=by unfold lkL;rw[if_pos h]
 rw[e]at hi⊢;have a:=(dZ.1 h).1;unfold cfo at a;simp at a;have f:(lay ps s c k).slots.length=s.toNat:=by simp[lay]
 rw[f]at hi;have e2:(lay ps s c k).slots.getD i 0=slt ps c k i:=by simp[lay,xB,hi]
 rw[e2];unfold slt;have:=aKy ps ps.length
 have:((i:Int)*rnd (4*c))%32=0:=by
  unfold rnd
  grind
 omega
def Cv.cf (h:Cv C L):(1<=C.cw/\C.cw<=64)/\C.ps.length<=4/\(L.slots.length:Int)=C.cs/\C.lz.length=L.slots.length/\Lok C.ps L:=by
 have a:=dZ.1 h.k;have hc:=a.1;unfold cfo at hc;simp at hc;have e:lkL C.ps C.cs C.cw C.ck C.cd=lay C.ps C.cs C.cw C.ck:=by unfold lkL;rw[if_pos h.k]
 have d:(L.slots.length:Int)=C.cs:=by rw[h.e,e];simp[lay];omega
 have:=h.s.1;exact⟨J,a.2.2.1,d,J,by rw[h.e,e];exact aIb h.k⟩
def Cv.slot (h:Cv C L)(hi:i<C.lz.length):65536<=L.slots.getD i 0/\(L.slots.getD i 0-65536).toNat+slz C.cw<=C.rz.length/\L.slots.getD i 0%4=0/\i<L.slots.length/\0<C.cs/\L.slots.getD i 0<=100000:=by
 have:=h.cf.2.2.2.1;have:=h.r;have:=h.e;have:=vN h.k (i:=i) (by grind);have:=aTy h.k (i:=i) (by grind)
 grind
def aEq {w:qw}{a:qO}{n j:Nat}{ms:List Md}(h:MSD w a n j ms)(p:0<=pcq (aF ms) m b)(s:0<=b):∃gm k d f,a=some (qR gm k)/\(0<=m/\m<(n:Int))/\b<(((ms.getD m.toNat aL).bn:Nat):Int)/\(ms.getD m.toNat aL).bn<=9223372036854775807/\(ms.getD m.toNat aL).ba=some (qR d f)/\w.cell? (qR gm$ k+m.toNat*8+2)=some (.slice (some$ qR d f) (ms.getD m.toNat aL).bn (ms.getD m.toNat aL).bc)/\w.cell? (qR d$ f+b.toNat)=some (.slice ((ms.getD m.toNat aL).bl.getD b.toNat zB).1 ((ms.getD m.toNat aL).bl.getD b.toNat zB).2.1 ((ms.getD m.toNat aL).bl.getD b.toNat zB).2.2.1)/\IS w ((ms.getD m.toNat aL).bl.getD b.toNat zB).1 ((ms.getD m.toNat aL).bl.getD b.toNat zB).2.1 ((ms.getD m.toNat aL).bl.getD b.toNat zB).2.2.1 (bnk (aF ms) m b):=by
 let⟨⟨x,y⟩,q⟩:=mS h p;obtain⟨gm,k,rfl,B,v1,v2,v3,v4,C,E,F⟩:=h.s.at m.toNat J;have hd:=h.d m.toNat J;have:=h.s.1;have g:bnk (aF ms) m b=((ms.getD m.toNat aL).pm.bl).getD b.toNat []:=by unfold bnk;rw[dB]
 generalize ms.getD m.toNat aL=D at *
 have:b<(D.bn:Int):=by
  unfold pcn at q
  grind
 let⟨t,e,i,l,u⟩:=hd.b;unfold maxLen at e;let⟨d,f,A,hc⟩:=i J;have:=l b.toNat J;have:=hc b.toNat J
 have:bnk (aF ms) m b=(D.bl.getD b.toNat zB).2.2.2:=by
  rw[g];simp[Md.pm,xB,show b.toNat<D.bl.length from J]
 grind
def aPt (h:Cv C L)(hi:i<C.lz.length)(d:0<=pcq C.ps m b)(f:0<=b):cF C.rz (L.slots.getD i 0-65536).toNat (bnk C.ps m b) (slz C.cw/4)=ovr C.rz (L.slots.getD i 0-65536).toNat (bkb C.ps C.cw m b):=by
 let⟨k,l,_,_,j,_⟩:=h.slot hi;let⟨e,c2⟩:=h.cf.1;have a:4*(slz C.cw/4)=slz C.cw:=by have:=(gO e c2).1;unfold rnd at this;omega
 have g:=(aEm h.k j d f).1;rw[aSe _ _ _ _ J J,a];rfl
def BiP (w1 w:qw)(G g:Nat)(Y:Lyb)(C:Cn)(M:Mn)(v13:Value)(m b:Int)(e:Ending)(w':qw):Prop:=e=.returned (.tuple #[])/\∃oa on oc,Mg w1 w' G Y { C with tn:=C.tn+1,lz:=C.lz.set (slq C.lz m b) (true,m,b,C.tn+1),rz:=ovr C.rz (Y.L.slots.getD (slq C.lz m b) 0-65536).toNat (bkb C.ps C.cw m b) } { M with tn:=C.tn+1,lz:=C.lz.set (slq C.lz m b) (true,m,b,C.tn+1),rz:=ovr C.rz (Y.L.slots.getD (slq C.lz m b) 0-65536).toNat$ bkb C.ps C.cw m b,oa:=oa,on:=on,oc:=oc,oz:=C.oz } v13 (.slice (some$ qR g 0) 1 1)/\TGx w w'
def aG1 (w1 G g Y C M a0 m b t w)(h:Mg w1 w G Y C M a0 (.slice (some$ qR g 0) 1 1))(hr:Blk w g #[.int .i64 65536,.int .i64 14,.int .i64 0,.bool false,.bool true,.bool false] 231)(I:Cv C Y.L)(S:0<=pcq C.ps m b)(hb:0<=b)(hl:C.lz.length≠0)(ht:C.tn<1000000000):
 qC 282 #[.pointer$ some$ qR G 0,.agg$ qT m b t] w (BiP w1 w G g Y C M a0 m b):=by
 obtain⟨V,hV,bV,kV⟩:=nwb w (qT m b t) 121;have O:=h.bw bV;have a7:=hr.bw bV;have b2:G<w.heap.size:=h.k.lt;obtain⟨⟨_,e2,_,_,_,_,_,e8⟩,e9,e10⟩:=h.vs;obtain⟨⟨c1,c2⟩,aa,ai,aj,ah⟩:=I.cf;have Q:=oU (xs:=C.lz) m b hl;obtain⟨s1,s2,s3,s4,s5,s6⟩:=I.slot Q
 have H:QS cM zSl V M.la M.ln M.lc C.lz:=by
  obtain⟨a4,aP,Ls,β,mm,_⟩:=O.m;exact tU cH mm.l
 have ao:C.lz.length=M.ln:=H.1
 obtain⟨gl,a3⟩:∃gl,M.la=some ⟨gl,0,none⟩:=by
  obtain⟨a4,aP,Ls,β,mm,_⟩:=O.m;obtain⟨g',cp,e,_⟩:=World.ownsRow.form mm.l J;simp only[Value.slice.injEq]at e;exact⟨g',e.1⟩
 have f:=zh$ lJ M.la M.ln M.lc C.lz m b V H;have P:V.cell? (qR G 12)=some (.slice M.la M.ln M.lc):=O.k.cell 12;obtain⟨y0,y1,y2,_⟩:=kV.three
 have p:=zh (λ(X:qw)(oa:qO)(on oc:Nat)(a:Mg w1 X G Y { C with rz:=ovr C.rz (Y.L.slots.getD (slq C.lz m b) 0-65536).toNat (bkb C.ps C.cw m b) } { M with rz:=ovr C.rz (Y.L.slots.getD (slq C.lz m b) 0-65536).toNat$ bkb C.ps C.cw m b,oa:=oa,on:=on,oc:=oc,oz:=C.oz } a0 (.slice (some$ qR g 0) 1 1))=>show Mg w1 (X.setCell (qR G 14)$ .int .i64$ C.tn+1) G Y { C with rz:=ovr C.rz (Y.L.slots.getD (slq C.lz m b) 0-65536).toNat$ bkb C.ps C.cw m b,tn:=C.tn+1 } { M with rz:=ovr C.rz (Y.L.slots.getD (slq C.lz m b) 0-65536).toNat$ bkb C.ps C.cw m b,oa:=oa,on:=on,oc:=oc,oz:=C.oz,tn:=C.tn+1 } a0 (.slice (some$ qR g 0) 1 1)from
  a.put 14 (.int .i64$ C.tn+1) rfl (λx=>by have:=x.scal M.pc M.md M.bk$ C.tn+1;exact⟨this.m,this.e,this.k,this.q,this.l,this.h,this.bm,this.bh,⟨x.vs.1,x.vs.2.1,x.vs.2.2.1,x.vs.2.2.2.1,x.vs.2.2.2.2.1,x.vs.2.2.2.2.2.1,x.vs.2.2.2.2.2.2.1,rfl⟩,this.vz⟩))
 have F:=zh (λ(X:qw)(C':Cn)(M':Mn)(a:Mg w1 X G Y C' M' a0 (.slice (some$ qR g 0) 1 1))(e:M'.la=some (qR gl 0))(e':slq C.lz m b<M'.ln)=>show(∃cs,Blk X gl cs 132)/\gl≠G/\(∃u,X.cell? (qR gl$ slq C.lz m b*4)=some u)/\(∃u,X.cell? (qR gl$ slq C.lz m b*4+1)=some u)/\(∃u,X.cell? (qR gl$ slq C.lz m b*4+2)=some u)/\(∃u,X.cell? (qR gl$ slq C.lz m b*4+3)=some u)/\∀i,X.frozen? (qR gl i)=false by
  obtain⟨a4,aP,Ls,β,mm,_⟩:=a.m;have ml:=mm.l;rw[e]at ml;obtain⟨cs,kb⟩:=aE ml (k:=gl) rfl;obtain⟨gg,q,hq⟩:=sH cH zSl ml (slq C.lz m b) e';cases q
  exact⟨⟨cs,kb⟩,λq=>by subst q;exact absurd (aH kb a.k) Ja,⟨_,hq 0 J _ rfl⟩,⟨_,hq 1 J _ rfl⟩,⟨_,hq 2 J _ rfl⟩,⟨_,hq 3 J _ rfl⟩,λi=>kb.frozen i⟩)
 have y:=zh (λ(X:qw)(oa:qO)(on oc:Nat)(a:Mg w1 X G Y { C with rz:=ovr C.rz (Y.L.slots.getD (slq C.lz m b) 0-65536).toNat$ bkb C.ps C.cw m b,tn:=C.tn+1 } { M with rz:=ovr C.rz (Y.L.slots.getD (slq C.lz m b) 0-65536).toNat$ bkb C.ps C.cw m b,oa:=oa,on:=on,oc:=oc,oz:=C.oz,tn:=C.tn+1 } a0 (.slice (some$ qR g 0) 1 1))(hT:TGx w X)=>show BiP w1 w G g Y C M a0 m b (.returned$ .tuple #[]) ((((X.setCell (qR gl$ slq C.lz m b*4)$ .bool true).setCell (qR gl$ slq C.lz m b*4+1)$ .int .i64 m).setCell (qR gl$ slq C.lz m b*4+2)$ .int .i64 b).setCell (qR gl$ slq C.lz m b*4+3)$ .int .i64$ C.tn+1).drew by
  refine⟨rfl,oa,on,oc,?_⟩;obtain⟨a4,aP,Ls,β,mm,m1,m2⟩:=a.m;have ml:=mm.l;have ac:OG 132 4 cM X aP (.slice (some$ qR gl 0) M.ln M.lc) C.lz:=by rw[<-a3];exact ml
  obtain⟨cs,kb⟩:=aE ac (k:=gl) rfl;have T:=(((aC X gl (slq C.lz m b*4)$ .bool true).trans$ aC _ gl (slq C.lz m b*4+1)$ .int .i64 m).trans$ aC _ gl (slq C.lz m b*4+2)$ .int .i64 b).trans$ aC _ gl (slq C.lz m b*4+3)$ .int .i64$ C.tn+1;have lo:=(ac.lt gl rfl).1;have an:Mg w1 ((((X.setCell (qR gl$ slq C.lz m b*4)$ .bool true).setCell (qR gl$ slq C.lz m b*4+1)$ .int .i64 m).setCell (qR gl$ slq C.lz m b*4+2)$ .int .i64 b).setCell (qR gl$ slq C.lz m b*4+3)$ .int .i64$ C.tn+1) G Y { C with tn:=C.tn+1,lz:=C.lz.set (slq C.lz m b) (true,m,b,C.tn+1),rz:=ovr C.rz (Y.L.slots.getD (slq C.lz m b) 0-65536).toNat (bkb C.ps C.cw m b) } { M with tn:=C.tn+1,lz:=C.lz.set (slq C.lz m b) (true,m,b,C.tn+1),rz:=ovr C.rz (Y.L.slots.getD (slq C.lz m b) 0-65536).toNat$ bkb C.ps C.cw m b,oa:=oa,on:=on,oc:=oc,oz:=C.oz } a0 (.slice (some$ qR g 0) 1 1):=⟨aG a.b T (λj hj=>jK mm.bm) a.b.size,a.g,aD T a.k (λe=>by have:=aH (by rw[e]at a;exact a.k) kb;revert this;decide),⟨a4,aP,Ls,β,mm.slot a3 (slq C.lz m b) (by show _<M.ln;omega) true m b$ C.tn+1,m1,m2⟩,a.l⟩
  exact⟨an.bw brf.drew,(hT.trans (fD T (λj hj=>by subst hj;exact⟨cs,_,kb,.inr$ .inr$ .inl rfl⟩))).trans$ bP brf.drew⟩)
 have b0:gl<w.heap.size:=by
  obtain⟨⟨cs,kb⟩,_⟩:=F w C M h a3 J;exact kb.lt
 have A:=zh λ(X:qw)(a:TGx V X)=>show X.cell? (qh w 0)=some (.int .i64 m)/\X.cell? (qh w 1)=some (.int .i64 b)from⟨(a.blk kV Jg).cell 0,(a.blk kV Jg).cell 1⟩;have HV:=zh hV;have ae:=zh$ bP bV;have ag:=e8;have b4:(0:Int)<=((slq C.lz m b:Nat):Int):=J
 have ab:slq C.lz m b<M.ln:=J
 have b7:0<=C.tn:=I.t.1;have b1:((slq C.lz m b:Nat):Int)<(M.ln:Int):=J
 have b9:¬gl=w.heap.size:=J
 have b6:¬w.heap.size=gl:=J
 have b8:¬G=w.heap.size:=J
 have b3:¬w.heap.size=G:=J
 by_cases c:hld C.lz m b=-1
 .rw[c]at f;have K:=zb V λX a=>vP M.la M.ln M.lc C.lz X$ H.bw a;rw[show lst C.lz M.ln=slq C.lz m b by unfold slq;rw[if_pos c,ao]]at K;have a5:=(O.mnd aa).m;rw[<-e9]at S;obtain⟨gm,om,gb,ob,ea,⟨m0,m1⟩,ba,bb,eb,u2,ub,_⟩:=aEq a5 S hb
  have af:=zh (λ(X:qw)(a:qY V X)=>(aPu w1 G g Y C M a0 (slq C.lz m b) ((M.ms.getD m.toNat aL).bl.getD b.toNat zB).1 ((M.ms.getD m.toNat aL).bl.getD b.toNat zB).2.1 ((M.ms.getD m.toNat aL).bl.getD b.toNat zB).2.2.1 (bnk C.ps m b) X (O.bw a) (a7.bw a) I.b ⟨c1,c2⟩ s4 s1 s2 s3 (aUu I m b) (λ{X C' M' bg}av em ep=>by
   have q:=(aEq (av.mnd (by rw[ep];exact aa)).m (m:=m) (b:=b) (by rw[em];exact S) hb).choose_spec.choose_spec.choose_spec.choose_spec.2.2.2.2.2.2.2;rw[em,e9]at q
   exact q)).mono (λe w' he=>show e=.returned (.tuple #[])/\∃oa on oc,Mg w1 w' G Y { C with rz:=ovr C.rz (Y.L.slots.getD (slq C.lz m b) 0-65536).toNat (bkb C.ps C.cw m b) } { M with rz:=ovr C.rz (Y.L.slots.getD (slq C.lz m b) 0-65536).toNat$ bkb C.ps C.cw m b,oa:=oa,on:=on,oc:=oc,oz:=C.oz } a0 (.slice (some$ qR g 0) 1 1)/\TGx V w'/\w'.cell? (qR G 0)=some (.slice (some$ qR gm om) M.mn M.mc)/\w'.cell? (qR gm$ om+m.toNat*8+2)=some (.slice (some$ qR gb ob) (M.ms.getD m.toNat aL).bn (M.ms.getD m.toNat aL).bc)/\w'.cell? (qR gb$ ob+b.toNat)=some (.slice ((M.ms.getD m.toNat aL).bl.getD b.toNat zB).1 ((M.ms.getD m.toNat aL).bl.getD b.toNat zB).2.1 ((M.ms.getD m.toNat aL).bl.getD b.toNat zB).2.2.1)by
   obtain⟨he,oa,on,oc,h1,h2⟩:=he;rw[aPt I Q (by rw[<-e9];exact S) hb]at h1;obtain⟨bd,bf,bc,be,aw,_,_,_,ax,ay,az,_⟩:=aEq (h1.mnd aa).m (m:=m) (b:=b) S hb;have ak:=ea.symm.trans aw;have am:=eb.symm.trans ax;cases ak
   cases am
   exact⟨he,oa,on,oc,h1,(bP a).trans h2,by have q:=h1.k.cell 0;rw[q];show some (Value.slice M.ma M.mn M.mc)=_;rw[ea],ay,az⟩))
  generalize (M.ms.getD m.toNat aL).bl.getD b.toNat zB=B at *;generalize (M.ms.getD m.toNat aL).bn=dn at *;generalize (M.ms.getD m.toNat aL).bc=dc at *;have HC:=zb V λX a=>show X.cell? (qR G 0)=some (.slice (some$ qR gm om) M.mn M.mc)/\X.cell? (qR gm$ om+m.toNat*8+2)=some (.slice (some$ qR gb ob) dn dc)/\X.cell? (qR gb$ ob+b.toNat)=some (.slice B.1 B.2.1 B.2.2.1)from⟨by rw[<-ea];exact(O.bw a).k.cell 0,aB a u2,aB a ub⟩;generalize slq C.lz m b=s at *;rw[a3]at f K P;have aq:=a5.s.2.1;unfold maxLen at aq;clear h hr I S O a7 H a5 e2 e8 e9 e10 ai aj ah Q s1 s2 s3 s4 s5 s6 ea eb u2 ub c1 c2 c bV kV hV y2
  delta qC;go_in
  go_wp2_with (rw[<-HV.o])
  apply f.mono;rintro e X1 ⟨rfl,E⟩;have a8:=zh E;clear E y0 y1 P HV;go_wp2_with fail
  apply(K X1 a8).mono;rintro e X2 ⟨rfl,ad⟩;have R:=zh$ yT a8 ad;obtain⟨x0,u2,ub⟩:=HC X2 R;obtain⟨y0,y1⟩:=A X2$ bP R;have a9:=zb X2 λX a=>af X$ yT R a;clear ad a8 K HC af;go_wp2_with fail
  go_region_held3 (λw'=>w'.cell? (qR G 0)=some (.slice (some$ qR gm om) M.mn M.mc)/\w'.cell? (qR gm$ om+m.toNat*8+2)=some (.slice (some$ qR gb ob) dn dc)/\w'.cell? (qR gb$ ob+b.toNat)=some (.slice B.1 B.2.1 B.2.2.1)/\w'.cell? (qh w 0)=some (.int .i64 m)/\w'.cell? (qh w 1)=some (.int .i64 b)) (go_keep)
   (first
     | (go_at_call 304;first
         | with_reducible refine(a9.o _ brf).mono ?_
         | with_reducible refine(a9.o _ brf.drew).mono ?_
        rintro e N ⟨rfl,oa,on,oc,hE,hT,z0,z2,zb⟩;obtain⟨t0,t1⟩:=A N hT;have D:=zh$ xA hE hT
        clear hE hT))
  clear t0 t1 x0 y0 y1 u2 ub z0 z2 zb a9 R;have Z:N.cell? (qR G 14)=some (.int .i64 C.tn):=by rw[<-ag];exact D.o.1.k.cell 14
  have a6:=D.1.k.frozen 14;obtain⟨X4,a1⟩:=aN$ N.setCell ⟨G,14,none⟩$ .int .i64$ C.tn+1;have d:=p N oa on oc D.1;rw[<-a1]at d;have au:X4.cell? (qR G 14)=some (.int .i64$ C.tn+1):=d.k.cell 14;obtain⟨_,a2,⟨v0,l0⟩,⟨v1,l1⟩,⟨v2,l2⟩,⟨v3,l3⟩,lf⟩:=F X4 _ _ d a3 ab;have l:TGx V X4:=by rw[a1];exact D.o.2.trans (fD (aC _ G 14 _) (λj hj=>by subst hj;exact⟨_,_,D.o.1.k,.inr$ .inl rfl⟩))
  obtain⟨t0,t1⟩:=A X4 l;have ar:¬gl=G:=a2;have ap:¬G=gl:=λe=>a2 e.symm;have W:=zh$ y X4 oa on oc d$ ae.trans l;have U:=zh a1;clear d a1 l a2 D p y F A;go_wp2_with (rw[<-U.o])
  clear Z a6
  go_region_held3 (λw'=>w'.cell? (qR G 14)=some (.int .i64$ C.tn+1)/\w'.cell? (qh w 0)=some (.int .i64 m)/\w'.cell? (qh w 1)=some (.int .i64 b)) (go_keep) (fail)
  all_goals
   go_wp2
   go_end0
   exact W
 .have b5:((((slq C.lz m b:Nat):Int)) == -1)=false:=Jb
  rw[show hld C.lz m b=((slq C.lz m b:Nat):Int)by unfold slq;rw[if_neg c];have:=lD C.lz m b;omega]at f
  have HZ:=zh (λ(X:qw)(a:qY V X)=>show Mg w1 X G Y { C with rz:=ovr C.rz (Y.L.slots.getD (slq C.lz m b) 0-65536).toNat (bkb C.ps C.cw m b) } { M with rz:=ovr C.rz (Y.L.slots.getD (slq C.lz m b) 0-65536).toNat$ bkb C.ps C.cw m b,oa:=M.oa,on:=M.on,oc:=M.oc,oz:=C.oz } a0 (.slice (some$ qR g 0) 1 1)by
   have e:M.rz=C.rz/\M.oz=C.oz:=by obtain⟨_,_,_,_,mm,_⟩:=h.m;exact⟨mm.vz.2.2.2.1,mm.vz.2.2.2.2.1⟩
   have q:=O.bw a;rw[aQq I.s c s2];rw[show M={ M with rz:=C.rz,oa:=M.oa,on:=M.on,oc:=M.oc,oz:=C.oz } by rw[<-e.1,<-e.2]]at q
   exact q)
  generalize slq C.lz m b=s at *;rw[a3]at f P;clear h hr I S O a7 H e2 e8 e9 e10 ai aj ah Q s1 s2 s3 s4 s5 s6 c1 c2 c bV kV hV y2
  delta qC;go_in
  go_wp2_with (rw[<-HV.o])
  apply f.mono;rintro e N ⟨rfl,E⟩;have D:=zh$ xA (HZ N E)$ bP E;clear E y0 y1 P HV HZ f;have Z:N.cell? (qR G 14)=some (.int .i64 C.tn):=by rw[<-ag];exact D.o.1.k.cell 14
  have a6:=D.1.k.frozen 14;obtain⟨X4,a1⟩:=aN$ N.setCell ⟨G,14,none⟩$ .int .i64$ C.tn+1;have d:=p N M.oa M.on M.oc D.1;rw[<-a1]at d;have au:X4.cell? (qR G 14)=some (.int .i64$ C.tn+1):=d.k.cell 14;obtain⟨_,a2,⟨v0,l0⟩,⟨v1,l1⟩,⟨v2,l2⟩,⟨v3,l3⟩,lf⟩:=F X4 _ _ d a3 ab;have l:TGx V X4:=by rw[a1];exact D.o.2.trans (fD (aC _ G 14 _) (λj hj=>by subst hj;exact⟨_,_,D.o.1.k,.inr$ .inl rfl⟩))
  obtain⟨t0,t1⟩:=A X4 l;have ar:¬gl=G:=a2;have ap:¬G=gl:=λe=>a2 e.symm;have W:=zh$ y X4 M.oa M.on M.oc d$ ae.trans l;have U:=zh a1;clear d a1 l a2 D p y F A;go_wp2_with (rw[<-U.o])
  clear Z a6
  go_region_held3 (λw'=>w'.cell? (qR G 14)=some (.int .i64$ C.tn+1)/\w'.cell? (qh w 0)=some (.int .i64 m)/\w'.cell? (qh w 1)=some (.int .i64 b)) (go_keep) (fail)
  all_goals
   go_wp2
   go_end0
   exact W
def aFn (op d a i v g pc rg s1 s2 s3 b w)(h:Pr w g pc rg s1 s2 s3 b)(K:0<=d)(H:d<=7)(v0:0<=v)(v1:v<=4294967295):
 qC 206 #[.pointer$ qP g,.agg$ qW op d a i,.int .u32 v] w λe w'=>e=.returned (.agg #[qI 0,qI 0])/\Pr w' g ((pc+4)%4294967296) (rg.set d.toNat v) s1 s2 s3 b/\Turn (λj=>j=g) w w':=by
 have q:qY w ((w.alloc$ .cells (qW op d a i) 186).alloc$ .cells #[qI 0,qI 0] 80):=bal.alloc Jb _;have s:=h.bw q;have:=h.blk.lt;have:=s.reg d.toNat J;have:=s.blk.frozen;have p:=h.setreg d.toNat J v ⟨v0,v1⟩;have E:=zh λw h=>lA g pc (rg.set d.toNat v) s1 s2 s3 b w h
 delta qC;go_in
 go_wp2
 go_region
 have f:=p.bw$ (brf.alloc aO$ .cells (qW op d a i) 186).alloc Jb$ .cells #[qI 0,qI 0] 80;go_wp2_with fail
 refine(E _ ?_).mono ?_;exact⟨f.blk,f.len,f.pcw,f.rgw⟩;rintro e I ⟨rfl,rfl⟩;have:(((w.setCell (qR g$ 1+d.toNat)$ .int .u32 v).alloc$ .cells (qW op d a i) 186).alloc$ .cells #[qI 0,qI 0] 80).cell? (qR g 0)=some (.int .u32 pc):=f.pc;have:=p.pc;have:=p.blk.frozen;let⟨u,hu⟩:=aN$ (pc+4)%4294967296;have x:0<=u/\u<=4294967295:=J
 rw[<-hu];have B:=zh hu;have l:=zh$ (p.setpc u x).bw$ (brf.alloc aO$ .cells (qW op d a i) 186).alloc Jb$ .cells #[qI 0,qI 0] 80;have k:=zh$ (((aM w g (1+d.toNat)$ .int .u32 v).trans$ aM _ g 0$ .int .u32 u).trans$ cN _$ .cells (qW op d a i) 186).trans$ cN _$ .cells #[qI 0,qI 0] 80;clear hu;go_wp2;refine bodyPost_ret (v:=.agg #[qI 0,qI 0]) (by simp[results,Tryz.results206,go_sem]) rfl ⟨rfl,?_,⟨k.o.os,k.o.tape,k.o.output,k.o.size,k.o.block⟩⟩;rw[<-B.o];exact⟨l.blk,l.len,l.pcw,l.rgw⟩
structure Cy where
 n1:Nat
 n2:Nat
 n3:Nat
 x1:qi
 x2:qi
 x3:qi
 rn:Nat
 rs:List Rg
structure Mz extends Cy where
 g:Nat
 b:Nat
 a1:qO
 a2:qO
 a3:qO
 ra:qO
 c1:Nat
 c2:Nat
 c3:Nat
 rc:Nat
abbrev Mz.v1 (M:Mz):Value:=qS M.a1 M.n1 M.c1
abbrev Mz.v2 (M:Mz):Value:=qS M.a2 M.n2 M.c2
abbrev Mz.v3 (M:Mz):Value:=qS M.a3 M.n3 M.c3
abbrev Mz.v4 (M:Mz):Value:=qS M.ra M.rn M.rc
abbrev Mz.st (M:Mz)(a3:qO)(n3 c3:Nat)(x1 x2 x3:qi):Mz:={ M with a3:=a3,n3:=n3,c3:=c3,x1:=x1,x2:=x2,x3:=x3 }
abbrev Px (w:qw)(M:Mz)(pc:Int)(rg:qi):Prop:=Pr w M.g pc rg M.v1 M.v2 M.v3 M.v4
structure Pz (w:qw)(M:Mz)(pc:Int)(rg:qi):Prop where
 p:Px w M pc rg
 o:cB w M.b M.v1 M.v2 M.v3 M.x1 M.x2 M.x3
 f:∀v,v=M.v1\/v=M.v2\/v=M.v3->v.ownBlock≠some M.g
 b:M.b<=w.heap.size
abbrev Uz (M:Mz)(j:Nat):Prop:=j=M.g\/M.v2.ownBlock=some j\/M.v3.ownBlock=some j
variable {w W X:qw}{M:Mz}{pc pc':Int}{rg rg':qi}
def Pz.bw (h:Pz w M pc rg)(a:qY w W):Pz W M pc rg:=⟨h.p.bw a,bD h.o a,h.f,xM h.b a.size⟩
def Pz.turn (h:Pz w M pc rg)(a:Turn (λj=>j=M.g) w W)(f:Px W M pc' rg'):Pz W M pc' rg':=
 have k:∀v,v=M.v1\/v=M.v2\/v=M.v3->∀k,v.ownBlock=some k->¬k=M.g:=λv d k g e=>h.f v d$ e ▸ g
 ⟨f,⟨aT a h.o.1$ k _$ .inl rfl,aT a h.o.2.1$ k _$ .inr$ .inl rfl,aT a h.o.2.2.1$ k _$ .inr$ .inr rfl,h.o.2.2.2⟩,h.f,xM h.b a.size⟩
def pZ {W:qw}{base:Nat}{f:qi}{t:TypeId}(h:OB W base v f)(d:Blk W G cs t)(j:t≠5):v.ownBlock≠some G:=by
 obtain⟨q,⟨b,_⟩|⟨g,i,k,rfl,l,p,_⟩⟩:=h.1
 .rw[b];intro e;cases e
 .intro e;have a:some g=some G:=e;injection a with a
  subst a;unfold Blk at d
  grind
def Pz.box {t:TypeId}(h:Pz W M pc rg)(g:Blk W G cs t)(f:t≠5)(l:G≠M.g)(a:Turn (λj=>j=G) W X):Pz X M pc rg:=
 have k:∀{v zs},OB W M.b v zs->OB X M.b v zs:=λh=>aT a h λk d e=>pZ h g f (by rw[d];exact congrArg some e)
 ⟨⟨aD a h.p.blk λe=>l e.symm,h.p.len,h.p.pcw,h.p.rgw⟩,⟨k h.o.1,k h.o.2.1,k h.o.2.2.1,h.o.2.2.2⟩,h.f,xM h.b a.size⟩
structure Res where
 did:Int
 num:Int
 pc:Int
 rg:qi
 x1:qi
 x2:qi
 x3:qi
def OpP (w:qw)(M:Mz)(r:Res)(e:Ending)(W:qw):Prop:=
 ∃a3 n3 c3,e=.returned (.agg #[qI r.did,qI r.num])/\Pz W (M.st a3 n3 c3 r.x1 r.x2 r.x3) r.pc r.rg/\Turn (Uz M) w W
abbrev evs (W:qw)(G:Nat)(i j:Int):qw:=(W.setCell (qR G 0) (qI i)).setCell (qR G 1) (qI j)
def pB {a3:qO}{n3 c3:Nat}{x1 x2 x3:qi}(p:M.g<w.heap.size)(h:Pz W (M.st a3 n3 c3 x1 x2 x3) pc rg)(d:Blk W G #[u,v] 80)(a:Turn (Uz M) w W)(l:w.heap.size<=G)(i j):
 Zh (OpP w M ⟨i,j,pc,rg,x1,x2,x3⟩ (.returned$ .agg #[qI i,qI j])$ evs W G i j)/\(evs W G i j).cell? (qR G 0)=some (qI i)/\(evs W G i j).cell? (qR G 1)=some (qI j):=by
 have f:=(aM W G 0$ qI i).trans$ aM _ G 1$ qI j;have g:=(d.set 0$ qI i).set 1$ qI j;refine⟨⟨a3,n3,c3,rfl,h.box d Ja (by grind) f,⟨a.os,a.tape,a.output,xM a.size f.size,λk d b=>(f.block k (jK a.size) (λe=>by grind)).trans$ a.block k d b⟩⟩,?_,?_⟩
 .rw[g.cell];rfl
 .rw[g.cell];rfl
def Pz.drew (h:Pz w M pc rg):Pz w.drew M pc rg:=⟨⟨h.p.blk,h.p.len,h.p.pcw,h.p.rgw⟩,h.o,h.f,h.b⟩
def Pz.kp (h:Pz X M pc rg)(T:Turn (Uz M) X W){t:TypeId}(k:Blk X G cs t)(a:t≠5)(d:G≠M.g):Blk W G cs t:=
 aD T k (by rintro(e|e|e);exact d e;exact pZ h.o.2.1 k a e;exact pZ h.o.2.2.1 k a e)
def gV {r:Res}(h:Pz X M pc rg)(g:qY w X)(f:M.g<w.heap.size)(d:Blk X G #[u,v] 80)(a:w.heap.size<=G)(q:OpP X M r e W):
 e=.returned (.agg #[qI r.did,qI r.num])/\Turn (Uz M) X W/\Zh (OpP w M r e$ evs W G r.did r.num)/\(evs W G r.did r.num).cell? (qR G 0)=some (qI r.did)/\(evs W G r.did r.num).cell? (qR G 1)=some (qI r.num):=by
 obtain⟨k,p,l,rfl,H,T⟩:=q;let⟨b,i,j⟩:=pB f H (h.kp T d Ja J) ((aI g).trans T) a r.did r.num;exact⟨rfl,T,b,i,j⟩
def vR (n1 n2 n3 x1 x2 p s)(a:∀z∈x1,0<=z/\z<=255)(d:∀z∈x2,0<=z/\z<=255):0<=(rd n1 n2 n3 x1 x2 p s).1/\(rd n1 n2 n3 x1 x2 p s).1<=4294967295:=by
 unfold rd;split
 .next g=>
  have:s.toNat<=4:=by rcases eE g.2 with rfl|rfl|rfl<;>decide
  have k:∀{l:qi}(n:Nat),(∀z∈l,0<=z/\z<=255)->_:=λ{l}n h=>nU ((l.drop n).take s.toNat) (λz b=>h z$ List.mem_of_mem_drop$ List.mem_of_mem_take b) (by grind)
  repeat' split
  all_goals first|exact k _ a|exact k _ d|simp
 .simp
def Pr.mem {w:qw}{g:Nat}{pc:Int}{rg:qi}{s1 s2 s3 s4:Value}(h:Pr w g pc rg s1 s2 s3 s4):w.cell? (qR g 9)=some s1/\w.cell? (qR g 10)=some s2/\w.cell? (qR g 11)=some s3/\w.cell? (qR g 12)=some s4:=by
 have a:=h.len;refine⟨?_,?_,?_,?_⟩<;>rw[h.blk.cell,Array.getElem?_append_right (by grind)]<;>simp[a]
abbrev Cy.rd (C:Cy)(p s:Int):Int×Int:=Go.Proofs.YtdjdcdnjjmjonaaGreat.rd C.n1 C.n2 C.n3 C.x1 C.x2 p s
abbrev Cy.al (C:Cy)(p s k:Int):Bool:=alw C.rs C.rn p s k
abbrev Cy.wr (C:Cy)(p s v:Int):qi×qi×qi×Int:=wrm C.n1 C.n2 C.n3 C.x1 C.x2 C.x3 p s v
abbrev m32 (x:Int):Int:=x%4294967296
abbrev Cy.go (C:Cy)(did num pc:Int)(rg:qi):Res:=⟨did,num,pc,rg,C.x1,C.x2,C.x3⟩
def atz (rg:qi)(a i:Int):Int:=m32$ rg.getD a.toNat 0+eA i
def ldz (C:Cy)(pc:Int)(rg:qi)(d a i s:Int):Res:=
 if C.al (atz rg a i) s 1=true then if (C.rd (atz rg a i) s).2=0 then C.go 0 0 (m32$ pc+4) (rg.set d.toNat (C.rd (atz rg a i) s).1) else C.go 5 (C.rd (atz rg a i) s).2 pc rg
 else C.go 5 5 pc rg
def stz (C:Cy)(pc:Int)(rg:qi)(d a i s:Int):Res:=
 if C.al (atz rg a i) s 2=true then
  let q:=C.wr (atz rg a i) s$ rg.getD d.toNat 0
  if q.2.2.2=0 then ⟨0,0,m32$ pc+4,rg,q.1,q.2.1,q.2.2.1⟩ else ⟨5,q.2.2.2,pc,rg,q.1,q.2.1,q.2.2.1⟩
 else C.go 5 5 pc rg
variable {w W X:qw}{M:Mz}{pc pc':Int}{rg rg':qi}
def opT {i j:Int}(h:Pz w M pc rg)(q:e=.returned (.agg #[qI i,qI j])/\Px W M pc' rg'/\Turn (λj=>j=M.g) w W):OpP w M (M.go i j pc' rg') e W:=
 ⟨M.a3,M.n3,M.c3,q.1,h.turn q.2.2 q.2.1,q.2.2.mono λ_=>.inl⟩
def aU1 (op d a i s w)(h:Pz w M pc rg)(k:RS w M.ra M.rn M.rc M.rs)(d0:0<=d)(d1:d<=7)(a0:0<=a)(a7:a<=7)(i0:0<=i)(i1:i<=65535):
 qC 222 #[.pointer$ qP M.g,.agg$ qW op d a i,qI s] w (OpP w M$ ldz M.toCy pc rg d a i s):=by
 have l:qY w ((w.alloc$ .cells (qW op d a i) 186).alloc$ .cells #[qI 0,qI 0] 80):=bal.alloc Jb _;have kb:=(Blk.new w (qW op d a i) 186).alloc$ .cells #[qI 0,qI 0] 80;have K:=Blk.new (w.alloc$ .cells (qW op d a i) 186) #[qI 0,qI 0] 80;simp only[xF]at K;have Q:=h.bw l;have S:=k.bw l;have B:=h.p.blk.lt;have Y:=zh λw h=>sF op d a i M.g pc rg M.v1 M.v2 M.v3 M.v4 w h a0 a7 i0 i1;have hv:=vR M.n1 M.n2 M.n3 M.x1 M.x2 (atz rg a i) s h.o.1.2 h.o.2.1.2;let⟨r,G⟩:=aN$ ldz M.toCy pc rg d a i s;rw[<-G];unfold ldz Cy.al Cy.rd at G;rw[show(rg.getD a.toNat 0+eA i)%4294967296=atz rg a i from rfl]at Y;have U:0<=atz rg a i/\atz rg a i<=4294967295:=by unfold atz m32;omega
 generalize atz rg a i=z at *;have X:=zh λw h=>iD M.ra M.rn M.rc M.rs z s 1 w h ⟨J,J⟩;have HR:=zh λw h1 h2=>iRd M.a1 M.a2 M.a3 M.n1 M.c1 M.n2 M.c2 M.n3 M.c3 M.x1 M.x2 z s w h1 h2 U.1 U.2;generalize alw M.rs M.rn z s 1=A at *;generalize rd M.n1 M.n2 M.n3 M.x1 M.x2 z s=R at *;obtain⟨v,f⟩:=R;have p:=zh G;clear G k;obtain⟨v0,v1⟩:=hv;have Z:=zh λw(h:Pz w M pc rg)=>(aFn op d a i v M.g pc rg M.v1 M.v2 M.v3 M.v4 w h.p d0 d1 v0 v1).mono λe W q=>opT h q
 delta qC;go_in
 go_wp2_with fail
 apply(Y _ Q.p).mono;rintro e w1 ⟨rfl,D⟩;have N:=Q.bw D;have O:=N.p.mem;go_wp2_with fail
 apply(X _$ S.bw D).mono;rintro e w2 ⟨rfl,H⟩;have y:=N.bw H;have I:=l.trans$ (yT D H).mono Jc;have x:=(kb.bw D).bw H;have j:=(K.bw D).bw H;clear O N Q kb K l S D H;have O:=y.p.mem;have e1:=j.two';cases A
 .have k:=p.o;rw[if_neg Jb]at k;subst k;let⟨b,u,C⟩:=pB B y j (aI I) J 5 5;clear y j x I;go_wp2;exact bodyPost_ret (v:=.agg #[qI 5,qI 5]) (by simp[results,Tryz.results222,go_sem,u,C]) rfl b.o
 .go_wp2_with fail
  apply(HR _ y.o.1.bs y.o.2.1.bs).mono;rintro e w3 ⟨rfl,F⟩;have E:=y.bw F;have t:=x.bw F;have g:=j.bw F;have V:=yT I F;clear F O e1 y x j I;have e1:=g.two';have q1:=t.four';by_cases P:f=0
  .subst P;have k:=p.o;simp only[reduceIte]at k;subst k;go_wp2_with fail
   apply(Z _ E).mono;intro e w4 q;obtain⟨rfl,t4,b,u,C⟩:=gV E V B g J q;have k4:=E.kp t4 g Ja J;clear q1 e1 E t q g;have e1:=k4.two';go_wp2;exact bodyPost_ret (v:=.agg #[qI 0,qI 0]) (by simp[results,Tryz.results222,go_sem,u,C]) rfl b.o
  .have a1:(f !=0)=true:=by simpa using P
   have k:=p.o;simp only[reduceIte,P]at k;subst k;let⟨b,u,C⟩:=pB B E g (aI V) J 5 f;clear E g t;go_wp2;exact bodyPost_ret (v:=.agg #[qI 5,qI f]) (by simp[results,Tryz.results222,go_sem,u,C]) rfl b.o
def rV (k j)(p:j<=k.bits)(q:∀n:Int,0<=n->n<2^j->k.wrap n=n)(a b:Nat)(ha:a<2^j)(g:b<2^j):bits .xor k a b=((a ^^^ b:Nat):Int):=by
 have l:2^j<=2^k.bits:=Nat.pow_le_pow_right Ja p;have d:a%2^k.bits=a:=Nat.mod_eq_of_lt$ Nat.lt_of_lt_of_le ha l;have f:b%2^k.bits=b:=Nat.mod_eq_of_lt$ Nat.lt_of_lt_of_le g l;simp only[bits,BitVec.ofInt_natCast,BitVec.toNat_xor,BitVec.toNat_ofNat,d,f];exact q _ (Int.natCast_nonneg _) (by exact_mod_cast Nat.xor_lt_two_pow ha g)
def gU (n)(a:0<=n)(d:n<2^32):IntKind.u32.wrap n=n:=by
 rw[IntKind.wrap_u32];omega
def zO (op)(k:op=.and\/op=.or\/op=.xor)(x y)(l:0<=x)(x1:x<=4294967295)(j:0<=y)(s:y<=4294967295):bits op .u32 x y=bits op .i64 x y/\0<=bits op .i64 x y/\bits op .i64 x y<=4294967295:=by
 obtain⟨a,rfl⟩:=Int.eq_ofNat_of_zero_le l;obtain⟨b,rfl⟩:=Int.eq_ofNat_of_zero_le j;have e:a<2^32:=J
 have f:b<2^32:=J
 have g:a<2^62:=J
 have d:b<2^62:=J
 have:=bits_nat .u32 32 Ja gU a b e f;have:=bits_nat .i64 62 Ja bN a b g d;have:=rV .u32 32 Ja gU a b e f;have:=rV .i64 62 Ja bN a b g d;have:=Nat.and_lt_two_pow a f;have:=Nat.or_lt_two_pow e f;have:=Nat.xor_lt_two_pow e f;rcases k with rfl|rfl|rfl
 .grind
 .grind
 .grind
def aO1 (y)(a:0<=y)(d:y<=4294967295):bits .and .u32 y 31=y%32:=bits_mask .u32 32 Ja gU 5 Ja y a J
def aUj (y)(a:0<=y)(d:y<=4294967295):bits .and .u32 y 65535=y%65536:=bits_mask .u32 32 Ja gU 16 Ja y a J
def aRe (z i)(f:0<=z)(g:z<=4294967295)(d:0<=i)(p:i<=65535):bits .or .u32 (bits .and .u32 z 65535) (IntKind.u32.wrap$ IntKind.u32.wrap i*65536)=z%65536+i*65536:=by
 rw[aUj z f g,gU i d J,gU (i*65536) J J];let⟨a,e⟩:=Int.eq_ofNat_of_zero_le$ show 0<=z%65536 from J;let⟨b,j⟩:=Int.eq_ofNat_of_zero_le$ show 0<=i*65536 from J;have:=(bits_nat .u32 32 Ja gU a b J J).2;have:=(bits_nat .u32 32 Ja gU b a J J).2;have:=bits_join .u32 32 Ja gU 16 (i*65536) (z%65536) J J J J J J
 grind
def aSv (k:Nat)(i z y:Int):Int:=
 [i,bits .or .u32 (bits .and .u32 z 65535)$ IntKind.u32.wrap$ IntKind.u32.wrap i*65536,y,IntKind.u32.wrap$ z+y,(y+eA i)%4294967296,IntKind.u32.wrap$ z-y,IntKind.u32.wrap$ z*y,bits .and .u32 z y,bits .or .u32 z y,bits .xor .u32 z y,alu 12 i z y,alu 13 i z y].getD k 0
def aEr {i z y:Int}(j:0<=i)(l:i<=65535)(a:0<=z)(d:z<=4294967295)(f:0<=y)(g:y<=4294967295)(k)(h:k<12):aSv k i z y=alu (k+2:Nat) i z y/\0<=aSv k i z y/\aSv k i z y<=4294967295:=by
 have A:=zO .and (.inl rfl) z y a d f g;have B:=zO .or (.inr$ .inl rfl) z y a d f g;have C:=zO .xor (.inr$ .inr rfl) z y a d f g;have D:=aRe z i a d j l;have E:0<=z/(2:Int)^(y%32).toNat/\z/(2:Int)^(y%32).toNat<=4294967295:=⟨Int.ediv_nonneg a$ Int.le_of_lt$ pow_pos _,Int.le_trans (Int.ediv_le_self _ a) d⟩
 match k,h with
 | 0,_=>exact⟨rfl,by show 0<=i/\i<=4294967295;omega⟩
 | 1,_=>exact⟨D,by show 0<=bits .or .u32 _ _/\bits .or .u32 _ _<=_;rw[D];omega⟩
 | 2,_=>exact⟨rfl,f,g⟩
 | 3,_=>exact⟨IntKind.wrap_u32 _,by show 0<=IntKind.u32.wrap _/\IntKind.u32.wrap _<=_;rw[IntKind.wrap_u32];omega⟩
 | 4,_=>exact⟨rfl,by show 0<=(y+eA i)%4294967296/\(y+eA i)%4294967296<=_;omega⟩
 | 5,_=>exact⟨IntKind.wrap_u32 _,by show 0<=IntKind.u32.wrap _/\IntKind.u32.wrap _<=_;rw[IntKind.wrap_u32];omega⟩
 | 6,_=>exact⟨IntKind.wrap_u32 _,by show 0<=IntKind.u32.wrap _/\IntKind.u32.wrap _<=_;rw[IntKind.wrap_u32];omega⟩
 | 7,_=>exact⟨A.1,by show 0<=bits .and .u32 z y/\bits .and .u32 z y<=_;rw[A.1];exact A.2⟩
 | 8,_=>exact⟨B.1,by show 0<=bits .or .u32 z y/\bits .or .u32 z y<=_;rw[B.1];exact B.2⟩
 | 9,_=>exact⟨C.1,by show 0<=bits .xor .u32 z y/\bits .xor .u32 z y<=_;rw[C.1];exact C.2⟩
 | 10,_=>exact⟨rfl,by show 0<=(z*(2:Int)^(y%32).toNat)%4294967296/\(z*(2:Int)^(y%32).toNat)%4294967296<=_;omega⟩
 | 11,_=>exact⟨rfl,E⟩
def opz (C:Cy)(op d a i pc:Int)(rg:qi):Res:=
 if op=14 then ldz C pc rg d a i 1 else if op=15 then ldz C pc rg d a i 2 else if op=16 then ldz C pc rg d a i 4
 else if op=17 then stz C pc rg d a i 1 else if op=18 then stz C pc rg d a i 2 else if op=19 then stz C pc rg d a i 4
 else if 2<=op/\op<=13 then C.go 0 0 (m32$ pc+4) (rg.set d.toNat$ alu op i (rg.getD d.toNat 0)$ rg.getD a.toNat 0)
 else C.go (ev op i$ m32$ pc+4).1 (ev op i$ m32$ pc+4).2 (if jmp op (rg.getD d.toNat 0)=true then m32 (pc+4+4*eA i) else m32 (pc+4)) rg
