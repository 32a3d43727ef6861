import Derived.Laws.AppendOwnNone
import Derived.Test.YtdjdcdnjjmjonaaGreatR12
set_option linter.all false
set_option maxHeartbeats 2000000
namespace Go.Proofs.YtdjdcdnjjmjonaaGreat
open Go.RowKit
open Go.Proofs.Tryz
set_option maxRecDepth 100000
variable {L:Lay}{P:PMod}{S:Nat->Prop}{a a0 a1 a2 a3 a5 a6 a7:qO}{b base c c0 c1 c2 c3 c5 c6 c7 cap g gm n sz:Nat}{bl:List Bk}{cs:Array Value}{m m':Md}{ms ms':List Md}{o:Oper}{ts:List TB}{v v':Value}{xs:List PB}{β:Nat->Nat}
theorem aOy (b a):(reb b a).map (λB=>B.2.2.2)=a.map (λB=>B.2.2.2):=by
 apply List.ext_getElem
 .simp[qH]
 .intro i d e;simp[reb]at d⊢
  grind
def aTf {W:qw}(h:gH c m m' W):m'.pm=m.pm:=by
 obtain⟨a,b,d,e,f,g,i,rfl,_⟩:=h;simp only[Md.pm,aOy]
def aOr {W:qw}(h:RowM W c n ms ms')(k:ms'.length=n)(d:ms.length=n):aI ms'=aI ms:=by
 apply List.ext_getElem
 .simp[aI,k,d]
 .intro i f j;simp only[aI,xH]at f j;have e:=aTf (h.2.2 i J).2;simpa[aI,xB,f,j]using e
def aC1 {W:qw}(h:gH c m m' W)(d:m.bl.length=m.bn):m'.size=m.size:=by
 obtain⟨a,b,e,f,g,i,j,rfl,_⟩:=h;exact aOx _ _ _ _ _ _ _ _ _ _ _ d
def aOs {W w:qw}(h:RowM W c n ms ms')(f:ms'.length=n)(d:MS w a n cap ms)(hs:∀i,i<n->(ms.getD i aM).size<=1048576):MSD W (qP c) n n ms':=
 ⟨h.ms f d,λi hi=>aPu (aLl (d.2.2.2.1 i hi) (h.2.2 i J).2) (by
  have e:=aC1 (h.2.2 i J).2 (d.2.2.2.1 i hi).b.1;have:=hs i hi;unfold Md.size at e this;rw[e]
  exact this)⟩
def Sm (W:qw)(c j:Nat):Prop:=c<j/\j<W.heap.size/\¬∃cs,Blk W j cs 25
def bnF (m:Md)(j:Nat):Rw3:=((m.bl.getD j zB).1,(m.bl.getD j zB).2.1,(m.bl.getD j zB).2.2.1)
theorem SlB.congr {w:qw}{f f':Nat->Rw3}(h:SlB S w a n f)(e:∀i,i<n->f' i=f i):SlB S w a n f':=
 ⟨λk=>by obtain⟨g,o,b,t,d,hs,j,l⟩:=h.head k;exact⟨g,o,b,t,d,hs,j,λi hi=>by grind⟩,λi hi=>by rw[e i hi];exact h.rows i hi⟩
def vY {f d:Nat->Rw3}:∀n,(∀i,i<n->d i=f i)->cC d n=cC f n
 | 0,_=>rfl
 | n+1,e=>by show cC d n+(d n).2.1=cC f n+(f n).2.1;rw[vY n λi hi=>e i J,e n J]
def aB7 {W:qw}{j:Nat}{t:TypeId}(f:c<j)(e:Blk W j cs t)(d:t≠25):Sm W c j:=⟨f,e.lt,λ⟨c2,a⟩=>d$ aH e a⟩
theorem aAh {w W:qw}(d:m.mt w)(h:gH c m m' W):Rws (Sm W c) W c m' (bnF m')/\cC (bnF m') m'.bn=upS (λj=>(m.bl.getD j zB).2.1) m.bn:=by
 obtain⟨g1,g2,g3,g5,g6,g7,a,rfl,N,O,P,Q,S,U,B,l,b,s,t,u,x⟩:=h;have:m.bl.length=m.bn:=d.b.1;have s1:Sm W c g1:=aB7 J (show Blk W g1 _ _ from l) Ja;have s3:Sm W c g3:=aB7 J (show Blk W g3 _ _ from s) Ja;have s5:Sm W c g5:=aB7 J (show Blk W g5 _ _ from t) Ja;have f:Sm W c g6:=aB7 J (show Blk W g6 _ _ from u) Ja;have p:Sm W c g7:=by obtain⟨⟨M,hx,_⟩,_⟩:=x;exact aB7 J hx Ja
 have s2:¬Sm W c g2:=λe=>by obtain⟨⟨y,A,_⟩,_⟩:=b;exact e.2.2 ⟨y,A⟩
 have k:∀i,i<m.bn->Sm W c (a.getD i 0):=λi hi=>by
  let⟨C,V⟩:=b.2.1 i J;exact aB7 J (show Blk W (a.getD i 0) _ _ from C) Ja
 have e:∀i,i<m.bn->bnF ⟨m.nm,qP g1,m.tn,m.tn,m.tz,qP g2,m.bn,m.bn,reb a m.bl,qP g3,m.dn,m.dn,m.dz,m.bss,qP g5,m.rn,m.rn,m.rz,qP g6,m.im,m.im,m.ss,qP g7,m.en,m.en,m.es⟩ i=aHz a m.bl i:=λi hi=>by
  unfold bnF;rw[jU _ _ _];rfl
 let⟨D,E,G,H,I,K⟩:=aVl d B l b s t u x s1 s2 k s3 s5 f p;refine⟨⟨D,E.congr e,G,H,I,K,λg o q=>?_⟩,?_⟩
 .grind
 .rw[vY _ e,aB6]
def aF9 {W w:qw}(h:RowM W c n ms ms')(f:ms'.length=n)(d:MS w a n cap ms):Mrs (Sm W c) W c n ms' (λi=>bnF$ ms'.getD i aM):=by
 obtain⟨⟨j,b,y⟩,_,g⟩:=h;refine⟨λe=>jK e.1,⟨j,b,λi hi=>?_⟩,λi hi=>(aAh (d.2.2.2.1 i hi) (g i J).2).1⟩;let⟨k,l,p,q,s,t,u,x⟩:=(g i J).1;exact⟨⟨_,(b.cell _).symm.trans k⟩,(b.cell _).symm.trans l,(b.cell _).symm.trans p,(b.cell _).symm.trans q,⟨_,(b.cell _).symm.trans s⟩,(b.cell _).symm.trans t,(b.cell _).symm.trans u,(b.cell _).symm.trans x⟩
theorem aOt {W w:qw}(h:RowM W c n ms ms')(p:ms'.length=n)(l:MS w a n cap ms)(hz:n+upS (λj=>(ms.getD j aM).size) n<=1048576):
 upS (jF ms' λi=>bnF$ ms'.getD i aM) n<=3145728/\(∀i,i<n->(ms'.getD i aM).bn<=1048576)/\(∀i,i<n->jF ms' (λi=>bnF$ ms'.getD i aM) i<=4194304/\(ms'.getD i aM).tn<=1048576/\(ms'.getD i aM).dn<=1048576/\(ms'.getD i aM).rn<=1048576/\(ms'.getD i aM).im<=1048576/\(ms'.getD i aM).en<=1048576/\cC (bnF$ ms'.getD i aM) (ms'.getD i aM).bn<=1048576):=by
 have d:∀i,i<n->jF ms' (λi=>bnF$ ms'.getD i aM) i<=2+3*(ms.getD i aM).size/\(ms'.getD i aM).bn<=(ms.getD i aM).size/\(ms'.getD i aM).tn<=(ms.getD i aM).size/\(ms'.getD i aM).dn<=(ms.getD i aM).size/\(ms'.getD i aM).rn<=(ms.getD i aM).size/\(ms'.getD i aM).im<=(ms.getD i aM).size/\(ms'.getD i aM).en<=(ms.getD i aM).size/\cC (bnF$ ms'.getD i aM) (ms'.getD i aM).bn<=(ms.getD i aM).size:=λi hi=>by
  have hc:=(h.2.2 i J).2;have e1:=(aAh (l.2.2.2.1 i hi) hc).2
  have e2:(ms'.getD i aM).tn=(ms.getD i aM).tn/\(ms'.getD i aM).bn=(ms.getD i aM).bn/\(ms'.getD i aM).dn=(ms.getD i aM).dn/\(ms'.getD i aM).rn=(ms.getD i aM).rn/\(ms'.getD i aM).im=(ms.getD i aM).im/\(ms'.getD i aM).en=(ms.getD i aM).en:=by
   obtain⟨u,x,y,A,B,C,D,e,_⟩:=hc
   grind
  obtain⟨b,f,g,f4,k,s⟩:=e2;have e3:(ms.getD i aM).size=(ms.getD i aM).nm.size+(ms.getD i aM).tn+((ms.getD i aM).bn+upS (λj=>((ms.getD i aM).bl.getD j zB).2.1) (ms.getD i aM).bn)+(ms.getD i aM).dn+(ms.getD i aM).rn+((ms.getD i aM).im+upS (λj=>((ms.getD i aM).ss.getD j zS).size) (ms.getD i aM).im)+((ms.getD i aM).en+upS (λj=>((ms.getD i aM).es.getD j zE).1.size) (ms.getD i aM).en):=rfl;unfold jF;rw[e1,b,f,g,f4,k,s,e3];omega
 have:∀i,i<n->(ms.getD i aM).size<=1048576:=λi hi=>jK$ aDb (λj=>(ms.getD j aM).size) n i hi;refine⟨?_,λi hi=>by grind,λi hi=>by grind⟩
 have:∀q,q<=n->upS (jF ms' λi=>bnF$ ms'.getD i aM) q<=2*q+3*upS (λj=>(ms.getD j aM).size) q:=by
  intro q
  induction q with
  | zero=>intro _;simp[upS]
  | succ q ih=>
    intro t;have:=(d q J).1;show upS _ q+jF ms' (λi=>bnF$ ms'.getD i aM) q<=2*(q+1)+3*(upS _ q+(ms.getD q aM).size);omega
 grind
def LayO.kept {W e:qw}(h:LayO W base L a0 c0 xs a2 c2 a5 c5 ts)(t:Turn S W e)(hs:∀j,base<=j->j<W.heap.size->¬S j):LayO e base L a0 c0 xs a2 c2 a5 c5 ts where
 p:=h.p.kept t (λk d=>hs k (h.p.lt.1 k d).1 (h.p.lt.1 k d).2) λx hx k d=>hs k (h.p.lt.2 x hx k d).1 (h.p.lt.2 x hx k d).2
 ps:=h.ps
 s:=h.s.kept t λk d=>hs k (h.s.lt k d).1 (h.s.lt k d).2
 t:=h.t.kept t (λk d=>hs k (h.t.lt.1 k d).1 (h.t.lt.1 k d).2) λx hx k d=>hs k (h.t.lt.2 x hx k d).1 (h.t.lt.2 x hx k d).2
 tt:=h.tt
 sp:=h.sp
def LayO.below' {W d:qw}(h:LayO W base L a0 c0 xs a2 c2 a5 c5 ts)(e:qY W d):LayO d base L a0 c0 xs a2 c2 a5 c5 ts:=h.kept (S:=λ_=>False) (aG e) λ_ _ _ s=>s
def Zb (zc:Array Value)(t:TypeId)(W0 X:qw)(o:Option Nat):Prop:=qY W0 X/\∀g,o=some g->W0.heap.size<=g/\Blk X g zc t
section
variable {zc:Array Value}{t:TypeId}{W0 X Y:qw}{o:Option Nat}
def aUn (b t a):Zb b t a a none:=⟨brf,λg e=>by cases e⟩
def Zb.bw (h:Zb zc t W0 X o)(d:qY X Y):Zb zc t W0 Y o:=⟨h.1.trans$ d.mono h.1.size,λg e=>⟨(h.2 g e).1,(h.2 g e).2.bw d⟩⟩
def Zb.drew (h:Zb zc t W0 X o):Zb zc t W0 X.drew o:=⟨h.1.drew,λg e=>⟨(h.2 g e).1,(h.2 g e).2⟩⟩
def Zb.box (h:Zb zc t W0 X none):Zb zc t W0 (X.alloc$ .cells zc t) (some X.heap.size):=⟨h.1.alloc h.1.size _,λg e=>by cases e;exact⟨h.1.size,Blk.new X zc t⟩⟩
end
section
variable {zc:Array Value}{t:TypeId}{n g:Nat}{ms m:List Md}{W0 X Y:qw}{o:Option Nat}
end
section
variable {base:Nat}{L:Lay}{W0 X:qw}{gb:Nat}{a0:qO}{c0:Nat}{xs:List PB}{a2:qO}{c2:Nat}{a5:qO}{c5:Nat}{ts:List TB}
end
section
variable {cf:Array Value}{tc:TypeId}{base:Nat}{L:Lay}{w W5 W W':qw}{gb:Nat}{a0:qO}{c0:Nat}{xs:List PB}{a2:qO}{c2:Nat}{a5:qO}{c5:Nat}{ts:List TB}
end
def oN (s:Nat):Option (List Int)->Int×Option (List Int)
 | none=>(0,none)
 | some zs=>match pN s zs with
   | none=>(0,none)
   | some x=>(x.1,some x.2)
def P0:PMod:=⟨⟨#[]⟩,[],[],[],0,[],[],[]⟩
theorem aPm {G:ByteArray}{q:qO}{tn O:Nat}{D:qi}{u:qO}{H B:Nat}{p:qO}{A l:Nat}{E:qi}{f:Int}{ra:qO}{rn rc:Nat}{rz:qi}{j:qO}{C x:Nat}{ss:List ByteArray}{k:qO}{y I:Nat}{es:List Ex}{w:qw}(h:MD w G q tn O D u H B bl p A l E f ra rn rc rz j C x ss k y I es):MT w G q tn O D u H B bl p A l E f ra rn rc rz j C x ss k y I es where
 n:=by have:=h.n;unfold maxLen;omega
 t:=h.t
 b:=h.b
 d:=h.d
 s:=h.s
 r:=h.r
 i:=by
  let⟨a,g,K,M,N⟩:=h.i;refine⟨a,g,λi=>?_,M,N⟩;by_cases hi:i<ss.length
  .have:=K (ss.getD i zS) (by grind);unfold maxLen;omega
  .rw[xB,xO J];decide
 e:=by
  let⟨a,g,K,M,N⟩:=h.e;refine⟨a,g,λi=>?_,M,N⟩;by_cases hi:i<es.length
  .have:=K (es.getD i zE) (by grind);unfold maxLen;omega
  .rw[xB,xO J];decide
def bkF (bl:List Bk)(i:Nat):qO×Nat×Nat:=((bl.getD i zB).1,(bl.getD i zB).2.1,(bl.getD i zB).2.2.1)
def bkX (bl:List Bk)(i:Nat):List Int:=(bl.getD i zB).2.2.2
def aPd {w:qw}{xs:qi}(h:OG 3 1 clI w base v xs)(hx:∀z∈xs,wfi z):OI w base v xs:=by
 unfold OG at h;rw[zW]at h;exact⟨h,hx⟩
def aFy (a):∀n,n<=a.length->cC (bkF a) n=((a.take n).map λB=>B.2.1).sum
 | 0,_=>by simp[cC]
 | n+1,h=>by
   show cC (bkF a) n+(bkF a n).2.1=_;have e:(bkF a n).2.1=(a[n]'J).2.1:=by simp[bkF,xB,show n<a.length from J]
   rw[aFy a n J,List.take_add_one,xN J,e];simp only[Option.toList_some,List.map_append,List.map_cons,List.map_nil,List.sum_append,List.sum_cons,List.sum_nil,Nat.add_zero]
theorem aVh {w:qw}(h:OBk w base (qS a bl.length c) bl)(hx:∀B∈bl,∀z∈B.2.2.2,wfi z):Rr w base a bl.length (bkF bl) (bkX bl):=by
 have d:∀i,i<bl.length->bl.getD i zB∈bl:=λi hi=>by simp[xB,hi]
 have f:∀i,i<bl.length->OI w base (.slice (bkF bl i).1 (bkF bl i).2.1 (bkF bl i).2.2) (bkX bl i):=λi hi=>aPd (h.rows _$ d i hi).2$ hx _$ d i hi;refine⟨λO=>?_,f,λi j hi G u k s=>?_⟩
 .obtain⟨A,⟨C,x⟩|⟨g,N,l,q,D,p,x,M,E,y⟩⟩:=h.head
  .grind
  .simp at q;refine⟨g,l,q.1,λ⟨i,hi,e⟩=>?_,p,λi hi=>?_⟩
   .have⟨t,b⟩:=aE (f i hi).1 e;exact absurd (aH b p) Ja
   .have:(l.toList.take$ bl.length*1)[i]?=(bl.map λB=>qS B.1 B.2.1 B.2.2.1)[i]?:=by rw[y]
    rw[List.getElem?_take]at this;rw[if_pos J]at this;rw[<-Array.getElem?_toList,this];simp[bkF,xB,hi]
 .have H:=List.pairwise_iff_getElem.1 h.apart;have K:bl.getD i zB=bl[i]:=by grind
  have I:bl.getD j zB=bl[j]:=by grind
  unfold bkF at s⊢
  grind
def ModO.m6G {W:qw}(h:ModO W base P a1 c1 a2 c2 bl a3 c3 a5 c5 a6 c6 a7 c7)(R:PmG P):
 M6 W base (qS a1 P.tz.length c1) (qS a3 P.dz.length c3) (qS a5 P.rz.length c5) (qS a6 P.ss.length c6) (qS a7 P.es.length c7) a2 bl.length (bkF bl) P.tz (bkX bl) P.dz P.rz P.ss P.es where
 t:=aPd h.t R.t.2
 b:=aVh h.b (λB l z a=>by
  have j:B.2.2.2∈P.bl:=by rw[<-h.bls];exact List.mem_map.2 ⟨B,l,rfl⟩
  exact(R.b.2 _ j).2 z a)
 d:=h.d
 r:=aPd h.r R.r.2
 i:=h.i
 e:=h.e
 tr:=h.tr
 tb:=λk f⟨i,hi,e⟩=>h.tb k f _ (by simp[xB,hi]) e
 rb:=λk f⟨i,hi,e⟩=>h.br k f _ (by simp[xB,hi]) e
def ModO.sum {W:qw}(h:ModO W base P a1 c1 a2 c2 bl a3 c3 a5 c5 a6 c6 a7 c7):cC (bkF bl) bl.length=(P.bl.map List.length).sum/\bl.length=P.bl.length:=by
 refine⟨?_,by rw[<-h.bls,xH]⟩;rw[aFy bl bl.length aQ,List.take_length,<-h.bls,List.map_map];congr 1;apply List.map_congr_left;intro B d;exact(h.b.rows B d).1
theorem ModO.same {W a:qw}{base':Nat}{k:qO}{x:Nat}{u:qO}{j:Nat}{bl':List Bk}{y:qO}{f:Nat}{q:qO}{C:Nat}{s:qO}{p:Nat}{A:qO}{d:Nat}(h:ModO W base P a1 c1 a2 c2 bl a3 c3 a5 c5 a6 c6 a7 c7)(D:ModO a base' P k x u j bl' y f q C s p A d):bl.length=bl'.length/\∀i,i<bl.length->(bl'.getD i zB).2.1=(bl.getD i zB).2.1/\(bl'.getD i zB).2.2.2=(bl.getD i zB).2.2.2:=by
 have e:bl.map (λB=>B.2.2.2)=bl'.map (λB=>B.2.2.2):=h.bls.trans D.bls.symm;have E:bl.length=bl'.length:=by have:=congrArg List.length e;simpa using this
 refine⟨E,λi hi=>?_⟩
 have e2:(bl.getD i zB).2.2.2=(bl'.getD i zB).2.2.2:=by
  have:=congrArg (λl=>l[i]?) e
  grind
 have G:bl.getD i zB∈bl:=by simp[xB,hi]
 have H:bl'.getD i zB∈bl':=by simp[xB,show i<bl'.length from J]
 exact⟨by rw[(D.b.rows _ H).1,(h.b.rows _ G).1,e2],e2.symm⟩
structure Mb where
 a1:qO
 c1:Nat
 a2:qO
 c2:Nat
 bl:List Bk
 a3:qO
 c3:Nat
 a5:qO
 c5:Nat
 a6:qO
 c6:Nat
 a7:qO
 c7:Nat
abbrev MOb (W:qw)(base:Nat)(x:PMod×Mb):Prop:=ModO W base x.1 x.2.a1 x.2.c1 x.2.a2 x.2.c2 x.2.bl x.2.a3 x.2.c3 x.2.a5 x.2.c5 x.2.a6 x.2.c6 x.2.a7 x.2.c7
def hdP (x:PMod×Mb):Hd×Ct:=(⟨x.2.a1,x.1.tz.length,x.2.c1,x.2.a2,x.2.bl.length,x.2.c2,bkF x.2.bl,x.2.a3,x.1.dz.length,x.2.c3,x.2.a5,x.1.rz.length,x.2.c5,x.2.a6,x.1.ss.length,x.2.c6,x.2.a7,x.1.es.length,x.2.c7⟩,⟨x.1.nm,x.1.tz,bkX x.2.bl,x.1.dz,x.1.bss,x.1.rz,x.1.ss,x.1.es⟩)
def clB (x:PMod×Mb):List Value:=clH$ hdP x
def mdP (x:PMod×Mb):Md:=⟨x.1.nm,x.2.a1,x.1.tz.length,x.2.c1,x.1.tz,x.2.a2,x.2.bl.length,x.2.c2,x.2.bl,x.2.a3,x.1.dz.length,x.2.c3,x.1.dz,x.1.bss,x.2.a5,x.1.rz.length,x.2.c5,x.1.rz,x.2.a6,x.1.ss.length,x.2.c6,x.1.ss,x.2.a7,x.1.es.length,x.2.c7,x.1.es⟩
def ModO.keptT (d:TypeId)(p:d=128\/d=43){S:Nat->Prop}{W a:qw}{base:Nat}{x:PMod×Mb}(h:MOb W base x)(j:Turn S W a)(hS:∀{t:TypeId}{sz n:Nat}{v:Value}{xs:List Value},W.ownsRow base t sz v n xs->t≠d->∀k,v.ownBlock=some k->¬S k):MOb a base x:=by
 have row:∀{t:TypeId}{sz n:Nat}{v:Value}{xs:List Value},W.ownsRow base t sz v n xs->t≠d->a.ownsRow base t sz v n xs:=λ{t}{sz}{n}{v}{xs}i e=>by
  have l:=hS i e;obtain⟨b,y|⟨g,s,u,q,G,H,A,C,D,E⟩⟩:=i
  .exact⟨b,.inl y⟩
  .exact⟨b,.inr ⟨g,s,u,q,G,aC (w:=W) j H (l g (by rw[q];rfl)),A,C,D,E⟩⟩
 rcases p with rfl|rfl
 all_goals exact⟨row h.t Ja,⟨row h.b.head Ja,λB f=>⟨(h.b.rows B f).1,row (h.b.rows B f).2 Ja⟩,h.b.apart⟩,h.bls,⟨row h.d.1 Ja,h.d.2⟩,row h.r Ja,row h.i Ja,row h.e Ja,h.tb,h.tr,h.br⟩
def ModO.keptS:=@ModO.keptT 128$ .inl rfl
def ModO.blw {W a:qw}{x:PMod×Mb}(h:MOb W base x)(d:qY W a):MOb a base x:=ModO.keptS h (S:=λ_=>False) (aG d) λ_ _ _ _ s=>s
structure OMp (W:qw)(base:Nat)(v:Value)(L:List (PMod×Mb))(β:Nat->Nat):Prop where
 o:OG 128 8 clB W base v L
 m:∀(i:Nat)(x:PMod×Mb),L[i]?=some x->MOb W (β i) x/\PmG x.1/\∀j,Sh (hdP x).1 j->j<β (i+1)
 mono:∀i k,i<=k->k<=L.length->β i<=β k
 lo:base<=β 0
 hi:β L.length<=W.heap.size
def OMp.bw {W a:qw}{L:List (PMod×Mb)}(H:OMp W base v L β)(d:qY W a):OMp a base v L β:=⟨H.o.bw d,λi x hx=>⟨ModO.blw (H.m i x hx).1 d,(H.m i x hx).2⟩,H.mono,H.lo,xM H.hi d.size⟩
def aQn (L:List (PMod×Mb)):(L.map hdP).flatMap clH=L.flatMap clB:=by
 rw[List.flatMap_map];rfl
def OMp.oms {W:qw}{L:List (PMod×Mb)}(H:OMp W base v L β):OMs W base v (L.map hdP) β where
 o:=by
  have o:=H.o;unfold OG at o⊢;rw[xH,aQn];exact o
 m:=λi y d=>by
  rw[List.getElem?_map,Option.map_eq_some_iff]at d;obtain⟨x,hx,rfl⟩:=d;let⟨a,b,e⟩:=H.m i x hx;exact⟨ModO.m6G a b,e⟩
 mono:=by rw[xH];exact H.mono
theorem OMp.msd {W:qw}{L:List (PMod×Mb)}(H:OMp W base v L β)(p:L.length<=1048576):∃a cap,v=qS a L.length cap/\MSD W a L.length cap (L.map mdP):=by
 obtain⟨a,cap,rfl⟩:=aZ H.o;refine⟨a,cap,rfl,?_⟩;have d:∀i,i<L.length->∃x,L[i]?=some x/\(L.map mdP).getD i aM=mdP x:=λi hi=>⟨L[i],xN hi,by simp[xB,hi]⟩
 have hd:∀i,i<L.length->((L.map mdP).getD i aM).md W:=λi hi=>by
  let⟨x,hx,e⟩:=d i hi;rw[e];exact ModO.mdG (H.m i x hx).1 (H.m i x hx).2.1
 refine⟨⟨Jb,Jf,λb=>?_,λi hi=>?_,?_⟩,hd⟩
 .have⟨g,cp,e,_⟩:=World.ownsRow.form H.o J;obtain⟨rfl,-,rfl⟩:=e;refine⟨g,0,rfl,λi hi=>?_⟩;let⟨x,hx,e⟩:=d i hi;rw[e,Nat.zero_add]
  have k:∀j,j<8->∀u,(clB x)[j]?=some u->qN W g (i*8+j)=some u:=λj l u hu=>by
   have q:=World.ownsRow.cells H.o (g:=g) rfl _ _$ (aE2 (λ_=>rfl) L i x hx j l).trans hu
   rwa[cE,Nat.zero_add]at q
  exact⟨k 0 J _ rfl,k 1 J _ rfl,k 2 J _ rfl,k 3 J _ rfl,k 4 J _ rfl,k 5 J _ rfl,k 6 J _ rfl,k 7 J _ rfl⟩
 .have⟨x,hx,e⟩:=d i hi;have q:=hd i hi;rw[e]at q⊢;exact aPm q
 .obtain⟨_,s|⟨g,cp,f,y,_,_,A,_⟩⟩:=H.o
  .grind
  .grind
def OMp.pms {W:qw}{L:List (PMod×Mb)}(H:OMp W base v L β):aI (L.map mdP)=L.map (λx=>x.1):=by
 unfold aI;rw[List.map_map];apply List.ext_getElem
 .simp
 .intro i d f;simp only[xH]at d;have e:=(H.m i L[i] (xN d)).1.bls;simp only[List.getElem_map,Function.comp];generalize L[i]=x at *;obtain⟨⟨j,l,a,g,b,k,ss,es⟩,y⟩:=x;simp only[Md.pm,mdP]at e⊢;rw[e]
def bup (β:Nat->Nat)(n a b:Nat)(j:Nat):Nat:=if j<=n then (if j=n then a else β j) else b
theorem OMp.push {W f w2 w4:qw}{L:List (PMod×Mb)}{x:PMod×Mb}(H:OMp W base (qS a n c) L β)(p:L.length=n)(M:qY W f)(O:MOb f W.heap.size x)(R:PmG x.1)(I:qY f w2)(A:w4.ownsRow base 128 8 v' (n+1) (L.flatMap clB++clB x))(d:w2.grownBy w4 (qS a n c).ownBlock):OMp w4 base v' (L++[x]) (bup β n W.heap.size f.heap.size):=by
 have D:qY W w2:=yT M I;have N:=H.bw D;have T:Turn (λj=>(qS a n c).ownBlock=some j) w2 w4:=⟨d.os,d.tape,d.output,d.size,λj E hs=>d.block j E λe=>hs e.symm⟩
 have K:∀{b:Nat}{y:PMod×Mb},MOb w2 b y->MOb w4 b y:=λl=>ModO.keptS l T (λQ G k B s=>by
  let⟨w,g⟩:=aE Q B;let⟨c2,t⟩:=aE N.o s
  exact G$ aH g t)
 have:∀i,i<n->bup β n W.heap.size f.heap.size i=β i:=λi hi=>by unfold bup;rw[if_pos J,if_neg J]
 have C:bup β n W.heap.size f.heap.size n=W.heap.size:=by unfold bup;rw[if_pos J,if_pos rfl]
 have u:bup β n W.heap.size f.heap.size (n+1)=f.heap.size:=by unfold bup;rw[if_neg J]
 have hi:=H.hi;rw[p]at hi;have mono:=H.mono;rw[p]at mono;refine⟨?_,λi y l=>?_,λi k V B=>?_,?_,?_⟩
 .unfold OG;rw[xI,p,xU,xX];exact A
 .by_cases e:i=n
  .subst e;rw[List.getElem?_append_right J,p,Nat.sub_self]at l;simp at l;subst l;rw[C,u];exact⟨K$ ModO.blw O I,R,λj E=>(M6h.sh (x:=hdP x) (ModO.m6G O R) E).1.2⟩
  .have q:=lR l;rw[xI,p]at q;simp at q;rw[List.getElem?_append_left J]at l;let⟨P,S,U⟩:=N.m i y l
   grind
 .rw[xI,p]at B;simp at B;have:=M.size;unfold bup
  grind
 .have Z:=H.lo;unfold bup
  grind
 .rw[xI,p];show bup β n (qs W) (qs f) (n+1)<=_;rw[u];have:=I.size;have:=d.size;omega
def OMp.turn {W a:qw}{L:List (PMod×Mb)}(H:OMp W base v L β)(t:Turn S W a)(hS:∀j,S j->j<base):OMp a base v L β:=
 ⟨H.o.kept t λk d s=>jL ((H.o.lt k d).1)$ hS k s,λi x hx=>⟨ModO.keptS (H.m i x hx).1 t (λe _ k d s=>by
  have:=(World.ownsRow.lt e k d).1;have:=hS k s;have:=H.mono 0 i (xC _)$ Nat.le_of_lt$ lR hx;have:=H.lo
  omega),(H.m i x hx).2⟩,H.mono,H.lo,xM H.hi t.size⟩
def ModO.keptU {W a:qw}{x:PMod×Mb}(h:MOb W base x)(l:Turn S W a)(hu:∀j,Sh (hdP x).1 j->¬S j)(f:∀j cs,Blk W j cs 25->¬S j):MOb a base x:=by
 have row:∀{t:TypeId}{sz n:Nat}{v:Value}{xs:List Value},W.ownsRow base t sz v n xs->(∀k,v.ownBlock=some k->¬S k)->a.ownsRow base t sz v n xs:=λ{t}{sz}{n}{v}{xs}p d=>by
  obtain⟨b,A|⟨g,u,y,q,G,H,C,f,D,E⟩⟩:=p
  .exact⟨b,.inl A⟩
  .exact⟨b,.inr ⟨g,u,y,q,G,aC (w:=W) l H (d g (by rw[q];rfl)),C,f,D,E⟩⟩
 exact⟨row h.t λk d=>hu k$ .inl d,⟨row h.b.head (λk d s=>by obtain⟨c,kb⟩:=aE h.b.head d;exact f k c kb s),λB e=>⟨(h.b.rows B e).1,row (h.b.rows B e).2 (λk d=>hu k (.inr (.inl (by
  obtain⟨i,hi,rfl⟩:=List.getElem_of_mem e
  exact⟨i,hi,by simpa[hdP,bkF,xB,hi]using d⟩))))⟩,h.b.apart⟩,h.bls,⟨row h.d.1 λk d=>hu k$ .inr$ .inr$ .inl d,h.d.2⟩,row h.r λk d=>hu k$ .inr$ .inr$ .inr$ .inl d,row h.i λk d=>hu k$ .inr$ .inr$ .inr$ .inr$ .inl d,row h.e λk d=>hu k$ .inr$ .inr$ .inr$ .inr$ .inr d,h.tb,h.tr,h.br⟩
theorem OMp.keep {W a:qw}{L:List (PMod×Mb)}(H:OMp W base v L β)(t:Turn S W a)(d:∀j,v.ownBlock=some j->¬S j)(hS:∀j,S j->β L.length<=j)(e:∀j cs,Blk W j cs 25->¬S j):OMp a base v L β:=
 ⟨H.o.kept t d,λi x hx=>⟨ModO.keptU (H.m i x hx).1 t (λj f s=>by
  have:=(H.m i x hx).2.2 j f;have:=H.mono (i+1) L.length (lR hx) aQ
  grind) e,(H.m i x hx).2⟩,H.mono,H.lo,xM H.hi t.size⟩
theorem aSg (W base)(d:base<=W.heap.size):OMp W base (qS none 0 0) [] (λ_=>W.heap.size):=⟨mW _ _ _ _ _,λi x hx=>by grind,λ_ _ _ _=>aQ,d,aQ⟩
def pcd (zss:List (List Int))(i:Nat):Int:=(prs$ zss.getD i []).1
def aJq (W:qw)(row):W.grownBy W row:=⟨rfl,rfl,rfl,aQ,λ_ _ _=>rfl⟩
def Srd {α:Type}(f:α->List Value)(W:qw)(a:qO)(n c:Nat)(ys:List α):Prop:=ys.length=n/\((a=none/\n=0/\c=0)\/∃g off,a=some (qR g off)/\∀j u,(ys.flatMap f)[j]?=some u->W.cell? (qR g$ off+j)=some u)
def Srd.bw {α:Type}{f:α->List Value}{W b:qw}{ys:List α}(h:Srd f W a n c ys)(d:qY W b):Srd f b a n c ys:=by
 obtain⟨i,l|⟨g,off,e,k⟩⟩:=h
 .exact⟨i,.inl l⟩
 .exact⟨i,.inr ⟨g,off,e,λj u hu=>(d.cell$ xD W _$ k j u hu).trans$ k j u hu⟩⟩
theorem jV {α:Type}{t:TypeId}{f:α->List Value}{W:qw}{ys:List α}(h:OG t sz f W b (qS a n c) ys):Srd f W a n c ys:=by
 let⟨i,k,e⟩:=aZ h;obtain⟨rfl,rfl,rfl⟩:=e;refine⟨rfl,?_⟩;obtain⟨_,⟨s,_⟩|⟨g,l,p,d,_⟩⟩:=id h
 .grind
 .simp only[Value.slice.injEq]at d;obtain⟨rfl,-,rfl⟩:=d;exact .inr ⟨g,0,rfl,λj u hu=>by have q:=World.ownsRow.cells h (g:=g) rfl j u hu;rwa[cE]at q⟩
theorem aFo {α:Type}{f:α->List Value}{C:Act}{K:Act->World->Prop}{Q:Exit->Act->World->Prop}{W:qw}(s x t)
 (I:o.op=.call { callee:=.builtin .append,args:=#[s,x],argTypes:=#[t,t] })
 (base e i z size S) (M:prog.underlying t=some (.slice e)) (hi:prog.info? e=some i) (hz:i.zero=some z)
 (l:i.size=size) (D:i.bytes=S) (H:z.cells.size=size) (G:0<size)
 (v xs) (hs:C.eval s=v) (k:OG e size f W base v xs)
 (sa sn X a) (hx:C.eval x=qS sa sn X) (E:Srd f W sa sn X a) (U:∀y,(f y).length=size) (h1:∀y,∀u∈f y,u.oneCell'=true)
 (q:xs.length+a.length<=maxLen) (d:(xs.length+a.length)*S<=140737488355328) (p:base<=W.heap.size)
 (h:∀v' b,OG e size f b base v' (xs++a)->W.grownBy b v.ownBlock->K (C.put o.dst v') b):o.wp prog C W K Q:=by
 have A:∀{v':Value}{b:qw},b.ownsRow base e size v' (xs.length+a.length) (xs.flatMap f++a.flatMap f)->OG e size f b base v' (xs++a):=λZ=>by
  unfold OG
  grind
 obtain⟨rfl,⟨rfl,hn,rfl⟩|⟨g,off,rfl,Y⟩⟩:=E
 .obtain rfl:a=[]:=xE hn;have B:=run_append_owned_none (P:=prog) (w:=W) base t o.type e i size M hi v xs.length (xs.flatMap f) k;unfold Oper.wp;simp[execOp,I,resolve,invoke,builtin,hs,hx,B,Result.andThen];exact h v W (by grind)$ aJq _ _
 .have N:(a.flatMap f).length=a.length*size:=by
   clear Y h A hx q d
   induction a with
   | nil=>simp
   | cons y a ih=>rw[xT,xI,U,ih,List.length_cons,Nat.add_mul];omega
  refine wp_append_own W s x t I base e i z size S M hi hz l D H G v xs.length (xs.flatMap f) hs k (qR g off) a.length X (a.flatMap f) hx N (λj u hu=>by rw[cE];exact Y j u hu) (λu hu=>?_) q d p λv' b O V _=>h v' b (A O) V
  grind
def dO {α:Type}{f:α->List Value}{l:Array Oper}{rest:List Oper}{q:Act}{Q:Exit->Act->World->Prop}{W:qw}(C:o.guard=none)(s x t)
 (H:o.op=.call { callee:=.builtin .append,args:=#[s,x],argTypes:=#[t,t] })
 (base e i z size g) (M:prog.underlying t=some (.slice e)) (hi:prog.info? e=some i) (hz:i.zero=some z)
 (j:i.size=size) (B:i.bytes=g) (G:z.cells.size=size) (E:0<size)
 (v xs) (hs:q.eval s=v) (p:OG e size f W base v xs)
 (w S P b) (hx:q.eval x=qS w S P) (D:Srd f W w S P b) (N:∀y,(f y).length=size) (O:∀y,∀u∈f y,u.oneCell'=true)
 (A:xs.length+b.length<=maxLen) (d:(xs.length+b.length)*g<=140737488355328) (k:base<=W.heap.size)
 (h:∀v' a,OG e size f a base v' (xs++b)->W.grownBy a v.ownBlock->wpList prog l Q rest (q.put o.dst v') a):wpList prog l Q (o::rest) q W:=
 wpList_plain C λ_ I=>aFo s x t H base e i z size g M hi hz j B G E v xs hs p w S P b hx D N O A d k λv' a K U=>I _ _$ h v' a K U
def vZ {α:Type}{f:α->List Value}{p:Array Oper}{l:Act}{K:Act->World->Prop}{Q:Exit->Act->World->Prop}{E:Prop}{W:qw}(C:o.guard=none)(s x t)
 (I:o.op=.call { callee:=.builtin .append,args:=#[s,x],argTypes:=#[t,t] })
 (base e i z size b) (N:prog.underlying t=some (.slice e)) (hi:prog.info? e=some i) (hz:i.zero=some z)
 (j:i.size=size) (B:i.bytes=b) (H:z.cells.size=size) (G:0<size)
 (v xs) (hs:l.eval s=v) (q:OG e size f W base v xs)
 (g P w a) (hx:l.eval x=qS g P w) (D:Srd f W g P w a) (O:∀y,(f y).length=size) (U:∀y,∀u∈f y,u.oneCell'=true)
 (A:xs.length+a.length<=maxLen) (d:(xs.length+a.length)*b<=140737488355328) (k:base<=W.heap.size)
 (h:∀v' S,OG e size f S base v' (xs++a)->W.grownBy S v.ownBlock->K (l.put o.dst v') S):
 if Region.wanted o (yielded p l.tmps)=true then Oper.wp prog o l W K Q else E:=by
 have M:Region.wanted o (yielded p l.tmps)=true:=by simp[Region.wanted,C]
 rw[if_pos M];exact aFo s x t I base e i z size b N hi hz j B H G v xs hs q g P w a hx D O U A d k h
structure Cpm (W0 X:qw)(gm:Nat)(cs:Array Value):Prop where
 b:qY W0 X
 k:Blk X gm cs 128
 g:W0.heap.size<=gm
def Cpm.bw {a X d:qw}(h:Cpm a X gm cs)(e:qY X d):Cpm a d gm cs:=⟨h.b.trans$ e.mono h.b.size,h.k.bw e,h.g⟩
theorem Cpm.grown {a X A X':qw}(h:Cpm a X gm cs)(ha:qY X A)(i:X.heap.size<=g)(G:A.grownBy X' (some g)):Cpm a X' gm cs/\Turn (λj=>j=gm\/X.heap.size<=j) X X':=by
 have T:Turn (λj=>j=gm\/X.heap.size<=j) X X':=(aG ha).trans ⟨G.os,G.tape,G.output,G.size,λk d hs=>G.block k d λe=>hs$ .inr (by grind)⟩;have:=h.k.lt;exact⟨⟨aF (yT h.b ha) (S:=λk=>k=g) ⟨G.os,G.tape,G.output,G.size,λk d hs=>G.block k d λe=>hs (by grind)⟩ (λk d=>jK h.b.size)$ xM h.b.size ha.size,bL G (h.k.bw ha) (λe=>by grind),h.g⟩,T⟩
def Cpm.set {a X:qw}(h:Cpm a X gm cs)(j u):Cpm a (X.setCell (qR gm j) u) gm (cs.setIfInBounds j u)/\Turn (λk=>k=gm) X (X.setCell (qR gm j) u):=⟨⟨aF h.b (aD X gm j u) (λk d=>jK h.g) h.b.size,h.k.set j u,h.g⟩,aD X gm j u⟩
def cV {X f:qw}{t:TypeId}{xs:List Value}(T:Turn (λj=>j=gm\/X.heap.size<=j) X f)(i:Blk X gm cs 128)(h:X.ownsRow b t sz v n xs)(e:t≠128):f.ownsRow b t sz v n xs:=by
 have d:∀k,v.ownBlock=some k->¬(k=gm\/X.heap.size<=k):=λk d s=>by
  rcases s with rfl|s
  .have⟨c,kb⟩:=aE h d;exact e$ aH kb i
  .have:=(World.ownsRow.lt h k d).2;omega
 obtain⟨a,u|⟨g,p,q,l,C,D,x,y,A,B⟩⟩:=h
 .exact⟨a,.inl u⟩
 .exact⟨a,.inr ⟨g,p,q,l,C,aC (w:=X) T D (d g (by rw[l];rfl)),x,y,A,B⟩⟩
def Cpm.row {α:Type}{f:α->List Value}{b X w':qw}{t:TypeId}{l:List α}(h:Cpm b X gm cs)(j)(O:OG t sz f w' X.heap.size v' l)(d:t≠128)(G:(X.alloc$ .cells #[] t).grownBy w' (some X.heap.size)):
 Blk w' gm cs 128/\Cpm b (w'.setCell (qR gm j) v') gm (cs.setIfInBounds j v')/\OG t sz f (w'.setCell (qR gm j) v') X.heap.size v' l/\Turn (λj=>j=gm\/X.heap.size<=j) X (w'.setCell (qR gm j) v'):=by
 let⟨a,p⟩:=h.grown bal aQ G;let⟨c2,g⟩:=a.set j v';refine⟨a.k,c2,O.kept g λk i e=>?_,p.trans$ g.mono λk i=>.inl i⟩;subst e;let⟨c,kb⟩:=aE O i;exact d$ aH kb a.k
def aFn (w:qw)(b l c:Int)(q:Nat)(e:Ending)(w':qw):Prop:=
 ∃o:Int,e=.returned (.tuple #[.agg #[qI b,qI l,qI o,.bool false,.bool false,.bool false],qI c])/\(0<c->o=255-(q:Int))/\qY w w'
def aFi (w W tmps b l o c)(q:Nat)(f:tmps[6]?=some (.pointer$ qP w.heap.size))(i:tmps[7]?=some (qI c))
 (hz:Blk W w.heap.size #[qI b,qI l,qI o,.bool false,.bool false,.bool false] 231) (d:qY w W) (e:0<c->o=255-(q:Int)):
 bodyPost prog f249 (aFn w b l c q) Exit.ret ⟨tmps,[]⟩ W:=by
 refine bodyPost_ret (v:=.tuple #[.agg #[qI b,qI l,qI o,.bool false,.bool false,.bool false],qI c]) ?_ rfl ⟨o,rfl,e,d⟩;let⟨a,g,j,k,p,s,t⟩:=hz.six';simp[results,results249,go_sem,f,i,a,g,j,k,p,s]
def aFh {d:qw}(hz:Blk d g #[qI 0,qI 0,qI 0,.bool false,.bool false,.bool false] 231)(b l o):
 Blk ((((((d.setCell (qR g 0)$ qI b).setCell (qR g 1)$ qI l).setCell (qR g 2)$ qI o).setCell (qR g 3)$ .bool false).setCell (qR g 4)$ .bool false).setCell (qR g 5)$ .bool false) g #[qI b,qI l,qI o,.bool false,.bool false,.bool false] 231:=
 Blk.set (Blk.set (Blk.set (Blk.set (Blk.set (Blk.set hz 0 _) 1 _) 2 _) 3 _) 4 _) 5 _
def nN {B:Nat}{w e:qw}(d:B<=g)(h:Below B w e)(b l o):
 Below B w ((((((e.setCell (qR g 0)$ qI b).setCell (qR g 1)$ qI l).setCell (qR g 2)$ qI o).setCell (qR g 3)$ .bool false).setCell (qR g 4)$ .bool false).setCell (qR g 5)$ .bool false):=
 (((((h.setCell d _).setCell d _).setCell d _).setCell d _).setCell d _).setCell d _
def aBm (a s l w)(C:5<=l)(A:l<8)(ha:0<=a)(hs:0<s)(H:a+s<=262144):
 qC 249 (qT l a s) w (aFn w (bE a l) l (cnt l$ qOf a (a+s) l)$ qOf a (a+s) l):=by
 obtain⟨P,V⟩:∃P,(2:Int)^(l-3).toNat=P:=⟨_,rfl⟩;obtain⟨N,S⟩:∃N,(2:Int)^l.toNat=N:=⟨_,rfl⟩;let⟨g1,g2,g3,g4,g5,g6,g7⟩:=qU a l P N C J V S ha J;let⟨b0,b1,Z,b3,b4⟩:=mG a l N C J S ha;have y:=rX a N ha J;let⟨b,W⟩:=aO$ a-a%N;have q:bE a l=b:=by unfold bE;rw[S,W]
 rw[<-W]at b0 b1 Z y;have u:=zh λw=>cD l J J w;rw[S]at u;have p:(Lit.int .i64 b).wf=true:=by simp[Lit.wf,IntKind.min,IntKind.max,IntKind.bits,IntKind.signed];omega
 have E:=zh λw=>jT b l 0 false false false w p;have f:rok b l 0=true:=by unfold rok;rw[S];simp;omega
 rw[f]at E;rw[q]
 have I:8*P<=1024:=by
  have:l=5\/l=6\/l=7:=J
  rcases this with rfl|rfl|rfl<;>(simp at V;omega)
 have k:=zh (show ∀c:Bool,(c=true ↔ (a=b/\N<=s))->qOf a (a+s) l=(if c then 255 else 0)/\cnt l (qOf a (a+s) l)=(if c then N else 0)by
  intro c hc
  have e:qOf a (a+s) l=(if c then 255 else 0):=by
   unfold qOf;rw[if_pos A,S];cases c
   .rw[if_neg (by simp at hc;omega)];rfl
   .have:=hc.1 rfl;rw[if_pos J];rfl
  refine⟨e,?_⟩;rw[e];cases c
  .exact nI l
  .show cnt l 255=N;unfold cnt;rw[V,show uM 255=8 from rfl,g1]
   rfl)
 have G:0<N:=J
 clear V S g1 g2 g3 g4 g5 g6 g7 f q I Z b3 b4 W p
 delta qC;go_in
 go_wp2_with fail
 apply(u _).mono;rintro e O ⟨rfl,rfl⟩;go_wp2_with fail
 apply(E _).mono;rintro e U ⟨rfl,d⟩;have Y:=((Blk.new w #[qI 0,qI 0,qI 0,.bool false,.bool false,.bool false] 231).alloc$ .cells #[qI b,qI l,qI 0,.bool false,.bool false,.bool false] 231).bw d;have B:=(Blk.new (qm w #[qI 0,qI 0,qI 0,.bool false,.bool false,.bool false] 231) #[qI b,qI l,qI 0,.bool false,.bool false,.bool false] 231).bw d;try unfold qY at *
 simp only[xF]at B;have j:=zh$ (((Below.refl w.heap.size w).alloc aQ$ .cells #[qI 0,qI 0,qI 0,.bool false,.bool false,.bool false] 231).alloc Jb$ .cells #[qI b,qI l,qI 0,.bool false,.bool false,.bool false] 231).trans$ d.mono Jc;have M:=Y.six';have Q:=B.six';have x:=zh Y;clear Y B d;by_cases i:b=a
 .subst i;by_cases K:s<N
  .have⟨g,t⟩:=k.o false Jc;have X:=zh$ xA g t;clear g t k;go_wp2;rw[X.o.2,X.o.1];exact aFi w _ _ b l 0 0 0 rfl rfl (aFh x b l 0) (nN aQ j b l 0) λh=>absurd h J
  .have⟨g,t⟩:=k.o true Jc;have X:=zh$ xA g t;clear g t k;go_wp2;rw[X.o.2,X.o.1];exact aFi w _ _ b l 0 N 255 rfl rfl (aFh x b l 0) (nN aQ j b l 0) λ_=>rfl
 .have⟨g,t⟩:=k.o false Jc;have X:=zh$ xA g t;have D:(b !=a)=true:=by simpa using i
  clear g t k i;go_wp2;rw[X.o.2,X.o.1];exact aFi w _ _ b l 0 0 0 rfl rfl (aFh x b l 0) (nN aQ j b l 0) λh=>absurd h J
def aG6 (a s l w)(hl:8<=l)(ae:l<=14)(ha:0<=a)(hs:0<s)(af:a+s<=262144):
 qC 249 (qT l a s) w (aFn w (bE a l) l (cnt l$ qOf a (a+s) l)$ qOf a (a+s) l):=by
 obtain⟨P,hP⟩:∃P,(2:Int)^(l-3).toNat=P:=⟨_,rfl⟩;obtain⟨N,t⟩:∃N,(2:Int)^l.toNat=N:=⟨_,rfl⟩;obtain⟨g1,g2,g3,g4,g,g6,g7⟩:=qU a l P N J J hP t ha J;obtain⟨b0,b1,b2,b3,b4⟩:=mG a l N J J t ha;have V:=rX a N ha J;have f:=aXa a (a+s) l g;have Z:=zh$ aR6 a (a+s) l P N J ae hP t ha J af
 have HQ:=zh (show qOf a (a+s) l=bT (cR a l) (jj a (a+s) l)/\cnt l (qOf a (a+s) l)=(jj a (a+s) l:Int)*P by
  have e:=aO0 a (a+s) l hl;refine⟨e,?_⟩;rw[e]
  exact oD l P hP _ _ g f)
 obtain⟨b,hb⟩:=aO$ a-a%N;have O:bE a l=b:=by unfold bE;rw[t,hb]
 rw[<-hb]at b0 b1 b2 V;have a4:=zh λw=>cD l J J w;rw[t]at a4;have M:(Lit.int .i64 b).wf=true:=by simp[Lit.wf,IntKind.min,IntKind.max,IntKind.bits,IntKind.signed];omega
 have HR:=zh λw=>jT b l 0 false false false w M;have B:rok b l 0=true:=by unfold rok;rw[t];simp;omega
 rw[B]at HR;rw[O]at Z⊢;generalize cR a l=d at *;generalize jj a (a+s) l=j at *;generalize qOf a (a+s) l=q at *;have Q:N/8=P:=J
 have ah:N<=16384:=J
 have ac:0<N:=J
 clear hP t g1 g4 g6 g7 B O b2 b3 b4 hb M;go_enter func249,ntmps249
 go_wp2_with fail
 apply(a4.o _).mono;rintro e w1 ⟨rfl,rfl⟩;go_wp2_with fail
 apply(HR.o _).mono;rintro e w2 ⟨rfl,y⟩;have S:=((Blk.new w #[qI 0,qI 0,qI 0,.bool false,.bool false,.bool false] 231).alloc$ .cells #[qI b,qI l,qI 0,.bool false,.bool false,.bool false] 231).bw y;have H:=(Blk.new (w.alloc$ .cells #[qI 0,qI 0,qI 0,.bool false,.bool false,.bool false] 231) #[qI b,qI l,qI 0,.bool false,.bool false,.bool false] 231).bw y;try unfold qY at *
 simp only[xF]at H;have a8:=zh$ (((Below.refl w.heap.size w).alloc aQ$ .cells #[qI 0,qI 0,qI 0,.bool false,.bool false,.bool false] 231).alloc Jb$ .cells #[qI b,qI l,qI 0,.bool false,.bool false,.bool false] 231).trans$ y.mono Jc;have KZ:=zh S;have KR:=zh H;clear S H y;go_wp2_with fail
 rw[Q];have ao:b<=262144:=J
 clear Q V b1 ah ac
 have am:=zh (show ∀i,i<=8->∃o,o=2^i-1-bT d (ci d j i)/\o<=255 from λi hi=>⟨_,rfl,by
  have:2^i<=2^8:=Nat.pow_le_pow_right J hi
  omega⟩)
 go_loopw [12,13] (λc x wr=>∃(i o:Nat),i<=8/\c=qI ((ci d j i:Int)*P)/\x=qI (i:Int)/\o=2^i-1-bT d (ci d j i)/\Blk wr (w.heap.size+1) #[qI b,qI l,qI (o:Int),.bool false,.bool false,.bool false] 231/\Blk wr w.heap.size #[qI 0,qI 0,qI 0,.bool false,.bool false,.bool false] 231/\qY w wr) (λ_ x _=>8-(intOf x).toNat)
 .have h0:ci d j 0=0:=by simp[ci]
  exact⟨0,0,J,by rw[h0];simp,rfl,Jb,KR.o,KZ.o,a8.o⟩
 .obtain⟨i,o,hi,rfl,rfl,ho,H,S,hB⟩:=hrel
  have ap:o<=255:=by
   have:2^i<=2^8:=Nat.pow_le_pow_right J hi;omega
  have au:ci d j i<=8:=by unfold ci;omega
  obtain⟨c,hc⟩:∃c:Int,c=(ci d j i:Int)*P:=⟨_,rfl⟩;have aw:0<=c:=by rw[hc];exact Int.mul_nonneg J J
  have av:c<=16384:=by
   have:(ci d j i:Int)*P<=8*P:=Int.mul_le_mul_of_nonneg_right J J;omega
  have E:=zh hc;rw[<-hc];have C:=zh ho;have HB:=zh hB;have K:=zh H;have G:=zh S;obtain⟨q1,q2,q3,q4,q5,q6,q7⟩:=S.six';obtain⟨p1,p2,p3,p4,p5,p6,p7⟩:=H.six';clear hc ho H S hB a8 KZ KR;by_cases h8:i<8
  .have aj:0<=(i:Int)*P:=Int.mul_nonneg J J
   have ak:(i:Int)*P<=16384:=by
    have:(i:Int)*P<=8*P:=Int.mul_le_mul_of_nonneg_right J J;omega
   have A:=Z.o i h8;by_cases hp:d<=i/\i<d+j
   .obtain⟨k1,k2,k3⟩:=A.2 hp;have Y:=zh$ aXi d g j J i h8 hp;clear A hp;go_wp2_with fail
    constructor
    .exact⟨i+1,o,J,by rw[Y.o.1,E.o];congr 1;rw[Int.natCast_add,Int.add_mul];simp,by go_num,by rw[C.o];exact Y.o.2,K.o,G.o,HB.o⟩
    .simp[intOf];omega
   .have Y:=zh$ aVw d g j J i h8 ⟨J,f⟩;obtain⟨X,hX⟩:∃X:Nat,X=2^i:=⟨_,rfl⟩
    have ar:X<=256:=by
     have:2^i<=2^8:=Nat.pow_le_pow_right J hi;omega
    have I:Zh (∀w,qC 174 #[qI (i:Int)] w λe w'=>e=.returned (qI (X:Int))/\w'=w):=λw=>(cD (i:Int) J J w).mono λe w' h=>⟨by rw[h.1,hX];simp,h.2⟩;have HX:=zh hX
    have ad:(b+(i:Int)*P<a)\/(a<=b+(i:Int)*P/\a+s<b+(i:Int)*P+P)\/(a<=b+(i:Int)*P/\b+(i:Int)*P+P<=a+s/\a%P≠0):=by
     by_cases U:a<=b+(i:Int)*P
     .by_cases u2:b+(i:Int)*P+P<=a+s
      .exact Or.inr (Or.inr ⟨U,u2,λu3=>hp$ A.1 ⟨U,u2,u3⟩⟩)
      .exact Or.inr (Or.inl ⟨U,J⟩)
     .exact Or.inl J
    clear A hp hX
    have k:=zh (show ∀W,W=(wr.setCell (qR (w.heap.size+1) 2)$ qI$ (o:Int)+(X:Int)).drew->∃(p o:Nat),p<=8/\qI c=qI ((ci d j p:Int)*P)/\qI ((i:Int)+1)=qI (p:Int)/\o=2^p-1-bT d (ci d j p)/\Blk W (w.heap.size+1) #[qI b,qI l,qI (o:Int),.bool false,.bool false,.bool false] 231/\Blk W w.heap.size #[qI 0,qI 0,qI 0,.bool false,.bool false,.bool false] 231/\qY w W by
     rintro W rfl;refine⟨i+1,o+X,J,by rw[Y.o.1,E.o],Jb,by rw[C.o,HX.o];exact Y.o.2,?_,(show Blk (wr.setCell (qR (w.heap.size+1) 2)$ qI$ (o:Int)+(X:Int)) _ _ _ from Blk.other G.o _ _ Jb),(HB.o.setCell Jb _).drew⟩;have:=Blk.set K.o 2$ qI$ (o:Int)+(X:Int);rw[Int.natCast_add]
     exact this)
    have D:IntKind.i64.wrap ((o:Int)+(X:Int))=(o:Int)+(X:Int):=rZ;rcases ad with u|⟨U,u2⟩|⟨U,u2,u3⟩
    .go_wp2_with fail
     go_region_with (go_at_call 174;refine(I.o _).mono ?_;rintro e w3 ⟨rfl,rfl⟩)
     all_goals
      try rw[D]
      go_wp2_with fail
      constructor
      .exact k.o _ rfl
      .simp[intOf];omega
    .have an:¬(b+(i:Int)*P+P<=a+s):=J
     go_wp2_with fail
     all_goals first
      | (exfalso;omega)
      | (go_region_with (go_at_call 174;refine(I.o _).mono ?_;rintro e w3 ⟨rfl,rfl⟩)
         all_goals(try rw[D])
         all_goals go_wp2_with fail
         all_goals(refine⟨k.o _ rfl,?_⟩;simp[intOf];omega))
    .have aq:(a%P==0)=false:=by simpa using u3
     clear u3;go_wp2_with fail
     go_region_with (go_at_call 174;refine(I.o _).mono ?_;rintro e w3 ⟨rfl,rfl⟩)
     all_goals
      try rw[D]
      go_wp2_with fail
      constructor
      .exact k.o _ rfl
      .simp[intOf];omega
  .have ab:i=8:=J
   subst ab
   have hq:(o:Int)=255-(q:Int):=by
    have:=C.o;rw[aQz d g j J f,<-HQ.o.1]at this;have ai:q<256:=by rw[HQ.o.1];exact nQ d g j J f
    omega
   have a9:cnt l q=c:=by rw[HQ.o.2,E.o,aQz d g j J f]
   have ag:=zh a9;have aa:=zh hq;clear hq a9;go_wp2_with fail
   rw[ag.o];refine aFi w _ _ b l (o:Int) c q ?_ ?_ (aFh G.o b l (o:Int)) (nN aQ HB.o b l (o:Int)) λ_=>aa.o
   .rfl
   .rfl
def aJg (a s l w)(f:5<=l)(e:l<=14)(ha:0<=a)(hs:0<s)(d:a+s<=262144):
 qC 249 (qT l a s) w (aFn w (bE a l) l (cnt l$ qOf a (a+s) l)$ qOf a (a+s) l):=by
 by_cases h:l<8
 .exact aBm a s l w f h ha hs d
 .exact aG6 a s l w J e ha hs d
def aIf (f s w)(G:-9223372036854775808<=f/\f<=9223372036854775807)(E:-9223372036854775808<=s/\s<=9223372036854775807)(h:vC f s=false):
 qC 167 #[qI f,qI s] w (pS w false []):=by
 have B:=zh$ wP w (qs w) aQ;have D:=zh$ (Below.refl (qs w) w).alloc aQ$ .cells #[] 231
 have q:=zh (show ∀e W,W=qm w #[] 231->e=Ending.returned (.tuple #[qS (qp w) 0 0,.bool false])->pS w false [] e W by
  rintro e W rfl rfl
  exact⟨_,0,0,rfl,B,D⟩)
 have l:f<0\/(0<=f/\s<0)\/(0<=f/\0<=s/\262144<f)\/(0<=f/\0<=s/\f<=262144/\262144<s)\/(0<=f/\0<=s/\f<=262144/\s<=262144/\262144<f+s)\/(0<=f/\0<=s/\f<=262144/\s<=262144/\f+s<=262144/\f%32≠0)\/(0<=f/\0<=s/\f<=262144/\s<=262144/\f+s<=262144/\f%32=0/\s%32≠0):=by
  unfold vC grn at h;simp at h;omega
 clear h;rcases l with u|⟨d,j⟩|⟨d,j,k⟩|⟨d,j,k,p⟩|⟨d,j,k,p,y⟩|⟨d,j,k,p,y,i⟩|⟨d,j,k,p,y,i,A⟩
 case inr.inr.inr.inr.inr.inl=>
  have x:(f%32 !=0)=true:=by simpa using i
  clear i
  delta qC;go_in
  go_wp2
  go_ret2
  exact q _ _ rfl rfl
 case inr.inr.inr.inr.inr.inr=>
  have x:(f%32 !=0)=false:=by simpa using i
  have:(s%32 !=0)=true:=by simpa using A
  clear i A
  delta qC;go_in
  go_wp2
  go_ret2
  exact q _ _ rfl rfl
 all_goals
  delta qC;go_in
  go_wp2
  go_ret2
  exact q _ _ rfl rfl
def aFj:CSt->Array Value
 | none=>#[qI 0,qI 0,qI 0,.bool false,.bool false,.bool false]
 | some (b,l,q)=>#[qI b,qI l,qI$ 255-(q:Int),.bool false,.bool false,.bool false]
def aKd (s):∃x y z,aFj s=#[qI x,qI y,qI z,.bool false,.bool false,.bool false]:=by
 match s with
 | none=>exact⟨_,_,_,rfl⟩
 | some (b,l,q)=>exact⟨_,_,_,rfl⟩
def aRp (a f)(ha:0<=a)(d:a<f)(e:f<=262144)(n)(hn:n<=10):oZ (bZ a f n)<=262144:=by
 match h:bZ a f n with
 | none=>simp[oZ]
 | some (b,l,q)=>
   let⟨i,j,p,k⟩:=mB a f ha d e n hn b l q h;let⟨g,c2⟩:=aD4 a f l i j ha d e;rw[<-k]at g;simp only[oZ];omega
set_option maxRecDepth 100000 in
def aF7 (f s w)(hf:0<=f)(ac:f%32=0)(hs:0<=s)(b7:s%32=0)(be:s<=262144-f):
 qC 167 #[qI f,qI s] w (pS w true$ aAe f s):=by
 let⟨i0,hi,a7,b5,b6⟩:=info_parts aLa;let⟨L,hL⟩:=aO$ aAe f s;rw[<-hL];have HL:=zh hL;clear hL;have HO:=zh$ wP w w.heap.size aQ;have HB:=zh$ (Below.refl w.heap.size w).alloc aQ$ .cells #[] 231
 delta qC;go_in
 go_wp2_with fail
 go_loopw [0,1,6] (λx y r wr=>∃(A:qO) (m t:Nat) (rs:List Rg) (n:Nat) (a z:Int),x=qI a/\y=qI z/\r=qS A m t/\f<=a/\a+z=f+s/\0<=z/\a%32=0/\z<=32*(n:Int)/\m+n<=8192/\ORg wr w.heap.size (qS A m t) rs/\L=rs++gA (f+s) n a/\qY w wr) (λ_ y _ _=>(intOf y).toNat)
 .exact⟨_,0,0,[],(s/32).toNat,f,s,rfl,rfl,rfl,J,J,J,ac,J,J,HO.o,by rw[HL.o];rfl,HB.o⟩
 .obtain⟨A,m,t,rs,n,a,z,rfl,rfl,rfl,ha,ai,hz,am,hn,ba,hO,u,hB⟩:=hrel;let⟨w9,a6⟩:=aO$ wr;subst a6;by_cases b3:0<z
  .rw[<-ai]at u;have I:=(eV hO).1;let⟨b,l,q,hF,hl,a5,hq,a1,a2,a3,hb,_⟩:=aKa a (a+z) J J J am J;obtain⟨n,rfl⟩:∃n',n=n'+1:=⟨n-1,J⟩;rw[nH (a+z) n a b l q J hF]at u
   have:0<=b/\b<=262144:=by
    have:=mG a l _ hl a5 rfl;have:=pow_pos l.toNat;rw[hb];unfold bE;omega
   clear hb;have HF:=zh hF;have V:=zh u;have Q:=zh hO;have N:=zh hB;have B:=zh I;have b2:=zh ai;have b0:=hB.size;have KZ:=zh$ Blk.new w9 #[qI 0,qI 0,qI 0,.bool false,.bool false,.bool false] 231;clear u hO hB hF I HO HB;go_wp2_with fail
   go_loopw [8,9] (λmo lg wq=>∃(k:Nat),k<=10/\mo=qI (oZ$ bZ a (a+z) k)/\lg=qI (5+(k:Int))/\Blk wq w9.heap.size (aFj$ bZ a (a+z) k) 231/\qY w9 wq) (λ_ lg _=>15-(intOf lg).toNat)
   .exact⟨0,J,by rw[fE];rfl,rfl,by rw[fE];exact KZ.o,bal⟩
   .obtain⟨k,hk,rfl,rfl,kb,d⟩:=hrel;have aa:=jM$ bZ a (a+z) k;have O:=aRp a (a+z) J J J k hk;by_cases b9:k<10
    .have b1:=zh$ aJg a z (5+(k:Int)) wr J J J b3 J;have an:=zh$ fD a (a+z) k;let⟨x1,x2,x3,hx⟩:=aKd$ bZ a (a+z) k;rw[hx]at kb;have b4:=aD4 a (a+z) (5+(k:Int)) J J J J J;have:=aAk (5+(k:Int))$ qOf a (a+z)$ 5+(k:Int);generalize ay:bZ a (a+z) k=st at *;generalize ah:cnt (5+(k:Int)) (qOf a (a+z)$ 5+(k:Int))=c at *;generalize ao:bE a (5+(k:Int))=P at *;let⟨sc,p⟩:=aO$ oZ st;rw[<-p]at aa O⊢;have U:=zh p;have a4:=zh ah;have HX:=zh hx;have:c<=262144:=J
     have KB:=zh kb;have az:=zh d;have M:=d.size;have:=kb.lt;clear p ah hx b4 ay ao kb d;go_wp2_with fail
     apply b1.mono;rintro e w3 ⟨o,rfl,X,E⟩;have a8:=zh X;have a9:=(KB.bw E).alloc$ .cells #[qI P,qI$ 5+(k:Int),qI o,.bool false,.bool false,.bool false] 231;have:=E.size;have C:=zh$ (az.trans$ E.mono M).alloc J$ .cells #[qI P,qI$ 5+(k:Int),qI o,.bool false,.bool false,.bool false] 231;have af:=zh a9;have q1:=a9.six';clear X E a9;by_cases ak:sc<c
     .have Y:=zh (show bZ a (a+z) (k+1)=some (P,5+(k:Int),qOf a (a+z)$ 5+(k:Int))by
       rw[an.o];unfold keep
       rw[if_pos (by rw[<-U.o,a4.o];exact ak)])
      go_wp2_with fail
      refine⟨⟨k+1,J,by rw[Y.o];exact congrArg (Value.int .i64) a4.o.symm,by go_num,?_,nN aQ C.o P (5+(k:Int)) o⟩,by simp[intOf];omega⟩;rw[Y.o]
      have e2:aFj (some (P,5+(k:Int),qOf a (a+z)$ 5+(k:Int)))=#[qI P,qI$ 5+(k:Int),qI o,.bool false,.bool false,.bool false]:=by
       simp only[aFj];rw[a8.o J]
      rw[e2];exact Blk.set (Blk.set (Blk.set (Blk.set (Blk.set (Blk.set af 0 _) 1 _) 2 _) 3 _) 4 _) 5 _
     .have Y:=zh (show bZ a (a+z) (k+1)=st by
       rw[an.o];unfold keep
       rw[if_neg (by rw[<-U.o,a4.o];exact ak)])
      go_wp2_with fail
      exact⟨⟨k+1,J,by rw[Y.o,U.o],by go_num,by rw[Y.o,HX.o];exact af.o,C.o⟩,by simp[intOf];omega⟩
    .have au:k=10:=J
     subst au;rw[HF.o]at kb aa O⊢;let⟨o,X⟩:=aO$ 255-(q:Int);let⟨c,hc⟩:=aO$ cnt l q;have ae:Blk wr w9.heap.size #[qI b,qI l,qI o,.bool false,.bool false,.bool false] 231:=by rw[X];exact kb
     have p:oZ (some (b,l,q))=c:=hc.symm;rw[p]at aa O⊢;rw[<-hc]at a1 a2 a3 V;rw[<-X]at V;have aj:wfi b/\wfi l/\wfi o:=Jh
     have aq:=zh aj;have D:=aDc (S:=λ_=>False) (aG d) Q λ_ _=>id;have H:=zh$ D.1.alloc$ .cells #[qI b,qI l,qI o,.bool false,.bool false,.bool false] 231;rw[B.o]at H;have ab:Zh ((dS (b,l,o,false,false,false)).length=1*6):=rfl;have Z:=zh$ aPi wr (b,l,o,false,false,false);have ad:=zh$ aSf (b,l,o,false,false,false);have ap:=zh D.2;have ar:=zh D.1.lt;have M:=d.size;have C:=zh$ (N.trans$ d.mono b0).alloc J$ .cells #[qI b,qI l,qI o,.bool false,.bool false,.bool false] 231;have q1:=ae.six';clear D d kb ae X hc p aj;go_wp2_with (at_builtin;refine wpList_append_own _ rfl _ _ 118 rfl w.heap.size 231 i0 (.agg #[qI 0,qI 0,qI 0,.bool false,.bool false,.bool false]) 6 32 underlying118 hi a7 b5 b6 rfl Ja (qS A m t) m (fM rs) rfl H.o (qh wr 0) 1 1 (dS (b,l,o,false,false,false)) rfl ab.o Z.o ad.o Jf J Jc ?_;intro v' w3 i K _;obtain⟨A',a0,he⟩:=mU i;subst he;have ag:=aEh (W:=wr) (v:=qS A m t) (g:=(b,l,o,false,false,false)) ap.o aq.o (by rw[B.o];exact i);have t3:=lX K;have G:∀j,(qS A m t).ownBlock=some j->w.heap.size<=j:=λj hj=>(ar.o j hj).1;have aw:=zh$ aF C.o t3 G Jc;have a8:=zh ag;clear ag t3 G i K)
     refine⟨⟨A',m+1,a0,rs++[(b,l,o,false,false,false)],n,a+c,z-c,by go_num,by go_num,rfl,J,J,J,J,J,J,a8.o,by rw[V.o,b2.o];simp,aw.o⟩,?_⟩;simp[intOf];omega
  .have ax:z=0:=J
   subst ax;have av:L=rs:=by rw[u,pQ _ _ _ J,List.append_nil]
   subst av;have Q:=zh hO;have N:=zh hB;clear u hO hB;go_wp2_with fail
   go_ret2
   exact⟨A,m,t,rfl,Q,N⟩
def aIg (f s w)(d:-9223372036854775808<=f/\f<=9223372036854775807)(i:-9223372036854775808<=s/\s<=9223372036854775807):
 qC 167 #[qI f,qI s] w (pS w (vC f s)$ cvL f s):=by
 unfold cvL;cases e:vC f s
 .exact aIf f s w d i e
 .unfold vC grn at e;simp at e;exact aF7 f s w J J J J J
