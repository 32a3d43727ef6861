import Derived.Test.YtdjdcdnjjmjonaaGreatR13
import Derived.Test.YtdjdcdnjjmjonaaGreatR15
set_option linter.all false
set_option maxHeartbeats 8000000
namespace Go.Proofs.YtdjdcdnjjmjonaaGreat
open Go.RowKit
set_option maxRecDepth 100000
variable {L:List (PMod×Mb)}{P:PMod}{S:Nat->Prop}{a b2:qO}{b base c d2 g j k n sz:Nat}{bq:List Bk}{cs:Array Value}{m:Int}{v v' v1 v2 v3 v3' v4' v5' v6' v7':Value}{x:PMod×Mb}{xs:List Value}{β:Nat->Nat}
section
variable {W W':qw}{base:Nat}{v1 v2 v3:Value}{x1 x2 x3:qi}
def OM.bw (h:OM W base v1 v2 v3 x1 x2 x3)(d:qY W W'):OM W' base v1 v2 v3 x1 x2 x3:=⟨h.o1.bw d,h.o2.bw d,h.o3.bw d,h.a12,h.a13,h.a23⟩
def OM.mono {base':Nat}(h:OM W base v1 v2 v3 x1 x2 x3)(d:base'<=base):OM W base' v1 v2 v3 x1 x2 x3:=⟨h.o1.mono d,h.o2.mono d,h.o3.mono d,h.a12,h.a13,h.a23⟩
def OM.lt (h:OM W base v1 v2 v3 x1 x2 x3)(d:vG v1 v2 v3 j):base<=j/\j<W.heap.size:=by
 rcases d with e|e|e
 .exact h.o1.lt j e
 .exact h.o2.lt j e
 .exact h.o3.lt j e
def OM.kept (h:OM W base v1 v2 v3 x1 x2 x3)(t:Turn S W W')(hs:∀j,vG v1 v2 v3 j->¬S j):OM W' base v1 v2 v3 x1 x2 x3:=⟨aP t h.o1 λk d=>hs k$ .inl d,aP t h.o2 λk d=>hs k$ .inr$ .inl d,aP t h.o3 λk d=>hs k$ .inr$ .inr d,h.a12,h.a13,h.a23⟩
end
theorem aT2 {α:Type}{f:α->List Value}(d:∀x,(f x).length=4):∀(L:List α)(i:Nat)(x:α),L[i]?=some x->∀j,j<4->(L.flatMap f)[i*4+j]?=(f x)[j]?
 | [],i,x,h,j,hj=>by grind
 | y::L,0,x,h,j,hj=>by
   grind
 | y::L,i+1,x,h,j,hj=>by
   rw[xT,List.getElem?_append_right (by grind)];have e:(i+1)*4+j-(f y).length=i*4+j:=by grind
   rw[e];exact aT2 d L i x (by grind) j hj
theorem aOz {α:Type}{f:α->List Value}(l:∀x,(f x).length=4)(x v0 v1 v2 v3)(hx:f x=[v0,v1,v2,v3]):∀(xs:List α)(i:Nat),i<xs.length->((((xs.flatMap f).set (i*4) v0).set (i*4+1) v1).set (i*4+2) v2).set (i*4+3) v3=(xs.set i x).flatMap f
 | [],i,h=>by grind
 | y::ys,0,h=>by
   match e:f y,l y with
   | [a,b,c,d],_=>simp[e,hx]
 | y::ys,i+1,h=>by
   have:=aOz l x v0 v1 v2 v3 hx ys i (by grind)
   match e:f y,l y with
   | [a,b,c,d],_=>
     rw[show(i+1)*4=i*4+1+1+1+1 from J];simp only[xT,e,List.cons_append,List.nil_append,List.set_cons_succ]
     grind
theorem aEk {α:Type}{f:α->List Value}(d:∀x,(f x).length=4){t:TypeId}{w:qw}{xs:List α}(h:OG t 4 f w base (qS (qP g) n c) xs)(i)(hi:i<n)(x v0 v1 v2 v3)(hx:f x=[v0,v1,v2,v3]):OG t 4 f ((((w.setCell (qR g$ i*4) v0).setCell (qR g$ i*4+1) v1).setCell (qR g$ i*4+2) v2).setCell (qR g$ i*4+3) v3) base (qS (qP g) n c) (xs.set i x):=by
 obtain⟨A,⟨s,_⟩|⟨q,p,b,a,k,l,u,e,y,j⟩⟩:=h
 .grind
 .simp at a;obtain⟨rfl,rfl,rfl⟩:=a;refine⟨?_,.inr ⟨g,c,(((b.setIfInBounds (i*4) v0).setIfInBounds (i*4+1) v1).setIfInBounds (i*4+2) v2).setIfInBounds (i*4+3) v3,Jb,k,Blk.set (Blk.set (Blk.set (Blk.set (w:=w) l _ _) _ _) _ _) _ _,by grind,e,by grind,?_⟩⟩
  .rw[<-aOz d x v0 v1 v2 v3 hx xs i hi]
   grind
  .rw[List.length_set,xW,xW,xW,xW,List.take_set,List.take_set,List.take_set,List.take_set,j];exact aOz d x v0 v1 v2 v3 hx xs i hi
theorem sN {α:Type}{f:α->List Value}(e:∀x,(f x).length=4)(z){t:TypeId}{w:qw}{xs:List α}(h:OG t 4 f w base (qS a n c) xs)(m)(i:m<n):∃g,a=some (qR g 0)/\∀j,j<4->∀u,(f$ xs.getD m z)[j]?=some u->w.cell? (qR g$ m*4+j)=some u:=by
 let⟨l,_,_,b⟩:=aW h;let⟨g,k,hc⟩:=b J;have hx:xs[m]?=some (xs.getD m z):=by grind
 exact⟨g,k,λj d u hu=>hc _ _ (by rw[aT2 e xs m _ hx j d];exact hu)⟩
def oI {α:Type}(mk:Nat->α)(n:Nat):List α:=(List.range n).map mk
def uP {α:Type}(z:α)(zs:List α)(mk:Nat->α)(m:Nat):List α:=(List.range zs.length).map λi=>if i<m then mk i else zs.getD i z
def aK5 {α:Type}(z)(mk:Nat->α)(n m)(h:m<n):(oI mk n).getD m z=mk m:=by simp[oI,xB,h]
def aCm {α:Type}(z zs)(mk:Nat->α):uP z zs mk 0=zs:=by
 apply List.ext_getElem
 .simp[uP]
 .intro i e d;simp[uP,d]
def aGw {α:Type}(z a)(mk:Nat->α):uP z a mk a.length=oI mk a.length:=by
 apply List.ext_getElem
 .simp[uP,oI]
 .intro i e d;simp[oI]at d;simp[uP,oI,d]
theorem aGv {α:Type}(z a)(mk:Nat->α)(m)(h:m<a.length):(uP z a mk m).set m (mk m)=uP z a mk (m+1):=by
 apply List.ext_getElem
 .simp[uP]
 .intro i d e;simp only[uP,List.getElem_set,List.getElem_map,List.getElem_range]
  grind
abbrev SlT:=Bool×Int×Int×Int
abbrev FrT:=Int×Int×Int×Int
def zSl:SlT:=(false,0,0,0)
def zFr:FrT:=(0,0,0,0)
def cO (x:SlT):List Value:=[.bool x.1,qI x.2.1,qI x.2.2.1,qI x.2.2.2]
def bS (x:FrT):List Value:=[qI x.1,qI x.2.1,qI x.2.2.1,qI x.2.2.2]
def cH:∀x:SlT,(cO x).length=4:=λx=>rfl
def dD:∀x:FrT,(bS x).length=4:=λx=>rfl
def QS {α:Type}(f:α->List Value)(z:α)(w:qw)(a:qO)(n cap:Nat)(xs:List α):Prop:=
 xs.length=n/\n<=maxLen/\(n≠0->∃b off,a=some (qR b off)/\∀i,i<n->∀j v,(f$ xs.getD i z)[j]?=some v->w.cell? (qR b$ off+i*4+j)=some v)/\n<=cap
section
variable {α:Type}{f:α->List Value}{z:α}{w w':qw}{a:qO}{n cap:Nat}{xs:List α}
def QS.bw (h:QS f z w a n cap xs)(d:qY w w'):QS f z w' a n cap xs:=by
 obtain⟨g,k,p,q⟩:=h;refine⟨g,k,λs=>?_,q⟩;let⟨b,off,e,hc⟩:=p s;exact⟨b,off,e,λi hi j v l=>aB d$ hc i hi j v l⟩
def QS.at (h:QS f z w a n cap xs)(i)(hi:i<n)(v0 v1 v2 v3)(d:f (xs.getD i z)=[v0,v1,v2,v3]):∃b off,a=some (qR b off)/\w.cell? (qR b$ off+i*4)=some v0/\w.cell? (qR b$ off+i*4+1)=some v1/\w.cell? (qR b$ off+i*4+2)=some v2/\w.cell? (qR b$ off+i*4+3)=some v3:=by
 let⟨b,off,e,hc⟩:=h.2.2.1 J;have k:=hc i hi;rw[d]at k;exact⟨b,off,e,k 0 _ rfl,k 1 _ rfl,k 2 _ rfl,k 3 _ rfl⟩
theorem uC {t:TypeId}(l:∀x,(f x).length=4)(h:OG t 4 f w base (qS a n cap) xs):QS f z w a n cap xs:=by
 let⟨b,k,p,q⟩:=aW h;refine⟨b,k,λs=>?_,p⟩;obtain⟨g,rfl,hc⟩:=q s;refine⟨g,0,rfl,λi hi j v e=>?_⟩
 have d:j<4:=by
  grind
 rw[Nat.zero_add];exact hc _ _ (by rw[zR f 4 l z xs i j J d];exact e)
end
def aJk:(Tryz.prog.info? 132).map (λi=>(i.zero,i.size,i.bytes))=some (some$ .agg #[.bool false,qI 0,qI 0,qI 0],4,32):=Je
def zG:(Tryz.prog.info? 136).map (λi=>(i.zero,i.size,i.bytes))=some (some$ .agg$ qW 0 0 0 0,4,32):=Je
def aFw (a n b l w)(i:0<=l)(d:l<=1048576)(hn:n<=maxLen):
 qC 20 #[qS a n b,qI l] w λe w'=>e=.returned (qI$ szR l n)/\w=w':=by
 unfold maxLen at hn;unfold szR;by_cases h:l<n
 .delta qC;go_in
  go_wp2;go_ret;exact⟨rfl,rfl⟩
 .delta qC;go_in
  go_wp2;go_ret;exact⟨rfl,rfl⟩
def aDk (a n b l w)(i:0<=l)(d:l<=1048576)(hn:n<=maxLen):
 qC 21 #[qS a n b,qI l] w λe w'=>e=.returned (qI$ szR l n)/\w=w':=by
 unfold maxLen at hn;unfold szR;by_cases h:l<n
 .delta qC;go_in
  go_wp2;go_ret;exact⟨rfl,rfl⟩
 .delta qC;go_in
  go_wp2;go_ret;exact⟨rfl,rfl⟩
def aL4 (pc a n b l w)(i:0<=l)(p:l<=1048576)(hn:n<=maxLen)(hs:(n:Int)<=l):
 qC 18 #[.agg #[qI pc,qS a n b],qI l] w (qB w$ qI$ l-n):=by
 have d:=zh λw=>iR a n b l w i p hn;rw[if_neg J]at d
 delta qC;go_in
 go_wp2_with (go_at_call 59;refine(d.o _).mono ?_;rintro e f ⟨rfl,rfl⟩)
 go_ret;exact⟨rfl,bal⟩
def aL3 (pc a n b l w)(i:0<=l)(p:l<=1048576)(hn:n<=maxLen)(hs:l<(n:Int)):
 qC 18 #[.agg #[qI pc,qS a n b],qI l] w (qB w$ qI (-1)):=by
 have d:=zh λw=>iR a n b l w i p hn;rw[if_pos hs]at d
 delta qC;go_in
 go_wp2_with (go_at_call 59;refine(d.o _).mono ?_;rintro e f ⟨rfl,rfl⟩)
 go_ret;exact⟨rfl,bal⟩
def aH6 (pc a n b zs w)(h:IS w a n b zs)(hn:n<=1048576):
 qC 27 #[.agg #[qI pc,qS a n b]] w λe w'=>∃g,w.heap.size<=g/\e=.returned (.agg #[qI pc,qS (qP g) n n])/\RowI w' g zs/\qY w w':=by
 have i:qY w (((w.alloc$ .cells #[qI pc,qS a n b] 27).alloc$ .cells #[qI 0,qS none 0 0] 38).alloc$ .cells #[qI pc,qS none 0 0] 38):=(bal.alloc Jb _).alloc Jc _;have A:=(Blk.new (w.alloc$ .cells #[qI pc,qS a n b] 27) #[qI 0,qS none 0 0] 38).alloc$ .cells #[qI pc,qS none 0 0] 38;have B:=Blk.new ((w.alloc$ .cells #[qI pc,qS a n b] 27).alloc$ .cells #[qI 0,qS none 0 0] 38) #[qI pc,qS none 0 0] 38;simp only[xF]at A B
 delta qC;go_in
 go_wp2_with fail
 apply(lF a n b zs _ (h.bw i) hn).mono;rintro e E ⟨rfl,y,d⟩;have l:=A.bw d;have q:=B.bw d;have u:=i.trans$ d.mono Jc;simp only[xF]at y;have:=l.two';have:=q.two';have f:=((l.other (qR (w.heap.size+1+1) 1) (qS (qP$ w.heap.size+1+1+1) n n) Jd).set 0$ qI pc).set 1$ qS (qP$ w.heap.size+1+1+1) n n
 have C:RowI (((E.setCell (qR (w.heap.size+1+1) 1)$ qS (qP$ w.heap.size+1+1+1) n n).setCell (qr w 0)$ qI pc).setCell (qr w 1)$ qS (qP$ w.heap.size+1+1+1) n n) (w.heap.size+1+1+1) zs:=by
  unfold RowI at *;rw[heap_setCell_other _ _ _ _ Jd,heap_setCell_other _ _ _ _ Jd,heap_setCell_other _ _ _ _ Jd];exact y
 have t:=((u.setCell (p:=(qR (w.heap.size+1+1) 1)) Jd$ qS (qP$ w.heap.size+1+1+1) n n).setCell (p:=(qr w 0)) Jd$ qI pc).setCell (p:=(qr w 1)) Jd$ qS (qP$ w.heap.size+1+1+1) n n;have s:Blk (((E.setCell (qR (w.heap.size+1+1) 1)$ qS (qP$ w.heap.size+1+1+1) n n).setCell (qr w 0)$ qI pc).setCell (qr w 1)$ qS (qP$ w.heap.size+1+1+1) n n) (w.heap.size+1) #[qI pc,qS (qP$ w.heap.size+1+1+1) n n] 38:=by simpa using f
 let⟨s1,s2,s3⟩:=s.two';have D:=zh$ xA C t;clear f s C t u d y l q A B i;go_wp2;exact bodyPost_ret (v:=.agg #[qI pc,qS (qP$ w.heap.size+1+1+1) n n]) (by simp[results,Tryz.results27,go_sem,s1,s2]) rfl ⟨_,J,rfl,D.o.1,D.o.2⟩
def aHn (pc a b n f g j w)(h:IS w a n f j)(k:IS w b n g j):
 qC 37 #[.agg #[qI pc,qS a n f],.agg #[qI pc,qS b n g]] w (qB w$ .bool true):=by
 have d:qY w (qm (qm w #[qI pc,qS a n f] 38) #[qI pc,qS b n g] 38):=bal.alloc Jb _
 delta qC;go_in
 go_wp2_with fail
 apply(lZ a b n f n g j j _ (h.bw d)$ k.bw d).mono;rw[xR rfl];rintro e l ⟨rfl,i⟩;go_wp2;go_ret;exact⟨rfl,d.trans$ i.mono Jc⟩
structure Mn where
 ma:qO
 mn:Nat
 mc:Nat
 ms:List Md
 cs:Int
 cw:Int
 ck:Int
 cd:Int
 pc:Int
 ka:qO
 kn:Nat
 kc:Nat
 kz:List Int
 fa:qO
 fn:Nat
 fc:Nat
 fz:List Int
 ra:qO
 rn:Nat
 rc:Nat
 rz:List Int
 oa:qO
 on:Nat
 oc:Nat
 oz:List Int
 md:Int
 bk:Int
 la:qO
 ln:Nat
 lc:Nat
 lz:List SlT
 ha:qO
 hn:Nat
 hc:Nat
 hz:List FrT
 tn:Int
abbrev qA (M:Mn):Array Value:=#[.slice M.ma M.mn M.mc,.int .i64 M.cs,.int .i64 M.cw,.int .i64 M.ck,.int .i64 M.cd,.int .i64 M.pc,.slice M.ka M.kn M.kc,.slice M.fa M.fn M.fc,.slice M.ra M.rn M.rc,.slice M.oa M.on M.oc,.int .i64 M.md,.int .i64 M.bk,.slice M.la M.ln M.lc,.slice M.ha M.hn M.hc,.int .i64 M.tn]
abbrev qX (M:Mn)(a:Option Addr)(b c:Nat)(d:Option Addr)(e f:Nat)(g:Option Addr)(h i:Nat)(j:Option Addr)(k l:Nat)(m:Option Addr)(n o:Nat)(p:Option Addr)(q r:Nat)(s:Option Addr)(t u:Nat):Array Value:=#[.slice a b c,.int .i64 M.cs,.int .i64 M.cw,.int .i64 M.ck,.int .i64 M.cd,.int .i64 M.pc,.slice d e f,.slice g h i,.slice j k l,.slice m n o,.int .i64 M.md,.int .i64 M.bk,.slice p q r,.slice s t u,.int .i64 M.tn]
abbrev qK (M:Mn)(a b c d e f g:Nat):Array Value:=#[.slice (some (qR a 0)) M.mn M.mn,.int .i64 M.cs,.int .i64 M.cw,.int .i64 M.ck,.int .i64 M.cd,.int .i64 M.pc,.slice (some (qR b 0)) M.kn M.kn,.slice (some (qR c 0)) M.fn M.fn,.slice (some (qR d 0)) M.rn M.rn,.slice (some (qR e 0)) M.on M.on,.int .i64 M.md,.int .i64 M.bk,.slice (some (qR f 0)) M.ln M.ln,.slice (some (qR g 0)) M.hn M.hn,.int .i64 M.tn]
structure MnT (w:qw)(M:Mn):Prop where
 m:MS w M.ma M.mn M.mc M.ms
 k:IS w M.ka M.kn M.kc M.kz
 f:BS w M.fa M.fn M.fc M.fz
 r:BS w M.ra M.rn M.rc M.rz
 o:BS w M.oa M.on M.oc M.oz
 l:QS cO zSl w M.la M.ln M.lc M.lz
 h:QS bS zFr w M.ha M.hn M.hc M.hz
def MnT.bw {w w':qw}{M:Mn}(h:MnT w M)(d:qY w w'):MnT w' M:=⟨h.m.bw d,h.k.bw d,h.f.bw d,h.r.bw d,h.o.bw d,h.l.bw d,h.h.bw d⟩
structure MnB (M:Mn):Prop where
 n:M.mn<=1048576
 m:∀i,i<M.mn->(M.ms.getD i aM).size<=1048576
 k:M.kn<=1048576
 b:M.fn+M.rn+M.on<=1048576
 l:M.ln<=1048576
 h:M.hn<=1048576
 s:M.mn+upS (fun j=>(M.ms.getD j aM).size) M.mn+M.kn+M.fn+M.rn+M.on+M.ln+M.hn<=1048576
def Blk.mc {w:qw}{t:TypeId}{v0 v4 y q s u p d e l i v14:Value}(h:Blk w b #[v0,v1,v2,v3,v4,y,q,s,u,p,d,e,l,i,v14] t):w.cell? (qR b 0)=some v0/\w.cell? (qR b 1)=some v1/\w.cell? (qR b 2)=some v2/\w.cell? (qR b 3)=some v3/\w.cell? (qR b 4)=some v4/\w.cell? (qR b 5)=some y/\w.cell? (qR b 6)=some q/\w.cell? (qR b 7)=some s/\w.cell? (qR b 8)=some u/\w.cell? (qR b 9)=some p/\w.cell? (qR b 10)=some d/\w.cell? (qR b 11)=some e/\w.cell? (qR b 12)=some l/\w.cell? (qR b 13)=some i/\w.cell? (qR b 14)=some v14:=⟨h.cell 0,h.cell 1,h.cell 2,h.cell 3,h.cell 4,h.cell 5,h.cell 6,h.cell 7,h.cell 8,h.cell 9,h.cell 10,h.cell 11,h.cell 12,h.cell 13,h.cell 14⟩
def aA3 (M w)(h:MnT w M):
 qC 5 #[.agg$ qA M,qI 1048576] w λe w'=>∃z:Int,e=.returned (qI z)/\(0<=z->MnB M)/\qY w w':=by
 have k0:=Blk.new w (qA M) 34;have O:qY w (w.alloc$ .cells (qA M) 34):=bal;have A:=zh$ aA2 M.ma M.mn M.mc M.ms 1048576 _ (h.m.bw O) J J;have V:=zh λ(z:Int)(W:qw)(u:0<=z)(l:z<=1048576)=>xA (λq=>aL4 M.pc M.ka M.kn M.kc z W u l h.k.2.1 q) λq=>aL3 M.pc M.ka M.kn M.kc z W u l h.k.2.1 q;have Y:=zh λ(z:Int)(W:qw)(u:0<=z)(l:z<=1048576)=>xA (λq=>aN2 M.fa M.ra M.oa M.fn M.fc M.rn M.rc M.on M.oc z W u l h.f.2.1 h.r.2.1 h.o.2.1 q) λq=>aN1 M.fa M.ra M.oa M.fn M.fc M.rn M.rc M.on M.oc z W u l h.f.2.1 h.r.2.1 h.o.2.1 q;have H:=zh λ(z:Int)(W:qw)(u:0<=z)(l:z<=1048576)=>aFw M.la M.ln M.lc z W u l h.l.2.1;have H5:=zh λ(z:Int)(W:qw)(u:0<=z)(l:z<=1048576)=>aDk M.ha M.hn M.hc z W u l h.h.2.1;have N:=zh λi hi=>aDb (λj=>(M.ms.getD j aM).size) M.mn i hi;unfold szR at A H H5;have G:=zh$ xA O k0;clear O k0 h;generalize C:M.mn+upS (λj=>(M.ms.getD j aM).size) M.mn=q1 at *;have K:=zh C;clear C;by_cases c1:(1048576:Int)<(q1:Int)
 .rw[if_pos c1]at A
  delta qC;go_in
  go_wp2_with fail
  apply A.mono;rintro e w1 ⟨rfl,s⟩;go_wp2;go_ret;exact⟨-1,rfl,λh=>absurd h Ja,yT G.1 s⟩
 rw[if_neg c1]at A;obtain⟨l,a⟩:∃l:Int,l=1048576-q1:=⟨_,rfl⟩;rw[<-a]at A;have:¬l<0:=J
 have e1:l<=1048576:=J
 have Z:=zh a;clear a
 delta qC;go_in
 go_wp2_with fail
 apply A.mono;rintro e w1 ⟨rfl,s⟩;have k:=yT G.1 s;have E:=G.2.bw s;have d:=zh$ xA k E;clear s G A k;have y5:=E.e5;have y6:=E.e6;clear E;by_cases c2:l<(M.kn:Int)
 .go_wp2_with fail
  apply((V l _ J e1).2 c2).mono;rintro e w2 ⟨rfl,p⟩;go_wp2;go_ret;exact⟨-1,rfl,λh=>absurd h Ja,yT d.1 p⟩
 obtain⟨y,b⟩:∃y:Int,y=l-M.kn:=⟨_,rfl⟩;have:¬y<0:=J
 have e2:y<=1048576:=J
 have Q:=zh b;go_wp2_with fail
 apply((V l _ J e1).1 J).mono;rintro e w2 ⟨rfl,p⟩;rw[<-b];have x:=yT d.1 p;have D:=d.2.bw p;clear p d y5 y6 b V;have d:=zh$ xA x D;clear x;have y7:=D.e7;have y8:=D.e8;have y9:=D.e9;clear D;by_cases c3:y<(M.fn:Int)+M.rn+M.on
 .go_wp2_with fail
  apply((Y y _ J e2).2 c3).mono;rintro e w3 ⟨rfl,t⟩;go_wp2;go_ret;exact⟨-1,rfl,λh=>absurd h Ja,yT d.1 t⟩
 obtain⟨B,f⟩:∃B:Int,B=y-M.fn-M.rn-M.on:=⟨_,rfl⟩;have:¬B<0:=J
 have e3:B<=1048576:=J
 have P:=zh f;go_wp2_with fail
 apply((Y y _ J e2).1 J).mono;rintro e w3 ⟨rfl,t⟩;rw[<-f];have S:=yT d.1 t;have I:=d.2.bw t;clear t d y7 y8 y9 f Y;have:=I.e12;have:=I.e13;have U:=zh S;clear I S;go_wp2_with fail
 apply(H B _ J e3).mono;rintro e w4 ⟨rfl,rfl⟩;by_cases c4:B<(M.ln:Int)
 .rw[if_pos c4];go_wp2;go_ret;exact⟨-1,rfl,λh=>absurd h Ja,U⟩
 rw[if_neg c4];obtain⟨z4,g⟩:∃z4:Int,z4=B-M.ln:=⟨_,rfl⟩;have:¬z4<0:=J
 have e4:z4<=1048576:=J
 have X:=zh g;rw[<-g];clear g H;go_wp2_with fail
 apply(H5 z4 _ J e4).mono;rintro e w5 ⟨rfl,rfl⟩;by_cases c5:z4<(M.hn:Int)
 .rw[if_pos c5];go_wp2;go_ret;exact⟨-1,rfl,λh=>absurd h Ja,U⟩
 rw[if_neg c5];have:¬z4-(M.hn:Int)<0:=J
 have HF:=zh (show MnB M by
  have:=K.o;have:=Z.o;have:=Q.o;have:=P.o;have:=X.o
  exact⟨J,λi hi=>jK$ N i hi,J,J,J,J,J⟩)
 go_wp2;go_ret;exact⟨_,rfl,λ_=>HF,U⟩
def ShL (hs:List Hd)(j:Nat):Prop:=∃i,i<hs.length/\Sh (hs.getD i zHd) j
structure MnO (W:qw)(base:Nat)(v0:Value)(hs:List Hd)(L:List (Hd×Ct))(β:Nat->Nat)(v1 vf vr vo vl vh:Value)(K F R O:qi)(S:List SlT)(H:List FrT):Prop where
 m:OMs W base v0 L β
 e:L.map (fun x=>x.1)=hs
 k:OI W base v1 K
 q:OM W base vf vr vo F R O
 l:OG 132 4 cO W base vl S
 h:OG 136 4 bS W base vh H
 km:∀j,v1.ownBlock=some j->¬ShL hs j
 qm:∀j,vG vf vr vo j->¬ShL hs j
 lo:∀(i:Nat)(x:Hd×Ct),L[i]?=some x->base<=β i
section
variable {W W':qw}{base:Nat}{v0:Value}{hs:List Hd}{L L':List (Hd×Ct)}{β:Nat->Nat}{v1 vf vr vo vl vh:Value}{K F R O K' F' R' O':qi}{S S':List SlT}{H H':List FrT}
def MnO.bw (h:MnO W base v0 hs L β v1 vf vr vo vl vh K F R O S H)(d:qY W W'):MnO W' base v0 hs L β v1 vf vr vo vl vh K F R O S H:=⟨h.m.bw d,h.e,h.k.bw d,h.q.bw d,h.l.bw d,h.h.bw d,h.km,h.qm,h.lo⟩
theorem aDs (h:MnO W base v0 hs L β v1 vf vr vo vl vh K F R O S H)(d:ShL hs j):∃(i:Nat) (x:Hd×Ct),L[i]?=some x/\Sh x.1 j:=by
 obtain⟨i,hi,d⟩:=d;let⟨c,hc⟩:=aUf h.e hi
 grind
def MnO.no (h:MnO W base v0 hs L β v1 vf vr vo vl vh K F R O S H)(d:ShL hs j){t:TypeId}(e:Blk W j cs t)(l:t≠3/\t≠5/\t≠9/\t≠209):False:=by
 let⟨i,x,hx,hs⟩:=aDs h d;exact(h.m.m i x hx).1.no hs e l
def gD {f r o:Value}{x1 x2 x3:qi}(h:OM W base f r o x1 x2 x3)(d:vG f r o j):∃cs,Blk W j cs 5:=by
 rcases d with e|e|e
 .exact aE h.o1.1 e
 .exact aE h.o2.1 e
 .exact aE h.o3.1 e
theorem MnO.mods (h:MnO W base v0 hs L β v1 vf vr vo vl vh K F R O S H)(M:OMs W' base v0 L' β)(e:L'.map (λx=>x.1)=hs)(T:Turn (λj=>v0.ownBlock=some j\/ShL hs j) W W'):MnO W' base v0 hs L' β v1 vf vr vo vl vh K F R O S H:=by
 have:∀{j:Nat}{a:Array Value}{t:TypeId},Blk W j a t->t≠128->v0.ownBlock≠some j:=λu l e=>by
  let⟨c,k⟩:=aE h.m.o e;exact l$ aH u k
 refine⟨M,e,aV T h.k λk d s=>?_,h.q.kept T λj p s=>?_,h.l.kept T λk d s=>?_,h.h.kept T λk d s=>?_,h.km,h.qm,λi x hx=>?_⟩
 .have⟨c,kb⟩:=aE h.k.1 d;rcases s with s|s
  .grind
  .exact h.km k d s
 .have⟨c,kb⟩:=gD h.q p;rcases s with s|s
  .grind
  .exact h.qm j p s
 .have⟨c,kb⟩:=aE h.l d;rcases s with s|s
  .grind
  .exact h.no s kb Ja
 .have⟨c,kb⟩:=aE h.h d;rcases s with s|s
  .grind
  .exact h.no s kb Ja
 .have y:L.length=L'.length:=by have q:=congrArg List.length$ h.e.trans e.symm;simpa using q
  exact h.lo i _$ xN (by grind)
theorem OMs.far (M:OMs W base v0 L β)(e:L.map (λx=>x.1)=hs){Q:Nat->Prop}(T:Turn Q W W')(q:∀j,Q j->¬ShL hs j)(d:∀j,Q j->∃cs t,Blk W j cs t/\t≠128/\t≠25):OMs W' base v0 L β:=
 M.kept T (λj l s=>by
  let⟨cs,t,kb,a,_⟩:=d j s;let⟨c,k⟩:=aE M.o l
  exact a$ aH kb k) (λi x hx j l s=>q j s ⟨i,by grind,by grind⟩) (λj cs p s=>by
  let⟨f,t,kb,_,b⟩:=d j s
  exact b$ aH kb p)
theorem MnO.core (h:MnO W base v0 hs L β v1 vf vr vo vl vh K F R O S H)(q:OI W' base v1 K')(T:Turn (λj=>v1.ownBlock=some j) W W'):MnO W' base v0 hs L β v1 vf vr vo vl vh K' F R O S H:=by
 have:∀{j:Nat}{a:Array Value}{t:TypeId},Blk W j a t->t≠3->v1.ownBlock≠some j:=λp d e=>by
  let⟨c,k⟩:=aE h.k.1 e;exact d$ aH p k
 refine⟨h.m.far h.e T h.km λj l=>?_,h.e,q,h.q.kept T λj l s=>?_,h.l.kept T λk i s=>?_,h.h.kept T λk i s=>?_,h.km,h.qm,h.lo⟩
 .have⟨c,kb⟩:=aE h.k.1 l
  grind
 .have⟨c,kb⟩:=gD h.q l
  grind
 .have⟨c,kb⟩:=aE h.l i
  grind
 .have⟨c,kb⟩:=aE h.h i
  grind
theorem MnO.mem (h:MnO W base v0 hs L β v1 vf vr vo vl vh K F R O S H)(p:OM W' base vf vr vo F' R' O')(T:Turn (vG vf vr vo) W W'):MnO W' base v0 hs L β v1 vf vr vo vl vh K F' R' O' S H:=by
 have:∀{j:Nat}{a:Array Value}{t:TypeId},Blk W j a t->t≠5->¬vG vf vr vo j:=λl i e=>by
  let⟨c,k⟩:=gD h.q e;exact i$ aH l k
 refine⟨h.m.far h.e T h.qm λj q=>?_,h.e,aV T h.k λk d s=>?_,p,h.l.kept T λk d s=>?_,h.h.kept T λk d s=>?_,h.km,h.qm,h.lo⟩
 .have⟨c,kb⟩:=gD h.q q
  grind
 .have⟨c,kb⟩:=aE h.k.1 d
  grind
 .have⟨c,kb⟩:=aE h.l d
  grind
 .have⟨c,kb⟩:=aE h.h d
  grind
theorem MnO.slot (h:MnO W base v0 hs L β v1 vf vr vo vl vh K F R O S H)(p:OG 132 4 cO W' base vl S')(T:Turn (λj=>vl.ownBlock=some j) W W'):MnO W' base v0 hs L β v1 vf vr vo vl vh K F R O S' H:=by
 have:∀{j:Nat}{a:Array Value}{t:TypeId},Blk W j a t->t≠132->vl.ownBlock≠some j:=λq i e=>by
  let⟨c,k⟩:=aE h.l e;exact i$ aH q k
 refine⟨h.m.far h.e T (λj d s=>?_) λj d=>?_,h.e,aV T h.k λk l s=>?_,h.q.kept T λj d s=>?_,p,h.h.kept T λk l s=>?_,h.km,h.qm,h.lo⟩
 .have⟨c,kb⟩:=aE h.l d;exact h.no s kb Ja
 .have⟨c,kb⟩:=aE h.l d
  grind
 .have⟨c,kb⟩:=aE h.k.1 l
  grind
 .have⟨c,kb⟩:=gD h.q d
  grind
 .have⟨c,kb⟩:=aE h.h l
  grind
theorem MnO.frame (h:MnO W base v0 hs L β v1 vf vr vo vl vh K F R O S H)(q:OG 136 4 bS W' base vh H')(T:Turn (λj=>vh.ownBlock=some j) W W'):MnO W' base v0 hs L β v1 vf vr vo vl vh K F R O S H':=by
 have:∀{j:Nat}{a:Array Value}{t:TypeId},Blk W j a t->t≠136->vh.ownBlock≠some j:=λp i e=>by
  let⟨c,k⟩:=aE h.h e;exact i$ aH p k
 refine⟨h.m.far h.e T (λj d s=>?_) λj d=>?_,h.e,aV T h.k λk l s=>?_,h.q.kept T λj d s=>?_,h.l.kept T λk l s=>?_,q,h.km,h.qm,h.lo⟩
 .have⟨c,kb⟩:=aE h.h d;exact h.no s kb Ja
 .have⟨c,kb⟩:=aE h.h d
  grind
 .have⟨c,kb⟩:=aE h.k.1 l
  grind
 .have⟨c,kb⟩:=gD h.q d
  grind
 .have⟨c,kb⟩:=aE h.l l
  grind
end
def aHm (a x1 x2 x3 w):qC 95 #[.agg #[.bool a,qI x1,qI x2,qI x3],.agg #[.bool a,qI x1,qI x2,qI x3]] w (qB w$ .bool true):=by
 have d:qY w ((w.alloc$ .cells #[.bool a,qI x1,qI x2,qI x3] 132).alloc$ .cells #[.bool a,qI x1,qI x2,qI x3] 132):=bal.alloc Jb _
 delta qC;go_in
 go_wp2;go_ret;exact⟨rfl,d⟩
def aE7 (a N n c c' xs w)(h:QS cO zSl w a n c xs)(C:QS cO zSl w N n c' xs):
 qC 39 #[qS a n c,qS N n c'] w (qB w$ .bool true):=by
 have t:=h.2.1;unfold maxLen at t;have B:=zh$ xA h C
 delta qC;go_in
 go_wp2;go_loopw [5] (λi wr=>∃k:Nat,k<=n/\i=qI k/\qY w wr) (qf n)
 .exact⟨0,xC _,rfl,brf⟩
 .obtain⟨k,M,rfl,q⟩:=hrel;by_cases p:k<n
  .have y:(k:Int)<(n:Int):=J
   obtain⟨b,f,rfl,U,V,W,X⟩:=(B.1.bw q).at k p _ _ _ _ rfl;obtain⟨x,E,rfl,O,P,Q,S⟩:=(B.2.bw q).at k p _ _ _ _ rfl;generalize xs.getD k zSl=r at *;obtain⟨G,H,I,K⟩:=r;have u:=zh q;go_wp2
   go_region_held3 (λj=>qN j b (f+k*4)=some (.bool G)/\qN j b (f+k*4+1)=qj H/\qN j b (f+k*4+2)=qj I/\qN j b (f+k*4+3)=qj K/\qN j x (E+k*4)=some (.bool G)/\qN j x (E+k*4+1)=qj H/\qN j x (E+k*4+2)=qj I/\qN j x (E+k*4+3)=qj K) (go_keep)
    (first
      | (go_at_call 95;refine(aHm G H I K _).mono ?_;rintro e D ⟨rfl,l⟩;replace l:=aU l;have d:∀g o v,qN wr g o=some v->qN D g o=some v:=(λg o v A=>(l.cell$ xD wr _ A).trans A);have:=d _ _ _ U;have:=d _ _ _ V;have:=d _ _ _ W;have:=d _ _ _ X;have:=d _ _ _ O;have:=d _ _ _ P;have:=d _ _ _ Q;have:=d _ _ _ S;clear d))
   have s:=zh$ yT u l;go_wp2
   go_roundw
   .exact⟨k+1,J,by go_num,s⟩
   .simp[qf,intOf];omega
  .have u:=zh q;go_wp2;go_ret;exact⟨rfl,u⟩
def aE9 (a x1 x2 x3 w):qC 96 #[.agg$ qW a x1 x2 x3,.agg$ qW a x1 x2 x3] w (qB w$ .bool true):=by
 have d:qY w ((w.alloc$ .cells (qW a x1 x2 x3) 136).alloc$ .cells (qW a x1 x2 x3) 136):=bal.alloc Jb _
 delta qC;go_in
 go_wp2;go_ret;exact⟨rfl,d⟩
def aBx (a N n c c' xs w)(h:QS bS zFr w a n c xs)(C:QS bS zFr w N n c' xs):
 qC 40 #[qS a n c,qS N n c'] w (qB w$ .bool true):=by
 have t:=h.2.1;unfold maxLen at t;have B:=zh$ xA h C
 delta qC;go_in
 go_wp2;go_loopw [5] (λi wr=>∃k:Nat,k<=n/\i=qI k/\qY w wr) (qf n)
 .exact⟨0,xC _,rfl,brf⟩
 .obtain⟨k,M,rfl,q⟩:=hrel;by_cases p:k<n
  .have y:(k:Int)<(n:Int):=J
   obtain⟨b,f,rfl,U,V,W,X⟩:=(B.1.bw q).at k p _ _ _ _ rfl;obtain⟨x,E,rfl,O,P,Q,S⟩:=(B.2.bw q).at k p _ _ _ _ rfl;generalize xs.getD k zFr=r at *;obtain⟨G,H,I,K⟩:=r;have u:=zh q;go_wp2
   go_region_held3 (λj=>qN j b (f+k*4)=qj G/\qN j b (f+k*4+1)=qj H/\qN j b (f+k*4+2)=qj I/\qN j b (f+k*4+3)=qj K/\qN j x (E+k*4)=qj G/\qN j x (E+k*4+1)=qj H/\qN j x (E+k*4+2)=qj I/\qN j x (E+k*4+3)=qj K) (go_keep)
    (first
      | (go_at_call 96;refine(aE9 G H I K _).mono ?_;rintro e D ⟨rfl,l⟩;replace l:=aU l;have d:∀g o v,qN wr g o=some v->qN D g o=some v:=(λg o v A=>(l.cell$ xD wr _ A).trans A);have:=d _ _ _ U;have:=d _ _ _ V;have:=d _ _ _ W;have:=d _ _ _ X;have:=d _ _ _ O;have:=d _ _ _ P;have:=d _ _ _ Q;have:=d _ _ _ S;clear d))
   have s:=zh$ yT u l;go_wp2
   go_roundw
   .exact⟨k+1,J,by go_num,s⟩
   .simp[qf,intOf];omega
  .have u:=zh q;go_wp2;go_ret;exact⟨rfl,u⟩
structure MnD (w:qw)(M:Mn):Prop where
 m:MSD w M.ma M.mn M.mc M.ms
 k:IS w M.ka M.kn M.kc M.kz
 f:BS w M.fa M.fn M.fc M.fz
 r:BS w M.ra M.rn M.rc M.rz
 o:BS w M.oa M.on M.oc M.oz
 l:QS cO zSl w M.la M.ln M.lc M.lz
 h:QS bS zFr w M.ha M.hn M.hc M.hz
def MnD.bw {w w':qw}{M:Mn}(h:MnD w M)(d:qY w w'):MnD w' M:=⟨h.m.bw d,h.k.bw d,h.f.bw d,h.r.bw d,h.o.bw d,h.l.bw d,h.h.bw d⟩
abbrev usd (m b:Int)(x:SlT):Prop:=x.1=true/\x.2.1=m/\x.2.2.1=b
def gW (m b:Int):Nat->List SlT->Int
 | _,[]=>-1
 | i,x::xs=>if usd m b x then (i:Int) else gW m b (i+1) xs
def hld (xs:List SlT)(m b:Int):Int:=gW m b 0 xs
theorem aLk {α:Type}(xs:List α)(z k)(h:k<xs.length):xs.drop k=xs.getD k z::xs.drop (k+1):=by
 rw[List.drop_eq_getElem_cons h]
 grind
def aQi {xs:List SlT}{b:Int}(h:k<xs.length)(hu:usd m b (xs.getD k zSl)):gW m b k (xs.drop k)=k:=by
 rw[aLk xs zSl k h,gW,if_pos hu]
def aNe {xs:List SlT}{b:Int}(h:k<xs.length)(hu:¬usd m b (xs.getD k zSl)):gW m b k (xs.drop k)=gW m b (k+1) (xs.drop$ k+1):=by
 rw[aLk xs zSl k h,gW,if_neg hu]
theorem zJ (m b:Int):∀(xs:List SlT)(i:Nat),gW m b i xs=-1\/((i:Int)<=gW m b i xs/\gW m b i xs<(i:Int)+xs.length)
 | [],i=>.inl rfl
 | x::xs,i=>by
   unfold gW;by_cases c:usd m b x
   .grind
   .rw[if_neg c];rcases zJ m b xs (i+1)with h|h
    .grind
    .grind
def lA (xs m b):hld xs m b=-1\/(0<=hld xs m b/\hld xs m b<(xs.length:Int)):=by
 have:=zJ m b xs 0;simpa[hld]using this
structure Sam (M N:Mn):Prop where
 s:N.cs=M.cs/\N.cw=M.cw/\N.ck=M.ck/\N.cd=M.cd/\N.pc=M.pc/\N.md=M.md/\N.bk=M.bk/\N.tn=M.tn
 n:N.mn=M.mn/\N.kn=M.kn/\N.fn=M.fn/\N.rn=M.rn/\N.on=M.on/\N.ln=M.ln/\N.hn=M.hn
 z:N.kz=M.kz/\N.fz=M.fz/\N.rz=M.rz/\N.oz=M.oz/\N.lz=M.lz/\N.hz=M.hz
 m:∀i,i<M.mn->aRe (M.ms.getD i aM) (N.ms.getD i aM)
def aBz (s c k d w):qC 36 #[.agg #[qI s,qI c,qI k,qI d],.agg #[qI s,qI c,qI k,qI d]] w (qB w$ .bool true):=by
 have e:qY w ((w.alloc$ .cells #[qI s,qI c,qI k,qI d] 37).alloc$ .cells #[qI s,qI c,qI k,qI d] 37):=bal.alloc Jb _
 delta qC;go_in
 go_wp2;go_ret;exact⟨rfl,e⟩
def fN (M N w)(h:MnD w M)(D:MnD w N)(s:Sam M N):
 qC 9 #[.agg #[qS M.ma M.mn M.mc,qI M.cs,qI M.cw,qI M.ck,qI M.cd,qI M.pc,qS M.ka M.kn M.kc,qS M.fa M.fn M.fc,qS M.ra M.rn M.rc,qS M.oa M.on M.oc,qI M.md,qI M.bk,qS M.la M.ln M.lc,qS M.ha M.hn M.hc,qI M.tn],.agg #[qS N.ma N.mn N.mc,qI N.cs,qI N.cw,qI N.ck,qI N.cd,qI N.pc,qS N.ka N.kn N.kc,qS N.fa N.fn N.fc,qS N.ra N.rn N.rc,qS N.oa N.on N.oc,qI N.md,qI N.bk,qS N.la N.ln N.lc,qS N.ha N.hn N.hc,qI N.tn]] w (qB w$ .bool true):=by
 obtain⟨⟨e1,e2,e3,e4,e5,e6,e7,e8⟩,⟨j,k,x,H,K,O,S⟩,⟨z1,z2,z3,z4,z5,z6⟩,hm⟩:=s;obtain⟨g,b,a,r',o',f,D⟩:=D;rw[j]at g;rw[k,z1]at b;rw[x,z2]at a;rw[H,z3]at r';rw[K,z4]at o';rw[O,z5]at f;rw[S,z6]at D;rw[e1,e2,e3,e4,e5,e6,e7,e8,j,k,x,H,K,O,S];clear e1 e2 e3 e4 e5 e6 e7 e8 j k x H K O S z1 z2 z3 z4 z5 z6;have p:qY w ((w.alloc$ .cells #[qS M.ma M.mn M.mc,qI M.cs,qI M.cw,qI M.ck,qI M.cd,qI M.pc,qS M.ka M.kn M.kc,qS M.fa M.fn M.fc,qS M.ra M.rn M.rc,qS M.oa M.on M.oc,qI M.md,qI M.bk,qS M.la M.ln M.lc,qS M.ha M.hn M.hc,qI M.tn] 43).alloc$ .cells #[qS N.ma M.mn N.mc,qI M.cs,qI M.cw,qI M.ck,qI M.cd,qI M.pc,qS N.ka M.kn N.kc,qS N.fa M.fn N.fc,qS N.ra M.rn N.rc,qS N.oa M.on N.oc,qI M.md,qI M.bk,qS N.la M.ln N.lc,qS N.ha M.hn N.hc,qI M.tn] 43):=bal.alloc Jb _;have u0:=(Blk.new w #[qS M.ma M.mn M.mc,qI M.cs,qI M.cw,qI M.ck,qI M.cd,qI M.pc,qS M.ka M.kn M.kc,qS M.fa M.fn M.fc,qS M.ra M.rn M.rc,qS M.oa M.on M.oc,qI M.md,qI M.bk,qS M.la M.ln M.lc,qS M.ha M.hn M.hc,qI M.tn] 43).alloc$ .cells #[qS N.ma M.mn N.mc,qI M.cs,qI M.cw,qI M.ck,qI M.cd,qI M.pc,qS N.ka M.kn N.kc,qS N.fa M.fn N.fc,qS N.ra M.rn N.rc,qS N.oa M.on N.oc,qI M.md,qI M.bk,qS N.la M.ln N.lc,qS N.ha M.hn N.hc,qI M.tn] 43;have v0:=Blk.new (w.alloc$ .cells #[qS M.ma M.mn M.mc,qI M.cs,qI M.cw,qI M.ck,qI M.cd,qI M.pc,qS M.ka M.kn M.kc,qS M.fa M.fn M.fc,qS M.ra M.rn M.rc,qS M.oa M.on M.oc,qI M.md,qI M.bk,qS M.la M.ln M.lc,qS M.ha M.hn M.hc,qI M.tn] 43) #[qS N.ma M.mn N.mc,qI M.cs,qI M.cw,qI M.ck,qI M.cd,qI M.pc,qS N.ka M.kn N.kc,qS N.fa M.fn N.fc,qS N.ra M.rn N.rc,qS N.oa M.on N.oc,qI M.md,qI M.bk,qS N.la M.ln N.lc,qS N.ha M.hn N.hc,qI M.tn] 43;simp only[xF]at v0;have H1:=zb w λW d=>aAb M.ma N.ma M.mn M.mc N.mc M.ms N.ms W (h.m.s.bw d) (g.s.bw d) hm;have H2:=zh λ(W:qw)=>aBz M.cs M.cw M.ck M.cd W;have H3:=zb w λW d=>aHn M.pc M.ka N.ka M.kn M.kc N.kc M.kz W (h.k.bw d)$ b.bw d;have H4:=zb w λW d=>aJv M.fa M.ra M.oa N.fa N.ra N.oa M.fn M.fc M.rn M.rc M.on M.oc M.fn N.fc M.rn N.rc M.on N.oc M.fz M.rz M.oz W (h.f.bw d) (h.r.bw d) (h.o.bw d) (a.bw d) (r'.bw d)$ o'.bw d;have H5:=zb w λW d=>aE7 M.la N.la M.ln M.lc N.lc M.lz W (h.l.bw d)$ f.bw d;have H6:=zb w λW d=>aBx M.ha N.ha M.hn M.hc N.hc M.hz W (h.h.bw d)$ D.bw d;clear h g b a r' o' f D hm;have i:=zh$ xA u0 v0
 delta qC;go_in
 go_wp2_with fail
 apply(H1 _ p).mono;rintro e w1 ⟨rfl,d⟩;have E:=p.trans$ d.mono (by have:=p.size;simp;omega);have l:=xA (i.1.bw d)$ i.2.bw d;clear p u0 v0 d i;have p1:=l.1.e1;have q1:=l.2.e1;have p2:=l.1.e2;have q2:=l.2.e2;have p3:=l.1.e3;have q3:=l.2.e3;have p4:=l.1.e4;have q4:=l.2.e4;have i:=zh l;clear l;go_wp2_with fail
 apply(H2 _).mono;rintro e w2 ⟨rfl,d⟩;have u:=yT E d;have C:=xA (i.1.bw d)$ i.2.bw d;clear E d i p1 q1 p2 q2 p3 q3 p4 q4;have p5:=C.1.e5;have q5:=C.2.e5;have p6:=C.1.e6;have q6:=C.2.e6;have i:=zh C;clear C;go_wp2_with fail
 apply(H3 _ u).mono;rintro e w3 ⟨rfl,d⟩;have y:=yT u d;have q:=xA (i.1.bw d)$ i.2.bw d;clear u d i p5 q5 p6 q6;have p7:=q.1.e7;have q7:=q.2.e7;have p8:=q.1.e8;have q8:=q.2.e8;have p9:=q.1.e9;have q9:=q.2.e9;have i:=zh q;clear q;go_wp2_with fail
 apply(H4 _ y).mono;rintro e w4 ⟨rfl,d⟩;have B:=yT y d;have t:=xA (i.1.bw d)$ i.2.bw d;clear y d i p7 q7 p8 q8 p9 q9;have P:=t.1.e10;have a0:=t.2.e10;have Z:=t.1.e11;have a1:=t.2.e11;have V:=t.1.e12;have Q:=t.2.e12;have i:=zh t;clear t;go_wp2_with fail
 apply(H5 _ B).mono;rintro e w5 ⟨rfl,d⟩;have A:=yT B d;have G:=xA (i.1.bw d)$ i.2.bw d;clear B d i P a0 Z a1 V Q;have I:=G.1.e13;have Y:=G.2.e13;have i:=zh G;clear G;go_wp2_with fail
 apply(H6 _ A).mono;rintro e w6 ⟨rfl,d⟩;have X:=yT A d;have U:=xA (i.1.bw d)$ i.2.bw d;clear A d i I Y;have:=U.1.e14;have:=U.2.e14;clear U;go_wp2;go_ret;exact⟨rfl,X⟩
def aE1 (d:qi):d.flatMap (λz=>[Value.int .u8 z])=d.map (Value.int .u8):=dR _ d
def aT4 {W:qw}{zs:qi}(h:OB W base v zs):OG 5 1 (λz=>[Value.int .u8 z]) W base v zs:=by
 unfold OG;rw[aE1];exact h.1
def aT3 {W:qw}{zs:qi}(h:OG 5 1 (λz=>[Value.int .u8 z]) W base v zs)(hz:∀z∈zs,0<=z/\z<=255):OB W base v zs:=by
 unfold OG at h;rw[aE1]at h;exact⟨h,hz⟩
def aG7 (a n b s w)(h:Srd (λz=>[Value.int .u8 z]) w a n b s)(A:∀z∈s,0<=z/\z<=255)(C:s.length=n)(hn:n<=1048576):
 qC 51 #[qS a n b] w λe w'=>∃a l,e=.returned (qS a n l)/\OB w' w.heap.size (qS a n l) s/\qY w w':=by
 let⟨I,hi,x,G,H⟩:=info_parts uG;have q:=zh$ h.bw$ (Below.refl (qs w) w).alloc aQ$ .cells #[] 5;have j:=zh A;have p:=zh$ cP 5 1 (λz=>[Value.int .u8 z]) w (qs w) aQ;have D:=zh$ (Below.refl w.heap.size w).alloc aQ$ .cells #[] 5
 delta qC;go_in
 go_wp2_with (at_builtin;refine dO rfl _ _ 28 rfl w.heap.size 5 I (.int .u8 0) 1 1 Tryz.underlying28 hi x G H rfl Ja _ [] rfl p.o a n b s rfl q.o (λ_=>rfl) (λy u hu=>by simp at hu;subst hu;rfl) (by unfold maxLen;simp;omega) Jc Jb ?_;intro K E i d)
 rw[List.nil_append]at i;obtain⟨f,g,rfl⟩:=aZ i;have t:=zh$ xA (aT3 i j.o)$ aF D.o (S:=λk=>k=w.heap.size) ⟨d.os,d.tape,d.output,d.size,λk B hs=>d.block k B λe=>hs (by cases e;rfl)⟩ (λk B=>J) Jb;rw[C]at t⊢;go_ret;exact⟨f,g,rfl,t.1,t.2⟩
def tW {X W w6:qw}(h:Below b X W)(hs:b<=W.heap.size)(i:v.ownBlock=some b)(G:W.grownBy w6 v.ownBlock):Below b X w6:=aF h (S:=λk=>k=b) ⟨G.os,G.tape,G.output,G.size,λk d hs=>G.block k d (λe=>hs (by rw[i]at e;cases e;rfl))⟩ (λk d=>J) hs
structure Cpb (W0 X:qw)(gm lo:Nat)(t1:qO)(e1:Nat)(tz:qi)(a2:qO)(c2:Nat)(bl:List Bk)(nm v3 v4 v5 v6 v7:Value):Prop where
 c:Cpm W0 X gm #[nm,qS t1 tz.length e1,qS a2 bl.length c2,v3,v4,v5,v6,v7]
 t:OG 3 1 clI X W0.heap.size (qS t1 tz.length e1) tz
 b:OBk X lo (qS a2 bl.length c2) bl
 tl:∀k,(qS t1 tz.length e1).ownBlock=some k->k<lo
 gl:gm<lo
 lh:lo<=X.heap.size
section
variable {W0 X X' w' w4:qw}{gm lo:Nat}{t1:qO}{e1:Nat}{tz:qi}{a2:qO}{c2:Nat}{bl:List Bk}{nm v2 v3 v4 v5 v6 v7 u:Value}
def Cpb.bw (h:Cpb W0 X gm lo t1 e1 tz a2 c2 bl nm v3 v4 v5 v6 v7)(d:qY X X'):Cpb W0 X' gm lo t1 e1 tz a2 c2 bl nm v3 v4 v5 v6 v7:=⟨h.c.bw d,h.t.bw d,h.b.turn (S:=λ_=>False) (aG d) λ_ s=>absurd s id,h.tl,h.gl,xM h.lh d.size⟩
def mE {t:TypeId}(G:(X.alloc$ .cells #[] t).grownBy w' (some X.heap.size)):qY X w':=aF (brf.alloc aQ$ .cells #[] t) (S:=λk=>k=X.heap.size) ⟨G.os,G.tape,G.output,G.size,λk d hs=>G.block k d λe=>hs (by cases e;rfl)⟩ (λk d=>J) Jb
def Cpb.new (h:Cpm W0 X gm #[nm,qS t1 tz.length e1,v2,v3,v4,v5,v6,v7])(l:OG 3 1 clI X W0.heap.size (qS t1 tz.length e1) tz):Cpb W0 ((X.alloc$ .cells #[] 25).setCell (qR gm 2)$ qS (qP X.heap.size) 0 0) gm X.heap.size t1 e1 tz (qP X.heap.size) 0 [] nm v3 v4 v5 v6 v7:=by
 have i:qY X (qm X #[] 25):=bal;have a:=h.bw i;let⟨c2,b⟩:=a.set 2$ qS (qp X) 0 0;refine⟨c2,(l.bw i).kept b λk d e=>?_,OBk.turn (w:=qm X #[] 25) ⟨cP 25 1 (λv:Value=>[v]) X X.heap.size aQ,Jb,Jb⟩ b λk e d=>jK h.k.lt,λk d=>(l.lt k d).2,h.k.lt,Jb⟩;subst e;let⟨c,kb⟩:=aE (l.bw i) d;exact absurd (aH kb a.k) Ja
def Cpb.bank {A:qO}{C:Nat}{x:qi}{d:Value}(h:Cpb W0 X gm lo t1 e1 tz a2 c2 bl nm v3 v4 v5 v6 v7)(O:OG 3 1 clI w' X.heap.size (qS A x.length C) x)(I:qY X w')
 (t:w4.ownsRow lo 25 1 d (bl.length+1) (bl.map (λB=>qS B.1 B.2.1 B.2.2.1)++[qS A x.length C])) (p:w'.grownBy w4 (qS a2 bl.length c2).ownBlock):
 Cpm W0 w4 gm #[nm,qS t1 tz.length e1,qS a2 bl.length c2,v3,v4,v5,v6,v7]/\∃y q,d=.slice y (bl++[((A,x.length,C,x):Bk)]).length q/\Cpb W0 (w4.setCell (qR gm 2) d) gm lo t1 e1 tz y q (bl++[((A,x.length,C,x):Bk)]) nm v3 v4 v5 v6 v7:=by
 have i:=h.bw I;have D:=i.b.push rfl O h.lh (λB M j N=>((h.b.rows B M).2.lt j N).2) t p;have:W0.heap.size<=lo:=jL h.c.g h.gl;have T:Turn (λk=>(qS a2 bl.length c2).ownBlock=some k) w' w4:=⟨p.os,p.tape,p.output,p.size,λk l hs=>p.block k l λe=>hs e.symm⟩
 have G:Blk w4 gm #[nm,qS t1 tz.length e1,qS a2 bl.length c2,v3,v4,v5,v6,v7] 128:=bL p i.c.k (λe=>by
  let⟨c,kb⟩:=aE i.b.head e.symm
  exact absurd (aH kb i.c.k) Ja)
 have E:=i.t.kept T (λk l s=>by
  let⟨c,kb⟩:=aE i.t l;let⟨a,w⟩:=aE i.b.head s
  exact absurd (aH kb w) Ja)
 have f:Cpm W0 w4 gm #[nm,qS t1 tz.length e1,qS a2 bl.length c2,v3,v4,v5,v6,v7]:=⟨aF i.c.b T (λk l=>jK$ (i.b.lt k l).1) i.c.b.size,G,i.c.g⟩;obtain⟨b,a,rfl⟩:=aMp D;let⟨u,g⟩:=f.set 2$ .slice b (bl++[((A,x.length,C,x):Bk)]).length a;refine⟨f,b,a,rfl,u,E.kept g λk l e=>?_,D.turn g λk e l=>jK h.gl,h.tl,h.gl,by rw[aL];exact xM i.lh p.size⟩;subst e;let⟨c,kb⟩:=aE E l;exact absurd (aH kb G) Ja
def Cpb.put (h:Cpb W0 X gm lo t1 e1 tz a2 c2 bl nm v3 v4 v5 v6 v7)(l:qY X w')(j)(e:(#[nm,qS t1 tz.length e1,qS a2 bl.length c2,v3,v4,v5,v6,v7]:Array Value).setIfInBounds j u=#[nm,qS t1 tz.length e1,qS a2 bl.length c2,v3',v4',v5',v6',v7']):
 Cpb W0 (w'.setCell (qR gm j) u) gm lo t1 e1 tz a2 c2 bl nm v3' v4' v5' v6' v7'/\Turn (λj=>j=gm\/X.heap.size<=j) X (w'.setCell (qR gm j) u):=by
 have d:=h.bw l;let⟨b,a⟩:=d.c.set j u;rw[e]at b;refine⟨⟨b,d.t.kept a λk i e=>?_,d.b.turn a λk e i=>jK h.gl,h.tl,h.gl,by rw[aL];exact d.lh⟩,(aG l).trans$ a.mono λk i=>.inl i⟩;subst e;let⟨c,kb⟩:=aE d.t i;exact absurd (aH kb d.c.k) Ja
def aKt {t:TypeId}(h:X.ownsRow b t sz v n xs)(i:Blk X gm cs 128)(d:t≠128)(j u):(X.setCell (qR gm j) u).ownsRow b t sz v n xs:=cV ((aD X gm j u).mono λk e=>.inl e) i h d
def Cpb.row {α:Type}{f:α->List Value}{t:TypeId}{p:List α}(h:Cpb W0 X gm lo t1 e1 tz a2 c2 bl nm v3 v4 v5 v6 v7)(O:OG t sz f w' X.heap.size v' p)(i:qY X w')(d:t≠128)(j)(e:(#[nm,qS t1 tz.length e1,qS a2 bl.length c2,v3,v4,v5,v6,v7]:Array Value).setIfInBounds j v'=#[nm,qS t1 tz.length e1,qS a2 bl.length c2,v3',v4',v5',v6',v7']):
 Cpb W0 w' gm lo t1 e1 tz a2 c2 bl nm v3 v4 v5 v6 v7/\Cpb W0 (w'.setCell (qR gm j) v') gm lo t1 e1 tz a2 c2 bl nm v3' v4' v5' v6' v7'/\OG t sz f (w'.setCell (qR gm j) v') X.heap.size v' p/\Turn (λj=>j=gm\/X.heap.size<=j) X (w'.setCell (qR gm j) v')/\X.heap.size<=w'.heap.size:=by
 have l:=h.bw i;let⟨c2,a⟩:=h.put i j e;exact⟨l,c2,aKt O l.c.k d j v',a,i.size⟩
def Cpb.apart {α:Type}{f:α->List Value}{t:TypeId}{l:List α}(h:Cpb W0 X gm lo t1 e1 tz a2 c2 bl nm v3 v4 v5 v6 v7)(O:OG t sz f w' X.heap.size v' l):∀k,v'.ownBlock=some k->(qS t1 tz.length e1).ownBlock≠some k/\∀B∈bl,(qS B.1 B.2.1 B.2.2.1).ownBlock≠some k:=λk i=>by
 have:=(O.lt k i).1;exact⟨λe=>jK$ (h.t.lt k e).2,λB d e=>jK$ ((h.b.rows B d).2.lt k e).2⟩
def Cpb.done {a3 q Q M:qO}{c3 y I E N C G D:Nat}(h:Cpb W0 X gm lo t1 e1 P.tz a2 c2 bl nm v3 v4 v5 v6 v7)(s:bl.map (λB=>B.2.2.2)=P.bl)(hz:∀z∈P.dz,0<=z/\z<=255)
 (Y:OG 5 1 (λz=>[Value.int .u8 z]) X N (qS a3 P.dz.length c3) P.dz) (U:W0.heap.size<=N) (a:OG 3 1 clI X C (qS q P.rz.length y) P.rz) (g:W0.heap.size<=C) (Z:OG 9 1 clT X G (qS Q P.ss.length I) P.ss) (j:W0.heap.size<=G) (f:OG 209 3 clX X D (qS M P.es.length E) P.es) (V:W0.heap.size<=D)
 (p:∀k,(qS q P.rz.length y).ownBlock=some k->(qS t1 P.tz.length e1).ownBlock≠some k/\∀B∈bl,(qS B.1 B.2.1 B.2.2.1).ownBlock≠some k):ModO X W0.heap.size P t1 e1 a2 c2 bl a3 c3 q y Q I M E where
 t:=h.t
 b:=h.b.mono$ jL h.c.g h.gl
 bls:=s
 d:=aT3 (Y.mono U) hz
 r:=a.mono g
 i:=Z.mono j
 e:=f.mono V
 tb:=λk l B A e=>by have:=h.tl k l;have:=((h.b.rows B A).2.lt k e).1;omega
 tr:=λk l e=>(p k e).1 l
 br:=λk l B A=>(p k l).2 B A
end
theorem aLh {α:Type}{f:α->List Value}{sz:Nat}(d:∀x,(f x).length=sz):∀(L:List α)(j:Nat)(u:Value),(L.flatMap f)[j]?=some u->∃i x r,L[i]?=some x/\j=i*sz+r/\(f x)[r]?=some u
 | [],j,u,h=>by grind
 | y::L,j,u,h=>by
   have:=d y;rw[xT]at h;by_cases c:j<(f y).length
   .rw[List.getElem?_append_left c]at h;exact⟨0,y,j,rfl,J,h⟩
   .rw[List.getElem?_append_right J]at h;let⟨i,x,r,b,e,a⟩:=aLh d L _ u h;exact⟨i+1,x,r,by grind,by grind,a⟩
section
variable {w:qw}{b off n cap:Nat}
def zF {zs:qi}(h:IS w (some$ qR b off) n cap zs):Srd clI w (some$ qR b off) n cap zs:=⟨h.1,.inr ⟨b,off,rfl,λj u hu=>by
 have e:zs.flatMap clI=zs.map (Value.int .i64):=dR _ zs;rw[e]at hu;have q:=aS4 h j u hu
 rwa[cE]at q⟩⟩
def aVy {zs:qi}(h:BS w (some$ qR b off) n cap zs):Srd (λz=>[Value.int .u8 z]) w (some$ qR b off) n cap zs:=⟨h.1,.inr ⟨b,off,rfl,λj u hu=>by
 rw[aE1]at hu;have q:=aLn h j u hu
 rwa[cE]at q⟩⟩
theorem aUx {ss:List ByteArray}(h:SS w (some$ qR b off) n cap ss):Srd clT w (some$ qR b off) n cap ss:=⟨h.1,.inr ⟨b,off,rfl,λj u hu=>by
 have e:ss.flatMap clT=ss.map Value.string:=dR _ ss;rw[e,List.getElem?_map,Option.map_eq_some_iff]at hu;obtain⟨s,hs,rfl⟩:=hu;have:=lR hs;have:=h.1;let⟨a,f,d,hc⟩:=h.2.2.2.1 J
 grind⟩⟩
theorem aVt {es:List Ex}(h:ES w (some$ qR b off) n cap es):Srd clX w (some$ qR b off) n cap es:=⟨h.1,.inr ⟨b,off,rfl,λj u hu=>by
 obtain⟨i,x,r,k,rfl,a⟩:=aLh (sz:=3) (λ_=>rfl) es j u hu;have:=lR k;have:=h.1;let⟨l,p,g,hc⟩:=h.2.2.2.1 J;cases g
 let⟨e,f,c2⟩:=hc i J;have d:es.getD i zE=x:=by grind
 rw[d]at e f c2
 match r,a with
 | 0,a=>simp[clX]at a;subst a;exact e
 | 1,a=>simp[clX]at a;subst a;exact f
 | 2,a=>simp[clX]at a;subst a;exact c2
 | _+3,a=>simp[clX]at a⟩⟩
end
theorem eP {α:Type}{t:TypeId}{f:α->List Value}{w:qw}{xs:List α}(h:OG t sz f w base (qS a n c) xs):n=xs.length:=by
 let⟨b,d,e⟩:=aZ h
 grind
theorem gU {w:qw}{d:qi}(h:OI w base (qS a n c) d):n=d.length:=by
 obtain⟨_,e|⟨g,cp,b,f,_⟩⟩:=h.1
 .grind
 .grind
theorem bC {w:qw}{d:qi}(h:OB w base (qS a n c) d):n=d.length:=by
 obtain⟨_,e|⟨g,cp,b,f,_⟩⟩:=h.1
 .grind
 .grind
structure Msr (W:qw)(x:PMod×Mb):Prop where
 t:Srd clI W x.2.a1 x.1.tz.length x.2.c1 x.1.tz
 b:∀k,k<x.2.bl.length->∃gb A C zs,x.2.a2=some (qR gb 0)/\x.2.bl[k]?=some (A,zs.length,C,zs)/\W.cell? (qR gb k)=some (qS A zs.length C)/\Srd clI W A zs.length C zs
 bls:x.2.bl.map (fun B=>B.2.2.2)=x.1.bl
 d:Srd (fun z=>[Value.int .u8 z]) W x.2.a3 x.1.dz.length x.2.c3 x.1.dz
 r:Srd clI W x.2.a5 x.1.rz.length x.2.c5 x.1.rz
 i:Srd clT W x.2.a6 x.1.ss.length x.2.c6 x.1.ss
 e:Srd clX W x.2.a7 x.1.es.length x.2.c7 x.1.es
def aLm {W b:qw}(d:qY W b){a:Addr}(h:W.cell? a=some v):b.cell? a=some v:=(d.cell$ xD W _ h).trans h
def Msr.bw {W a:qw}(h:Msr W x)(d:qY W a):Msr a x:=
 ⟨h.t.bw d,λk e=>by obtain⟨b,A,C,f,e1,e2,e3,o⟩:=h.b k e;exact⟨b,A,C,f,e1,e2,aLm d e3,o.bw d⟩,h.bls,h.d.bw d,h.r.bw d,h.i.bw d,h.e.bw d⟩
theorem aQ6 {W:qw}(h:OBk W base (qS b2 bq.length d2) bq)(k)(i:k<bq.length):∃d A C zs,b2=some (qR d 0)/\bq[k]?=some (A,zs.length,C,zs)/\W.cell? (qR d k)=some (qS A zs.length C)/\OG 3 1 clI W base (qS A zs.length C) zs:=by
 let⟨d,cp,e,_⟩:=World.ownsRow.form h.head J;obtain⟨rfl,-,rfl⟩:=e;obtain⟨A,m,C,zs,a⟩:∃A m C zs,bq[k]?=some (A,m,C,zs):=⟨bq[k].1,bq[k].2.1,bq[k].2.2.1,bq[k].2.2.2,xN i⟩;let⟨e1,O⟩:=h.rows _$ List.mem_of_getElem? a;dsimp only at e1 O;subst e1;refine⟨d,A,C,zs,rfl,a,?_,O⟩;have q:=World.ownsRow.cells h.head (g:=d) rfl k (qS A zs.length C) (by grind)
 rwa[cE,Nat.zero_add]at q
def ModO.msr {W:qw}(h:MOb W base x):Msr W x:=
 ⟨jV h.t,λk d=>by obtain⟨a,A,C,b,e1,e2,e3,o⟩:=aQ6 h.b k d;exact⟨a,A,C,b,e1,e2,e3,jV o⟩,h.bls,jV$ aT4 h.d,jV h.r,jV h.i,jV h.e⟩
structure OMq (W:qw)(a:qO)(L:List (PMod×Mb)):Prop where
 o:∀(i:Nat)(x:PMod×Mb),L[i]?=some x->∃g,a=some (qR g 0)/\At8 W g (i*8) (mdP x)
 m:∀(i:Nat)(x:PMod×Mb),L[i]?=some x->Msr W x/\PmG x.1
def OMq.bw {W b:qw}(h:OMq W a L)(d:qY W b):OMq b a L:=
 ⟨λi x hx=>by obtain⟨g,e,f⟩:=h.o i x hx;exact⟨g,e,f.bw d⟩,λi x hx=>⟨(h.m i x hx).1.bw d,(h.m i x hx).2⟩⟩
theorem OMp.omq {W:qw}{b:Nat}(H:OMp W base (qS a n b) L β):OMq W a L:=by
 refine⟨λi x hx=>?_,λi x hx=>⟨ModO.msr (H.m i x hx).1,(H.m i x hx).2.1⟩⟩;let⟨d,f,e⟩:=aZ H.o;obtain⟨rfl,rfl,rfl⟩:=e;let⟨g,cp,e,_⟩:=World.ownsRow.form H.o (by grind);obtain⟨rfl,-,rfl⟩:=e;exact⟨g,rfl,(OMs.at (x:=hdP x) H.oms (by grind)).1⟩
def OMq.srcM {W:qw}{i:Nat}{y s d B l:qO}{q t A p C:Nat}(H:OMq W (qP g) L)(hx:L[i]?=some (P,⟨y,q,b2,d2,bq,s,t,d,A,B,p,l,C⟩)):
 (W.cell? (qR g$ i*8)=some (.string P.nm)/\W.cell? (qR g$ i*8+1)=some (qS y P.tz.length q)/\W.cell? (qR g$ i*8+2)=some (qS b2 bq.length d2)/\W.cell? (qR g$ i*8+3)=some (qS s P.dz.length t)/\W.cell? (qR g$ i*8+4)=some (qI P.bss)/\W.cell? (qR g$ i*8+5)=some (qS d P.rz.length A)/\W.cell? (qR g$ i*8+6)=some (qS B P.ss.length p)/\W.cell? (qR g$ i*8+7)=some (qS l P.es.length C))/\Msr W (P,⟨y,q,b2,d2,bq,s,t,d,A,B,p,l,C⟩)/\PmG P:=by
 let⟨b,e,a⟩:=H.o i _ hx;cases e
 exact⟨a,(H.m i _ hx).1,(H.m i _ hx).2⟩
def nP {α a:Type}{f:α->a}{l:List α}{x:α}(h:l[k]?=some x):(l.take$ k+1).map f=(l.take k).map f++[f x]:=by
 rw[List.take_add_one,h,List.map_append];rfl
def aKz {W:qw}(d:L.length=n)(h:OG 128 8 clB W base v L):W.ownsRow base 128 8 v n (L.flatMap clB):=by
 subst d;exact h
def aIl {w a X w4:qw}(O:OMp a w.heap.size v L β)(B:qY w a)(l:qY a X)(d:X.grownBy w4 v.ownBlock):qY w w4:=
 aF (yT B l) (S:=λq=>v.ownBlock=some q) ⟨d.os,d.tape,d.output,d.size,λq i hs=>d.block q i λe=>hs e.symm⟩ (λq i=>(O.o.lt q i).1) (xM B.size l.size)
def TMx (W W':qw):Prop:=Turn (λj=>∃cs,Blk W j cs 43) W W'
def ModO.keptM:=@ModO.keptT 43$ .inr rfl
def oQ {W:qw}{t:TypeId}(h:W.ownsRow base t sz v n xs)(i:t≠43):∀k,v.ownBlock=some k->¬∃cs,Blk W k cs 43:=λk d⟨cs,e⟩=>by
 let⟨b,a⟩:=aE h d;exact i$ aH a e
def fH {W W':qw}(h:qY W W'):TMx W W':=aG h
def TMx.trans {A B C:qw}(h:TMx A B)(k:TMx B C):TMx A C:=
 ⟨k.os.trans h.os,k.tape.trans h.tape,k.output.trans h.output,xM h.size k.size,λj d hs=>by
  have e:=h.block j d hs
  exact(k.block j (Nat.lt_of_lt_of_le d h.size) λ⟨a,kb⟩=>hs ⟨a,e.symm.trans kb⟩).trans e⟩
theorem dH {W W':qw}(kb:Blk W g cs 43)(t:Turn (λj=>j=g) W W'):TMx W W':=t.mono (λj d=>by grind)
def OMp.tm {W a:qw}(h:OMp W base v L β)(t:TMx W a):OMp a base v L β:=
 ⟨h.o.kept t$ oQ h.o Ja,λi x hx=>⟨ModO.keptM (h.m i x hx).1 t λe d=>oQ e d,(h.m i x hx).2⟩,h.mono,h.lo,xM h.hi t.size⟩
def OI.tm {W a:qw}{zs:qi}(h:OI W base v zs)(t:TMx W a):OI a base v zs:=aV t h$ oQ h.1 Ja
def vJ {W:qw}{x1 x2 x3:qi}(h:cB W base v1 v2 v3 x1 x2 x3):OM W base v1 v2 v3 x1 x2 x3:=by
 obtain⟨g,i,j,a,b,f⟩:=h;exact⟨g,i,j,λk d e=>Nat.lt_irrefl k$ a k k d e,λk d e=>Nat.lt_irrefl k$ b k k d e,λk d e=>Nat.lt_irrefl k$ f k k d e⟩
section
variable {W W':qw}{base base':Nat}{v1 v2 v3:Value}{x1 x2 x3:qi}
def dV (h:cB W base v1 v2 v3 x1 x2 x3)(t:Turn S W W')(hs:∀j,vG v1 v2 v3 j->¬S j):cB W' base v1 v2 v3 x1 x2 x3:=⟨aP t h.1 λk d=>hs k$ .inl d,aP t h.2.1 λk d=>hs k$ .inr$ .inl d,aP t h.2.2.1 λk d=>hs k$ .inr$ .inr d,h.2.2.2⟩
def aK0 (h:cB W base v1 v2 v3 x1 x2 x3)(t:TMx W W'):cB W' base v1 v2 v3 x1 x2 x3:=dV h t (λj d=>by rcases d with e|e|e;exact oQ h.1.1 Ja j e;exact oQ h.2.1.1 Ja j e;exact oQ h.2.2.1.1 Ja j e)
end
structure Cn where
 ps:List PMod
 cs:Int
 cw:Int
 ck:Int
 cd:Int
 pc:Int
 kz:List Int
 fz:List Int
 rz:List Int
 oz:List Int
 md:Int
 bk:Int
 lz:List SlT
 hz:List FrT
 tn:Int
def Mn.cn (M:Mn):Cn:=⟨aI M.ms,M.cs,M.cw,M.ck,M.cd,M.pc,M.kz,M.fz,M.rz,M.oz,M.md,M.bk,M.lz,M.hz,M.tn⟩
def szc (P:PMod):Nat:=2+P.tz.length+(P.bl.map List.length).sum+P.dz.length+P.rz.length+P.ss.length+3*P.es.length
def mkn (C:Cn):Nat:=1+(C.ps.map szc).sum+C.kz.length+C.fz.length+C.rz.length+C.oz.length+4*C.lz.length+4*C.hz.length
def aFr {α:Type}(f:α->Nat)(z:α)(l:List α):∀k,k<=l.length->upS (λj=>f$ l.getD j z) k=((l.take k).map f).sum
 | 0,_=>by simp[upS]
 | k+1,h=>by
   rw[upS,aFr f z l k J,List.take_add_one,List.map_append,List.sum_append];congr 1;simp[xB,show k<l.length from J]
def aC8 {α:Type}(f:α->Nat)(z)(l:List α):upS (λj=>f$ l.getD j z) l.length=(l.map f).sum:=by
 rw[aFr f z l _ aQ,List.take_length]
structure MxO (W:qw)(base aN:Nat)(C:Cn)(M:Mn)(L:List (PMod×Mb))(β:Nat->Nat):Prop where
 m:OMp W base (qS M.ma M.mn M.mc) L β
 e:L.map (fun x=>x.1)=C.ps
 k:OI W aN (qS M.ka M.kn M.kc) C.kz
 q:cB W aN (qS M.fa M.fn M.fc) (qS M.ra M.rn M.rc) (qS M.oa M.on M.oc) C.fz C.rz C.oz
 l:OG 132 4 cO W aN (qS M.la M.ln M.lc) C.lz
 h:OG 136 4 bS W aN (qS M.ha M.hn M.hc) C.hz
 bm:base<=aN
 bh:β L.length<=aN
 vs:M.cs=C.cs/\M.cw=C.cw/\M.ck=C.ck/\M.cd=C.cd/\M.pc=C.pc/\M.md=C.md/\M.bk=C.bk/\M.tn=C.tn
 vz:M.ms=L.map mdP/\M.kz=C.kz/\M.fz=C.fz/\M.rz=C.rz/\M.oz=C.oz/\M.lz=C.lz/\M.hz=C.hz
section
variable {W W':qw}{base aN base' mid':Nat}{C:Cn}{M N:Mn}{L L':List (PMod×Mb)}{β β':Nat->Nat}
def MxO.bw (h:MxO W base aN C M L β)(d:qY W W'):MxO W' base aN C M L β:=⟨h.m.bw d,h.e,h.k.bw d,aY h.q d,h.l.bw d,h.h.bw d,h.bm,h.bh,h.vs,h.vz⟩
def MxO.turn (h:MxO W base aN C M L β)(t:Turn S W W')(hS:∀j,S j->j<base):MxO W' base aN C M L β:=
 ⟨h.m.turn t hS,h.e,aV t h.k (λk d s=>by have:=(h.k.lt k d).1;have:=hS k s;have:=h.bm;omega),dV h.q t (λj e s=>by have:=((vJ h.q).lt e).1;have:=hS j s;have:=h.bm;omega),h.l.kept t (λk d s=>by have:=(h.l.lt k d).1;have:=hS k s;have:=h.bm;omega),h.h.kept t (λk d s=>by have:=(h.h.lt k d).1;have:=hS k s;have:=h.bm;omega),h.bm,h.bh,h.vs,h.vz⟩
def MxO.len (h:MxO W base aN C M L β):L.length=M.mn:=(eP h.m.o).symm
theorem MxO.mnd (h:MxO W base aN C M L β)(hn:M.mn<=1048576):MnD W M:=by
 have d:=h.len;let⟨a,j,e,b⟩:=h.m.msd J;simp only[Value.slice.injEq]at e;obtain⟨e1,e2,e3⟩:=e;rw[d,<-e1,<-e3]at b;let⟨v1,v2,v3,v4,f,g,i⟩:=h.vz;exact⟨by grind,v2 ▸ h.k.is,v3 ▸ h.q.1.bs,v4 ▸ h.q.2.1.bs,f ▸ h.q.2.2.1.bs,by rw[g];exact uC (λ_=>rfl) h.l,by rw[i];exact uC (λ_=>rfl) h.h⟩
theorem MxO.sam (h:MxO W base aN C M L β)(d:MxO W' base' mid' C N L' β'):Sam M N:=by
 have G:=h.len;have t:=d.len;let⟨s1,s2,s3,j,s5,k,u,w⟩:=h.vs;let⟨H,I,K,O,Q,S,U,V⟩:=d.vs;let⟨v1,v2,v3,v4,v5,v6,v7⟩:=h.vz;let⟨f,X,Y,Z,u5,u6,u7⟩:=d.vz;have q:L.map (λx=>x.1)=L'.map (λx=>x.1):=h.e.trans d.e.symm;have E:L.length=L'.length:=by have:=congrArg List.length q;simpa using this
 refine⟨⟨by grind,by grind,by grind,by grind,by grind,by grind,by grind,by grind⟩,⟨J,by rw[gU h.k,gU d.k],by rw[bC h.q.1,bC d.q.1],by rw[bC h.q.2.1,bC d.q.2.1],by rw[bC h.q.2.2.1,bC d.q.2.2.1],by rw[eP h.l,eP d.l],by rw[eP h.h,eP d.h]⟩,⟨by grind,by grind,by grind,by grind,by grind,by grind⟩,λi hi=>?_⟩;rw[v1,f];have e:i<L.length:=J
 have p:i<L'.length:=J
 have B:(L.map mdP).getD i aM=mdP L[i]:=by simp[xB,e]
 have s:(L'.map mdP).getD i aM=mdP L'[i]:=by simp[xB,p]
 rw[B,s];have A:=(h.m.m i L[i] (xN e)).1;have D:=(d.m.m i L'[i] (xN p)).1
 have e1:L[i].1=L'[i].1:=by
  have:=congrArg (λl=>l[i]?) q
  grind
 generalize L[i]=x at *;generalize L'[i]=y at *;obtain⟨P,x⟩:=x;obtain⟨g,y⟩:=y;subst e1;let⟨a,b⟩:=ModO.same A D;exact⟨rfl,rfl,rfl,a,b,rfl,rfl,rfl,rfl,rfl,rfl,rfl,rfl,rfl⟩
theorem MxO.mno (h:MxO W base aN C M L β):MnO W base (qS M.ma M.mn M.mc) ((L.map hdP).map λx=>x.1) (L.map hdP) β (qS M.ka M.kn M.kc) (qS M.fa M.fn M.fc) (qS M.ra M.rn M.rc) (qS M.oa M.on M.oc) (qS M.la M.ln M.lc) (qS M.ha M.hn M.hc) C.kz C.fz C.rz C.oz C.lz C.hz:=by
 have:=h.bh
 have no:∀j,aN<=j->¬ShL ((L.map hdP).map λx=>x.1) j:=λj d⟨i,hi,hs⟩=>by
  simp only[xH]at hi;have e:((L.map hdP).map λx=>x.1).getD i zHd=(hdP L[i]).1:=by simp[xB,hi]
  rw[e]at hs;have:=(h.m.m i L[i] (xN hi)).2.2 j hs;have:=h.m.mono (i+1) L.length J aQ;omega
 exact⟨h.m.oms,rfl,h.k.mono h.bm,(vJ h.q).mono h.bm,h.l.mono h.bm,h.h.mono h.bm,λj d=>no j (h.k.lt j d).1,λj d=>no j ((vJ h.q).lt d).1,λi x hx=>xM h.m.lo$ h.m.mono 0 i (xC _) (by grind)⟩
theorem MxO.cnt (h:MxO W base aN C M L β):1+upS (λj=>bJ$ ((L.map hdP).map λx=>x.1).getD j zHd) M.mn+M.kn+M.fn+M.rn+M.on+4*M.ln+4*M.hn=mkn C/\∀i,i<M.mn->(((L.map hdP).map λx=>x.1).getD i zHd).bn<=1048576:=by
 have:=h.len
 have e1:upS (λj=>bJ$ ((L.map hdP).map λx=>x.1).getD j zHd) M.mn=(C.ps.map szc).sum:=by
  have l:M.mn=((L.map hdP).map λx=>x.1).length:=by grind
  rw[l,aC8 bJ zHd,<-h.e,List.map_map,List.map_map,List.map_map];congr 1;apply List.map_congr_left;intro x hx;obtain⟨i,hi,rfl⟩:=List.getElem_of_mem hx;have s:=(ModO.sum (h.m.m i L[i] (xN hi)).1).1;simp only[Function.comp,bJ,hdP,szc];rw[s]
 have:=gU h.k;have:=bC h.q.1;have:=bC h.q.2.1;have:=bC h.q.2.2.1;have:=eP h.l;have:=eP h.h;refine⟨by unfold mkn;rw[e1];omega,λi hi=>?_⟩;have d:i<L.length:=J
 have e:((L.map hdP).map λx=>x.1).getD i zHd=(hdP L[i]).1:=by simp[xB,d]
 rw[e];let⟨a,R,_⟩:=h.m.m i L[i] (xN d);have s:=(ModO.sum a).2;have:=R.b.1;show L[i].2.bl.length<=_;omega
end
