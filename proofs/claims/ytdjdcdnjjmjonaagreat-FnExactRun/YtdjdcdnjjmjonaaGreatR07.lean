import Derived.Defers
import Derived.Recover
import Derived.Test.YtdjdcdnjjmjonaaGreatR06
set_option linter.all false
set_option maxHeartbeats 2000000
namespace Go.Proofs.YtdjdcdnjjmjonaaGreat
open Go.RowKit
open Go.Proofs.Tryz
set_option maxRecDepth 100000
variable {E xs:List Ex}{I:List ByteArray}{S:Nat->Prop}{X:Nat->List Int}{a a2:qO}{base base' bn c g k n sz:Nat}{bl:List Bk}{cs:Array Value}{f:Nat->qO×Nat×Nat}{row:Option Nat}{v v1 v3 v5 v6 v7:Value}
def aD (w g i v):Turn (λj=>j=g) w (w.setCell (qR g i) v):=⟨rfl,rfl,rfl,by rw[aL];exact aQ,λk _ b=>heap_setCell_other _ _ _ _ b⟩
def OG {α:Type}(t:TypeId)(sz:Nat)(f:α->List Value)(w:qw)(base:Nat)(v:Value)(xs:List α):Prop:=w.ownsRow base t sz v xs.length$ xs.flatMap f
def OG.bw {α:Type}{t:TypeId}{f:α->List Value}{w w':qw}{xs:List α}(h:OG t sz f w base v xs)(b:qY w w'):OG t sz f w' base v xs:=by
 obtain⟨a,i|⟨g,d,e,u,q,s,j,k,l,p⟩⟩:=h
 .exact⟨a,.inl i⟩
 .exact⟨a,.inr ⟨g,d,e,u,q,Blk.bw (w:=w) s b,j,k,l,p⟩⟩
def OG.mono {α:Type}{t:TypeId}{f:α->List Value}{w:qw}{xs:List α}(h:OG t sz f w base v xs)(b:base'<=base):OG t sz f w base' v xs:=by
 obtain⟨a,i|⟨g,d,e,s,u,q,j,k,l,p⟩⟩:=h
 .exact⟨a,.inl i⟩
 .exact⟨a,.inr ⟨g,d,e,s,J,q,j,k,l,p⟩⟩
def OG.turn {α:Type}{t:TypeId}{f:α->List Value}{w w':qw}{xs:List α}(h:OG t sz f w base v xs)(b:Turn S w w')(hS:∀k,S k->¬base<=k):OG t sz f w' base v xs:=by
 obtain⟨d,j|⟨g,e,i,y,a,x,l,p,q,u⟩⟩:=h
 .exact⟨d,.inl j⟩
 .exact⟨d,.inr ⟨g,e,i,y,a,aC (w:=w) b x λs=>hS g s a,l,p,q,u⟩⟩
def OG.lt {α:Type}{t:TypeId}{f:α->List Value}{w:qw}{xs:List α}(h:OG t sz f w base v xs):∀k,v.ownBlock=some k->base<=k/\k<w.heap.size:=World.ownsRow.lt h
def mW {α:Type}(t sz)(f:α->List Value)(w base):OG t sz f w base (qS none 0 0) []:=⟨Jb,.inl ⟨rfl,rfl⟩⟩
theorem aZ {α:Type}{t:TypeId}{f:α->List Value}{w:qw}{xs:List α}(h:OG t sz f w base v xs):∃a c,v=qS a xs.length c:=by
 obtain⟨j,⟨e,i⟩|⟨g,b,d,k,_⟩⟩:=h
 .grind
 .grind
theorem vW {w W W':qw}(h:Turn S w W)(b:W.grownBy W' row)(i:∀k,row=some k->w.heap.size<=k):Turn S w W':=
 ⟨b.os.trans h.os,b.tape.trans h.tape,b.output.trans h.output,xM h.size b.size,λk d hs=>(b.block k (Nat.lt_of_lt_of_le d h.size) (λe=>by grind)).trans$ h.block k d hs⟩
theorem cA (w:qw)(cs t)(xs:List Value)(h:cs=xs.toArray):∀j u,xs[j]?=some u->(w.alloc$ .cells cs t).cell? (((qR w.heap.size 0):Addr).add j)=some u:=by
 intro j u b;subst h;rw[cE,Nat.zero_add,Blk.cell$ Blk.new w _ _]
 grind
def clI (x:Int):List Value:=[qI x]
def clT (x:ByteArray):List Value:=[.string x]
def clX (x:Ex):List Value:=[.string x.1,qI x.2.1,qI x.2.2]
theorem aB3 {w W:qw}(h:Turn S w W)(d:w.heap.size<=k)(i v):Turn S w (W.setCell (qR k i) v):=
 ⟨h.os,h.tape,h.output,by rw[aL];exact h.size,λj b hs=>by rw[heap_setCell_other _ _ _ _ (by grind)];exact h.block j b hs⟩
structure OBk (w:qw)(base:Nat)(v:Value)(bl:List Bk):Prop where
 head:w.ownsRow base 25 1 v bl.length (bl.map fun B=>qS B.1 B.2.1 B.2.2.1)
 rows:∀B∈bl,B.2.1=B.2.2.2.length/\OG 3 1 clI w base (qS B.1 B.2.1 B.2.2.1) B.2.2.2
 apart:bl.Pairwise fun A B=>∀k,(qS A.1 A.2.1 A.2.2.1).ownBlock=some k->(qS B.1 B.2.1 B.2.2.1).ownBlock≠some k
def aE {w:qw}{t:TypeId}{xs:List Value}(h:w.ownsRow base t sz v n xs)(d:v.ownBlock=some k):∃b,Blk w k b t:=by
 obtain⟨j,⟨a,_⟩|⟨g,i,b,f,_,e,_⟩⟩:=h
 .subst a;simp[Value.ownBlock]at d
 .subst f;simp[Value.ownBlock]at d;subst d;exact⟨b,e⟩
theorem aH {w:qw}{b:Array Value}{t t':TypeId}(h:Blk w k cs t)(d:Blk w k b t'):t=t':=by
 unfold Blk at h d
 grind
def OG.grown {α:Type}{t:TypeId}{f:α->List Value}{w w':qw}{xs:List α}(h:OG t sz f w base v xs)(d:w.grownBy w' row)(b:v.ownBlock=none\/v.ownBlock≠row):OG t sz f w' base v xs:=World.ownsRow.kept h d b
def OBk.turn {w w':qw}(h:OBk w base v bl)(d:Turn S w w')(hS:∀k,S k->¬base<=k):OBk w' base v bl:=by
 refine⟨?_,λB b=>⟨(h.rows B b).1,(h.rows B b).2.turn d hS⟩,h.apart⟩;obtain⟨e,j|⟨g,f,i,x,a,u,l,p,q,t⟩⟩:=h.head
 .exact⟨e,.inl j⟩
 .exact⟨e,.inr ⟨g,f,i,x,a,aC (w:=w) d u λs=>hS g s a,l,p,q,t⟩⟩
def OBk.lt {w:qw}(h:OBk w base v bl):∀k,v.ownBlock=some k->base<=k/\k<w.heap.size:=h.head.lt
theorem aMp {w:qw}(h:OBk w base v bl):∃a c,v=qS a bl.length c:=by
 obtain⟨i,⟨e,f⟩|⟨g,b,d,j,_⟩⟩:=h.head
 .grind
 .grind
theorem OBk.push {W p:qw}{d:Nat}{v':Value}{A:qO}{C:Nat}{x:qi}(h:OBk W base (qS a k c) bl)(G:bl.length=k)(hx:OG 3 1 clI W d (qS A x.length C) x)(u:base<=d)(l:∀B∈bl,∀j,(qS B.1 B.2.1 B.2.2.1).ownBlock=some j->j<d)
 (s:p.ownsRow base 25 1 v' (k+1) (bl.map (λB=>qS B.1 B.2.1 B.2.2.1)++[qS A x.length C])) (t:W.grownBy p (qS a k c).ownBlock):OBk p base v' (bl++[(A,x.length,C,x)]):=by
 have i:∀(v:Value)(f:qi)(d:Nat),OG 3 1 clI W d v f->v.ownBlock=none\/v.ownBlock≠(qS a k c).ownBlock:=λv f d w=>by
  cases e:v.ownBlock with
  | none=>exact .inl rfl
  | some j=>
    refine .inr λy=>?_;let⟨H,g⟩:=aE w e;let⟨c2,E⟩:=aE h.head y.symm;exact absurd (aH g E) Ja
 refine⟨?_,?_,?_⟩
 .grind
 .intro B b;rcases List.mem_append.1 b with b|b
  .exact⟨(h.rows B b).1,(h.rows B b).2.grown t$ i _ _ _ (h.rows B b).2⟩
  .simp at b;subst b;exact⟨rfl,(hx.grown t$ i _ _ _ hx).mono u⟩
 .rw[List.pairwise_append];refine⟨h.apart,Jb,λB b X q j D e=>?_⟩;simp at q;subst q;have:=l B b j D;have:=(hx.lt j e).1;omega
def OBk.mono {w:qw}(h:OBk w base v bl)(d:base'<=base):OBk w base' v bl:=by
 refine⟨?_,λB b=>⟨(h.rows B b).1,(h.rows B b).2.mono d⟩,h.apart⟩;obtain⟨a,i|⟨g,e,f,s,t,q,j,k,l,p⟩⟩:=h.head
 .exact⟨a,.inl i⟩
 .exact⟨a,.inr ⟨g,e,f,s,J,q,j,k,l,p⟩⟩
def dR {α:Type}(f:α->Value):∀xs:List α,xs.flatMap (λx=>[f x])=xs.map f
 | []=>rfl
 | x::xs=>by rw[xT,dR f xs];rfl
def zW (xs:qi):xs.flatMap clI=xs.map (Value.int .i64):=dR _ xs
def zV (xs:List ByteArray):xs.flatMap clT=xs.map Value.string:=dR _ xs
theorem zU:∀(xs:List Ex)(i:Nat),i<xs.length->(xs.flatMap clX)[i*3]?=some (.string (xs.getD i zE).1)/\(xs.flatMap clX)[i*3+1]?=some (qI (xs.getD i zE).2.1)/\(xs.flatMap clX)[i*3+2]?=some (qI (xs.getD i zE).2.2)
 | [],i,h=>by grind
 | x::xs,0,h=>⟨rfl,rfl,rfl⟩
 | x::xs,i+1,h=>by
   have:=zU xs i (by grind)
   have e:∀d,((x::xs).flatMap clX)[(i+1)*3+d]?=(xs.flatMap clX)[i*3+d]?:=λd=>by
    rw[xT,List.getElem?_append_right (by simp[clX];omega)];congr 1;simp[clX];omega
   have:=e 0
   grind
theorem aW {α:Type}{t:TypeId}{f:α->List Value}{w:qw}{xs:List α}(h:OG t sz f w base (qS a n c) xs):xs.length=n/\n<=maxLen/\n<=c/\(n≠0->∃g,a=some (qR g 0)/\∀j u,(xs.flatMap f)[j]?=some u->w.cell? (qR g j)=some u):=by
 have hc:=λg b=>World.ownsRow.cells h (g:=g) b;obtain⟨A,⟨p,e⟩|⟨g,k,l,i,b,y,e,q,s,x⟩⟩:=h
 .grind
 .simp at i;obtain⟨rfl,rfl,rfl⟩:=i;refine⟨rfl,J,e,λB=>⟨g,rfl,λj u d=>?_⟩⟩;have:=hc g rfl j u d
  rwa[cE,Nat.zero_add]at this
theorem aGo {w:qw}{xs:qi}(h:OG 3 1 clI w base (qS a n c) xs)(hx:∀z∈xs,wfi z):IS w a n c xs:=by
 let⟨b,d,e,f⟩:=aW h;refine⟨b,d,hx,λj=>?_,e⟩;obtain⟨g,rfl,hc⟩:=f j;refine⟨g,0,rfl,λi hi=>?_⟩;rw[Nat.zero_add];refine hc i _ ?_;rw[zW]
 grind
theorem aWu {w:qw}{xs:List ByteArray}(h:OG 9 1 clT w base (qS a n c) xs)(hx:∀s∈xs,s.size<=1048576):SS w a n c xs:=by
 let⟨b,d,e,f⟩:=aW h;refine⟨b,d,hx,λj=>?_,e⟩;obtain⟨g,rfl,hc⟩:=f j;refine⟨g,0,rfl,λi hi=>?_⟩;rw[Nat.zero_add];refine hc i _ ?_;rw[zV]
 grind
theorem aWv {w:qw}(h:OG 209 3 clX w base (qS a n c) xs)(hx:∀s∈xs,s.1.size<=1048576):ES w a n c xs:=by
 let⟨b,d,e,f⟩:=aW h;refine⟨b,d,hx,λj=>?_,e⟩;obtain⟨g,rfl,hc⟩:=f j;refine⟨g,0,rfl,λi hi=>?_⟩;rw[Nat.zero_add];let⟨k,l,p⟩:=zU xs i J
 grind
theorem aSl {w:qw}(h:OBk w base (qS a n c) bl)(hx:∀B∈bl,∀z∈B.2.2.2,wfi z):BKS w a n c bl:=by
 have d:OG 25 1 (λB:Bk=>[qS B.1 B.2.1 B.2.2.1]) w base (qS a n c) bl:=by unfold OG;rw[dR];exact h.head
 let⟨f,j,k,l⟩:=aW d;refine⟨f,j,λp=>?_,λi hi=>?_,k⟩
 .obtain⟨g,rfl,hc⟩:=l p;refine⟨g,0,rfl,λi hi=>?_⟩;rw[Nat.zero_add];refine hc i _ ?_;rw[dR]
  grind
 .have b:bl.getD i zB∈bl:=by simp[xB,show i<bl.length from J]
  let⟨e,o⟩:=h.rows _ b;exact aGo o$ hx _ b
def OG.kept {α:Type}{t:TypeId}{f:α->List Value}{w w':qw}{xs:List α}(h:OG t sz f w base v xs)(d:Turn S w w')(b:∀k,v.ownBlock=some k->¬S k):OG t sz f w' base v xs:=by
 obtain⟨a,l|⟨g,i,j,e,x,y,p,q,s,u⟩⟩:=h
 .exact⟨a,.inl l⟩
 .exact⟨a,.inr ⟨g,i,j,e,x,aC (w:=w) d y (b g (by rw[e];rfl)),p,q,s,u⟩⟩
theorem gJ {α:Type}{t:TypeId}{f:α->List Value}{w:qw}{xs:List α}(h:OG t sz f w base (qS a n c) xs)(hn:n≠0):∃g,a=some (qR g 0):=by
 let⟨_,_,_,b⟩:=aW h
 grind
theorem aSk {w:qw}{ss:List ByteArray}(h:OG 9 1 clT w base (qS (qP g) n c) ss)(i)(hi:i<n)(s):OG 9 1 clT (w.setCell (qR g i)$ .string s) base (qS (qP g) n c) (ss.set i s):=by
 unfold OG at *;rw[zV]at *;obtain⟨u,⟨p,_⟩|⟨l,k,b,a,f,j,q,d,t,e⟩⟩:=h
 .grind
 .simp at a;obtain⟨rfl,rfl,rfl⟩:=a;refine⟨Jb,.inr ⟨g,c,b.setIfInBounds i$ .string s,Jb,f,Blk.set (w:=w) j i _,by grind,d,by grind,?_⟩⟩;rw[List.length_set,xW,List.take_set,e,List.map_set]
def gV (k n:Nat):List ByteArray:=(List.range n).map λi=>mtx$ k+i
def iV (zs:List ByteArray)(k m:Nat):List ByteArray:=(List.range zs.length).map λi=>if i<m then mtx (k+i) else zs.getD i zS
def aGt (zs k):iV zs k 0=zs:=by
 apply List.ext_getElem
 .simp[iV]
 .intro i d b;simp[iV,b]
def aI3 (a k):iV a k a.length=gV k a.length:=by
 apply List.ext_getElem
 .simp[iV,gV]
 .intro i d b;simp[gV]at b;simp[iV,gV,b]
theorem aI2 (a k m)(h:m<a.length):(iV a k m).set m (mtx$ k+m)=iV a k (m+1):=by
 apply List.ext_getElem
 .simp[iV]
 .intro i b d;simp only[iV,List.getElem_set,List.getElem_map,List.getElem_range]
  grind
def sQ (g n a base f)(k:Nat)(w)(h:OG 9 1 clT w base (qS (qP g) n a) f)(hn:n<=5000000)(G:0<k)(K:k<=20000000):
 qC 100 #[qS (qP g) n a,qI k] w λe w'=>e=.returned (qI ((k+n:Nat):Int))/\OG 9 1 clT w' base (qS (qP g) n a) (gV k n)/\Turn (λj=>j=g) w w':=by
 have p:=(aW h).1
 delta qC;go_in
 go_wp2;go_loopw [1,5] (λx i wr=>∃m:Nat,m<=n/\i=qI m/\x=qI ((k+m:Nat):Int)/\OG 9 1 clT wr base (qS (qP g) n a) (iV f k m)/\Turn (λj=>j=g) w wr) (λ_ i _=>n-(intOf i).toNat)
 .exact⟨0,xC _,rfl,rfl,by rw[aGt];exact h,Turn.refl _ _⟩
 .obtain⟨m,H,rfl,rfl,O,T⟩:=hrel;by_cases d:m<n
  .have s:(m:Int)<(n:Int):=J
   have C:=zh$ eW (k+m) wr;go_wp2_with fail
   apply C.mono;rintro e A ⟨rfl,q⟩;have t:=O.bw q;have B:=T.trans$ aG q
   have l:Sl (λj=>j=g) A (qP g) n 1:=by
    obtain⟨_,⟨N,_⟩|⟨W,U,V,E,_,S,P,_,Q,_⟩⟩:=t
    .simp at N
    .simp at E;obtain⟨rfl,rfl,rfl⟩:=E;refine Sl.ofBlk (c:=0) S rfl ?_;simp at P Q;omega
   let⟨⟨u,I⟩,M,_⟩:=l.cell J m J;rw[Nat.zero_add]at I M;have y:=aSk t m d$ mtx$ k+m;rw[aI2 f k m J]at y;have D:=B.trans$ aD A g m$ .string$ mtx$ k+m;have b:=zh$ xA y D;go_wp2
   go_roundw
   .exact⟨m+1,J,by go_num,by go_num,b.1,b.2⟩
   .simp[intOf];omega
  .have e:Zh (m=n):=by show m=n;omega
   have b:=zh$ xA O T;go_wp2;go_ret;refine⟨aJ (by rw[e.o]),?_,b.o.2⟩;have:=b.1;rw[e.o,<-p,aI3]at this;rw[p]at this;exact this
def sP (a)(b k:Nat)(w):
 qC 100 #[qS a 0 b,qI k] w λe w'=>e=.returned (qI k)/\w=w':=by
 delta qC;go_in
 go_wp2;go_loop [1,5] (λx i=>i=qI 0/\x=qI k) (λ_ _=>0)
 .exact⟨rfl,rfl⟩
 .obtain⟨rfl,rfl⟩:=hrel;go_wp2;go_ret;exact⟨rfl,rfl⟩
def uQ (a n f base q)(k:Nat)(w)(h:OG 9 1 clT w base (qS a n f) q)(hn:n<=5000000)(i:0<k)(l:k<=20000000):
 qC 100 #[qS a n f,qI k] w λe w'=>e=.returned (qI ((k+n:Nat):Int))/\OG 9 1 clT w' base (qS a n f) (gV k n)/\Turn (λj=>(qS a n f).ownBlock=some j) w w':=by
 by_cases d:n=0
 .subst d;refine(sP a f k w).mono λe w' b=>?_;obtain⟨rfl,rfl⟩:=b;have s:q=[]:=xE (aW h).1;subst s;exact⟨rfl,h,Turn.refl _ _⟩
 .obtain⟨g,rfl⟩:=gJ h d;refine(sQ g n f base q k w h hn i l).mono λe w' b=>⟨b.1,b.2.1,b.2.2.mono ?_⟩;intro j p;subst p;rfl
def aMz (k n m)(h:m<n):((gV k n).flatMap clT)[m]?=some (.string$ mtx$ k+m):=by
 rw[zV];simp[gV,h]
theorem aVf {w:qw}{xs:List ByteArray}(h:OG 9 1 clT w base (qS (qP g) n c) xs)(m u)(hu:(xs.flatMap clT)[m]?=some u):∀W,qY w W->W.cell? (qR g m)=some u:=λW b=>by
 have O:=OG.bw h b;let⟨d,_,_,a⟩:=aW O
 grind
def uX (a n f base k w)(h:OG 9 1 clT w base (qS a n f) (gV k n))(hn:n<=5000000)(D:0<k)(H:k<=20000000):
 qC 104 #[qS a n f,qI k] w (qB w$ qI ((k+n:Nat):Int)):=by
 have q:=zh h
 delta qC;go_in
 go_wp2;go_loopw [1,5] (λx i wr=>∃m:Nat,m<=n/\i=qI m/\x=qI ((k+m:Nat):Int)/\qY w wr) (λ_ i _=>n-(intOf i).toNat)
 .exact⟨0,xC _,rfl,rfl,brf⟩
 .obtain⟨m,G,rfl,rfl,B⟩:=hrel;by_cases j:m<n
  .have p:(m:Int)<(n:Int):=J
   obtain⟨g,rfl⟩:=gJ q J;have b:=aVf q m _$ aMz k n m j;have t:=zh λW=>eW (k+m) W;let⟨s,hs⟩:=aO$ mtx$ k+m;rw[<-hs]at b t;have u:=zh b;have:=u wr B;have C:=zh B;go_wp2_with fail
   go_region_held3 (λE=>qN E g m=some (.string s)) (go_keep) (first
    | (go_at_call 97;refine(t _).mono ?_;rintro e A ⟨rfl,d⟩;replace d:=yT C$ aU d;have:=u A d;have l:=zh d;clear d))
   go_wp2
   go_roundw
   .exact⟨m+1,J,by go_num,by go_num,l⟩
   .simp[intOf];omega
  .have e:Zh (m=n):=by show m=n;omega
   have y:=zh B;go_wp2;go_ret;exact⟨aJ (by rw[e.o]),y.o⟩
theorem tK:∀(xs:List Ex)(i:Nat)(x:Ex),i<xs.length->(((xs.flatMap clX).set (i*3)$ .string x.1).set (i*3+1)$ qI x.2.1).set (i*3+2) (qI x.2.2)=(xs.set i x).flatMap clX
 | [],i,x,h=>by grind
 | y::ys,0,x,h=>by simp[clX]
 | y::ys,i+1,x,h=>by
   have:=tK ys i x (by grind);rw[show(i+1)*3=i*3+1+1+1 from J];simp only[xT,clX,List.cons_append,List.nil_append,List.set_cons_succ]
   grind
theorem aSj {w:qw}(h:OG 209 3 clX w base (qS (qP g) n c) xs)(i)(hi:i<n)(s p q):OG 209 3 clX (((w.setCell (qR g$ i*3)$ .string s).setCell (qR g$ i*3+1)$ qI p).setCell (qR g$ i*3+2)$ qI q) base (qS (qP g) n c) (xs.set i (s,p,q)):=by
 obtain⟨y,⟨t,_⟩|⟨l,k,b,a,f,j,u,d,x,e⟩⟩:=h
 .grind
 .simp at a;obtain⟨rfl,rfl,rfl⟩:=a;refine⟨?_,.inr ⟨g,c,((b.setIfInBounds (i*3)$ .string s).setIfInBounds (i*3+1)$ qI p).setIfInBounds (i*3+2)$ qI q,Jb,f,Blk.set (Blk.set (Blk.set (w:=w) j _ _) _ _) _ _,by grind,d,by grind,?_⟩⟩
  .rw[<-tK xs i (s,p,q) hi]
   grind
  .rw[List.length_set,xW,xW,xW,List.take_set,List.take_set,List.take_set,e];exact tK xs i (s,p,q) hi
def iY (k n:Nat):List Ex:=(List.range n).map λi=>(mtx$ k+3*i,((k+3*i+1:Nat):Int),((k+3*i+2:Nat):Int))
def fX (zs:List Ex)(k m:Nat):List Ex:=(List.range zs.length).map λi=>if i<m then (mtx$ k+3*i,((k+3*i+1:Nat):Int),((k+3*i+2:Nat):Int)) else zs.getD i zE
def aI0 (a k m):(fX a k m).length=a.length:=by simp[fX]
def aGs (zs k):fX zs k 0=zs:=by
 apply List.ext_getElem
 .simp[fX]
 .intro i d b;simp[fX,b]
def aI1 (a k):fX a k a.length=iY k a.length:=by
 apply List.ext_getElem
 .simp[fX,iY]
 .intro i d b;simp[iY]at b;simp[fX,iY,b]
theorem aIz (a k m)(h:m<a.length):(fX a k m).set m (mtx$ k+3*m,((k+3*m+1:Nat):Int),((k+3*m+2:Nat):Int))=fX a k (m+1):=by
 apply List.ext_getElem
 .simp[fX]
 .intro i b d;simp only[fX,List.getElem_set,List.getElem_map,List.getElem_range]
  grind
def sV (g n a base f)(k:Nat)(w)(h:OG 209 3 clX w base (qS (qP g) n a) f)(hn:n<=5000000)(N:0<k)(P:k<=20000000):
 qC 101 #[qS (qP g) n a,qI k] w λe w'=>e=.returned (qI ((k+3*n:Nat):Int))/\OG 209 3 clX w' base (qS (qP g) n a) (iY k n)/\Turn (λj=>j=g) w w':=by
 have s:=(aW h).1
 delta qC;go_in
 go_wp2;go_loopw [1,5] (λx i wr=>∃m:Nat,m<=n/\i=qI m/\x=qI ((k+3*m:Nat):Int)/\OG 209 3 clX wr base (qS (qP g) n a) (fX f k m)/\Turn (λj=>j=g) w wr) (λ_ i _=>n-(intOf i).toNat)
 .exact⟨0,xC _,rfl,rfl,by rw[aGs];exact h,Turn.refl _ _⟩
 .obtain⟨m,Q,rfl,rfl,O,T⟩:=hrel;by_cases l:m<n
  .have G:(m:Int)<(n:Int):=J
   have M:=zh$ eW (k+3*m) wr;go_wp2_with fail
   apply M.mono;rintro e C ⟨rfl,t⟩;have y:=O.bw t;have K:=T.trans$ aG t
   have b:Sl (λj=>j=g) C (qP g) n 3:=by
    obtain⟨_,⟨X,_⟩|⟨g',a0,a1,E,_,Z,Y,_,h3,_⟩⟩:=y
    .simp at X
    .simp at E;obtain⟨rfl,rfl,rfl⟩:=E;refine Sl.ofBlk (c:=0) Z rfl ?_;rw[aI0]at Y;omega
   let⟨⟨u,I⟩,U,_⟩:=b.cell J (m*3) J;let⟨⟨u1,S⟩,V,_⟩:=b.cell J (m*3+1) J;let⟨⟨u2,c2⟩,W,_⟩:=b.cell J (m*3+2) J;rw[Nat.zero_add]at I U S V c2 W
   have d:=zh (λ(p q:Int)(D:p=((k+3*m+1:Nat):Int))(B:q=((k+3*m+2:Nat):Int))=>by
    have A:=aSj y m l (mtx$ k+3*m) p q;rw[D,B,aIz f k m J,<-D,<-B]at A;have H:=((K.trans$ aD C g (m*3)$ .string$ mtx$ k+3*m).trans$ aD _ g (m*3+1)$ qI p).trans$ aD _ g (m*3+2)$ qI q
    exact xA A H)
   go_wp2
   go_roundw
   .exact⟨m+1,J,by go_num,by go_num,(d _ _ (by go_num) (by go_num)).1,(d _ _ (by go_num) (by go_num)).2⟩
   .simp[intOf];omega
  .have e:Zh (m=n):=by show m=n;omega
   have d:=zh$ xA O T;go_wp2;go_ret;refine⟨aJ (by rw[e.o]),?_,d.o.2⟩;have:=d.1;rw[e.o,<-s,aI1]at this;rw[s]at this;exact this
def sT (a)(b k:Nat)(w):
 qC 101 #[qS a 0 b,qI k] w λe w'=>e=.returned (qI k)/\w=w':=by
 delta qC;go_in
 go_wp2;go_loop [1,5] (λx i=>i=qI 0/\x=qI k) (λ_ _=>0)
 .exact⟨rfl,rfl⟩
 .obtain⟨rfl,rfl⟩:=hrel;go_wp2;go_ret;exact⟨rfl,rfl⟩
def uV (a n f base q)(k:Nat)(w)(h:OG 209 3 clX w base (qS a n f) q)(hn:n<=5000000)(i:0<k)(l:k<=20000000):
 qC 101 #[qS a n f,qI k] w λe w'=>e=.returned (qI ((k+3*n:Nat):Int))/\OG 209 3 clX w' base (qS a n f) (iY k n)/\Turn (λj=>(qS a n f).ownBlock=some j) w w':=by
 by_cases d:n=0
 .subst d;refine(sT a f k w).mono λe w' b=>?_;obtain⟨rfl,rfl⟩:=b;have s:q=[]:=xE (aW h).1;subst s;exact⟨rfl,h,Turn.refl _ _⟩
 .obtain⟨g,rfl⟩:=gJ h d;refine(sV g n f base q k w h hn i l).mono λe w' b=>⟨b.1,b.2.1,b.2.2.mono ?_⟩;intro j p;subst p;rfl
theorem aVe {w:qw}(h:OG 209 3 clX w base (qS (qP g) n c) xs)(m)(d:m<n):∀W,qY w W->W.cell? (qR g$ m*3)=some (.string (xs.getD m zE).1)/\W.cell? (qR g$ m*3+1)=some (qI (xs.getD m zE).2.1)/\W.cell? (qR g$ m*3+2)=some (qI (xs.getD m zE).2.2):=λW b=>by
 have O:=OG.bw h b;let⟨i,_,_,e⟩:=aW O;let⟨f,a,hc⟩:=e J;simp at a;subst a;let⟨e0,e1,e2⟩:=zU xs m J
 grind
def aMy (k n m)(h:m<n):(iY k n).getD m zE=(mtx$ k+3*m,((k+3*m+1:Nat):Int),((k+3*m+2:Nat):Int)):=by simp[iY,xB,h]
def vB (a n E base k w)(h:OG 209 3 clX w base (qS a n E) (iY k n))(hn:n<=5000000)(M:0<k)(N:k<=20000000):
 qC 105 #[qS a n E,qI k] w (qB w$ qI ((k+3*n:Nat):Int)):=by
 have y:=zh h;clear h
 delta qC;go_in
 go_wp2;go_loopw [1,5] (λx i wr=>∃m:Nat,m<=n/\i=qI m/\x=qI ((k+3*m:Nat):Int)/\qY w wr) (λ_ i _=>n-(intOf i).toNat)
 .exact⟨0,xC _,rfl,rfl,brf⟩
 .obtain⟨m,O,rfl,rfl,B⟩:=hrel;by_cases j:m<n
  .have u:(m:Int)<(n:Int):=J
   obtain⟨g,rfl⟩:=gJ y J;have b:=aVe y m j;rw[aMy k n m j]at b;have l:=zh λW=>eW (k+3*m) W;obtain⟨K,f⟩:∃K:Nat,K=k+3*m:=⟨_,rfl⟩;have A:=zh f;have:K<=67108000:=J
   rw[<-f]at b l⊢;let⟨s,hs⟩:=aO$ mtx K;rw[<-hs]at b l;have q:=zh b;clear hs b f;have D:=q wr B;have t:=zh B;clear B;go_wp2
   go_region_held3 (λG=>qN G g (m*3)=some (.string s)) (go_keep) (first
    | (go_at_call 97;refine(l _).mono ?_;rintro e C ⟨rfl,d⟩;replace d:=yT t$ aU d;obtain⟨I,P,Q⟩:=q C d;have p:=zh d;clear d))
   clear D t q l;go_wp2
   go_roundw
   .exact⟨m+1,J,by go_num,by rw[A.o];go_num,p.o⟩
   .simp[intOf];omega
  .have e:Zh (m=n):=by show m=n;omega
   have H:=zh B;clear B;go_wp2;go_ret;exact⟨aJ (by rw[e.o]),H.o⟩
def Sr (f:Nat->qO×Nat×Nat)(n j:Nat):Prop:=∃i,i<n/\(Value.slice (f i).1 (f i).2.1 (f i).2.2).ownBlock=some j
structure Rr (w:qw)(base:Nat)(a:qO)(n:Nat)(f:Nat->qO×Nat×Nat)(X:Nat->List Int):Prop where
 head:n≠0->∃g cs,a=some (qR g 0)/\¬Sr f n g/\Blk w g cs 25/\∀i,i<n->cs[i]?=some (.slice (f i).1 (f i).2.1 (f i).2.2)
 rows:∀i,i<n->OI w base (.slice (f i).1 (f i).2.1 (f i).2.2) (X i)
 apart:∀i j,i<n->j<n->i≠j->∀k,(Value.slice (f i).1 (f i).2.1 (f i).2.2).ownBlock=some k->(Value.slice (f j).1 (f j).2.1 (f j).2.2).ownBlock≠some k
def mrk (k:Nat)(f:Nat->qO×Nat×Nat)(i:Nat):List Int:=bY (k+cC f i) (f i).2.1
def Rr.kept {w w':qw}(h:Rr w base a n f X)(t:Turn S w w')(hs:∀i,i<n->∀k,(Value.slice (f i).1 (f i).2.1 (f i).2.2).ownBlock=some k->¬S k)(b:n≠0->∀g cs,a=some (qR g 0)->Blk w g cs 25->¬S g):Rr w' base a n f X:=
 ⟨λj=>by obtain⟨g,cs,e,l,d,p⟩:=h.head j;exact⟨g,cs,e,l,aC t d$ b j g cs e d,p⟩,λi hi=>aV t (h.rows i hi)$ hs i hi,h.apart⟩
def aBh (a)(n D k base:Nat)(f:Nat->qO×Nat×Nat)(X:Nat->List Int)(w)(h:Rr w base a n f X)(hn:n<=5000000)(hs:cC f n<=5000000)(Q:k<=10000000):
 qC 99 #[qS a n D,qI k] w λe w'=>e=.returned (qI ((k+cC f n:Nat):Int))/\Rr w' base a n f (mrk k f)/\Turn (Sr f n) w w':=by
 have P:=zh h;clear h
 delta qC;go_in
 go_wp2;go_loopw [1,5] (λx i wr=>∃m:Nat,m<=n/\i=qI m/\x=qI ((k+cC f m:Nat):Int)/\Rr wr base a n f (λi=>if i<m then mrk k f i else X i)/\Turn (Sr f n) w wr) (λ_ i _=>n-(intOf i).toNat)
 .exact⟨0,xC _,rfl,rfl,P,Turn.refl _ _⟩
 .obtain⟨m,U,rfl,rfl,R,T⟩:=hrel;by_cases b:m<n
  .have G:(m:Int)<(n:Int):=J
   obtain⟨g,S,rfl,I,E,hc⟩:=R.head J;have O:=(E.cell m).trans$ hc m b;have H:=vH f n m b;have C:=R.rows m b;simp only[Nat.lt_irrefl,if_false]at C;have u:=zh$ iA (f m).1 (f m).2.1 (f m).2.2 base (X m) (k+cC f m) wr C
   have l:=zh (λ(p:qw)(y:OI p base (.slice (f m).1 (f m).2.1 (f m).2.2) (bY (k+cC f m) (f m).2.1))(s:Turn (λj=>(Value.slice (f m).1 (f m).2.1 (f m).2.2).ownBlock=some j) wr p)=>show Rr p base (qP g) n f (λi=>if i<m+1 then mrk k f i else X i)/\Turn (Sr f n) w p by
    refine⟨⟨λ_=>⟨g,S,rfl,I,aC s E λe=>I ⟨m,b,e⟩,hc⟩,λi hi=>?_,R.apart⟩,T.trans$ s.mono λj N=>⟨m,b,N⟩⟩;by_cases e:i=m
    .subst e;simp only[show i<i+1 from J,if_true];exact y
    .have d:=aV s (R.rows i hi) λq K B=>R.apart i m hi b e q K B;by_cases e2:i<m
     .simp only[e2,if_true,show i<m+1 from J]at d ⊢;exact d
     .simp only[e2,if_false,show ¬i<m+1 from J]at d ⊢
      exact d)
   have A:Zh (cC f (m+1)=cC f m+(f m).2.1):=rfl;clear R T E hc C;generalize cC f m=V at *;generalize f m=M at *;obtain⟨W,Z,Y⟩:=M;dsimp only at *;go_wp2_with fail
   apply u.mono;rintro e p ⟨rfl,y,s⟩;have t:=zh$ l p y s;clear y s l u O;go_wp2
   go_roundw
   .exact⟨m+1,J,by go_num,by rw[A.o];go_num,t.o.1,t.o.2⟩
   .simp[intOf];omega
  .have e:Zh (m=n):=by show m=n;omega
   have t:=zh$ xA R T;clear R T;go_wp2;go_ret;refine⟨aJ (by rw[e.o]),?_,t.o.2⟩;have R:=t.1;refine⟨R.head,λi hi=>?_,R.apart⟩;have:=R.rows i hi;rw[e.o]at this;simp only[hi,if_true]at this;exact this
def aBt (a n q k base)(f:Nat->qO×Nat×Nat)(w)(h:Rr w base a n f (mrk k f))(hn:n<=5000000)(hs:cC f n<=5000000)(A:k<=10000000):
 qC 103 #[qS a n q,qI k] w λe w'=>e=.returned (qI ((k+cC f n:Nat):Int))/\w=w':=by
 have p:=zh h
 delta qC;go_in
 go_wp2;go_loop [1,5] (λx i=>∃m:Nat,m<=n/\i=qI m/\x=qI ((k+cC f m:Nat):Int)) (λ_ i=>n-(intOf i).toNat)
 .exact⟨0,xC _,rfl,rfl⟩
 .obtain⟨m,t,rfl,rfl⟩:=hrel;by_cases b:m<n
  .have l:(m:Int)<(n:Int):=J
   obtain⟨g,D,rfl,E,B,hc⟩:=p.head J;have:=(B.cell m).trans$ hc m b;have:=vH f n m b;have s:=(p.rows m b).is;have j:=zh$ iJ (f m).1 (f m).2.1 (f m).2.2 (k+cC f m) w s;have d:Zh (cC f (m+1)=cC f m+(f m).2.1):=rfl;generalize cC f m=C at *;generalize f m=u at *;go_wp2_with fail
   apply j.mono;rintro e y ⟨rfl,rfl⟩;go_wp2
   go_round
   .exact⟨m+1,J,by go_num,by rw[d.o];go_num⟩
   .simp[intOf];omega
  .have e:Zh (m=n):=by show m=n;omega
   go_wp2;go_ret;exact⟨aJ (by rw[e.o]),rfl⟩
def pN (s:Nat)(zs:qi):Option (Int×List Int):=if s<=zs.length then some (low$ zs.take s,zs.drop s) else none
def pB (n:Nat)(zs:qi):Option (List Int×List Int):=if n<=zs.length then some (zs.take n,zs.drop n) else none
def aTy (bs:qi):ByteArray:=⟨(bs.map λz=>UInt8.ofNat z.toNat).toArray⟩
def pT (zs:qi):Option (ByteArray×List Int):=(pN 1 zs).bind λx=>(pB x.1.toNat x.2).map λy=>(aTy y.1,y.2)
def pM {α:Type}(p:List Int->Option (α×List Int)):Nat->List Int->Option (List α×List Int)
 | 0,zs=>some ([],zs)
 | k+1,zs=>(pM p k zs).bind λx=>(p x.2).map λy=>(x.1++[y.1],y.2)
def pL (zs:qi):Option (List Int×List Int):=(pN 2 zs).bind λx=>pM (pN 4) x.1.toNat x.2
def pX (zs:qi):Option (Ex×List Int):=(pT zs).bind λx=>(pN 1 x.2).bind λy=>(pN 2 y.2).map λz=>((x.1,y.1-1,z.1),z.2)
def aXt (zs:qi):Option (PMod×List Int):=
 (pT zs).bind λa=>(pL a.2).bind λb=>(pN 1 b.2).bind λnb=>(pM pL nb.1.toNat nb.2).bind λc=>(pN 2 c.2).bind λnd=>(pB nd.1.toNat nd.2).bind λd=>(pN 2 d.2).bind λe=>(pN 1 e.2).bind λnr=>(pM (pN 2) nr.1.toNat nr.2).bind λf=>(pN 1 f.2).bind λni=>(pM pT ni.1.toNat ni.2).bind λg=>(pN 1 g.2).bind λne=>(pM pX ne.1.toNat ne.2).map λh=>(⟨a.1,b.1,c.1,d.1,e.1,f.1,g.1,h.1⟩,h.2)
def isB (x:qi)(v:Value)(w:qw):Prop:=∃b k c,v=qS (some$ qR b k) x.length c/\BS w (some$ qR b k) x.length c x
def Byt (zs:qi):Prop:=∀z∈zs,0<=z/\z<=255
structure PmG (P:PMod):Prop where
 n:P.nm.size<=1048576
 t:P.tz.length<=1048576/\∀x∈P.tz,wfi x
 b:P.bl.length<=1048576/\∀l∈P.bl,l.length<=1048576/\∀x∈l,wfi x
 d:P.dz.length<=1048576/\Byt P.dz
 s:wfi P.bss
 r:P.rz.length<=1048576/\∀x∈P.rz,wfi x
 i:P.ss.length<=1048576/\∀s∈P.ss,s.size<=1048576
 e:P.es.length<=1048576/\∀x∈P.es,x.1.size<=1048576
def Blk.eight' {w:qw}{v0 v2 v4:Value}{t:TypeId}(h:Blk w g #[v0,v1,v2,v3,v4,v5,v6,v7] t):w.cell? (qR g 0)=some v0/\w.cell? (qR g 1)=some v1/\w.cell? (qR g 2)=some v2/\w.cell? (qR g 3)=some v3/\w.cell? (qR g 4)=some v4/\w.cell? (qR g 5)=some v5/\w.cell? (qR g 6)=some v6/\w.cell? (qR g 7)=some v7:=
 ⟨h.cell 0,h.cell 1,h.cell 2,h.cell 3,h.cell 4,h.cell 5,h.cell 6,h.cell 7⟩
structure ModO (W:qw)(base:Nat)(P:PMod)(a1:qO)(c1:Nat)(a2:qO)(c2:Nat)(bl:List Bk)(a3:qO)(c3:Nat)(a5:qO)(c5:Nat)(a6:qO)(c6:Nat)(a7:qO)(c7:Nat):Prop where
 t:OG 3 1 clI W base (qS a1 P.tz.length c1) P.tz
 b:OBk W base (qS a2 bl.length c2) bl
 bls:bl.map (fun B=>B.2.2.2)=P.bl
 d:OB W base (qS a3 P.dz.length c3) P.dz
 r:OG 3 1 clI W base (qS a5 P.rz.length c5) P.rz
 i:OG 9 1 clT W base (qS a6 P.ss.length c6) P.ss
 e:OG 209 3 clX W base (qS a7 P.es.length c7) P.es
 tb:∀k,(qS a1 P.tz.length c1).ownBlock=some k->∀B∈bl,(qS B.1 B.2.1 B.2.2.1).ownBlock≠some k
 tr:∀k,(qS a1 P.tz.length c1).ownBlock=some k->(qS a5 P.rz.length c5).ownBlock≠some k
 br:∀k,(qS a5 P.rz.length c5).ownBlock=some k->∀B∈bl,(qS B.1 B.2.1 B.2.2.1).ownBlock≠some k
def xm:ByteArray:=⟨#[88,77]⟩
def aXu (zs:qi):Bool:=decide (2<=zs.length)&&decide (aTy (zs.take 2)=xm)
def ModO.mdG {W:qw}{P:PMod}{a1:qO}{c1:Nat}{c2:Nat}{a3:qO}{c3:Nat}{w:qO}{p:Nat}{l:qO}{j:Nat}{q:qO}{u:Nat}(h:ModO W base P a1 c1 a2 c2 bl a3 c3 w p l j q u)(R:PmG P):
 MD W P.nm a1 P.tz.length c1 P.tz a2 bl.length c2 bl a3 P.dz.length c3 P.dz P.bss w P.rz.length p P.rz l P.ss.length j P.ss q P.es.length u P.es where
 n:=R.n
 t:=aGo h.t R.t.2
 b:=aSl h.b (λB x z a=>by
  have y:B.2.2.2∈P.bl:=by rw[<-h.bls];exact List.mem_map.2 ⟨B,x,rfl⟩
  exact(R.b.2 _ y).2 z a)
 d:=h.d.bs
 s:=R.s
 r:=aGo h.r R.r.2
 i:=aWu h.i R.i.2
 e:=aWv h.e R.e.2
def prs (zs:qi):Int×Option PMod:=
 if 20000<zs.length then (3,none) else if aXu zs=false then (1,none) else match aXt (zs.drop 2)with
  | none=>(2,none)
  | some x=>if x.2≠[] then (3,none) else if fY x.1≠0 then (10+fY x.1,none) else (0,some x.1)
structure M6 (W:qw)(base:Nat)(v1 v3 v5 v6 v7:Value)(a2:qO)(bn:Nat)(f:Nat->qO×Nat×Nat)(T:qi)(X:Nat->List Int)(D R:qi)(I:List ByteArray)(E:List Ex):Prop where
 t:OI W base v1 T
 b:Rr W base a2 bn f X
 d:OB W base v3 D
 r:OI W base v5 R
 i:OG 9 1 clT W base v6 I
 e:OG 209 3 clX W base v7 E
 tr:∀k,v1.ownBlock=some k->v5.ownBlock≠some k
 tb:∀k,v1.ownBlock=some k->¬Sr f bn k
 rb:∀k,v5.ownBlock=some k->¬Sr f bn k
def bI {w:qw}{t d:TypeId}{xs:List Value}(h:w.ownsRow base t sz v n xs)(e:v.ownBlock=some k)(i:Blk w k cs d)(b:t≠d):False:=by
 let⟨f,a⟩:=aE h e;exact b$ aH a i
def Rr.kind {w:qw}(h:Rr w base a n f X){j:Nat}(b:Sr f n j):∃cs,Blk w j cs 3:=by
 obtain⟨i,hi,e⟩:=b;exact aE (h.rows i hi).1 e
def M6.set_t {W d:qw}{T:qi}{D R:qi}{e:qi}(h:M6 W base v1 v3 v5 v6 v7 a2 bn f T X D R I E)(O:OI d base v1 e)(t:Turn (λj=>v1.ownBlock=some j) W d):M6 d base v1 v3 v5 v6 v7 a2 bn f e X D R I E:=
 ⟨O,(h.b.kept t (λi hi k b s=>h.tb k s ⟨i,hi,b⟩) (λq g a p l s=>by obtain⟨c,kb⟩:=(aE h.t.1 s);exact absurd (aH l kb) Ja)),(aP t h.d (λk b s=>by obtain⟨c,kb⟩:=(aE h.t.1 s);exact bI h.d.1 b kb Ja)),(aV t h.r λk b s=>h.tr k s b),(h.i.kept t (λk b s=>by obtain⟨c,kb⟩:=(aE h.t.1 s);exact bI h.i b kb Ja)),(h.e.kept t (λk b s=>by obtain⟨c,kb⟩:=(aE h.t.1 s);exact bI h.e b kb Ja)),h.tr,h.tb,h.rb⟩
def M6.set_b {W d:qw}{T:qi}{D R:qi}{e:Nat->List Int}(h:M6 W base v1 v3 v5 v6 v7 a2 bn f T X D R I E)(O:Rr d base a2 bn f e)(t:Turn (λj=>Sr f bn j) W d):M6 d base v1 v3 v5 v6 v7 a2 bn f T e D R I E:=
 ⟨(aV t h.t λk b s=>h.tb k b s),O,(aP t h.d (λk b s=>by obtain⟨c,kb⟩:=(h.b.kind s);exact bI h.d.1 b kb Ja)),(aV t h.r λk b s=>h.rb k b s),(h.i.kept t (λk b s=>by obtain⟨c,kb⟩:=(h.b.kind s);exact bI h.i b kb Ja)),(h.e.kept t (λk b s=>by obtain⟨c,kb⟩:=(h.b.kind s);exact bI h.e b kb Ja)),h.tr,h.tb,h.rb⟩
def M6.set_d {W d:qw}{T:qi}{D R:qi}{e:qi}(h:M6 W base v1 v3 v5 v6 v7 a2 bn f T X D R I E)(O:OB d base v3 e)(t:Turn (λj=>v3.ownBlock=some j) W d):M6 d base v1 v3 v5 v6 v7 a2 bn f T X e R I E:=
 ⟨(aV t h.t (λk b s=>by obtain⟨c,kb⟩:=(aE h.d.1 s);exact bI h.t.1 b kb Ja)),(h.b.kept t (λi hi k b s=>by obtain⟨c,kb⟩:=(aE h.d.1 s);exact bI (h.b.rows i hi).1 b kb Ja) (λq g a p l s=>by obtain⟨c,kb⟩:=(aE h.d.1 s);exact absurd (aH l kb) Ja)),O,(aV t h.r (λk b s=>by obtain⟨c,kb⟩:=(aE h.d.1 s);exact bI h.r.1 b kb Ja)),(h.i.kept t (λk b s=>by obtain⟨c,kb⟩:=(aE h.d.1 s);exact bI h.i b kb Ja)),(h.e.kept t (λk b s=>by obtain⟨c,kb⟩:=(aE h.d.1 s);exact bI h.e b kb Ja)),h.tr,h.tb,h.rb⟩
def M6.set_r {W d:qw}{T:qi}{D R:qi}{e:qi}(h:M6 W base v1 v3 v5 v6 v7 a2 bn f T X D R I E)(O:OI d base v5 e)(t:Turn (λj=>v5.ownBlock=some j) W d):M6 d base v1 v3 v5 v6 v7 a2 bn f T X D e I E:=
 ⟨(aV t h.t λk b s=>h.tr k b s),(h.b.kept t (λi hi k b s=>h.rb k s ⟨i,hi,b⟩) (λq g a p l s=>by obtain⟨c,kb⟩:=(aE h.r.1 s);exact absurd (aH l kb) Ja)),(aP t h.d (λk b s=>by obtain⟨c,kb⟩:=(aE h.r.1 s);exact bI h.d.1 b kb Ja)),O,(h.i.kept t (λk b s=>by obtain⟨c,kb⟩:=(aE h.r.1 s);exact bI h.i b kb Ja)),(h.e.kept t (λk b s=>by obtain⟨c,kb⟩:=(aE h.r.1 s);exact bI h.e b kb Ja)),h.tr,h.tb,h.rb⟩
def M6.set_i {W d:qw}{T:qi}{D R:qi}{e:List ByteArray}(h:M6 W base v1 v3 v5 v6 v7 a2 bn f T X D R I E)(O:OG 9 1 clT d base v6 e)(t:Turn (λj=>v6.ownBlock=some j) W d):M6 d base v1 v3 v5 v6 v7 a2 bn f T X D R e E:=
 ⟨(aV t h.t (λk b s=>by obtain⟨c,kb⟩:=(aE h.i s);exact bI h.t.1 b kb Ja)),(h.b.kept t (λi hi k b s=>by obtain⟨c,kb⟩:=(aE h.i s);exact bI (h.b.rows i hi).1 b kb Ja) (λq g a p l s=>by obtain⟨c,kb⟩:=(aE h.i s);exact absurd (aH l kb) Ja)),(aP t h.d (λk b s=>by obtain⟨c,kb⟩:=(aE h.i s);exact bI h.d.1 b kb Ja)),(aV t h.r (λk b s=>by obtain⟨c,kb⟩:=(aE h.i s);exact bI h.r.1 b kb Ja)),O,(h.e.kept t (λk b s=>by obtain⟨c,kb⟩:=(aE h.i s);exact bI h.e b kb Ja)),h.tr,h.tb,h.rb⟩
def M6.set_e {W d:qw}{T:qi}{D R:qi}{E':List Ex}(h:M6 W base v1 v3 v5 v6 v7 a2 bn f T X D R I E)(O:OG 209 3 clX d base v7 E')(t:Turn (λj=>v7.ownBlock=some j) W d):M6 d base v1 v3 v5 v6 v7 a2 bn f T X D R I E':=
 ⟨(aV t h.t (λk b s=>by obtain⟨c,kb⟩:=(aE h.e s);exact bI h.t.1 b kb Ja)),(h.b.kept t (λi hi k b s=>by obtain⟨c,kb⟩:=(aE h.e s);exact bI (h.b.rows i hi).1 b kb Ja) (λp g a l e s=>by obtain⟨c,kb⟩:=(aE h.e s);exact absurd (aH e kb) Ja)),(aP t h.d (λk b s=>by obtain⟨c,kb⟩:=(aE h.e s);exact bI h.d.1 b kb Ja)),(aV t h.r (λk b s=>by obtain⟨c,kb⟩:=(aE h.e s);exact bI h.r.1 b kb Ja)),(h.i.kept t (λk b s=>by obtain⟨c,kb⟩:=(aE h.e s);exact bI h.i b kb Ja)),O,h.tr,h.tb,h.rb⟩
def M6.bw {W d:qw}{T:qi}{D R:qi}(h:M6 W base v1 v3 v5 v6 v7 a2 bn f T X D R I E)(b:qY W d):M6 d base v1 v3 v5 v6 v7 a2 bn f T X D R I E:=
 ⟨h.t.bw b,h.b.kept (S:=λ_=>False) (aG b) (λ_ _ _ _ s=>s) λ_ _ _ _ _ s=>s,h.d.bw b,h.r.bw b,h.i.bw b,h.e.bw b,h.tr,h.tb,h.rb⟩
def M6.lt {W:qw}{T:qi}{D R:qi}(h:M6 W base v1 v3 v5 v6 v7 a2 bn f T X D R I E):(∀j,v1.ownBlock=some j->base<=j/\j<W.heap.size)/\(∀j,Sr f bn j->base<=j/\j<W.heap.size)/\(∀j,v3.ownBlock=some j->base<=j/\j<W.heap.size)/\(∀j,v5.ownBlock=some j->base<=j/\j<W.heap.size)/\(∀j,v6.ownBlock=some j->base<=j/\j<W.heap.size)/\(∀j,v7.ownBlock=some j->base<=j/\j<W.heap.size):=
 ⟨h.t.lt,λj b=>by obtain⟨i,hi,e⟩:=b;exact(h.b.rows i hi).lt j e,h.d.lt,h.r.lt,h.i.lt,h.e.lt⟩
def cfo (s w k d:Int):Bool:=decide$ 0<=s/\s<=4/\1<=w/\w<=64/\0<=k/\k<=1024/\k%32=0/\0<=d/\d<=100
def aHf (x w):
 qC 284 #[qI x] w λe w'=>e=.returned (.bool$ decide$ 0<=x/\x%32=0)/\w=w':=by
 go_enter func284,ntmps284
 go_wp2
 all_goals
  go_ret;refine⟨aA ?_,rfl⟩;rw[xJ];simp;try omega
def aNw (v m w):
 qC 141 #[qI v,qI m] w λe w'=>e=.returned (.bool$ decide$ 0<=v/\v<=m)/\w=w':=by
 go_enter func141,ntmps141
 go_wp2
 all_goals
  go_ret;refine⟨aA ?_,rfl⟩;rw[xJ];simp;try omega
def aA9 (s c k d w):
 qC 162 #[.agg$ qW s c k d] w (qB w$ .bool$ cfo s c k d):=by
 have b:=zh$ (Below.refl w.heap.size w).alloc aQ$ .cells (qW s c k d) 37;go_enter func162,ntmps162
 go_wp2
 all_goals
  go_ret;refine⟨aA ?_,b.o⟩;unfold cfo;rw[xJ];simp;try omega
def aBq (s c k d w):
 qC 254 #[.agg$ qW s c k d] w (qB w$ .bool$ cfo s c k d):=by
 have j:=zh$ (Below.refl w.heap.size w).alloc aQ$ .cells (qW s c k d) 37;have i:∀b:Bool,b=cfo s c k d ↔ (b=true ↔ (0<=s/\s<=4/\1<=c/\c<=64/\0<=k/\k<=1024/\k%32=0/\0<=d/\d<=100)):=λb=>by unfold cfo;rw[xJ];simp
 have i:=zh i;go_enter func254,ntmps254
 go_wp2_with (first
  | (go_at_call 284;refine(aHf _ _).mono ?_;rintro e l ⟨rfl,rfl⟩)
  | (go_at_call 141;refine(aNw _ _ _).mono ?_;rintro e l ⟨rfl,rfl⟩))
 all_goals
  go_ret;refine⟨aA ?_,j.o⟩;rw[i.o];simp_all;try omega
def aDh (s c k d w):
 qC 26 #[.agg$ qW s c k d] w (qB w$ .agg$ qW s c k d):=by
 go_enter func26,ntmps26
 go_wp2;refine bodyPost_ret (v:=.agg$ qW s c k d) (by simp[results,results26,go_sem]) rfl ⟨rfl,?_⟩;exact((bal.alloc Jb _).alloc Jc _)
