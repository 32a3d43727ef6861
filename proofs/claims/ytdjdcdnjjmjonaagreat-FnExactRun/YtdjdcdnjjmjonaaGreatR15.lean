import Derived.Deep.OwnRows
import Derived.Laws.CopyOwn
import Derived.Maps.AppendAt
import Derived.Test.YtdjdcdnjjmjonaaGreatR11
import Derived.Test.YtdjdcdnjjmjonaaGreatR12
set_option linter.all false
set_option maxHeartbeats 4000000
namespace Go.Proofs.YtdjdcdnjjmjonaaGreat
open Go.RowKit
set_option maxRecDepth 100000
variable {L:Lay}{P:PMod}{base cap g n:Nat}{cs:Array Value}{ps:List PMod}{v1 v2 v3:Value}
theorem aGp {w:qw}{a:qO}{b:qi}(h:OB w base (qS a n cap) b)(hn:n≠0:=by omega):∃g,a=some (qR g 0):=by
 obtain⟨i,⟨f,_⟩|⟨g,d,e,j,_⟩⟩:=h.1
 .grind
 .grind
def mX {w:qw}{m:Nat}{a:qi}(h:OB w base (qS (qP g) n cap) a)(b:m<=n:=by omega):Room w g m:=by
 let⟨d,e,f⟩:=nU h;exact⟨d,e,J⟩
def aV2 (w:qw)(g o:Nat)(cs:Array Value)(t:TypeId)(base:Nat)(v1 v2 v3:Value)(r:List Int×List Int×List Int×Int)(e:Ending)(w':qw):Prop:=
 ∃a3 m3 d3,e=.returned (qI r.2.2.2)/\Blk w' g (cs.setIfInBounds (o+2)$ qS a3 m3 d3) t/\cB w' base v1 v2 (qS a3 m3 d3) r.1 r.2.1 r.2.2.1/\(qS a3 m3 d3).ownBlock≠some g/\Turn (λj=>j=g\/v2.ownBlock=some j\/v3.ownBlock=some j) w w'
theorem aF2 {i:Nat}{v:Value}(h:cs[i]?=some v):cs.setIfInBounds i v=cs:=by grind
theorem aR8 {W W':qw}{o:Nat}{t:TypeId}{v':Value}{x1 x2 x3:qi}{z:Int}(d:Blk W g cs t)(K:t≠5)(f:cB W base v1 v2 v3 x1 x2 x3)
 (far:∀v,v=v1\/v=v2\/v=v3->v.ownBlock≠some g) (hz:0<=z/\z<=255)
 (bs) (p:base<=bs) (E:∀k,v1.ownBlock=some k->k<bs) (G:∀k,v2.ownBlock=some k->k<bs)
 (w:W'.ownsRow bs 5 1 v' (x3.length+1) (x3.map (Value.int .u8)++[Value.int .u8 z])) (a:(W.alloc$ .cells #[.int .u8 z] 5).grownBy W' v3.ownBlock):
 Blk (W'.setCell (qR g$ o+2) v') g (cs.setIfInBounds (o+2) v') t/\cB (W'.setCell (qR g$ o+2) v') base v1 v2 v' x1 x2 (x3++[z])/\v'.ownBlock≠some g/\Turn (λj=>j=g\/v2.ownBlock=some j\/v3.ownBlock=some j) W (W'.setCell (qR g$ o+2) v'):=by
 have D:v1.ownBlock=none\/v1.ownBlock≠v3.ownBlock:=by
  cases e:v1.ownBlock with
  | none=>exact Or.inl rfl
  | some k=>right;intro s;exact Nat.lt_irrefl _$ f.2.2.2.2.1 k k e s.symm
 have x:v2.ownBlock=none\/v2.ownBlock≠v3.ownBlock:=by
  cases e:v2.ownBlock with
  | none=>exact Or.inl rfl
  | some k=>right;intro s;exact Nat.lt_irrefl _$ f.2.2.2.2.2 k k e s.symm
 have u:=bL a (d.alloc$ .cells #[.int .u8 z] 5) λe=>far v3 (Or.inr$ Or.inr rfl) e.symm
 have b:v'.ownBlock≠some g:=by
  intro e;obtain⟨_,⟨rfl,_⟩|⟨Q,O,P,rfl,S,M,_⟩⟩:=w
  .grind
  .simp[Value.ownBlock]at e;subst e;rw[u]at M
   grind
 have B:=rQ a (fU f$ .cells #[.int .u8 z] 5).1 D;have A:=rQ a (fU f$ .cells #[.int .u8 z] 5).2.1 x
 have q:OB W' bs v' (x3++[z]):=⟨by grind,λy l=>by
  rcases List.mem_append.1 l with l|l
  .exact f.2.2.1.2 y l
  .grind⟩
 refine⟨u.set (o+2) v',⟨?_,?_,?_,f.2.2.2.1,?_,?_⟩,b,?_⟩
 .exact sO (g:=g) B _ _ (far v1$ Or.inl rfl)
 .exact sO (g:=g) A _ _ (far v2$ Or.inr$ Or.inl rfl)
 .exact(sO (g:=g) q _ _ b).mono p
 .intro k j d i;have:=E k d;have:=q.lt j i;omega
 .intro k j d i;have:=G k d;have:=q.lt j i;omega
 .have C:Turn (λj=>j=g\/v2.ownBlock=some j\/v3.ownBlock=some j) W (W.alloc$ .cells #[.int .u8 z] 5):=cK W _
  have H:Turn (λj=>j=g\/v2.ownBlock=some j\/v3.ownBlock=some j) (W.alloc$ .cells #[.int .u8 z] 5) W':=
   ⟨a.os,a.tape,a.output,a.size,λk d N=>a.block k d λe=>N$ Or.inr$ Or.inr e.symm⟩
  have I:Turn (λj=>j=g\/v2.ownBlock=some j\/v3.ownBlock=some j) W' (W'.setCell (qR g$ o+2) v'):=
   ⟨rfl,rfl,rfl,by rw[aL];exact aQ,λj i hs=>heap_setCell_other _ _ _ _ λe=>hs$ Or.inl e⟩
  exact(C.trans H).trans I
def aO6 {W:qw}{x1 x2 x3:qi}(h:cB W base v1 v2 v3 x1 x2 x3)(b:base<=W.heap.size):
 ∃bs,base<=bs/\bs<=W.heap.size/\(∀k,v1.ownBlock=some k->k<bs)/\(∀k,v2.ownBlock=some k->k<bs)/\W.ownsRow bs 5 1 v3 x3.length (x3.map$ Value.int .u8):=by
 obtain⟨f,⟨t,u⟩|⟨g,q,s,d,x,e,i,j,l,p⟩⟩:=h.2.2.1.1
 .exact⟨W.heap.size,b,aQ,λk a=>(h.1.lt k a).2,λk a=>(h.2.1.lt k a).2,f,.inl ⟨t,u⟩⟩
 .exact⟨g,x,Nat.le_of_lt$ Blk.lt (w:=W) e,λk a=>h.2.2.2.2.1 k g a (by rw[d];rfl),λk a=>h.2.2.2.2.2 k g a (by rw[d];rfl),f,.inr ⟨g,q,s,d,aQ,e,i,j,l,p⟩⟩
theorem aR7 {W W':qw}{gg:Nat}{x1 x2 d x3:qi}(a:cB W base v1 (qS (qP g) n cap) v3 x1 x2 x3)
 (b:fF g W W') (f:OB W' base (qS (qP g) n cap) d):cB W' base v1 (qS (qP g) n cap) v3 x1 d x3/\Turn (λj=>j=gg\/(qS (qP g) n cap).ownBlock=some j\/v3.ownBlock=some j) W W':=by
 refine⟨⟨?_,f,?_,a.2.2.2⟩,?_⟩
 .exact nS b a.1 (λe=>Nat.lt_irrefl _$ a.2.2.2.1 g g e rfl)
 .exact nS b a.2.2.1 (λe=>Nat.lt_irrefl _$ a.2.2.2.2.2 g g rfl e)
 .obtain⟨e1,e2,e3,e4,e5⟩:=b;refine⟨by grind,by grind,by grind,J,λk i l=>e2 k (λe=>l (Or.inr (Or.inl (by rw[e];rfl))))⟩
def aXs (m:Nat)(a:wd m=true)(base g n i j l k v p w)(h:OB w base (qS (qP g) j l) p)(b:k+m<=j)(hn:m<=n)(d:0<=v/\v<=4294967295):
 qC 296 #[qS (some$ qR g k) n i,qI m,qI v] w λe f=>e=.returned (.tuple #[])/\fF g w f/\OB f base (qS (qP g) j l) (put p k v m):=by
 rcases eD a with e|e|e<;>(obtain rfl:m=_:=Int.ofNat.inj e)
 .exact(pC g n i k v w (mX h) hn J).mono λe f q=>⟨q.1,q.2 ▸ pH g k v w,q.2 ▸ wW h k v J⟩
 .exact(aIj g n i k v w (mX h) hn J).mono λe f q=>⟨q.1,q.2 ▸ aIo g k v w,q.2 ▸ aPe h k v J⟩
 .exact(aIk g n i k v w (mX h) hn J).mono λe f q=>⟨q.1,q.2 ▸ aIp g k v w,q.2 ▸ aPf h k v J⟩
def oK (a1 a2 a3 n1 c1 n2 c2 n3 c3 g o base cs t x1 x2 x3 p s v w)(D:Blk w g cs t)(ht:t≠5)(N:cs[o]?=some (qS a1 n1 c1))(Q:cs[o+1]?=some (qS a2 n2 c2))(H:cs[o+2]?=some (qS a3 n3 c3))(h:cB w base (qS a1 n1 c1) (qS a2 n2 c2) (qS a3 n3 c3) x1 x2 x3)
 (far:∀v,v=qS a1 n1 c1\/v=qS a2 n2 c2\/v=qS a3 n3 c3->v.ownBlock≠some g) (hb:base<=w.heap.size) (hv:0<=v/\v<=4294967295) (p0:0<=p) (p1:p<=4294967295):
 qC 278 #[.pointer$ some$ qR g o,qI p,qI s,qI v] w (aV2 w g o cs t base (qS a1 n1 c1) (qS a2 n2 c2) (qS a3 n3 c3)$ wrm n1 n2 n3 x1 x2 x3 p s v):=by
 let⟨i0,hi,a6,a7,a8⟩:=info_parts uG;have HF:=zh λw=>vU a1 a2 a3 n1 c1 n2 c2 n3 c3 p s w p0 p1;let⟨r,hr⟩:=aO$ wrm n1 n2 n3 x1 x2 x3 p s v;rw[<-hr];have S:Zh (wff n1 n2 n3 p s≠0->r=(x1,x2,x3,wff n1 n2 n3 p s)):=λh=>hr.trans$ aLw n1 n2 n3 x1 x2 x3 p s v h;have G:=zh hr;clear hr;have U:=zh λh=>aNr (n1:=n1) (n2:=n2) (n3:=n3) (p:=p) (s:=s) h;have q:x3.length=n3:=h.2.2.1.bs.1;have I:=(D.cell o).trans N;have O:=(D.cell$ o+1).trans Q;have M:=(D.cell$ o+2).trans H;generalize wff n1 n2 n3 p s=f at *
 delta qC;go_in
 go_wp2_with fail
 apply(HF _).mono;rintro e w1 ⟨rfl,B⟩;have A:=D.bw B;have l:=aY h B;have t1:Turn (λj=>j=g\/(qS a2 n2 c2).ownBlock=some j\/(qS a3 n3 c3).ownBlock=some j) w w1:=aG B;have:=B.size;clear I O M B HF h D;have I:=(A.cell o).trans N;have O:=(A.cell$ o+1).trans Q;have M:=(A.cell$ o+2).trans H;have K:=zh A;have i:=zh l;have x:=zh t1;have a:=zh far;have H1:=zh N;have H2:=zh Q;have H3:=zh H;clear A t1 far N Q H;by_cases E:f=0
 .have⟨P,hs,ha,hc⟩:=U E;subst E;have:=uO P;obtain⟨s0,s4⟩:1<=s/\s<=4:=by rcases eD hs with rfl|rfl|rfl<;>decide
  clear S U;rcases hc with⟨rfl,hn⟩|⟨Y,hI,X⟩
  .obtain rfl:r=(x1,x2,x3++[v%256],0):=G.o.trans (by rw[wrm,if_pos ⟨P,hs⟩,if_neg (by rw[ha];simp),if_pos rfl,if_neg J]);clear G;let⟨bs,a4,a9,f1,f2,a0⟩:=aO6 l J;rw[q]at a0;have y:=zh$ a0.alloc$ .cells #[.int .u8$ v%256] 5;have Z:=zh f1;have W:=zh f2;have HS:=zh q;clear a0 f1 f2 q l P hs ha;go_wp2_with (at_builtin;refine wpList_append_own _ rfl _ _ 28 rfl bs 5 i0 (.int .u8 0) 1 1 Tryz.underlying28 hi a6 a7 a8 rfl Ja _ n3 (x3.map$ Value.int .u8) rfl y.o (qh w1 0) 1 1 [.int .u8$ v%256] rfl rfl (cell_one_new _ _ _) (by intro u hu;simp at hu;subst hu;rfl) Jf J Jc ?_;intro v' w3 b d _;obtain⟨a',d',he⟩:=sM b;subst he;have HX:=zh (aR8 (o:=o) K.o ht i.o a.o (z:=v%256) J bs a4 Z.o W.o (by rw[HS.o];exact b) d);have C:=bL d (K.o.alloc$ .cells #[.int .u8$ v%256] 5) λe=>a.o _ (Or.inr$ Or.inr rfl) e.symm;have I:=(C.cell o).trans H1.o;have O:=(C.cell$ o+1).trans H2.o;have M:=(C.cell$ o+2).trans H3.o;have:=C.frozen$ o+2;clear C b d)
   go_ret;obtain⟨y1,y2,y3,y4⟩:=HX;exact⟨a',n3+1,d',rfl,y1,y2,y3,x.trans y4⟩
  .have hj:=X;simp[ins]at hj;let⟨k,a5⟩:=xV$ show 0<=p-65536 from J;obtain rfl:r=(x1,put x2 k v s.toNat,x3,0):=G.o.trans (by rw[wrm,if_pos ⟨P,hs⟩,if_neg (by rw[ha];simp),if_neg Y,if_neg (by rw[hI];simp),if_pos X,a5];rfl);clear G;have:(p==131072)=false:=by simpa using Y
   obtain⟨m,rfl⟩:=xV$ show 0<=s from J;have HS:=zh hs;obtain⟨g2,rfl⟩:=aGp l.2.1;have:=(l.2.1.bs).2.2.2.2;clear Y hI X P hs ha l;go_wp2_with fail
   apply(aXs m HS base g2 (n2-k) (c2-k) n2 c2 k v x2 _ i.2.1 J J hv).mono;rintro e w3 ⟨rfl,V,hy⟩;let⟨y1,y2⟩:=aR7 (gg:=g) i V hy;have HY:=zh$ xA y1 y2;have KK:=zh (bP V K.o (λe=>a.o _ (Or.inr$ Or.inl rfl) (by rw[e];rfl)));clear y1 y2 I O M V hy;go_wp2;go_ret;exact⟨a3,n3,c3,rfl,by rw[aF2 H3.o];exact KK.o,HY.o.1,a.o _$ Or.inr$ Or.inr rfl,x.o.trans HY.o.2⟩
 .obtain rfl:=S E;have:(f !=0)=true:=by simpa using E
  clear S U E l G;go_wp2;go_ret;exact⟨a3,n3,c3,rfl,by rw[aF2 H3.o];exact K.o,i.o,a.o _$ Or.inr$ Or.inr rfl,x.o⟩
def wT {a b c:qw}(h:fF g a b)(k:fF g b c):fF g a c:=⟨k.1.trans h.1,λj d=>(k.2.1 j d).trans$ h.2.1 j d,k.2.2.1.trans h.2.2.1,k.2.2.2.1.trans h.2.2.2.1,k.2.2.2.2.trans h.2.2.2.2⟩
def wS {w w':qw}(h:fF g w w'):Turn (λj=>j=g) w w':=⟨h.2.2.1,h.2.2.2.1,h.2.2.2.2,by rw[h.1];exact aQ,λk a b=>h.2.1 k b⟩
def cG (zs:qi)(k:Nat)(ws:qi):Nat->List Int
 | 0=>zs
 | i+1=>put (cG zs k ws i) (k+4*i) (ws.getD i 0) 4
def kQ (a:qi)(k:Nat)(b:qi):∀i,(cG a k b i).length=a.length
 | 0=>rfl
 | i+1=>by rw[cG,qQ,kQ a k b i]
def pO (g n K k a d P I M base N w)(t:IS N a d P I)(u:qY N w)(y:N.heap.size<=g)(x:OB w base (qS (qP g) n K) M)(hn:n<=16384)(E:k+4*d<=n)(A:∀i,i<d->0<=I.getD i 0/\I.getD i 0<=4294967295):
 qC 114 #[qS (qP g) n K,qI k,qS a d P] w λe w'=>e=.returned (.tuple #[])/\OB w' base (qS (qP g) n K) (cG M k I d)/\fF g w w':=by
 have D:=zh x;have B:=zh u
 delta qC;go_in
 go_wp2;go_loopw [6] (λi wr=>∃m:Nat,m<=d/\i=qI m/\OB wr base (qS (qP g) n K) (cG M k I m)/\fF g w wr) (qf d)
 .exact⟨0,xC _,rfl,D,fV _ _⟩
 .obtain⟨m,H,rfl,O,T⟩:=hrel;by_cases f:m<d
  .have s:(m:Int)<(d:Int):=J
   obtain⟨b,off,rfl,hc⟩:=(t.bw$ dA B T y).2.2.2.1 J;have q:=hc m f;let⟨Q,v1⟩:=A m f;have p:=zh$ tC g n K (k+4*m) 4 (I.getD m 0) wr (nU O) hn J J J Q v1;have j:=zh$ xA (aEl O (k+4*m) (I.getD m 0) 4 J)$ wT T$ rA g (k+4*m) (I.getD m 0) wr 4;have C:Zh (cG M k I (m+1)=put (cG M k I m) (k+4*m) (I.getD m 0) 4):=rfl;have l:((k+4*m:Nat):Int)=(k:Int)+4*(m:Int):=J
   rw[l]at p;clear O T hc;generalize I.getD m 0=v at *;go_wp2_with fail
   apply p.mono;rintro e G ⟨rfl,rfl⟩;go_wp2
   go_roundw
   .exact⟨m+1,J,by go_num,C.o ▸ j.o.1,j.o.2⟩
   .simp[qf,intOf];omega
  .have e:Zh (m=d):=by show m=d;omega
   have j:=zh$ xA O T;clear O T;go_wp2
   go_end0
   exact⟨rfl,by have:=j.o.1;rw[e.o]at this;exact this,j.o.2⟩
def lM (g n P k m c a d U M N base Q w)(l:IS Q a d U M)(s:qY Q w)(y:Q.heap.size<=g)(t:OB w base (qS (qP g) n P) N)(hn:n<=16384)(G:k+4*d<=n)(K:4*d<=m)(hc:m<=c)(E:c<=16384):
 qC 267 #[qS (some$ qR g k) m c,qS a d U] w λe w'=>e=.returned (.tuple #[])/\OB w' base (qS (qP g) n P) (cG N k M d)/\fF g w w':=by
 have D:=zh t;have B:=zh s;clear t s
 delta qC;go_in
 go_wp2;go_loopw [8] (λi wr=>∃j:Nat,j<=d/\i=qI j/\OB wr base (qS (qP g) n P) (cG N k M j)/\fF g w wr) (qf d)
 .exact⟨0,xC _,rfl,D,fV _ _⟩
 .obtain⟨j,I,rfl,O,T⟩:=hrel;by_cases p:j<d
  .have u:(j:Int)<(d:Int):=J
   obtain⟨b,off,rfl,S⟩:=(l.bw$ dA B T y).2.2.2.1 J;have q:=S j p;have x:-9223372036854775808<=M.getD j 0/\M.getD j 0<=9223372036854775807:=l.2.2.1 _ (by have:=l.1;simp[xB,show j<M.length from J]);have A:=zh$ pC g (m-4*j) (c-4*j) (k+4*j) (M.getD j 0) wr (mX O) J x;have f:=zh$ xA (wW O (k+4*j)$ M.getD j 0)$ wT T$ pH g (k+4*j) (M.getD j 0) wr;have C:Zh (cG N k M (j+1)=put (cG N k M j) (k+4*j) (M.getD j 0) 4):=rfl;clear O T S x;generalize M.getD j 0=v at *;go_wp2_with fail
   apply A.mono;rintro e H ⟨rfl,rfl⟩;go_wp2
   go_roundw
   .exact⟨j+1,J,by go_num,C.o ▸ f.o.1,f.o.2⟩
   .simp[qf,intOf];omega
  .have e:Zh (j=d):=by show j=d;omega
   have f:=zh$ xA O T;clear O T;go_wp2
   go_end0
   exact⟨rfl,by have:=f.o.1;rw[e.o]at this;exact this,f.o.2⟩
def zby (n:Nat):Array Value:=((List.replicate n (0:Int)).map$ Value.int .u8).toArray
def aGz (n:Nat)(hn:n<=16384)(W):(Instr.makeSlice 28 (qI (n:Int))$ qI (n:Int)).run Tryz.prog W=.ok (qS (qP W.heap.size) n n) (W.alloc$ .cells (zby n) 5):=by
 rw[run_make_row' 28 5 (.int .u8 0) 1 Tryz.underlying28 uG rfl .i64 .i64 n J J W];have:=aT5 n;rw[Nat.mul_one]at this;unfold zby;rw[<-this];rfl
theorem sD {W:qw}(h:Blk W g (zby n) 5)(a:base<=g)(hn:n<=16384):OB W base (qS (qP g) n n) (List.replicate n 0):=by
 refine⟨⟨Jb,.inr ⟨g,n,zby n,Jb,a,h,Jb,Jf,by simp[zby],?_⟩⟩,λz b=>by grind⟩;unfold zby;simp only[List.toList_toArray,List.length_replicate,Nat.mul_one];exact xG Jb
def dI (zs:qi)(P:PMod)(p:Pl):Nat->List Int
 | 0=>cG zs p.text.toNat P.tz P.tz.length
 | j+1=>cG (dI zs P p j) (p.banks.getD j 0).toNat (P.bl.getD j []) (P.bl.getD j []).length
def flB (ps:List PMod)(L:Lay):Nat->List Int
 | 0=>List.replicate L.flash.toNat 0
 | i+1=>dI (flB ps L i) (ps.getD i zP) (L.places.getD i zPB.1) (ps.getD i zP).bl.length
def kP (zs:qi)(f:Nat)(rz:qi)(d:Int):Nat->List Int
 | 0=>zs
 | j+1=>put (kP zs f rz d j) (f+(rz.getD j 0).toNat) (low (((kP zs f rz d j).drop$ f+(rz.getD j 0).toNat).take 4)+d) 4
def aGa (a:qi)(f:Nat)(rz:qi)(d:Int):∀j,(kP a f rz d j).length=a.length
 | 0=>rfl
 | j+1=>by rw[kP,qQ,aGa a f rz d j]
def ovr (zs:qi)(f:Nat)(ds:qi):List Int:=zs.take f++(ds++zs.drop (f+ds.length))
def nR (a f b)(h:f+b.length<=a.length):(ovr a f b).length=a.length:=by simp[ovr];omega
def raB (ps:List PMod)(L:Lay):Nat->List Int
 | 0=>List.replicate L.ram.toNat 0
 | i+1=>kP (ovr (raB ps L i) ((L.places.getD i zPB.1).data-65536).toNat (ps.getD i zP).dz) ((L.places.getD i zPB.1).data-65536).toNat (ps.getD i zP).rz (L.places.getD i zPB.1).data (ps.getD i zP).rz.length
theorem aSv {s w k d:Int}(h:lkc ps s w k d=0):(lay ps s w k).flash<=16384/\(lay ps s w k).ram<=16384:=by
 unfold lkc at h;split at h
 .rename_i a;exact absurd h a
 split at h
 .grind
 split at h
 .grind
 grind
theorem aLt {ps:List PMod}(a:iQ ps):∀i j,i<=j->j<=ps.length->Fl ps i<=Fl ps j
 | i,0,h,_=>by grind
 | i,j+1,h,hj=>by
   by_cases e:i=j+1
   .grind
   .have f:=aLt a i j J J;have b:=a j J;have:=iL b;have:=cT b _ aQ;show Fl ps i<=Fl ps j+(tsz (ps.getD j zP)+cS (ps.getD j zP) (ps.getD j zP).bl.length);omega
theorem aFm {ps:List PMod}(a:iQ ps):∀i j,i<=j->j<=ps.length->Ra ps i<=Ra ps j
 | i,0,h,_=>by grind
 | i,j+1,h,hj=>by
   by_cases e:i=j+1
   .grind
   .have b:=aFm a i j J J;have:=iN$ a j J;show Ra ps i<=Ra ps j+dsz (ps.getD j zP);omega
theorem aCw {P:PMod}(a:fY P=0):∀i j,i<=j->j<=P.bl.length->cS P i<=cS P j
 | i,0,h,_=>by grind
 | i,j+1,h,hj=>by
   by_cases e:i=j+1
   .grind
   .have b:=aCw a i j J J;have:=aX (x:=4*((P.bl.getD j []).length:Int));show cS P i<=cS P j+rnd (4*((P.bl.getD j []).length:Int));omega
structure Lkn (ps:List PMod)(L:Lay):Prop where
 n:1<=ps.length/\ps.length<=4
 v:iQ ps
 im:oJ ps
 pl:L.places=(List.range ps.length).map (plc ps)
 fl:L.flash=Fl ps ps.length
 fr:0<=L.flash/\L.flash<=16384
 ra:Ra ps ps.length<=L.ram
 rr:0<=L.ram/\L.ram<=16384
 tg:L.targets=(List.range ps.length).map fun i=>tgs ps (ps.getD i zP)
 st:L.stack=65536+Ra ps ps.length
def nB (h:Lok ps L):Lkn ps L:=by
 obtain⟨a,b⟩:=h;have e:lay ps (L.slots.length:Int) (cfW L) (cfK L)=L:=by unfold lkL at b;rw[if_pos a]at b;exact b
 let⟨hc,i,j,d,hi⟩:=cW a;let⟨f,g⟩:=aSv a;unfold cfo at hc;simp at hc;have k:=fP d ps.length aQ;have l:=cN d ps.length aQ;have p:(0:Int)<=((L.slots.length:Int).toNat:Int)*rnd (4*cfW L):=Int.mul_nonneg J$ jK$ aX (x:=4*cfW L);have e1:L.flash=Fl ps ps.length:=by rw[<-e];rfl
 have e2:L.ram=Ra ps ps.length+cfK L+((L.slots.length:Int).toNat:Int)*rnd (4*cfW L):=by
  have:=congrArg Lay.ram e;rw[<-this];rfl
 rw[e]at f g;exact⟨⟨i,j⟩,d,hi,by rw[<-e];rfl,e1,⟨J,f⟩,J,⟨J,g⟩,by rw[<-e];rfl,by have:=congrArg Lay.stack e;rw[<-this];rfl⟩
theorem Lkn.place (h:Lkn ps L)(i)(hi:i<ps.length):L.places.getD i zPB.1=plc ps i:=by
 rw[h.pl]
 grind
theorem aNs (h:fY P=0):∀j,j<P.rz.length->0<=P.rz.getD j 0/\P.rz.getD j 0+4<=(P.dz.length:Int):=by
 unfold fY mdo at h;split at h
 .grind
 split at h
 .grind
 split at h
 .grind
 split at h
 .grind
 rename_i e d f k;intro j i;have a:rlo P.rz.length P.rz P.dz.length=true:=by grind
 unfold rlo at a;rw[Bool.and_eq_true,List.all_eq_true]at a;have b:=a.2 j (by grind);unfold rlk at b
 grind
def aHh {α:Type}(l:List α)(i z)(h:i<l.length):l.getD i z∈l:=by simp[xB,h]
theorem aIi {α:Type}(f:Nat->α)(n j z)(h:j<n):((List.range n).map f).getD j z=f j:=by grind
theorem aC6 (h:fY P=0):(∀i,i<P.tz.length->0<=P.tz.getD i 0/\P.tz.getD i 0<=4294967295)/\∀k,k<P.bl.length->∀i,i<(P.bl.getD k []).length->0<=(P.bl.getD k []).getD i 0/\(P.bl.getD k []).getD i 0<=4294967295:=by
 have V:=jZ (by simp[nM]) h;refine⟨λi hi=>V.tw _ (by simp[xB,hi]),λk a i hi=>?_⟩
 have:=(V.bw k (by simp[nM];exact a)).2 ((P.bl.getD k []).getD i 0) (by
  have:((nM P.bl).getD k zB).2.2.2=P.bl.getD k []:=by simp[nM,xB,a]
  grind)
 grind
theorem Lkn.at (h:Lkn ps L)(i)(hi:i<ps.length):
 (0<=(plc ps i).text/\(plc ps i).text+4*((ps.getD i zP).tz.length:Int)<=L.flash)/\(plc ps i).banks.length=(ps.getD i zP).bl.length/\(∀j,j<(ps.getD i zP).bl.length->0<=(plc ps i).banks.getD j 0/\(plc ps i).banks.getD j 0+4*(((ps.getD i zP).bl.getD j []).length:Int)<=L.flash)/\(65536<=(plc ps i).data/\(plc ps i).data-65536+((ps.getD i zP).dz.length:Int)<=L.ram):=by
 have a:=h.v i hi;have b:=fP h.v i J;have:=aLt h.v (i+1) ps.length J aQ;have:Fl ps (i+1)=Fl ps i+(tsz (ps.getD i zP)+cS (ps.getD i zP) (ps.getD i zP).bl.length):=rfl;have:=cT a _ aQ;have:=aX (x:=4*((ps.getD i zP).tz.length:Int));have:tsz (ps.getD i zP)=rnd (4*((ps.getD i zP).tz.length:Int)):=rfl;have:=cN h.v i J;have:=aFm h.v (i+1) ps.length J aQ;have:Ra ps (i+1)=Ra ps i+dsz (ps.getD i zP):=rfl;have:=cJ a;have:=aX (x:=((ps.getD i zP).dz.length:Int)+(ps.getD i zP).bss);have:dsz (ps.getD i zP)=rnd (((ps.getD i zP).dz.length:Int)+(ps.getD i zP).bss):=rfl;have:=h.fl;have:=h.ra;refine⟨⟨b.1,?_⟩,by simp[plc],λj f=>?_,?_,?_⟩
 .show Fl ps i+4*_<=_;omega
 .have d:=cT a j J;have:=aCw a (j+1) (ps.getD i zP).bl.length J aQ;have:cS (ps.getD i zP) (j+1)=cS (ps.getD i zP) j+rnd (4*(((ps.getD i zP).bl.getD j []).length:Int)):=rfl;have:=aX (x:=4*(((ps.getD i zP).bl.getD j []).length:Int));have:(plc ps i).banks.getD j 0=Fl ps i+tsz (ps.getD i zP)+cS (ps.getD i zP) j:=aIi _ _ _ _ f
  grind
 .show 65536<=65536+Ra ps i;omega
 .show 65536+Ra ps i-65536+_<=_;omega
end Go.Proofs.YtdjdcdnjjmjonaaGreat
namespace Go.Proofs.YtdjdcdnjjmjonaaGreat
open Go.RowKit Classical
open Go.Proofs.Tryz
set_option maxRecDepth 100000
variable {base f g n o:Nat}{cs:Array Value}{d k s w:Int}{ps:List PMod}{rs:List Rg}{v:Value}
structure OM (w:qw)(base:Nat)(v1 v2 v3:Value)(x1 x2 x3:qi):Prop where
 o1:OB w base v1 x1
 o2:OB w base v2 x2
 o3:OB w base v3 x3
 a12:∀k,v1.ownBlock=some k->v2.ownBlock≠some k
 a13:∀k,v1.ownBlock=some k->v3.ownBlock≠some k
 a23:∀k,v2.ownBlock=some k->v3.ownBlock≠some k
def imF (ps:List PMod)(L:Lay):List Int:=@ite _ (Lok ps L) (aVr ps L) (flB ps L ps.length) []
def imR (ps:List PMod)(L:Lay):List Int:=@ite _ (Lok ps L) (aVr ps L) (raB ps L ps.length) []
def ImM (w:qw)(ps:List PMod)(L:Lay)(e:Ending)(w':qw):Prop:=qY w w'/\∃a1 n1 c1 a2 n2 c2 a3 n3 c3,e=.returned (.tuple #[.agg$ qV a1 n1 c1 a2 n2 c2 a3 n3 c3,.bool$ decide$ Lok ps L])/\OM w' w.heap.size (qS a1 n1 c1) (qS a2 n2 c2) (qS a3 n3 c3) (imF ps L) (imR ps L) []
theorem vL {W:qw}{a:qi}(h:OB W base (qS (qP g) n n) a):W.heap[g]?=some (.cells (a.map$ Value.int .u8).toArray 5 (0,0))/\a.length=n/\base<=g/\n<=maxLen:=by
 obtain⟨u,⟨l,_⟩|⟨k,j,d,b,f,i,p,q,s,t⟩⟩:=h.1
 .grind
 .simp at b;obtain⟨rfl,rfl,rfl⟩:=b;refine⟨?_,rfl,f,J⟩;have e:d.toList=a.map (Value.int .u8):=by grind
  rw[i,<-e]
def aEc (b f a):splice (b.map$ Value.int .u8) f (a.map$ Value.int .u8)=(ovr b f a).map (Value.int .u8):=by
 simp[splice,ovr,List.map_take,List.map_drop]
theorem aCj {a b:qi}(hz:∀z∈a,0<=z/\z<=255)(hd:∀z∈b,0<=z/\z<=255):∀z∈ovr a f b,0<=z/\z<=255:=λz h=>by
 unfold ovr at h
 grind
def aR9 (zs f):ovr zs f []=zs:=by simp[ovr]
def uB (g w cs):fF g w (w.setRow g cs):=⟨by simp[World.setRow],λk a=>setRow_other w g k cs a,rfl,rfl,rfl⟩
def nV {W:qw}{zs:qi}(h:W.heap[g]?=some (.cells (zs.map$ Value.int .u8).toArray 5 (0,0)))(a:zs.length=n)(b:base<=g)(i:n<=maxLen)(e:∀z∈zs,0<=z/\z<=255):OB W base (qS (qP g) n n) zs:=by
 subst a;refine⟨⟨Jb,.inr ⟨g,zs.length,_,rfl,b,h,aQ,i,Jb,?_⟩⟩,e⟩;simp only[List.toList_toArray,Nat.mul_one];exact xG Jb
theorem aAi {W:qw}{q e:qi}(u:OB W base (qS (qP g) n n) q)(G D E k w d s)(i:BS W E d s e)(B:d<=k)(A:f+d<=n)(p:0<d->D=some (qR g f)):
 ∃w',(Builtin.copy_ #[28,28] G #[qS D k w,qS E d s]).run prog W=.ok (goInt d) w'/\OB w' base (qS (qP g) n n) (ovr q f e)/\fF g W w':=by
 let⟨H,K,I,M⟩:=vL u;have hld:=i.1;have l:(prog.info? 5).map (·.size)=some 1:=Je
 by_cases x:d=0
 .subst x;obtain rfl:e=[]:=xE hld;exact⟨W,run_copy_none (P:=prog) W _ _ G 5 D E k w 0 s underlying28 l Jb,by rw[aR9];exact u,fV _ _⟩
 .obtain⟨b,off,rfl,hc⟩:=i.2.2.2.1 x;rw[p J];subst hld
  have a:=run_copy_row (P:=prog) W 28 28 G 5 g f k w (qR b off) e.length s (q.map$ Value.int .u8).toArray 5 (e.map$ Value.int .u8) underlying28 l H (by grind) (λj v C=>by
   have t:j<e.length:=by
    grind
   rw[cE,hc j t,<-C]
   grind) (by grind) (λv y=>by
   simp at y;obtain⟨z,_,rfl⟩:=y
   rfl)
  rw[xH]at a;refine⟨_,a,?_,uB _ _ _⟩;refine nV ?_ (by rw[nR _ _ _ J];exact K) I M$ aCj u.2 i.2.2.1;have:=setRow_heap W g (q.map$ Value.int .u8).toArray (splice (q.map$ Value.int .u8) f$ e.map$ Value.int .u8).toArray 5 (0,0) H;rw[aEc]at this;rw[<-aEc]at this⊢;simpa[splice]using this
def zQ {α:Type}(f:α->List Value)(sz:Nat)(a:∀x,(f x).length=sz):∀b:List α,(b.flatMap f).length=b.length*sz
 | []=>Jb
 | x::b=>by simp only[xT,xI,List.length_cons,zQ f sz a b,a x];rw[Nat.add_mul];omega
theorem zR {α:Type}(f:α->List Value)(sz)(a:∀x,(f x).length=sz)(z):∀(b:List α)(i j:Nat),i<b.length->j<sz->(b.flatMap f)[i*sz+j]?=(f$ b.getD i z)[j]?
 | [],i,j,h,_=>by grind
 | x::b,0,j,h,hj=>by grind
 | x::b,i+1,j,h,hj=>by
   have:=zR f sz a z b i j (by grind) hj
   grind
theorem aL2 {α:Type}(f:α->List Value)(sz)(b:∀x,(f x).length=sz)(z){xs:List α}(h:cs.size=xs.length*sz)(hs:0<sz)(hc:∀i,i<xs.length->∀j,j<sz->cs[i*sz+j]?=(f$ xs.getD i z)[j]?):cs.toList.take (xs.length*sz)=xs.flatMap f:=by
 apply List.ext_getElem?;intro k;by_cases a:k<xs.length*sz
 .have e:k=k/sz*sz+k%sz:=by rw[Nat.mul_comm];exact(Nat.div_add_mod k sz).symm
  have l:k/sz<xs.length:=by rw[Nat.div_lt_iff_lt_mul hs];exact a
  have p:k%sz<sz:=Nat.mod_lt _ hs;rw[List.getElem?_take,if_pos a,Array.getElem?_toList];rw[e,hc _ l _ p,zR f sz b z xs _ _ l p]
 .rw[xO (by grind),xO (by rw[zQ f sz b];omega)]
def RowF {α:Type}(t:TypeId)(sz:Nat)(f:α->List Value)(w:qw)(g n:Nat)(F:Nat->α):Prop:=
 ∃cs,Blk w g cs t/\cs.size=n*sz/\∀i,i<n->∀j,j<sz->cs[i*sz+j]?=(f$ F i)[j]?
section
variable {α:Type}{t:TypeId}{sz:Nat}{f:α->List Value}{w w':qw}{g n:Nat}{F:Nat->α}
def RowF.bw (h:RowF t sz f w g n F)(a:qY w w'):RowF t sz f w' g n F:=by
 obtain⟨b,d,e,i⟩:=h;exact⟨b,d.bw a,e,i⟩
def RowF.blk (h:RowF t sz f w g n F):∃cs,Blk w g cs t:=by obtain⟨cs,a,_⟩:=h;exact⟨cs,a⟩
def RowF.cell (h:RowF t sz f w g n F)(e:∀x,(f x).length=sz)(i j)(hi:i<n)(a:j<sz)(v)(b:(f$ F i)[j]?=some v):w.cell? (qR g$ i*sz+j)=some v:=by
 obtain⟨l,d,p,k⟩:=h;rw[d.cell,k i hi j a,b]
theorem RowF.og (h:RowF t sz f w g n F)(a:∀x,(f x).length=sz)(hs:0<sz)(e:base<=g)(hn:n<=maxLen){xs:List α}(b:xs.length=n)(z)(l:∀i,i<n->F i=xs.getD i z):OG t sz f w base (qS (qP g) n n) xs:=by
 obtain⟨k,q,d,s⟩:=h;subst b;refine⟨zQ f sz a xs,.inr ⟨g,xs.length,k,rfl,e,q,aQ,hn,d,aL2 f sz a z d hs λi hi j p=>?_⟩⟩
 grind
theorem aCe (q)(v:Value)(p:v.cells.toList=f q)(hs:sz=v.cells.size)(h:w.ownsRow base t sz (qS (qP g) n n) n (madeCells v.cells$ n*sz).toList):RowF t sz f w g n (λ_=>q):=by
 obtain⟨E,h|⟨y,x,d,k,D,u,A,B,s,C⟩⟩:=h
 .grind
 .simp at k;obtain⟨rfl,rfl⟩:=k
  have e:d.toList=(madeCells v.cells$ n*sz).toList:=by
   grind
  have e2:d=madeCells v.cells (n*sz):=Array.toList_inj.1 e;refine⟨d,u,s,λi hi j l=>?_⟩
  have a:i*sz+j<n*sz:=by
   have:(i+1)*sz<=n*sz:=Nat.mul_le_mul_right _ J
   grind
  have b:(i*sz+j)%v.cells.size=j:=by rw[<-hs,Nat.mul_comm,Nat.mul_add_mod];exact Nat.mod_eq_of_lt l
  rw[e2,<-p];simp[madeCells,a,b,show j<v.cells.size from J]
def aLq {i:Nat}(h:i<cs.size):(cs.setIfInBounds i v)[i]?=some v:=by simp[h]
theorem RowF.set4 (h:RowF t 4 f w g n F)(m)(p:m<n)(x a b c d)(hx:f x=[a,b,c,d]):RowF t 4 f ((((w.setCell (qR g$ m*4) a).setCell (qR g$ m*4+1) b).setCell (qR g$ m*4+2) c).setCell (qR g$ m*4+3) d) g n (λi=>if i=m then x else F i):=by
 obtain⟨q,k,s,u⟩:=h;refine⟨_,(((k.set (m*4) a).set (m*4+1) b).set (m*4+2) c).set (m*4+3) d,by grind,λi hi j l=>?_⟩;by_cases e:i=m
 .subst e;simp only[if_true,hx]
  match j,l with
  | 0,_=>exact dE$ dE$ dE$ aLq (by grind)
  | 1,_=>exact dE$ dE$ aLq (by grind)
  | 2,_=>exact dE$ aLq (by grind)
  | 3,_=>exact aLq (by grind)
 .simp only[e,if_false];rw[Array.getElem?_setIfInBounds_ne J,Array.getElem?_setIfInBounds_ne J,Array.getElem?_setIfInBounds_ne J,Array.getElem?_setIfInBounds_ne J]
  grind
end
section
variable {α β:Type}{th:TypeId}{hs:Nat}{hc:α->List Value}{tr:TypeId}{rs:Nat}{rc:β->List Value}{sv:α->Value}{ct:α->List β}{w w':qw}{base g n:Nat}{f:Nat->α}
end
def vV (n)(h:-9223372036854775808<=n/\n<=9223372036854775807:=by omega):wrap64 n=n:=by unfold wrap64;omega
theorem dX:lkc ps s w k d=0 ↔ cfo s w k d=true/\1<=ps.length/\ps.length<=4/\iQ ps/\nms ps/\oJ ps/\(0<s->oX ps w)/\(lay ps s w k).flash<=16384/\(lay ps s w k).ram<=16384:=by
 constructor
 .intro h;unfold lkc fJ at h;by_cases f:cfo s w k d=false
  .grind
  rw[if_neg f]at h;by_cases c2:ps.length<1\/4<ps.length
  .grind
  rw[if_neg c2]at h;by_cases g:¬iQ ps
  .grind
  rw[if_neg g]at h;by_cases t:¬nms ps
  .grind
  rw[if_neg t,if_neg Jb]at h;by_cases i:¬oJ ps
  .grind
  rw[if_neg i]at h;by_cases a:0<s/\¬oX ps w
  .rw[if_pos a]at h;simp at h
  rw[if_neg a]at h
  grind
 .rintro⟨x,p,y,j,b,u,q,A,l⟩;have:fJ ps s w k d=0:=by unfold fJ;rw[if_neg (by grind),if_neg J,if_neg (λe=>e j),if_neg (λe=>e b)]
  unfold lkc
  grind
theorem aW8 {w':Int}(h:s=0\/rnd (4*w)=rnd (4*w')):lay ps s w k=lay ps s w' k:=by
 rcases h with rfl|h
 .simp[lay]
 .have e:slt ps w k=slt ps w' k:=by funext i;unfold slt;rw[h]
  unfold lay
  grind
theorem aI7 (h:lkc ps s w k d=0):Lok ps (lay ps s w k):=by
 let⟨B,E,G,g,H,I,K,M,N⟩:=dX.1 h;have hc:=B;unfold cfo at hc;simp at hc;have:=cN g ps.length aQ;have:=aX (x:=4*w);have y:(lay ps s w k).ram=Ra ps ps.length+k+(s.toNat:Int)*rnd (4*w):=rfl;have q:(lay ps s w k).stack=65536+Ra ps ps.length:=rfl;have b:(lay ps s w k).slots.length=s.toNat:=by simp[lay]
 have main:∀f,cfW (lay ps s w k)=f->(s=0\/rnd (4*w)=rnd (4*f))->1<=f->f<=64->(0<s->w<=f)->cfK (lay ps s w k)=k->Lok ps (lay ps s w k):=by
  intro f e1 e2 e3 e4 e5 e6;have C:=aW8 (ps:=ps) (k:=k) e2;have hs:((s.toNat:Nat):Int)=s:=J
  have t:lkc ps s f k 0=0:=dX.2 ⟨by unfold cfo;simp;omega,E,G,g,H,I,λhs i hi j D=>Int.le_trans (K hs i hi j D)$ e5 hs,by grind,by grind⟩;unfold Lok;rw[b,hs,e1,e6];exact⟨t,by unfold lkL;rw[if_pos t,C]⟩
 by_cases c:s=0
 .subst c;have e0:(lay ps 0 w k).slots=[]:=by grind
  have l:(lay ps 0 w k).ram=Ra ps ps.length+k:=by grind
  refine main 1 (by unfold cfW;rw[if_pos e0]) (.inl rfl) J J (λh=>absurd h J) ?_;unfold cfK cX;rw[if_pos e0,l,q,vV$ 65536+(Ra ps ps.length+k),vV _];omega
 .have u:0<s.toNat:=J
  have a:¬(lay ps s w k).slots=[]:=λe=>by rw[e]at b;simp at b;omega
  have e0:(lay ps s w k).slots.getD 0 0=65536+Ra ps ps.length+k:=by
   simp[lay,xB,u,slt]
  have:(s.toNat:Int)*rnd (4*w)<=4*287:=Int.mul_le_mul J J J J;have:(0:Int)<=(s.toNat:Int)*rnd (4*w):=Int.mul_nonneg J J
  have A:cfQ (lay ps s w k)=rnd (4*w):=by
   unfold cfQ;rw[y,e0,b,vV$ 65536+_,vV$ 65536+_-_,show 65536+(Ra ps ps.length+k+(s.toNat:Int)*rnd (4*w))-(65536+Ra ps ps.length+k)=rnd (4*w)*(s.toNat:Int)by rw[Int.mul_comm$ rnd$ 4*w];omega,Int.mul_tdiv_cancel _ J,vV _]
  have p:rnd (4*w)=(4*w+31)/32*32:=rfl;refine main (rnd (4*w)/4) ?_ (.inr ?_) J J (λ_=>J) ?_
  .unfold cfW;rw[if_neg a,A,Int.tdiv_eq_ediv_of_nonneg J,vV _]
  .rw[p];unfold rnd;omega
  .unfold cfK cX;rw[if_neg a,e0,q,vV _];omega
def rgt (r x y:Bool)(g:Rg):Rg:=(g.1,g.2.1,g.2.2.1,r,x,y)
def rts (r x y:Bool)(L:List Rg):List Rg:=L.map$ rgt r x y
def jN (r x y L):(rts r x y L).length=L.length:=by simp[rts]
def aOp (r x y L k)(h:k<L.length):(rts r x y L).take (k+1)=(rts r x y L).take k++[rgt r x y$ L.getD k z6]:=by
 rw[List.take_add_one];congr 1;simp[rts,xB,h]
theorem aAd:∀(n:Nat)(b a:Int),(gA b n a).length<=n
 | 0,b,a=>by simp[gA]
 | n+1,b,a=>by
   unfold gA;split
   .unfold aJx;split
    .have:=aAd n b
     grind
    .simp
   .simp
def vR (f s):(cvL f s).length<=8192:=by
 unfold cvL;split
 .rename_i h;unfold aAe;unfold vC grn at h;simp at h;have:=aAd (s/32).toNat (f+s) f;omega
 .simp
theorem dB {w:qw}{a b:Nat}{v:Value}(h:b≠g\/a≠o:=by omega):(w.setCell (qR g o) v).cell? (qR b a)=w.cell? (qR b a):=
 World.cell?_setCell_other _ _ _ _ (by grind)
def tV {w:qw}{u:Value}(h:w.cell? (qR g o)=some u):(w.setCell (qR g o) v).cell? (qR g o)=some v:=World.cell?_setCell_same _ _ _ h
def RowW (w:qw)(g:Nat)(rs:List Rg):Prop:=
 (∃cur,Blk w g cur 231)/\∀i,i<rs.length->At6 w g (i*6) (rs.getD i z6)
def RowW.frozen {w:qw}(h:RowW w g rs)(i):w.frozen? (qR g i)=false:=by obtain⟨⟨b,a⟩,_⟩:=h;exact a.frozen i
theorem aSa {w:qw}{d:Nat}(h:ORg w base (qS (qP g) n d) rs)(hn:n≠0):RowW w g rs:=by
 have a:=eV h;obtain⟨_,⟨l,p⟩|⟨k,j,e,b,x,f,q,s,t,u⟩⟩:=h.1
 .grind
 .simp at b;obtain⟨rfl,_⟩:=b;exact⟨⟨e,f⟩,λi hi=>by have:=a.at i J;rw[Nat.zero_add]at this;exact this⟩
def fG {S:Nat->Prop}{w w':qw}(t:Turn S w w')(h:ORg w base v rs)(a:∀k,v.ownBlock=some k->¬S k):ORg w' base v rs:=by
 refine⟨?_,h.2⟩;obtain⟨d,g|⟨b,e,f,rfl,q,s,i,j,l,p⟩⟩:=h.1
 .exact⟨d,.inl g⟩
 .exact⟨d,.inr ⟨b,e,f,rfl,q,aC t s$ a b rfl,i,j,l,p⟩⟩
theorem aK1 {w:qw}(h:ORg w base v rs)(k)(a:v.ownBlock=some k):k<w.heap.size:=by
 obtain⟨t,⟨rfl,g⟩|⟨b,d,f,rfl,q,s,i,j,l,p⟩⟩:=h.1
 .cases a
 .have e:some b=some k:=a
  grind
def iU (L:Lay)(P:PB)(b s:Int):Int:=if b=-1 then P.1.text else if s=-1 then P.1.banks.getD b.toNat 0 else L.slots.getD s.toNat 0
def lN (L k d xs a2 c2 t c5 ts m b a0 s w)(h:LyT w L k d xs a2 c2 t c5 ts)
 (O:0<=m) (Z:m<(xs.length:Int)) (H:b=-1\/(0<=b/\b<((xs.getD m.toNat zPB).1.banks.length:Int))) (hs:s=-1\/(b≠-1/\0<=s/\s<(L.slots.length:Int))):
 qC 198 #[.agg$ qJ L k xs d a2 c2 t ts c5,.agg$ qT m b a0,qI s] w (qB w$ qI$ iU L (xs.getD m.toNat zPB) b s):=by
 let⟨W,f⟩:=aO$ (w.alloc$ .cells (qJ L k xs d a2 c2 t ts c5) 65).alloc$ .cells (qT m b a0) 121;have G:qY w W:=by rw[f];exact bal.alloc Jb _
 have q:=zh G;have B:=h.bw G;have E:Blk W w.heap.size (qJ L k xs d a2 c2 t ts c5) 65:=by rw[f];exact(Blk.new w _ _).alloc _
 have D:Blk W (w.heap.size+1) (qT m b a0) 121:=by rw[f];have:=Blk.new (w.alloc$ .cells (qJ L k xs d a2 c2 t ts c5) 65) (qT m b a0) 121;simpa using this
 have hz:W.heap.size=w.heap.size+1+1:=by rw[f];simp
 clear hz;have d0:=E.e0;have N:=E.e2;have t0:=D.e0;have t1:=D.e1;obtain⟨g,off,rfl,q0,q1,q2,q3⟩:=B.p.at m.toNat J;have a:=B.p.2.2.2.1 m.toNat J;have i:=B.s;have Q:=B.p.2.1;have X:=i.2.1;have I:=a.2.1;unfold svP at q1;generalize xs.getD m.toNat zPB=P at *;have C:=zh f;clear f G E D B h;rcases H with rfl|⟨Y,V⟩
 .obtain rfl:s=-1:=by rcases hs with h|h;exact h;exact absurd rfl h.1
  have p:Zh (iU L P (-1) (-1)=P.1.text):=rfl;rw[p.o];clear hs a i;generalize P.1.text=x at *;generalize xs.length=n at *;generalize L.slots.length=l at *
  delta qC;go_in
  go_wp2_with (rw[<-C.o])
  go_ret;exact⟨rfl,(by first|exact q|exact q.drew)⟩
 .have j:¬b=-1:=J
  have a1:(b == -1)=false:=by simpa using j
  rcases hs with rfl|⟨_,S,M⟩
  .have p:=zh (show iU L P b (-1)=P.1.banks.getD b.toNat 0 by unfold iU;rw[if_neg j,if_pos rfl]);rw[p.o];let⟨u,v,e,hc⟩:=a.2.2.2.1 J;have K:=hc b.toNat J;rw[e]at q1;clear a i e hc p;generalize P.1.banks.getD b.toNat 0=x at *;generalize P.1.banks.length=y at *;generalize xs.length=n at *;generalize L.slots.length=l at *
   delta qC;go_in
   go_wp2_with (rw[<-C.o])
   go_region_held3 (λw'=>qn w' w 0=qk (qe g off) n d/\qg w' w 0=qj m/\qg w' w 1=qj b/\qN w' g (off+m.toNat*4+1)=qk (qe u v) y P.2.2/\qN w' u (v+b.toNat)=qj x) (go_keep) (fail)
   go_wp2;go_ret;exact⟨rfl,(by first|exact q|exact q.drew)⟩
  .have A:¬s=-1:=J
   have U:(s == -1)=false:=by simpa using A
   have p:=zh (show iU L P b s=L.slots.getD s.toNat 0 by unfold iU;rw[if_neg j,if_neg A]);rw[p.o];let⟨u,v,e,hc⟩:=i.2.2.2.1 J;have K:=hc s.toNat J;rw[e]at N;clear a i e hc p;generalize L.slots.getD s.toNat 0=x at *;generalize P.1.banks.length=y at *;generalize xs.length=n at *;generalize L.slots.length=l at *
   delta qC;go_in
   go_wp2_with (rw[<-C.o])
   go_ret;exact⟨rfl,(by first|exact q|exact q.drew)⟩
def lT (L f t xs a2 c2 k c5 ts m b a0 s w)(h:LyT w L f t xs a2 c2 k c5 ts)
 (Y:0<=m) (a8:m<(xs.length:Int)) (S:b=-1\/(0<=b/\b<((xs.getD m.toNat zPB).1.banks.length:Int))) (hs:s=-1\/(b≠-1/\0<=s/\s<(L.slots.length:Int))):
 qC 123 #[.agg$ qJ L f xs t a2 c2 k ts c5,.agg$ qT m b a0,qI s] w (qB w$ qI$ iU L (xs.getD m.toNat zPB) b s):=by
 let⟨W,d⟩:=aO$ (w.alloc$ .cells (qJ L f xs t a2 c2 k ts c5) 65).alloc$ .cells (qT m b a0) 121;have E:qY w W:=by rw[d];exact bal.alloc Jb _
 have a:=zh E;have D:=h.bw E;have G:Blk W w.heap.size (qJ L f xs t a2 c2 k ts c5) 65:=by rw[d];exact(Blk.new w _ _).alloc _
 have I:Blk W (w.heap.size+1) (qT m b a0) 121:=by rw[d];have:=Blk.new (w.alloc$ .cells (qJ L f xs t a2 c2 k ts c5) 65) (qT m b a0) 121;simpa using this
 have hz:W.heap.size=w.heap.size+1+1:=by rw[d];simp
 clear hz;have d0:=G.e0;have X:=G.e2;have t0:=I.e0;obtain⟨g,off,rfl,q0,q1,q2,q3⟩:=D.p.at m.toNat J;have j:=D.p.2.2.2.1 m.toNat J;have p:=D.s;have Z:=D.p.2.1;have a6:=p.2.1;have U:=j.2.1;unfold svP at q1;generalize xs.getD m.toNat zPB=P at *;have Q:=G.alloc$ .cells #[qI P.1.text,qS P.2.1 P.1.banks.length P.2.2,qI P.1.data,qI P.1.size] 170;have N:=I.alloc$ .cells #[qI P.1.text,qS P.2.1 P.1.banks.length P.2.2,qI P.1.data,qI P.1.size] 170;have M:=Blk.new W #[qI P.1.text,qS P.2.1 P.1.banks.length P.2.2,qI P.1.data,qI P.1.size] 170;have v2:=Q.e2;have v1:=N.e1;have u0:=M.e0;have u1:=M.e1;have q:Zh (qY W$ qm W #[qI P.1.text,qS P.2.1 P.1.banks.length P.2.2,qI P.1.data,qI P.1.size] 170):=bal;have i:Zh (qY w$ qm W #[qI P.1.text,qS P.2.1 P.1.banks.length P.2.2,qI P.1.data,qI P.1.size] 170):=E.alloc E.size _;have H:=zh d;clear d E G I D h Q N M;rcases S with rfl|⟨a7,a4⟩
 .obtain rfl:s=-1:=by rcases hs with h|h;exact h;exact absurd rfl h.1
  have B:Zh (iU L P (-1) (-1)=P.1.text):=rfl;rw[B.o];clear hs j p;generalize P.1.text=x at *;generalize xs.length=n at *;generalize L.slots.length=l at *
  delta qC;go_in
  go_wp2_with (rw[<-H.o])
  all_goals go_ret
  all_goals exact⟨rfl,(by first|exact i|exact i.drew|exact a|exact(a.alloc a.size _)|exact((a.alloc a.size _).setCells J _))⟩
 .have A:¬b=-1:=J
  have a9:(b == -1)=false:=by simpa using A
  rcases hs with rfl|⟨_,a1,V⟩
  .have B:=zh (show iU L P b (-1)=P.1.banks.getD b.toNat 0 by unfold iU;rw[if_neg A,if_pos rfl]);rw[B.o];let⟨u,v,e,hc⟩:=j.2.2.2.1 J;have K:=hc b.toNat J;have O:=aB q K;rw[e]at q1;rw[e]at u1 u0 v1 v2 O i;clear q;clear j p e hc B;generalize P.1.banks.getD b.toNat 0=x at *;generalize P.1.banks.length=y at *;generalize xs.length=n at *;generalize L.slots.length=l at *
   delta qC;go_in
   go_wp2_with (rw[<-H.o])
   all_goals go_ret
   all_goals exact⟨rfl,(by first|exact i|exact i.drew|exact a|exact(a.alloc a.size _)|exact((a.alloc a.size _).setCells J _))⟩
  .have C:¬s=-1:=J
   have a3:(s == -1)=false:=by simpa using C
   have B:=zh (show iU L P b s=L.slots.getD s.toNat 0 by unfold iU;rw[if_neg A,if_neg C]);rw[B.o];let⟨u,v,e,hc⟩:=p.2.2.2.1 J;have K:=hc s.toNat J;have O:=aB q K;rw[e]at X v2;clear q;clear j p e hc B;generalize L.slots.getD s.toNat 0=x at *;generalize P.1.banks.length=y at *;generalize xs.length=n at *;generalize L.slots.length=l at *
   delta qC;go_in
   go_wp2_with (rw[<-H.o])
   all_goals go_ret
   all_goals exact⟨rfl,(by first|exact i|exact i.drew|exact a|exact(a.alloc a.size _)|exact((a.alloc a.size _).setCells J _))⟩
theorem aPt {a:qi}{v:Int}(h:v∈a):∃k,k<a.length/\a.getD k 0=v:=by
 let⟨k,b,e⟩:=List.mem_iff_getElem.1 h;exact⟨k,b,by grind⟩
def aCv {zs:qi}{k:Nat}(h:k<zs.length):zs.getD k 0∈zs:=by
 simp[xB,h]
def aWc (op)(h:1<=op)(a:op<=25):0<=us op:=by
 rcases wR op with h|h|rfl|rfl|rfl|rfl|rfl|rfl|rfl|rfl|rfl|rfl|rfl|rfl|rfl|rfl|rfl|rfl|rfl|rfl|rfl|rfl|rfl|rfl|rfl|rfl|rfl
 .omega
 .omega
 all_goals decide
def aNc (op d a i w):
 qC 275 #[.agg$ qW op d a i] w (qB w$ .bool$ okI op d a i):=by
 have kb:=Blk.new w (qW op d a i) 186;have l:qY w (w.alloc$ .cells (qW op d a i) 186):=bal;by_cases h:op<=0\/26<=op
 .have D:Zh (okI op d a i=false):=by show _=_;unfold okI okU;rw[aC7 op h];simp
  have q:=zh λw=>aE0 op w h
  delta qC;go_in
  go_wp2_with fail
  apply(q _).mono;rintro e w1 ⟨rfl,b⟩;have p:qY w w1:=l.trans$ b.mono Jb;have f:w.heap.size<w1.heap.size:=by have:=b.size;simp at this;omega
  go_wp2;go_ret;exact⟨aA D.symm,p.alloc J _⟩
 .have q:=zh λw=>aHe op w J J;have I:=zh$ aWc op J J;unfold okI;generalize us op=u at *;unfold okU;generalize mD u=x at *;generalize mA u=y at *;generalize mI u=z at *;have A:=zh$ cM d x;have B:=zh$ cM a y;have C:=zh$ cM i z
  have E:Zh (decide (0<=u/\0<=d/\d<=x/\0<=a/\a<=y/\0<=i/\i<=z)=(decide (0<=d/\d<=x)&&decide (0<=a/\a<=y)&&decide (0<=i/\i<=z))):=by
   show _=_;rw[xJ];have:=I.o;simp;omega
  rw[E.o];generalize decide (0<=d/\d<=x)=H at *;generalize decide (0<=a/\a<=y)=G at *;generalize decide (0<=i/\i<=z)=K at *;cases H
  .delta qC;go_in
   go_wp2_with fail
   apply(q _).mono;rintro e w1 ⟨rfl,b⟩;have j:=(kb.bw b).four';obtain⟨g,k,s,t,M⟩:=j;have p:qY w w1:=l.trans$ b.mono Jb;have f:w.heap.size<w1.heap.size:=by have:=b.size;simp at this;omega
   go_wp2_with fail
   apply(A _).mono;rintro e w1 ⟨rfl,rfl⟩;go_wp2;go_ret;exact⟨rfl,p.alloc J _⟩
  .cases G
   .delta qC;go_in
    go_wp2_with fail
    apply(q _).mono;rintro e w1 ⟨rfl,b⟩;have j:=(kb.bw b).four';obtain⟨g,k,s,t,M⟩:=j;have p:qY w w1:=l.trans$ b.mono Jb;have f:w.heap.size<w1.heap.size:=by have:=b.size;simp at this;omega
    go_wp2_with fail
    apply(A _).mono;rintro e w1 ⟨rfl,rfl⟩;go_wp2_with fail
    apply(B _).mono;rintro e w1 ⟨rfl,rfl⟩;go_wp2;go_ret;exact⟨rfl,p.alloc J _⟩
   .delta qC;go_in
    go_wp2_with fail
    apply(q _).mono;rintro e w1 ⟨rfl,b⟩;have j:=(kb.bw b).four';obtain⟨g,k,s,t,M⟩:=j;have p:qY w w1:=l.trans$ b.mono Jb;have f:w.heap.size<w1.heap.size:=by have:=b.size;simp at this;omega
    go_wp2_with fail
    apply(A _).mono;rintro e w1 ⟨rfl,rfl⟩;go_wp2_with fail
    apply(B _).mono;rintro e w1 ⟨rfl,rfl⟩;go_wp2_with fail
    apply(C _).mono;rintro e w1 ⟨rfl,rfl⟩;go_wp2;go_ret;exact⟨rfl,p.alloc J _⟩
def slF (L:Lay)(b:Int):List Int:=if b=-1\/L.slots=[] then [-1] else (List.range L.slots.length).map (λi:Nat=>(i:Int))
theorem aP8 {w:qw}{v:Int}(a:wfi v)(h:w.cell? (qR g 0)=some (qI v)):IS w (qP g) 1 1 [v]:=by
 refine⟨rfl,Jf,λz b=>?_,λ_=>⟨g,0,rfl,λi hi=>?_⟩,aQ⟩
 .grind
 .grind
def aDp (L f s xs a2 c2 g t d b w)(h:LyT w L f s xs a2 c2 g t d)(p:b=-1\/L.slots=[]):
 qC 182 #[.agg$ qL L f xs.length s a2 L.slots.length c2 g d.length t,qI b] w λe w'=>∃a c,e=.returned (.slice a (slF L b).length c)/\IS w' a (slF L b).length c (slF L b)/\qY w w':=by
 have q:=zh (show slF L b=[-1] by unfold slF;rw[if_pos p]);rw[q.o];show qC 182 _ w λe w'=>∃a c,e=.returned (qS a 1 c)/\IS w' a 1 c [-1]/\qY w w';have i:Zh (qY w$ w.alloc$ .cells (qL L f xs.length s a2 L.slots.length c2 g d.length t) 65):=brf.alloc aQ _;by_cases c:b=-1
 .subst c;generalize xs.length=n at *;generalize L.slots.length=l at *;generalize d.length=k at *
  delta qC;go_in
  go_wp2;go_ret;refine⟨_,_,rfl,aP8 Jh ?_,i.alloc i.size _⟩;rw[show w.heap.size+1=(w.alloc _).heap.size from(xF _ _).symm];exact(Blk.new _ _ _).cell 0
 .have j:L.slots.length=0:=by rw[p.resolve_left c];rfl
  rw[j];rw[j]at i;generalize xs.length=n at *;generalize d.length=k at *
  delta qC;go_in
  go_wp2;go_ret;refine⟨_,_,rfl,aP8 Jh ?_,i.alloc i.size _⟩;rw[show w.heap.size+1=(w.alloc _).heap.size from(xF _ _).symm];exact(Blk.new _ _ _).cell 0
