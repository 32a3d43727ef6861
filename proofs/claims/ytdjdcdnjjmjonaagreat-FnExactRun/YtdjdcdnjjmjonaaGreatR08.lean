import Derived.Test.YtdjdcdnjjmjonaaGreatR06
set_option linter.all false
set_option maxHeartbeats 4000000
namespace Go.Proofs.YtdjdcdnjjmjonaaGreat
open Go.RowKit
set_option maxRecDepth 100000
variable {c g n o:Nat}{m m' q:Md}{ms ms':List Md}
def aDu (w:qw)(g o:Nat)(m:Md):World:=((((((((w.setCell (qR g o)$ .string m.nm).setCell (qR g$ o+1)$ qS m.ta m.tn m.tc).setCell (qR g$ o+2)$ qS m.ba m.bn m.bc).setCell (qR g$ o+3)$ qS m.da m.dn m.dc).setCell (qR g$ o+4)$ qI m.bss).setCell (qR g$ o+5)$ qS m.ra m.rn m.rc).setCell (qR g$ o+6)$ qS m.ia m.im m.ic).setCell (qR g$ o+7)$ qS m.ea m.en m.ec)
def dN (w g o b o' m)(h:b≠g\/o'<o\/o+8<=o':=by omega):(aDu w g o m).cell? (qR b o')=w.cell? (qR b o'):=by
 unfold aDu;rw[aR,aR,aR,aR,aR,aR,aR,aR]
def aKr {w:qw}(h:At8 w g o q)(m):At8 (aDu w g o m) g o m:=by
 obtain⟨a,b,d,e,f,i,j,k⟩:=h;unfold aDu;refine⟨?_,?_,?_,?_,?_,?_,?_,?_⟩
 .rw[aR,aR,aR,aR,aR,aR,aR];exact nJ (u:=_) (by exact a)
 .rw[aR,aR,aR,aR,aR,aR];exact nJ (u:=_) (by rw[aR];exact b)
 .rw[aR,aR,aR,aR,aR];exact nJ (u:=_) (by rw[aR,aR];exact d)
 .rw[aR,aR,aR,aR];exact nJ (u:=_) (by rw[aR,aR,aR];exact e)
 .rw[aR,aR,aR];exact nJ (u:=_) (by rw[aR,aR,aR,aR];exact f)
 .rw[aR,aR];exact nJ (u:=_) (by rw[aR,aR,aR,aR,aR];exact i)
 .rw[aR];exact nJ (u:=_) (by rw[aR,aR,aR,aR,aR,aR];exact j)
 .exact nJ (u:=_) (by rw[aR,aR,aR,aR,aR,aR,aR];exact k)
def aF3 {w:qw}{b a:Nat}(h:At8 w b a q)(m)(d:b≠g\/a+8<=o\/o+8<=a):At8 (aDu w g o m) b a q:=by
 unfold At8;rw[dN _ _ _ _ _ _,dN _ _ _ _ _ _,dN _ _ _ _ _ _,dN _ _ _ _ _ _,dN _ _ _ _ _ _,dN _ _ _ _ _ _,dN _ _ _ _ _ _,dN _ _ _ _ _ _];exact h
def aOh {w:qw}{b:Array Value}{t:TypeId}(h:Blk w g b t)(o m):∃a,Blk (aDu w g o m) g a t/\a.size=b.size:=
 ⟨_,((((((((h.set (o) _).set (o+1) _).set (o+2) _).set (o+3) _).set (o+4) _).set (o+5) _).set (o+6) _).set (o+7) _),Jb⟩
def aIc {B:Nat}{a w:qw}(h:Below B a w)(b:B<=g)(o m):Below B a (aDu w g o m):=
 ((((((((h.setCell (p:=(qR g o)) b _).setCell (p:=(qR g$ o+1)) b _).setCell (p:=(qR g$ o+2)) b _).setCell (p:=(qR g$ o+3)) b _).setCell (p:=(qR g$ o+4)) b _).setCell (p:=(qR g$ o+5)) b _).setCell (p:=(qR g$ o+6)) b _).setCell (p:=(qR g$ o+7)) b _)
def aL8 (c w g o m)(h:g<=c):Turn (λj=>j<=c) w (aDu w g o m):=
 ((((((((cI c w g o _ h).trans$ cI c _ g (o+1) _ h).trans$ cI c _ g (o+2) _ h).trans$ cI c _ g (o+3) _ h).trans$ cI c _ g (o+4) _ h).trans$ cI c _ g (o+5) _ h).trans$ cI c _ g (o+6) _ h).trans$ cI c _ g (o+7) _ h)
def gH (c:Nat)(m m':Md)(W:qw):Prop:=∃g1 g2 g3 g5 g6 g7 gs,m'=⟨m.nm,some$ qR g1 0,m.tn,m.tn,m.tz,some$ qR g2 0,m.bn,m.bn,reb gs m.bl,some$ qR g3 0,m.dn,m.dn,m.dz,m.bss,some$ qR g5 0,m.rn,m.rn,m.rz,some$ qR g6 0,m.im,m.im,m.ss,some$ qR g7 0,m.en,m.en,m.es⟩/\c<g1/\g1<g2/\g2<g3/\g3<g5/\g5<g6/\g6<g7/\gs.length=m.bn/\RowI W g1 m.tz/\RowB W g2 m.bn gs m.bl/\Row8 W g3 m.dz/\RowI W g5 m.rz/\RowT W g6 m.ss/\RowX W g7 m.es
theorem oB (c m H):Stab c (gH c m H):=λW a t h=>by
 obtain⟨k,d,l,p,q,s,f,e,A,B,C,D,E,G,y,I,K,M,N,O,P⟩:=h
 have b:RowB a d m.bn f m.bl:=by
  obtain⟨⟨j,u,w⟩,g,x⟩:=K;exact⟨⟨j,aC t u (by grind),w⟩,λi hi=>⟨aC t (g i hi).1 (by grind),(g i hi).2⟩,x⟩
 exact⟨k,d,l,p,q,s,f,e,A,B,C,D,E,G,y,wA J W a t I,b,wB J W a t M,wA J W a t N,aN5 J W a t O,aN4 J W a t P⟩
def aJ1 {W W':qw}(h:gH c m m' W)(a:qY W W'):gH c m m' W':=oB c m m' W W' (aG a) h
def aLl {w W:qw}(a:m.mt w)(h:gH c m m' W):m'.mt W:=by
 obtain⟨k,l,p,q,s,t,u,rfl,_,_,_,_,_,_,b,d,e,f,g,i,j⟩:=h;exact aIv a b d e f g i j
def RowM (W:qw)(c n:Nat)(ms ms':List Md):Prop:=
 (∃cur,Blk W c cur 128/\cur.size=n*8)/\(∀i,i<n->∃q,At8 W c (i*8) q)/\∀i,i<ms'.length->At8 W c (i*8) (ms'.getD i aM)/\gH c (ms.getD i aM) (ms'.getD i aM) W
def RowM.bw {W b:qw}(h:RowM W c n ms ms')(a:qY W b):RowM b c n ms ms':=by
 obtain⟨⟨e,hc,hs⟩,f,d⟩:=h;exact⟨⟨e,hc.bw a,hs⟩,λi hi=>by obtain⟨q,h⟩:=f i hi;exact⟨q,h.bw a⟩,λi hi=>⟨(d i hi).1.bw a,aJ1 (d i hi).2 a⟩⟩
theorem aTa (ms x i)(h:i<ms.length):(ms++[x]).getD i aM=ms.getD i aM:=by grind
theorem aNg (ms x):(ms++[x]).getD ms.length aM=x:=by grind
theorem RowM.push {W:qw}(h:RowM W c n ms ms')(a:ms'.length<n)(x)(hx:gH c (ms.getD ms'.length aM) x W):RowM (aDu W c (ms'.length*8) x) c n ms (ms'++[x]):=by
 obtain⟨⟨j,hc,hs⟩,b,d⟩:=h;let⟨f,g,k⟩:=aOh hc (ms'.length*8) x;have T:=aL8 c W c (ms'.length*8) x aQ;refine⟨⟨f,g,by grind⟩,λi hi=>?_,λi hi=>?_⟩
 .have⟨q,h⟩:=b i hi;by_cases e:i=ms'.length
  .subst e;exact⟨x,aKr h x⟩
  .exact⟨q,aF3 h x J⟩
 .simp only[xI,List.length_cons,List.length_nil]at hi;by_cases e:i=ms'.length
  .subst e;rw[aNg];let⟨q,h⟩:=b _ a;exact⟨aKr h x,oB _ _ _ _ _ T hx⟩
  .rw[aTa _ _ _ J];exact⟨aF3 (d i J).1 x J,oB _ _ _ _ _ T (d i J).2⟩
def aQc:(Tryz.prog.info? 128).map (λi=>(i.zero,i.size,i.bytes))=some (some$ .agg #[.string ⟨#[]⟩,qS none 0 0,qS none 0 0,qS none 0 0,qI 0,qS none 0 0,qS none 0 0,qS none 0 0],8,168):=Je
theorem aD0 {w:qw}{base:Nat}(h:w.ownsRow base 128 8 (qS (qP g) n n) n (madeCells (Value.cells$ .agg #[.string ⟨#[]⟩,qS none 0 0,qS none 0 0,qS none 0 0,qI 0,qS none 0 0,qS none 0 0,qS none 0 0])$ n*8).toList):RowM w g n ms []:=by
 obtain⟨B,h|⟨s,q,k,l,A,p,t,u,x,y⟩⟩:=h
 .grind
 .simp at l;obtain⟨rfl,rfl⟩:=l
  have e:k.toList=(madeCells (Value.cells$ .agg #[.string ⟨#[]⟩,qS none 0 0,qS none 0 0,qS none 0 0,qI 0,qS none 0 0,qS none 0 0,qS none 0 0])$ n*8).toList:=by
   grind
  have e2:k=madeCells (Value.cells$ .agg #[.string ⟨#[]⟩,qS none 0 0,qS none 0 0,qS none 0 0,qI 0,qS none 0 0,qS none 0 0,qS none 0 0]) (n*8):=Array.toList_inj.1 e;have b:Blk w g k 128:=p;refine⟨⟨k,b,by grind⟩,λi hi=>⟨aM,?_⟩,λi hi=>by grind⟩
  have a:∀j,j<8->w.cell? (qR g$ i*8+j)=#[Value.string ⟨#[]⟩,qS none 0 0,qS none 0 0,qS none 0 0,qI 0,qS none 0 0,qS none 0 0,qS none 0 0][j]?:=by
   intro j f;rw[b.cell,e2];have d:(i*8+j)%8=j:=J
   simp[madeCells,Value.cells,show i*8+j<n*8 from J,d]
   match j,f with
   | 0,_=>rfl
   | 1,_=>rfl
   | 2,_=>rfl
   | 3,_=>rfl
   | 4,_=>rfl
   | 5,_=>rfl
   | 6,_=>rfl
   | 7,_=>rfl
  exact⟨a 0 J,a 1 J,a 2 J,a 3 J,a 4 J,a 5 J,a 6 J,a 7 J⟩
def aAv (a n a1 ms w)(h:MS w a n a1 ms)(hn:n<=1048576)(hs:∀i,i<n->(ms.getD i aM).size<=1048576):
 qC 25 #[qS a n a1] w λe w'=>e=.returned (qS (qP w.heap.size) n n)/\(∃ms',ms'.length=n/\RowM w' w.heap.size n ms ms')/\qY w w':=by
 let⟨i0,hi,a3,a4,a5⟩:=info_parts aQc
 delta qC;go_in
 go_wp2_with (at_make;refine wpList_make_full _ rfl _ _ 36 rfl w.heap.size 128 i0 (.agg #[.string ⟨#[]⟩,qS none 0 0,qS none 0 0,qS none 0 0,qI 0,qS none 0 0,qS none 0 0,qS none 0 0]) 8 Tryz.underlying36 hi a3 a4 .i64 .i64 _ _ n rfl rfl rfl rfl (by rw[a5];omega) Jf aQ ?_;intro w1 s G)
 have l:RowM w1 w.heap.size n ms []:=aD0 s;have j:=bH G;go_loopw [4] (λi wr=>∃k:Nat,k<=n/\i=qI k/\(∃ms',ms'.length=k/\RowM wr w.heap.size n ms ms')/\qY w wr) (qf n)
 .exact⟨0,xC _,rfl,⟨[],rfl,l⟩,j⟩
 .obtain⟨k,hk,rfl,⟨ms',t,p⟩,y⟩:=hrel;by_cases d:k<n
  .have P:(k:Int)<(n:Int):=J
   obtain⟨b,off,rfl,y0,y1,y2,y3,y4,y5,y6,y7⟩:=(h.bw y).at k d;have HT:=zh$ (h.bw y).2.2.2.1 k d;have A:=hs k d
   have Z:=zh (λ(W:qw)(x:Md)(u:qY wr W)(hx:gH w.heap.size (ms.getD k aM) x W)=>by
    have N:=(p.bw u).push J x (by rw[t];exact hx);rw[t]at N
    exact N)
   have U:=zb wr λW u=>show(∃q,At8 W w.heap.size (k*8) q)/\∀i,W.frozen? (qh w i)=false from⟨(p.bw u).2.1 k d,by obtain⟨⟨a2,hc,_⟩,_⟩:=p.bw u;exact hc.frozen⟩;have:w.heap.size<wr.heap.size:=by obtain⟨⟨a2,hc,_⟩,_⟩:=p;exact hc.lt
   generalize ms.getD k aM=m at *;obtain⟨nm,ta,tn,tc,tz,ba,g,bc,bl,da,Q,dc,dz,a0,ra,rn,rc,rz,ia,im,ic,ss,ea,en,ec,es⟩:=m;have HS:=zh$ aDe nm ta tn tc tz ba g bc bl da Q dc dz a0 ra rn rc rz ia im ic ss ea en ec es wr HT A;go_wp2_with fail
   apply HS.mono;rintro e O ⟨B,H,C,E,K,I,rfl,l1,l2,S,l4,l5,l6,Y,⟨D,X,r2⟩,r3,r5,V,r7,f⟩;have HX:=zh$ Z O ⟨nm,qP B,tn,tn,tz,qP H,g,g,reb D bl,qP C,Q,Q,dz,a0,qP E,rn,rn,rz,qP K,im,im,ss,qP I,en,en,es⟩ f ⟨B,H,C,E,K,I,D,rfl,J,l2,S,l4,l5,l6,X,Y,r2,r3,r5,V,r7⟩;let⟨⟨q,p0,p1,p2,p3,p4,p5,p6,p7⟩,a6⟩:=U O f;have M:=zh$ aIc (yT y f) (Nat.le_refl$ qs w) (k*8) ⟨nm,qP B,tn,tn,tz,qP H,g,g,reb D bl,qP C,Q,Q,dz,a0,qP E,rn,rn,rz,qP K,im,im,ss,qP I,en,en,es⟩;go_wp2
   go_roundw
   .exact⟨k+1,J,by go_num,⟨_,by rw[xI,t];rfl,HX.o⟩,M.o⟩
   .simp[qf,intOf];omega
  .have e:Zh (k=n):=by show k=n;omega
   go_wp2;go_ret;exact⟨rfl,⟨ms',by rw[t,e.o],p⟩,y⟩
end Go.Proofs.YtdjdcdnjjmjonaaGreat
namespace Go.Proofs.YtdjdcdnjjmjonaaGreat
open Go.RowKit Go.Maps
open Go.Proofs.Tryz
set_option maxRecDepth 100000
variable {ms:List Md}{n:Nat}{s:ByteArray}
def aRe (m m':Md):Prop:=m.nm=m'.nm/\m.tn=m'.tn/\m.tz=m'.tz/\m.bn=m'.bn/\(∀i,i<m.bn->(m'.bl.getD i zB).2.1=(m.bl.getD i zB).2.1/\(m'.bl.getD i zB).2.2.2=(m.bl.getD i zB).2.2.2)/\m.dn=m'.dn/\m.dz=m'.dz/\m.bss=m'.bss/\m.rn=m'.rn/\m.rz=m'.rz/\m.im=m'.im/\m.ss=m'.ss/\m.en=m'.en/\m.es=m'.es
def aF4 {c c':Nat}{m x y:Md}{W a:qw}(d:m.bl.length=m.bn)(h:gH c m x W)(b:gH c' m y a):aRe x y:=by
 obtain⟨_,_,_,_,_,_,e,rfl,_⟩:=h;obtain⟨_,_,_,_,_,_,f,rfl,_⟩:=b;exact⟨rfl,rfl,rfl,rfl,λi hi=>by dsimp only at hi⊢;rw[jU _ _ _,jU _ _ _];exact⟨rfl,rfl⟩,rfl,rfl,rfl,rfl,rfl,rfl,rfl,rfl,rfl⟩
def aAb (a P n W X ms K w)(h:MS w a n W ms)(l:MS w P n X K)(hz:∀i,i<n->aRe (ms.getD i aM) (K.getD i aM)):
 qC 35 #[qS a n W,qS P n X] w (qB w$ .bool true):=by
 have p:=h.2.1;unfold maxLen at p
 delta qC;go_in
 go_wp2;go_loopw [5] (λi wr=>∃k:Nat,k<=n/\i=qI k/\qY w wr) (qf n)
 .exact⟨0,xC _,rfl,brf⟩
 .obtain⟨k,E,rfl,j⟩:=hrel;by_cases d:k<n
  .have u:(k:Int)<(n:Int):=J
   obtain⟨b,off,rfl,q0,q1,q2,q3,q4,q5,q6,q7⟩:=(h.bw j).at k d;obtain⟨q,s,rfl,p0,p1,p2,p3,p4,p5,p6,p7⟩:=(l.bw j).at k d;have A:=(h.bw j).2.2.2.1 k d;have B:=(l.bw j).2.2.2.1 k d;have hs:=hz k d;generalize ms.getD k aM=m at *;generalize K.getD k aM=m' at *;obtain⟨M,ta,O,tc,tz,Q,x,U,bl,Y,G,dc,dz,y,ra,N,rc,rz,ia,I,ic,ss,ea,H,ec,es⟩:=m;obtain⟨ak,a7,ap,a8,aq,S,ab,V,a9,Z,ad,a0,ae,ac,a5,am,a6,an,a3,aj,a4,ao,a1,af,a2,ag⟩:=m';obtain⟨e1,e2,e3,e4,aa,e5,e6,e7,e8,e9,e10,e11,e12,e13⟩:=hs;subst e1 e2 e3 e4 e5 e6 e7 e8 e9 e10 e11 e12 e13;have C:=zh λw h l=>aBw M ta a7 O tc a8 tz Q S x U V bl a9 Y Z G dc a0 dz y ra a5 N rc a6 rz ia a3 I ic a4 ss ea a1 H ec a2 es w h l aa;have t:=zh$ xA A B;go_wp2
   go_region_held3 (λg=>qN g b (off+k*8)=some (.string M)/\qN g b (off+k*8+1)=qk ta O tc/\qN g b (off+k*8+2)=qk Q x U/\qN g b (off+k*8+3)=qk Y G dc/\qN g b (off+k*8+4)=qj y/\qN g b (off+k*8+5)=qk ra N rc/\qN g b (off+k*8+6)=qk ia I ic/\qN g b (off+k*8+7)=qk ea H ec/\qN g q (s+k*8)=some (.string M)/\qN g q (s+k*8+1)=qk a7 O a8/\qN g q (s+k*8+2)=qk S x V/\qN g q (s+k*8+3)=qk Z G a0/\qN g q (s+k*8+4)=qj y/\qN g q (s+k*8+5)=qk a5 N a6/\qN g q (s+k*8+6)=qk a3 I a4/\qN g q (s+k*8+7)=qk a1 H a2) (go_keep)
    (first
      | (go_at_call 93;refine(C _ (MT.bw t.1 brf.drew)$ MT.bw t.2 brf.drew).mono ?_;rintro e D ⟨rfl,f⟩;replace f:=aU f;obtain⟨ah,ai⟩:=aQ5 f;have:=xD _ _ q0;have:=xD _ _ p0))
   go_wp2
   go_roundw
   .exact⟨k+1,J,by go_num,yT j f⟩
   .simp[qf,intOf];omega
  .go_wp2;go_ret;exact⟨rfl,j⟩
def wZ (m:Md)(w):qC 257 #[.agg m.cells] w (qB w$ .string m.nm):=by
 unfold Md.cells
 delta qC;go_in
 go_wp2;go_ret;exact⟨rfl,bal⟩
def dK (ms:List Md)(i:Nat):List UInt8:=(ms.getD i aM).nm.data.toList
def rV (a n a0 ms w)(h:MS w a n a0 ms)(hn:n<=1048576):
 qC 256 #[qS a n a0,.func (.func 257) #[] #[]] w λe w'=>e=.returned (.map$ some w.heap.size)/\w'.ownsMap prog 9 (plainElem prog 3) w.heap.size n (fd (dK ms) n)/\qY w w':=by
 have Q:=kJ
 delta qC;go_in
 go_wp2;go_loopw [16] (λi wr=>∃k:Nat,k<=n/\i=qI k/\wr.ownsMap prog 9 (plainElem prog 3) w.heap.size k (fd (dK ms) k)/\qY w wr) (qf n)
 .exact⟨0,xC _,rfl,World.ownsMap_made _ _ _ _,bal⟩
 .obtain⟨k,W,rfl,d,K⟩:=hrel;by_cases y:k<n
  .have O:(k:Int)<(n:Int):=J
   obtain⟨bb,off,rfl,q0,q1,q2,q3,q4,q5,q6,q7⟩:=(h.bw K).at k y;have I:=(h.2.2.2.1 k y).n;have B:=zh$ lY (dK ms) k;have G:dK ms k=(ms.getD k aM).nm.data.toList:=rfl;rw[G]at B;generalize ms.getD k aM=m at *;obtain⟨g,ta,tn,tc,tz,q,Y,s,bl,da,dn,dc,dz,Z,ra,rn,rc,rz,ia,im,ic,ss,ea,en,ec,es⟩:=m;have f:Zh (keyOf prog 9 (.string g)=some (.string g.data.toList)):=Go.WideMaps.keyOf_string_mk underlying9 I;have C:=zh λw=>wZ ⟨g,ta,tn,tc,tz,q,Y,s,bl,da,dn,dc,dz,Z,ra,rn,rc,rz,ia,im,ic,ss,ea,en,ec,es⟩ w;have V:qY wr (wr.alloc$ .cells (qM g ta tn tc q Y s da dn dc Z ra rn rc ia im ic ea en ec) 128):=bal;go_wp2_with fail
   apply(C _).mono;rintro e S ⟨rfl,E⟩;have l:=yT V E;have u:=yT K l
   have b:S.ownsMap prog 9 (plainElem prog 3) w.heap.size k (fd (dK ms) k):=by
    obtain⟨a1,cl,p,r⟩:=d;refine⟨a1,cl,?_,r⟩
    have P:w.heap.size<wr.heap.size:=by
     rcases Nat.lt_or_ge w.heap.size wr.heap.size with D|D
     .exact D
     .rw[Array.getElem?_eq_none D]at p;cases p
    rw[l.block _ P];exact p
   cases p:has (fd (dK ms) k) (.string g.data.toList)
   .rw[p]at B
    go_wp2_with (first
     | (at_lookup;refine wpList_lookup_own_ok_int _ rfl _ _ 273 rfl 9 3 .i64 aBj underlying273 underlying3 (tX _) w.heap.size k _ rfl b _ _ rfl f.o ?_;intro c x H;clear x;rw[p])
     | (at_mapUpdate;refine wpList_mapUpdate_own _ rfl _ _ _ 273 rfl 9 3 aBj underlying273 _ w.heap.size k _ rfl b Jf _ _ _ rfl rfl f _ [] (plainElem_int underlying3$ WalkArith.wf_i64 J) ?_;intro X t A))
    have M:=zh t;have N:=zh$ u.grown A u.size (λj U=>by cases U;exact aQ);go_wp2
    go_roundw
    .exact⟨k+1,J,by go_num,by have:=M.o;rw[B.o,if_neg Jb];exact this,N.o⟩
    .simp[qf,intOf];omega
   .rw[p]at B
    go_wp2_with (first
     | (at_lookup;refine wpList_lookup_own_ok_int _ rfl _ _ 273 rfl 9 3 .i64 aBj underlying273 underlying3 (tX _) w.heap.size k _ rfl b _ _ rfl f.o ?_;intro c x H;clear x;rw[p]))
    have M:=zh b;go_wp2
    go_roundw
    .exact⟨k+1,J,by go_num,by have:=M.o;rw[B.o,if_pos trivial];exact this.mono J,u⟩
    .simp[qf,intOf];omega
  .have e:Zh (k=n):=by show k=n;omega
   go_wp2;go_ret;exact⟨rfl,by rw[e.o]at d;exact d,K⟩
def tbf (n:Nat)(ms:List Md):Bool:=decide (n<=4)&&(List.range n).all λi=>decide$ (ms.getD i aM).en<=16
def aA0 (a n q ms w)(h:MS w a n q ms):
 qC 291 #[qS a n q] w (qB w$ .bool$ tbf n ms):=by
 have:=h.2.1;let⟨r,g⟩:=aO$ tbf n ms;rw[<-g];unfold tbf at g;by_cases c1:4<n
 .have p:=zh (show r=false by rw[g,xS J];rfl);clear g;have u:(4:Int)<(n:Int):=J
  delta qC;go_in
  go_wp2;go_ret;exact⟨aA p.symm,brf⟩
 .have u:¬(4:Int)<(n:Int):=J
  have p:=zh (show r=(List.range n).all (λi=>decide$ (ms.getD i aM).en<=16)by rw[g,xR J];rfl);clear g
  delta qC;go_in
  go_wp2_with fail
  go_loopw [10] (λi wr=>∃k:Nat,k<=n/\i=qI k/\Hid (∀j,j<k->decide ((ms.getD j aM).en<=16)=true)/\qY w wr) (qf n)
  .exact⟨0,xC _,rfl,zh λj C=>J,brf⟩
  .obtain⟨k,H,rfl,B,l⟩:=hrel;by_cases b:k<n
   .have x:(k:Int)<(n:Int):=J
    obtain⟨bb,off,rfl,X,Y,Z,q3,q4,q5,q6,q7⟩:=(h.bw l).at k b;have y:=zh$ lL (λi=>decide$ (ms.getD i aM).en<=16) n k b
    have A:=zh (show decide ((ms.getD k aM).en<=16)=true->∀j,j<k+1->decide ((ms.getD j aM).en<=16)=true from λh j C=>by
     by_cases e:j=k
     .subst e;exact h
     .exact B.out j J)
    generalize ms.getD k aM=m at *;obtain⟨W,ta,tn,tc,tz,s,I,D,bl,M,O,N,dz,K,ra,rn,rc,rz,S,V,U,ss,P,t,Q,es⟩:=m;dsimp only at X Y Z q3 q4 q5 q6 q7 y A;have f:=zh$ l.alloc l.size$ .cells (qM W ta tn tc s I D M O N K ra rn rc S V U P t Q) 128;by_cases d:16<t
    .have E:(16:Int)<(t:Int):=J
     go_wp2;go_ret;exact⟨aA (by rw[p.o];exact(y.o$ xS J).symm),f.o⟩
    .have E:¬(16:Int)<(t:Int):=J
     go_wp2
     go_roundw
     .exact⟨k+1,J,by go_num,zh$ A$ xR J,f⟩
     .simp[qf,intOf];omega
   .have G:=zh$ kK (λi=>decide$ (ms.getD i aM).en<=16) n λj C=>B.out j J;go_wp2;go_ret;exact⟨aA (by rw[p.o];exact G.o.symm),l⟩
def rsT (n:Nat)(ms:List Md)(s:ByteArray):Option (Nat×Nat):=
 if gO s=true/\tbf n ms=true then (fst? (dK ms) (eK s).data.toList n).bind λi=>(fst? (gX (ms.getD i aM).es) (gB s).data.toList (ms.getD i aM).en).map λk=>(i,k) else none
def rsv (n:Nat)(ms:List Md)(s:ByteArray):Value:=
 match rsT n ms s with
 | some (i,k)=>.tuple #[.agg #[qI i,qI ((ms.getD i aM).es.getD k zE).2.1,qI ((ms.getD i aM).es.getD k zE).2.2],.bool true]
 | none=>.tuple #[.agg$ qT 0 0 0,.bool false]
def fK (h:rsT n ms s=none):rsv n ms s=.tuple #[.agg$ qT 0 0 0,.bool false]:=by unfold rsv;rw[h]
def aF8 {i k:Nat}(h:rsT n ms s=some (i,k)):rsv n ms s=.tuple #[.agg #[.int .i64 i,.int .i64 ((ms.getD i aM).es.getD k zE).2.1,.int .i64 ((ms.getD i aM).es.getD k zE).2.2],.bool true]:=by unfold rsv;rw[h]
def zO (f:Nat->List UInt8)(s i):∀k,fst? f s k=some i->i<k
 | 0,h=>by cases h
 | k+1,h=>by
   rw[gP]at h;cases a:fst? f s k with
   | some j=>rw[a]at h;simp at h;subst h;have:=zO f s j k a;omega
   | none=>rw[a]at h;simp at h;omega
theorem aK9 {H:Type}{a b:Int}(h:(DataW.lit (.int .i64 a):DataW H)=.lit (.int .i64 b)):b=a:=by grind
def aEx (a n a0 ms s w)(h:MS w a n a0 ms)(hn:n<=1048576)(hs:s.size<=1048576)(hE:∀i,i<n->ES w (ms.getD i aM).ea (ms.getD i aM).en (ms.getD i aM).ec (ms.getD i aM).es/\(ms.getD i aM).en<=1048576):
 qC 258 #[.slice a n a0,.string s] w (qB w$ rsv n ms s):=by
 let⟨W,hW,a1,kb⟩:=nwb w (qT 0 0 0) 121;have HW:=zh hW;clear hW;have g:=zh λw=>oV s w hs;let⟨V,hV⟩:=aO$ rsv n ms s;rw[<-hV];have q:=zh hV;clear hV;have aa:=zh λw h=>aA0 a n a0 ms w h
 have fin:∀(X:qw)(x y z:Int),qY w X->Blk X w.heap.size (qT 0 0 0) 121 ->
  Blk (((X.setCell (qh w 0)$ .int .i64 x).setCell (qh w 1)$ .int .i64 y).setCell (qh w 2)$ .int .i64 z) w.heap.size (qT x y z) 121/\qY w (((X.setCell (qh w 0)$ .int .i64 x).setCell (qh w 1)$ .int .i64 y).setCell (qh w 2)$ .int .i64 z):=λX x y z hB k=>by
  refine⟨?_,((hB.setCell (p:=(qh w 0)) aQ _).setCell (p:=(qh w 1)) aQ _).setCell (p:=(qh w 2)) aQ _⟩;have:=((k.set 0$ .int .i64 x).set 1$ .int .i64 y).set 2$ .int .i64 z;simpa using this
 have H:=zh fin;clear fin;cases hf:gO s
 .have I:=zh (fK (n:=n) (ms:=ms) (s:=s) (by unfold rsT;rw[hf];simp));unfold aJy at g;rw[hf]at g
  delta qC;go_in
  go_wp2_with (rw[<-HW.o])
  apply(g _).mono;rintro e w1 ⟨rfl,t⟩;have S:=kb.bw t;have j:=yT a1 t;let⟨N,d⟩:=H w1 0 0 0 j S;clear t kb a1;have q1:=S.three;let⟨s1,s2,s3,s4⟩:=N.three;clear S N;have Q:=zh d;clear d j;go_wp2;exact bodyPost_ret (v:=.tuple #[.agg$ qT 0 0 0,.bool false]) (by simp[results,results258,go_sem,s1,s2,s3]) rfl ⟨by rw[q.o,I.o],Q.o⟩
 .unfold aJy at g;rw[hf]at g
  delta qC;go_in
  go_wp2_with (rw[<-HW.o])
  apply(g _).mono;rintro e w1 ⟨rfl,t⟩;have S:=kb.bw t;have j:=yT a1 t;clear t kb a1;have h1:=h.bw j;generalize O:tbf n ms=tb at *;cases tb
  .have I:=zh (fK (n:=n) (ms:=ms) (s:=s) (by unfold rsT;rw[O];simp));clear O;go_wp2_with fail
   apply(aa _ h1).mono;rintro e w2 ⟨rfl,l⟩;have N:=S.bw l;have d:=yT j l;let⟨Y,f⟩:=H w2 0 0 0 d N;clear l S j h1;have q1:=N.three;let⟨s1,s2,s3,s4⟩:=Y.three;have Q:=zh f;clear f d N Y;go_wp2;exact bodyPost_ret (v:=.tuple #[.agg$ qT 0 0 0,.bool false]) (by simp[results,results258,go_sem,s1,s2,s3]) rfl ⟨by rw[q.o,I.o],Q.o⟩
  .have HT:=zh (show rsT n ms s=(fst? (dK ms) (eK s).data.toList n).bind λi=>(fst? (gX (ms.getD i aM).es) (gB s).data.toList (ms.getD i aM).en).map λk=>(i,k)by unfold rsT;rw[hf,O];simp);clear O;have a7:Zh (keyOf prog 9 (.string$ eK s)=some (.string (eK s).data.toList)):=Go.WideMaps.keyOf_string_mk underlying9 (by have:=tS s hs;unfold maxLen;omega);have a8:Zh (keyOf prog 9 (.string$ gB s)=some (.string (gB s).data.toList)):=Go.WideMaps.keyOf_string_mk underlying9 (by have:=tR s hs;unfold maxLen;omega);have ag:=zh λw h=>rV a n a0 ms w h hn;have a2:=zh$ rU (dK ms) (eK s).data.toList n;have ab:=zh$ aQr (dK ms) (eK s).data.toList (.lit$ .int .i64 0) n;have a6:=zh λi=>zO (dK ms) (eK s).data.toList i n;go_wp2_with fail
   apply(aa _ h1).mono;rintro e w2 ⟨rfl,l⟩;have N:=S.bw l;have d:=yT j l;have h2:=h.bw d;clear l S j h1;go_wp2_with fail
   apply(ag _ h2).mono;rintro e w3 ⟨rfl,A,a3⟩;have Y:=N.bw a3;have f:=yT d a3;have h3:=h.bw f;clear a3 N d h2;cases hi:fst? (dK ms) (eK s).data.toList n with
   | none=>
     have I:=zh (fK (n:=n) (ms:=ms) (s:=s) (by rw[HT.o,hi];rfl));have Z:has (fd (dK ms) n) (.string (eK s).data.toList)=false:=by rw[<-a2.o,hi];rfl
     let⟨K,u⟩:=H w3 0 0 0 f Y;have q1:=Y.three;let⟨s1,s2,s3,s4⟩:=K.three;have Q:=zh u;clear u f Y K h3 hi;go_wp2_with (at_lookup;refine wpList_lookup_own_ok_int _ rfl _ _ 273 rfl 9 3 .i64 aBj underlying273 underlying3 (tX _) w2.heap.size n _ rfl A _ _ rfl a7.o ?_;intro c b C;clear b;rw[Z])
     exact bodyPost_ret (v:=.tuple #[.agg$ qT 0 0 0,.bool false]) (by simp[results,results258,go_sem,s1,s2,s3]) rfl ⟨by rw[q.o,I.o],Q.o⟩
   | some i=>
     have a9:=a6 i hi;have Z:has (fd (dK ms) n) (.string (eK s).data.toList)=true:=by rw[<-a2.o,hi];rfl
     have P:=zh (λ(c:Int)(b:(fd (dK ms) n).atKey (.string (eK s).data.toList) (.lit$ .int .i64 0)=.lit (.int .i64 c))=>show c=(i:Int)by rw[ab.o,hi]at b;exact aK9 b);have a5:=zh (show rsT n ms s=(fst? (gX (ms.getD i aM).es) (gB s).data.toList (ms.getD i aM).en).map (λk=>(i,k))by rw[HT.o,hi];rfl);have ae:=zh λk(h:rsT n ms s=some (i,k))=>aF8 h;obtain⟨bb,off,rfl,y0,y1,y2,y3,y4,y5,y6,y7⟩:=h3.at i a9;let⟨e1,e2⟩:=hE i a9;have e3:=e1.bw f;clear e1 hi HT a2 ab a6 h3;generalize ms.getD i aM=m at *;obtain⟨nm,ta,tn,tc,tz,ba,bn,bc,bl,da,dn,dc,dz,aj,ra,rn,rc,rz,ia,im,ic,ss,ea,M,ec,es⟩:=m;have af:=zh λw h=>rW ea M ec es w h e2;go_wp2_with (at_lookup;refine wpList_lookup_own_ok_int _ rfl _ _ 273 rfl 9 3 .i64 aBj underlying273 underlying3 (tX _) w2.heap.size n _ rfl A _ _ rfl a7.o ?_;intro c b C;have hc:=P.o c b;clear b C;subst hc;rw[Z])
     apply(af _ e3).mono;rintro e w4 ⟨rfl,D,G⟩;have K:=Y.bw G;have u:=yT f G;have e4:=e3.bw G;have ai:qN w4 bb (off+i*8+7)=some (.slice ea M ec):=(G.cell$ xD w3 _ y7).trans y7;clear G f Y e3 A y0 y1 y2 y3 y4 y5 y6 y7 P Z;cases U:fst? (gX es) (gB s).data.toList M with
     | none=>
       have I:=zh (fK (n:=n) (ms:=ms) (s:=s) (by rw[a5.o,U];rfl));have Z:has (fd (gX es) M) (.string (gB s).data.toList)=false:=by rw[<-rU,U];rfl
       let⟨k5,B⟩:=H w4 0 0 0 u K;have q1:=K.three;let⟨s1,s2,s3,s4⟩:=k5.three;have Q:=zh B;clear u B K k5 U;go_wp2_with (at_lookup;refine wpList_lookup_own_ok_int _ rfl _ _ 273 rfl 9 3 .i64 aBj underlying273 underlying3 (tX _) w3.heap.size M _ rfl D _ _ rfl a8.o ?_;intro c b C;clear b;rw[Z])
       exact bodyPost_ret (v:=.tuple #[.agg$ qT 0 0 0,.bool false]) (by simp[results,results258,go_sem,s1,s2,s3]) rfl ⟨by rw[q.o,I.o],Q.o⟩
     | some k=>
       have ad:=zO (gX es) (gB s).data.toList k M U;have ah:(k:Int)<(M:Int):=J
       have I:=zh (ae.o k (by rw[a5.o,U];rfl));have Z:has (fd (gX es) M) (.string (gB s).data.toList)=true:=by rw[<-rU,U];rfl
       have P:=zh (λ(c:Int)(b:(fd (gX es) M).atKey (.string (gB s).data.toList) (.lit$ .int .i64 0)=.lit (.int .i64 c))=>show c=(k:Int)by rw[aQr,U]at b;exact aK9 b);obtain⟨eb,eo,rfl⟩:=e4.addr J;let⟨x0,x1,x2⟩:=e4.at k ad;generalize es.getD k zE=E at *;obtain⟨xn,xb,xa⟩:=E;dsimp only at x0 x1 x2 I;let⟨ac,a4⟩:=H w4 i xb xa u K;have k5:=ac.alloc$ .cells #[.string xn,.int .i64 xb,.int .i64 xa] 209;have B:=a4.alloc a4.size$ .cells #[.string xn,.int .i64 xb,.int .i64 xa] 209;clear ac a4;have kl:=K.lt;have q1:=K.three;let⟨s1,s2,s3,s4⟩:=k5.three;have Q:=zh B;clear u B K k5 U e4;go_wp2_with (at_lookup;refine wpList_lookup_own_ok_int _ rfl _ _ 273 rfl 9 3 .i64 aBj underlying273 underlying3 (tX _) w3.heap.size M _ rfl D _ _ rfl a8.o ?_;intro c b C;have hc:=P.o c b;clear b C;subst hc;rw[Z])
       exact bodyPost_ret (v:=.tuple #[.agg$ qT i xb xa,.bool true]) (by simp[results,results258,go_sem,s1,s2,s3]) rfl ⟨by rw[q.o,I.o],Q.o⟩
