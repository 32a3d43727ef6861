import Derived.Test.YtdjdcdnjjmjonaaGreatR10
set_option linter.all false
set_option maxHeartbeats 8000000
namespace Go.Proofs.YtdjdcdnjjmjonaaGreat
open Go.RowKit
set_option maxRecDepth 100000
variable {F:Nat->Nat->Rw3}{Q S:Nat->Prop}{a:qO}{base c cap g i j k m n o:Nat}{cs:Array Value}{d s w:Int}{f:Nat->Rw3}{ms:List Md}{ps:List PMod}{ts:List TB}{v:Value}{xs:List PB}{zs:List Tg}{β:Nat->Nat}
def Ar8 (cs:Array Value)(o:Nat)(m:Md):Prop:=(∃u,cs[o]?=some u)/\cs[o+1]?=some (qS m.ta m.tn m.tc)/\cs[o+2]?=some (qS m.ba m.bn m.bc)/\cs[o+3]?=some (qS m.da m.dn m.dc)/\(∃u,cs[o+4]?=some u)/\cs[o+5]?=some (qS m.ra m.rn m.rc)/\cs[o+6]?=some (qS m.ia m.im m.ic)/\cs[o+7]?=some (qS m.ea m.en m.ec)
theorem aUi (h:∃u,cs[j]?=some u):∃u,(cs.setIfInBounds i v)[j]?=some u:=by grind
def aTo {m:Md}(h:Ar8 cs (o*8) m)(b:j=0\/j=4):Ar8 (cs.setIfInBounds (i*8+j) v) (o*8) m:=
 ⟨aUi h.1,dE h.2.1,dE h.2.2.1,dE h.2.2.2.1,aUi h.2.2.2.2.1,dE h.2.2.2.2.2.1,dE h.2.2.2.2.2.2.1,dE h.2.2.2.2.2.2.2⟩
structure Rws (S:Nat->Prop)(W:qw)(c:Nat)(m:Md)(f:Nat->Rw3):Prop where
 t:Sl S W m.ta m.tn 1
 b:SlB S W m.ba m.bn f
 d:Sl S W m.da m.dn 1
 r:Sl S W m.ra m.rn 1
 i:Sl S W m.ia m.im 1
 e:Sl S W m.ea m.en 3
 g:∀g o,m.ba=some (qR g o)->g≠c
def Rws.kept {W b:qw}{m:Md}(h:Rws S W c m f)(k:Mkd S W b):Rws S b c m f:=
 ⟨h.t.shp k.shp,h.b.kept k,h.d.shp k.shp,h.r.shp k.shp,h.i.shp k.shp,h.e.shp k.shp,h.g⟩
def Rws.set {W:qw}{m:Md}(h:Rws S W c m f)(i v):Rws S (W.setCell (qR c i) v) c m f:=
 have sh:=Shp.set W c i v
 ⟨h.t.shp sh,⟨λj=>by obtain⟨g,o,b,t,a,hs,d,e⟩:=h.b.head j;exact⟨g,o,b,t,a,hs,d.other _ _$ h.g g o a,e⟩,λi hi=>(h.b.rows i hi).shp sh⟩,h.d.shp sh,h.r.shp sh,h.i.shp sh,h.e.shp sh,h.g⟩
structure Mrs (S:Nat->Prop)(W:qw)(c n:Nat)(ms:List Md)(F:Nat->Nat->Rw3):Prop where
 nc:¬S c
 head:∃cs,Blk W c cs 128/\∀i,i<n->Ar8 cs (i*8) (ms.getD i aM)
 rows:∀i,i<n->Rws S W c (ms.getD i aM) (F i)
def Mrs.kept {W b:qw}(h:Mrs S W c n ms F)(k:Mkd S W b):Mrs S b c n ms F:=
 ⟨h.nc,by obtain⟨a,d,hc⟩:=h.head;exact⟨a,aC k.turn d h.nc,hc⟩,λi hi=>(h.rows i hi).kept k⟩
def Mrs.set {W:qw}(h:Mrs S W c n ms F)(i j)(e:j=0\/j=4)(v):Mrs S (W.setCell (qR c$ i*8+j) v) c n ms F:=
 ⟨h.nc,by obtain⟨d,a,hc⟩:=h.head;exact⟨_,a.set _ _,λo b=>aTo (hc o b) e⟩,λo b=>(h.rows o b).set _ _⟩
def Mrs.at {W:qw}(h:Mrs S W c n ms F)(i)(hi:i<n):(∃u,W.cell? (qR c$ i*8)=some u)/\W.cell? (qR c$ i*8+1)=some (.slice (ms.getD i aM).ta (ms.getD i aM).tn (ms.getD i aM).tc)/\W.cell? (qR c$ i*8+2)=some (.slice (ms.getD i aM).ba (ms.getD i aM).bn (ms.getD i aM).bc)/\W.cell? (qR c$ i*8+3)=some (.slice (ms.getD i aM).da (ms.getD i aM).dn (ms.getD i aM).dc)/\(∃u,W.cell? (qR c$ i*8+4)=some u)/\W.cell? (qR c$ i*8+5)=some (.slice (ms.getD i aM).ra (ms.getD i aM).rn (ms.getD i aM).rc)/\W.cell? (qR c$ i*8+6)=some (.slice (ms.getD i aM).ia (ms.getD i aM).im (ms.getD i aM).ic)/\W.cell? (qR c$ i*8+7)=some (.slice (ms.getD i aM).ea (ms.getD i aM).en (ms.getD i aM).ec)/\∀j,W.frozen? (qR c j)=false:=by
 let⟨s,a,hc⟩:=h.head;let⟨⟨u,b⟩,d,e,f,⟨q,g⟩,k,l,p⟩:=hc i hi;exact⟨⟨u,(a.cell _).trans b⟩,(a.cell _).trans d,(a.cell _).trans e,(a.cell _).trans f,⟨q,(a.cell _).trans g⟩,(a.cell _).trans k,(a.cell _).trans l,(a.cell _).trans p,λj=>a.frozen j⟩
def jF (ms:List Md)(F:Nat->Nat->Rw3)(i:Nat):Nat:=2+(ms.getD i aM).tn+cC (F i) (ms.getD i aM).bn+(ms.getD i aM).dn+(ms.getD i aM).rn+(ms.getD i aM).im+3*(ms.getD i aM).en
theorem aC9 (f:Nat->Nat):∀n i,i<n->f i+upS f i<=upS f n
 | 0,i,h=>J
 | n+1,i,h=>by
   show _<=upS f n+f n;by_cases e:i=n
   .grind
   .have:=aC9 f n i J;omega
def yL (S:Nat->Prop)(c n a1 k ms)(F:Nat->Nat->Rw3)(w)(h:Mrs S w c n ms F)(hz:k+upS (jF ms F) n<=4194304)(hb:∀i,i<n->(ms.getD i aM).bn<=1048576)(hy:∀i,i<n->jF ms F i<=4194304/\(ms.getD i aM).tn<=1048576/\(ms.getD i aM).dn<=1048576/\(ms.getD i aM).rn<=1048576/\(ms.getD i aM).im<=1048576/\(ms.getD i aM).en<=1048576/\cC (F i) (ms.getD i aM).bn<=1048576)(hn:n<=1048576):
 qC 41 #[qS (qP c) n a1,qI k] w λe w'=>e=.returned (qI ((k+upS (jF ms F) n:Nat):Int))/\Mkd (λj=>S j\/j=c) w w':=by
 have HH:=zh h;clear h
 delta qC;go_in
 go_wp2;go_loopw [1,5] (λx i wr=>∃m:Nat,m<=n/\i=qI m/\x=qI ((k+upS (jF ms F) m:Nat):Int)/\Mrs S wr c n ms F/\Mkd (λj=>S j\/j=c) w wr) (λ_ i _=>n-(intOf i).toNat)
 .exact⟨0,xC _,rfl,rfl,HH,Mkd.refl _ _⟩
 .obtain⟨m,hm,rfl,rfl,R,M⟩:=hrel;by_cases b:m<n
  .have a2:(m:Int)<(n:Int):=J
   let⟨y0,y1,y2,y3,y4,y5,y6⟩:=hy m b;have y7:=hb m b;have:=aC9 (jF ms F) n m b;have I:Zh (upS (jF ms F) (m+1)=upS (jF ms F) m+jF ms F m):=rfl;have f:Zh (jF ms F m=2+(ms.getD m aM).tn+cC (F m) (ms.getD m aM).bn+(ms.getD m aM).dn+(ms.getD m aM).rn+(ms.getD m aM).im+3*(ms.getD m aM).en):=rfl;have:=f.o;have Z:=zh λ(W:qw)(K:Nat)(u:K<=4194304)(r:Mrs S W c n ms F)=>mZ S _ _ (ms.getD m aM).tc K W (r.rows m b).t y1 J;have V:=zh λ(W:qw)(K:Nat)(u:K<=4194304)(r:Mrs S W c n ms F)=>aEq S _ _ (ms.getD m aM).bc K (F m) W (r.rows m b).b y7 y6 u;have a0:=zh λ(W:qw)(K:Nat)(u:K<=4194304)(r:Mrs S W c n ms F)=>aEr S _ _ (ms.getD m aM).dc K W (r.rows m b).d y2 J;have Y:=zh λ(W:qw)(K:Nat)(u:K<=4194304)(r:Mrs S W c n ms F)=>mZ S _ _ (ms.getD m aM).rc K W (r.rows m b).r y3 J;have X:=zh λ(W:qw)(K:Nat)(u:K<=4194304)(r:Mrs S W c n ms F)=>yI S _ _ (ms.getD m aM).ic K W (r.rows m b).i y4 J;have U:=zh λ(W:qw)(K:Nat)(u:K<=4194304)(r:Mrs S W c n ms F)=>yN S _ _ (ms.getD m aM).ec K W (r.rows m b).e y5 u;have l:=zh λ(W:qw)(r:Mrs S W c n ms F)=>r.at m b;clear f;generalize upS (jF ms F) m=t at *;generalize cC (F m) (ms.getD m aM).bn=A at *;generalize jF ms F m=cm at *;generalize ms.getD m aM=q at *;obtain⟨nm,ta,a,tc,tz,ba,bn,bc,bl,da,d,dc,dz,a3,ra,rn,rc,rz,ia,im,ic,ss,ea,en,ec,es⟩:=q;dsimp only at *;have Q:=zh R;clear R;have g:=zh M;clear M;go_wp2_with fail
   apply(lQ (k+t) wr J).mono;rintro e w1 ⟨s,rfl,hs,y⟩;have O:=Q.kept$ Mkd.bw y;have M1:=g.trans$ Mkd.bw y;clear Q g y;let⟨⟨u0,p0⟩,p1,p2,p3,⟨u4,p4⟩,p5,p6,p7,pf⟩:=l _ O;have f0:=pf$ m*8;have B:=O.set m 0 (.inl rfl)$ .string s;simp only[Nat.add_zero]at B;have M2:=M1.set c (m*8) (.string s)$ .inr rfl;clear O M1 p1 p2 p3 p4 p5 p6 p7 pf;have q1:=l _ B;go_wp2_with fail
   apply(Z _ (k+t+1) J B).mono;rintro e w2 ⟨rfl,N⟩;have E:=B.kept N;have M3:=M2.trans$ N.mono λj p=>.inl p;clear B M2 N q1 p0 f0;have q2:=l _ E;go_wp2_with fail
   apply(V _ (k+t+1+a) J E).mono;rintro e w3 ⟨rfl,N⟩;have H:=E.kept N;have M4:=M3.trans$ N.mono λj p=>.inl p;clear E M3 N q2;have q3:=l _ H;go_wp2_with fail
   apply(a0 _ (k+t+1+a+A) J H).mono;rintro e w4 ⟨rfl,N⟩;have P:=H.kept N;have M5:=M4.trans$ N.mono λj p=>.inl p;clear H M4 N q3;let⟨_,_,_,_,⟨u4,q4⟩,_,_,_,qf⟩:=l _ P;have f4:=qf$ m*8+4;have G:=P.set m 4 (.inr rfl)$ qI ((k+t+1+a+A+d:Nat):Int);have M6:=M5.set c (m*8+4) (qI ((k+t+1+a+A+d:Nat):Int))$ .inr rfl;clear P M5 qf;have q5:=l _ G;go_wp2_with fail
   apply(Y _ (k+t+1+a+A+d+1) J G).mono;rintro e w5 ⟨rfl,N⟩;have D:=G.kept N;have M7:=M6.trans$ N.mono λj p=>.inl p;clear G M6 N q5 q4 f4;have q6:=l _ D;go_wp2_with fail
   apply(X _ (k+t+1+a+A+d+1+rn) J D).mono;rintro e w6 ⟨rfl,N⟩;have C:=D.kept N;have M8:=M7.trans$ N.mono λj p=>.inl p;clear D M7 N q6;have q7:=l _ C;go_wp2_with fail
   apply(U _ (k+t+1+a+A+d+1+rn+im) J C).mono;rintro e w7 ⟨rfl,N⟩;have R9:=zh$ C.kept N;have M9:=zh$ M8.trans$ N.mono λj p=>.inl p;clear C M8 N q7;go_wp2
   go_roundw
   .exact⟨m+1,J,by go_num,by rw[I.o];go_num,R9.o,M9.o⟩
   .simp[intOf];omega
  .have e:Zh (m=n):=by show m=n;omega
   have HX:=zh M;clear R M;go_wp2;go_ret;exact⟨aJ (by rw[e.o]),HX.o⟩
structure Hd where
 a1:qO
 tn:Nat
 c1:Nat
 a2:qO
 bn:Nat
 c2:Nat
 f:Nat->qO×Nat×Nat
 a3:qO
 dn:Nat
 c3:Nat
 a5:qO
 rn:Nat
 c5:Nat
 a6:qO
 im:Nat
 c6:Nat
 a7:qO
 en:Nat
 c7:Nat
structure Ct where
 nm:ByteArray
 T:List Int
 X:Nat->List Int
 D:List Int
 s:Int
 R:List Int
 I:List ByteArray
 E:List Ex
def zHd:Hd:=⟨none,0,0,none,0,0,λ_=>(none,0,0),none,0,0,none,0,0,none,0,0,none,0,0⟩
def clH (x:Hd×Ct):List Value:=[.string x.2.nm,qS x.1.a1 x.1.tn x.1.c1,qS x.1.a2 x.1.bn x.1.c2,qS x.1.a3 x.1.dn x.1.c3,qI x.2.s,qS x.1.a5 x.1.rn x.1.c5,qS x.1.a6 x.1.im x.1.c6,qS x.1.a7 x.1.en x.1.c7]
abbrev M6h (W:qw)(base:Nat)(x:Hd×Ct):Prop:=M6 W base (qS x.1.a1 x.1.tn x.1.c1) (qS x.1.a3 x.1.dn x.1.c3) (qS x.1.a5 x.1.rn x.1.c5) (qS x.1.a6 x.1.im x.1.c6) (qS x.1.a7 x.1.en x.1.c7) x.1.a2 x.1.bn x.1.f x.2.T x.2.X x.2.D x.2.R x.2.I x.2.E
def Sh (h:Hd)(j:Nat):Prop:=(qS h.a1 h.tn h.c1).ownBlock=some j\/Sr h.f h.bn j\/(qS h.a3 h.dn h.c3).ownBlock=some j\/(qS h.a5 h.rn h.c5).ownBlock=some j\/(qS h.a6 h.im h.c6).ownBlock=some j\/(qS h.a7 h.en h.c7).ownBlock=some j
def M6h.sh {W:qw}{x:Hd×Ct}(h:M6h W base x)(b:Sh x.1 j):(base<=j/\j<W.heap.size)/\∃cs t,Blk W j cs t/\(t=3\/t=5\/t=9\/t=209):=by
 rcases b with e|e|e|e|e|e
 .have⟨cs,k⟩:=aE h.t.1 e;exact⟨h.t.lt j e,cs,_,k,.inl rfl⟩
 .have⟨cs,k⟩:=h.b.kind e;exact⟨h.lt.2.1 j e,cs,_,k,.inl rfl⟩
 .have⟨cs,k⟩:=aE h.d.1 e;exact⟨h.d.lt j e,cs,_,k,.inr$ .inl rfl⟩
 .have⟨cs,k⟩:=aE h.r.1 e;exact⟨h.r.lt j e,cs,_,k,.inl rfl⟩
 .have⟨cs,k⟩:=aE h.i e;exact⟨h.i.lt j e,cs,_,k,.inr$ .inr$ .inl rfl⟩
 .have⟨cs,k⟩:=aE h.e e;exact⟨h.e.lt j e,cs,_,k,.inr$ .inr$ .inr rfl⟩
def M6h.no {W:qw}{x:Hd×Ct}(h:M6h W base x)(b:Sh x.1 j){t:TypeId}(e:Blk W j cs t)(l:t≠3/\t≠5/\t≠9/\t≠209):False:=by
 obtain⟨_,a,d,kb,h|h|h|h⟩:=h.sh b
 all_goals
  subst h;have:=aH e kb;simp_all
def M6h.kept {W l:qw}{x:Hd×Ct}(h:M6h W base x)(t:Turn S W l)(e:∀j,Sh x.1 j->¬S j)(q:∀j cs,Blk W j cs 25->¬S j):M6h l base x:=
 ⟨aV t h.t λk b=>e k$ .inl b,h.b.kept t (λi hi k b=>e k$ .inr$ .inl ⟨i,hi,b⟩) λ_ g cs _ p=>q g cs p,aP t h.d λk b=>e k$ .inr$ .inr$ .inl b,aV t h.r λk b=>e k$ .inr$ .inr$ .inr$ .inl b,h.i.kept t λk b=>e k$ .inr$ .inr$ .inr$ .inr$ .inl b,h.e.kept t λk b=>e k$ .inr$ .inr$ .inr$ .inr$ .inr b,h.tr,h.tb,h.rb⟩
structure OMs (W:qw)(base:Nat)(v:Value)(L:List (Hd×Ct))(β:Nat->Nat):Prop where
 o:OG 128 8 clH W base v L
 m:∀(i:Nat)(x:Hd×Ct),L[i]?=some x->M6h W (β i) x/\∀j,Sh x.1 j->j<β (i+1)
 mono:∀i k,i<=k->k<=L.length->β i<=β k
theorem lR {α:Type}{L:List α}{x:α}(h:L[i]?=some x):i<L.length:=by grind
theorem aQj {α:Type}{L:List α}{b x:α}(h:(L.set i b)[j]?=some x):(j=i/\x=b)\/(j≠i/\L[j]?=some x):=by grind
def OMs.apart {W:qw}{L:List (Hd×Ct)}(H:OMs W base v L β){x y:Hd×Ct}(hx:L[i]?=some x)(e:L[k]?=some y)(b:k≠i):∀j,Sh y.1 j->¬Sh x.1 j:=λj p l=>by
 have:=lR hx;have:=lR e;have:=(H.m i x hx).2 j l;have:=((H.m i x hx).1.sh l).1.1;have:=(H.m k y e).2 j p;have:=((H.m k y e).1.sh p).1.1;rcases Nat.lt_or_gt_of_ne b with h|h
 .have:=H.mono (k+1) i h J;omega
 .have:=H.mono (i+1) k h J;omega
def OMs.bw {W b:qw}{L:List (Hd×Ct)}(H:OMs W base v L β)(e:qY W b):OMs b base v L β:=⟨H.o.bw e,λi x hx=>⟨(H.m i x hx).1.bw e,(H.m i x hx).2⟩,H.mono⟩
def OMs.kept {W b:qw}{L:List (Hd×Ct)}(H:OMs W base v L β)(t:Turn S W b)(e:∀j,v.ownBlock=some j->¬S j)(p:∀(i:Nat)(x:Hd×Ct),L[i]?=some x->∀j,Sh x.1 j->¬S j)(l:∀j cs,Blk W j cs 25->¬S j):OMs b base v L β:=
 ⟨H.o.kept t e,λi x hx=>⟨(H.m i x hx).1.kept t (p i x hx) l,(H.m i x hx).2⟩,H.mono⟩
theorem aLf {α:Type}{f:α->List Value}(p:∀x,(f x).length=8)(v:Value)(b:α)(j:Nat)(l:j<8):∀(L:List α)(i:Nat)(x:α),L[i]?=some x->f b=(f x).set j v->(L.flatMap f).set (i*8+j) v=(L.set i b).flatMap f
 | [],i,x,h,e=>by grind
 | y::L,0,x,h,e=>by
   grind
 | y::L,i+1,x,h,e=>by
   rw[List.set_cons_succ,xT,xT,<-aLf p v b j l L i x (by grind) e,List.set_append_right _ _ (by grind)]
   grind
theorem aLg {α:Type}{f:α->List Value}(b:α):∀(L:List α)(i:Nat)(x:α),L[i]?=some x->f b=f x->(L.set i b).flatMap f=L.flatMap f
 | [],i,x,h,e=>by grind
 | y::L,0,x,h,e=>by
   grind
 | y::L,i+1,x,h,e=>by
   rw[List.set_cons_succ,xT,xT,aLg b L i x (by grind) e]
theorem aE2 {α:Type}{f:α->List Value}(b:∀x,(f x).length=8):∀(L:List α)(i:Nat)(x:α),L[i]?=some x->∀j,j<8->(L.flatMap f)[i*8+j]?=(f x)[j]?
 | [],i,x,h,j,hj=>by grind
 | y::L,0,x,h,j,hj=>by
   grind
 | y::L,i+1,x,h,j,hj=>by
   rw[xT,List.getElem?_append_right (by grind),b,show(i+1)*8+j-8=i*8+j from J];exact aE2 b L i x (by grind) j hj
theorem aO5 {W:qw}{t:TypeId}{sz:Nat}{xs:List Value}(h:W.ownsRow base t sz (qS (qP g) n cap) n xs)(k v):(W.setCell (qR g k) v).ownsRow base t sz (qS (qP g) n cap) n (xs.set k v):=by
 obtain⟨u,⟨q,_⟩|⟨p,l,b,a,i,j,d,e,s,f⟩⟩:=h
 .grind
 .simp at a;obtain⟨rfl,rfl⟩:=a;refine⟨by grind,.inr ⟨g,cap,b.setIfInBounds k v,rfl,i,Blk.set (w:=W) j k v,d,e,by grind,?_⟩⟩;rw[xW,List.take_set,f]
theorem OMs.mod {W l:qw}{L:List (Hd×Ct)}{h:Hd}{c c':Ct}(H:OMs W base v L β)(hx:L[i]?=some (h,c))(A:M6h l (β i) (h,c'))(e:clH (h,c')=clH (h,c))(hS:∀j,S j->Sh h j)(T:Turn S W l):OMs l base v (L.set i (h,c')) β:=by
 have q:=H.m i _ hx;refine⟨?_,λk y b=>?_,by rw[List.length_set];exact H.mono⟩
 .have t:=H.o.kept T (λk p s=>by
   let⟨d,a⟩:=aE H.o p
   exact q.1.no (hS k s) a Ja)
  unfold OG at t ⊢;rw[aLg (h,c') L i (h,c) hx e,List.length_set];exact t
 .rcases aQj b with⟨rfl,rfl⟩|⟨p,b⟩
  .grind
  .exact⟨(H.m k y b).1.kept T (λj x s=>H.apart hx b p j x$ hS j s) λj f u s=>q.1.no (hS j s) u Ja,(H.m k y b).2⟩
def OMs.cell {W:qw}{L:List (Hd×Ct)}{h:Hd}{c c':Ct}(H:OMs W base (qS (qP g) n cap) L β)(hn:L.length=n)(hx:L[i]?=some (h,c))(j)(B:j<8)(u)(e:clH (h,c')=(clH (h,c)).set j u)(t:M6h W (β i) (h,c')):OMs (W.setCell (qR g$ i*8+j) u) base (qS (qP g) n cap) (L.set i (h,c')) β:=by
 have T:=aD W g (i*8+j) u;let⟨d,a⟩:=aE H.o (k:=g) rfl
 have p:∀(y:Hd×Ct)(b:Nat),M6h W b y->M6h (W.setCell (qR g$ i*8+j) u) b y:=λy b l=>l.kept T (λq A s=>by
  subst s
  exact l.no A a Ja) (λq f x s=>by subst s;exact absurd (aH a x) Ja)
 refine⟨?_,λk y l=>?_,by rw[List.length_set];exact H.mono⟩
 .have o:=H.o;unfold OG at o⊢;rw[<-aLf (λ_=>rfl) u (h,c') j B L i (h,c) hx e,List.length_set];rw[hn]at o⊢;exact aO5 o (i*8+j) u
 .rcases aQj l with⟨rfl,rfl⟩|⟨C,l⟩
  .exact⟨p _ _ t,(H.m k _ hx).2⟩
  .exact⟨p _ _ (H.m k y l).1,(H.m k y l).2⟩
def OMs.at {W:qw}{base g n a:Nat}{L:List (Hd×Ct)}{d:Nat->Nat}{i:Nat}{x:Hd×Ct}(H:OMs W base (qS (qP g) n a) L d)(hx:L[i]?=some x):(W.cell? (qR g$ i*8)=some (.string x.2.nm)/\W.cell? (qR g$ i*8+1)=some (qS x.1.a1 x.1.tn x.1.c1)/\W.cell? (qR g$ i*8+2)=some (qS x.1.a2 x.1.bn x.1.c2)/\W.cell? (qR g$ i*8+3)=some (qS x.1.a3 x.1.dn x.1.c3)/\W.cell? (qR g$ i*8+4)=some (qI x.2.s)/\W.cell? (qR g$ i*8+5)=some (qS x.1.a5 x.1.rn x.1.c5)/\W.cell? (qR g$ i*8+6)=some (qS x.1.a6 x.1.im x.1.c6)/\W.cell? (qR g$ i*8+7)=some (qS x.1.a7 x.1.en x.1.c7))/\∀j,W.frozen? (qR g j)=false:=by
 have k:∀j,j<8->∀u,(clH x)[j]?=some u->qN W g (i*8+j)=some u:=λj b u hu=>by
  have q:=World.ownsRow.cells H.o (g:=g) rfl _ _$ (aE2 (λ_=>rfl) L i x hx j b).trans hu
  rwa[cE,Nat.zero_add]at q
 let⟨e,kb⟩:=aE H.o (k:=g) rfl;exact⟨⟨k 0 J _ rfl,k 1 J _ rfl,k 2 J _ rfl,k 3 J _ rfl,k 4 J _ rfl,k 5 J _ rfl,k 6 J _ rfl,k 7 J _ rfl⟩,λj=>kb.frozen j⟩
def bJ (h:Hd):Nat:=2+h.tn+cC h.f h.bn+h.dn+h.rn+h.im+3*h.en
def mkC (h:Hd)(k:Nat):Ct:=⟨mtx k,bY (k+1) h.tn,mrk (k+1+h.tn) h.f,cQ (k+1+h.tn+cC h.f h.bn) h.dn,((k+1+h.tn+cC h.f h.bn+h.dn:Nat):Int),bY (k+1+h.tn+cC h.f h.bn+h.dn+1) h.rn,gV (k+1+h.tn+cC h.f h.bn+h.dn+1+h.rn) h.im,iY (k+1+h.tn+cC h.f h.bn+h.dn+1+h.rn+h.im) h.en⟩
structure Mkg (w W:qw)(base:Nat)(Q:Nat->Prop)(v:Value)(hs:List Hd)(L:List (Hd×Ct))(β:Nat->Nat)(k m:Nat):Prop where
 o:OMs W base v L β
 h:L.map (fun x=>x.1)=hs
 d:∀i,i<m->L[i]?=some (hs.getD i zHd,mkC (hs.getD i zHd) (k+upS (fun j=>bJ (hs.getD j zHd)) i))
 t:Turn Q w W
def aUf {hs:List Hd}{L:List (Hd×Ct)}(h:L.map (λx=>x.1)=hs)(b:m<hs.length):∃c,L[m]?=some (hs.getD m zHd,c):=by
 subst h;rw[xH]at b;exact⟨L[m].2,by simp[xB,b]⟩
theorem aPx {L:List (Hd×Ct)}{hs:List Hd}(h:L.map (λx=>x.1)=hs){x:Hd}{c c':Ct}(hx:L[i]?=some (x,c)):(L.set i (x,c')).map (λx=>x.1)=hs:=by
 subst h;apply List.ext_getElem?
 grind
theorem aQk {α:Type}{L:List α}{x x':α}(h:L[i]?=some x):(L.set i x')[i]?=some x':=by grind
structure Mkm (w W:qw)(base:Nat)(Q:Nat->Prop)(g n cap:Nat)(hs:List Hd)(L:List (Hd×Ct))(β:Nat->Nat)(k m:Nat)(x:Hd)(c:Ct):Prop where
 o:OMs W base (qS (qP g) n cap) L β
 h:L.map (fun x=>x.1)=hs
 d:∀i,i<m->L[i]?=some (hs.getD i zHd,mkC (hs.getD i zHd) (k+upS (fun j=>bJ (hs.getD j zHd)) i))
 t:Turn Q w W
 x:L[m]?=some (x,c)
def Mkm.bw {w W b:qw}{hs:List Hd}{L:List (Hd×Ct)}{x:Hd}{c:Ct}(H:Mkm w W base Q g n cap hs L β k m x c)(e:qY W b):Mkm w b base Q g n cap hs L β k m x c:=⟨H.o.bw e,H.h,H.d,H.t.trans$ aG e,H.x⟩
def Mkm.mod {w W b:qw}{hs:List Hd}{L:List (Hd×Ct)}{x:Hd}{c c':Ct}(H:Mkm w W base Q g n cap hs L β k m x c)(p:M6h b (β m) (x,c'))(e:clH (x,c')=clH (x,c))(hS:∀j,S j->Sh x j)(l:∀j,Sh x j->Q j)(T:Turn S W b):Mkm w b base Q g n cap hs (L.set m (x,c')) β k m x c':=
 ⟨H.o.mod H.x p e hS T,aPx H.h H.x,λi hi=>by rw[List.getElem?_set_ne J];exact H.d i hi,H.t.trans$ T.mono λj s=>l j$ hS j s,aQk H.x⟩
theorem Mkm.cell {w W:qw}{hs:List Hd}{L:List (Hd×Ct)}{x:Hd}{c c':Ct}(H:Mkm w W base Q g n cap hs L β k m x c)(hn:L.length=n)(j)(l:j<8)(u)(e:clH (x,c')=(clH (x,c)).set j u)(b:M6h W (β m) (x,c'))(p:Q g):Mkm w (W.setCell (qR g$ m*8+j) u) base Q g n cap hs (L.set m (x,c')) β k m x c':=
 ⟨H.o.cell hn H.x j l u e b,aPx H.h H.x,λi hi=>by rw[List.getElem?_set_ne J];exact H.d i hi,H.t.trans$ (aD W g _ u).mono (λj s=>by grind),aQk H.x⟩
def sS (g n d base k)(Q:Nat->Prop)(hs L)(a:Nat->Nat)(w)(H:OMs w base (qS (qP g) n d) L a)(hL:L.map (λx=>x.1)=hs)(hl:L.length=n)(h0:0<k)(hz:k+upS (λj=>bJ$ hs.getD j zHd) n<=4194305)(hb:∀i,i<n->(hs.getD i zHd).bn<=1048576)(hn:n<=1048576)(hg:Q g)(a2:∀i,i<n->∀j,Sh (hs.getD i zHd) j->Q j):
 qC 41 #[qS (qP g) n d,qI k] w λe w'=>e=.returned (qI ((k+upS (λj=>bJ$ hs.getD j zHd) n:Nat):Int))/\∃P,Mkg w w' base Q (qS (qP g) n d) hs P a k n:=by
 have a4:hs.length=n:=by rw[<-hL,xH,hl]
 have f:=zh$ xA H hL;clear H hL hl
 delta qC;go_in
 go_wp2;go_loopw [1,5] (λx i wr=>∃m:Nat,m<=n/\i=qI m/\x=qI ((k+upS (λj=>bJ$ hs.getD j zHd) m:Nat):Int)/\∃P,Mkg w wr base Q (qS (qP g) n d) hs P a k m) (λ_ i _=>n-(intOf i).toNat)
 .exact⟨0,xC _,rfl,rfl,L,f.1,f.2,λi hi=>absurd hi$ Nat.not_lt_zero _,Turn.refl _ _⟩
 .obtain⟨m,hm,rfl,rfl,P,R⟩:=hrel;by_cases G:m<n
  .have a7:(m:Int)<(n:Int):=J
   let⟨c,hc⟩:=aUf R.h$ show m<hs.length from J;have y7:=hb m G;have a8:bJ (hs.getD m zHd)+upS (λj=>bJ$ hs.getD j zHd) m<=upS (λj=>bJ$ hs.getD j zHd) n:=aC9 (λj=>bJ$ hs.getD j zHd) n m G;have a3:Zh (upS (λj=>bJ$ hs.getD j zHd) (m+1)=upS (λj=>bJ$ hs.getD j zHd) m+bJ (hs.getD m zHd)):=rfl;have p:=zh$ a2 m G;have a1:Zh (bJ (hs.getD m zHd)=2+(hs.getD m zHd).tn+cC (hs.getD m zHd).f (hs.getD m zHd).bn+(hs.getD m zHd).dn+(hs.getD m zHd).rn+(hs.getD m zHd).im+3*(hs.getD m zHd).en):=rfl;have S:Zh (Mkm w wr base Q g n d hs P a k m (hs.getD m zHd) c):=zh ⟨R.o,R.h,R.d,R.t,hc⟩;have a0:Zh (∀(L:List (Hd×Ct)),L.map (λx=>x.1)=hs->L.length=n):=λL h=>by rw[<-a4,<-h,xH]
   have a6:=zh (λ(W:qw)(L2:List (Hd×Ct))(c2:Ct)(Z:Mkm w W base Q g n d hs L2 a k m (hs.getD m zHd) c2)(e:c2=mkC (hs.getD m zHd) (k+upS (λj=>bJ$ hs.getD j zHd) m))=>(⟨Z.o,Z.h,λi hi=>by
    by_cases q:i=m
    .subst q;rw[Z.x,e]
    .exact Z.d i J,Z.t⟩:Mkg w W base Q (qS (qP g) n d) hs L2 a k (m+1)))
   have a5:Zh (mkC (hs.getD m zHd) (k+upS (λj=>bJ$ hs.getD j zHd) m)=mkC (hs.getD m zHd) (k+upS (λj=>bJ$ hs.getD j zHd) m)):=rfl;clear R hc a2 f;generalize upS (λj=>bJ$ hs.getD j zHd) m=b at *;generalize hs.getD m zHd=q at *;have hC:=a1.o;clear a5 a1;generalize Y:cC q.f q.bn=l at *;have N:=zh Y;generalize bJ q=cm at *;obtain⟨nm,T,X,D,s,R,I,E⟩:=c;go_wp2_with fail
   apply(eW (k+b) wr).mono;rintro e w1 ⟨rfl,V⟩;have M:=S.bw V;let⟨⟨p0,p1,p2,p3,p4,p5,p6,p7⟩,pf⟩:=M.o.at M.x;have f0:=pf$ m*8;have t:=M.cell (c':=⟨mtx$ k+b,T,X,D,s,R,I,E⟩) (a0 _ M.h) 0 J (.string$ mtx$ k+b) rfl (M.o.m m _ M.x).1 hg;simp only[Nat.add_zero]at t;clear S M V p1 p2 p3 p4 p5 p6 p7 pf Y;let⟨⟨_,q1,_⟩,_⟩:=t.o.at t.x;go_wp2_with fail
   apply(iA q.a1 q.tn q.c1 (a m) _ (k+b+1) _ (t.o.m m _ t.x).1.t).mono;rintro e w2 ⟨rfl,O,U⟩;have u:=t.mod (c':=⟨mtx$ k+b,bY (k+b+1) q.tn,X,D,s,R,I,E⟩) ((t.o.m m _ t.x).1.set_t O U) rfl (λj s=>.inl s) p U;clear t O U q1 p0 f0;let⟨⟨_,_,q2,_⟩,_⟩:=u.o.at u.x;go_wp2_with fail
   apply(aBh q.a2 q.bn q.c2 (k+b+1+q.tn) (a m) q.f _ _ (u.o.m m _ u.x).1.b J (by rw[N.o];omega) J).mono;rw[N.o];rintro e w3 ⟨rfl,O,U⟩;have C:=u.mod (c':=⟨mtx$ k+b,bY (k+b+1) q.tn,mrk (k+b+1+q.tn) q.f,D,s,R,I,E⟩) ((u.o.m m _ u.x).1.set_b O U) rfl (λj s=>.inr$ .inl s) p U;clear u O U q2;let⟨⟨_,_,_,q3,_⟩,_⟩:=C.o.at C.x;go_wp2_with fail
   apply(eH q.a3 q.dn q.c3 (a m) _ (k+b+1+q.tn+l) _ (C.o.m m _ C.x).1.d).mono;rintro e w4 ⟨rfl,O,U⟩;have K:=C.mod (c':=⟨mtx$ k+b,bY (k+b+1) q.tn,mrk (k+b+1+q.tn) q.f,cQ (k+b+1+q.tn+l) q.dn,s,R,I,E⟩) ((C.o.m m _ C.x).1.set_d O U) rfl (λj s=>.inr$ .inr$ .inl s) p U;clear C O U q3;let⟨⟨_,_,_,_,q4,_⟩,qf⟩:=K.o.at K.x;have f4:=qf$ m*8+4;have B:=K.cell (c':=⟨mtx$ k+b,bY (k+b+1) q.tn,mrk (k+b+1+q.tn) q.f,cQ (k+b+1+q.tn+l) q.dn,((k+b+1+q.tn+l+q.dn:Nat):Int),R,I,E⟩) (a0 _ K.h) 4 J (qI ((k+b+1+q.tn+l+q.dn:Nat):Int)) rfl (K.o.m m _ K.x).1 hg;clear K qf;let⟨⟨_,_,_,_,_,q5,_⟩,_⟩:=B.o.at B.x;go_wp2_with fail
   apply(iA q.a5 q.rn q.c5 (a m) _ (k+b+1+q.tn+l+q.dn+1) _ (B.o.m m _ B.x).1.r).mono;rintro e w5 ⟨rfl,O,U⟩;have y:=B.mod (c':=⟨mtx$ k+b,bY (k+b+1) q.tn,mrk (k+b+1+q.tn) q.f,cQ (k+b+1+q.tn+l) q.dn,((k+b+1+q.tn+l+q.dn:Nat):Int),bY (k+b+1+q.tn+l+q.dn+1) q.rn,I,E⟩) ((B.o.m m _ B.x).1.set_r O U) rfl (λj s=>.inr$ .inr$ .inr$ .inl s) p U;clear B O U q5 q4 f4;let⟨⟨_,_,_,_,_,_,q6,_⟩,_⟩:=y.o.at y.x;go_wp2_with fail
   apply(uQ q.a6 q.im q.c6 (a m) _ (k+b+1+q.tn+l+q.dn+1+q.rn) _ (y.o.m m _ y.x).1.i J J J).mono;rintro e w6 ⟨rfl,O,U⟩;have A:=y.mod (c':=⟨mtx$ k+b,bY (k+b+1) q.tn,mrk (k+b+1+q.tn) q.f,cQ (k+b+1+q.tn+l) q.dn,((k+b+1+q.tn+l+q.dn:Nat):Int),bY (k+b+1+q.tn+l+q.dn+1) q.rn,gV (k+b+1+q.tn+l+q.dn+1+q.rn) q.im,E⟩) ((y.o.m m _ y.x).1.set_i O U) rfl (λj s=>.inr$ .inr$ .inr$ .inr$ .inl s) p U;clear y O U q6;let⟨⟨_,_,_,_,_,_,_,q7⟩,_⟩:=A.o.at A.x;go_wp2_with fail
   apply(uV q.a7 q.en q.c7 (a m) _ (k+b+1+q.tn+l+q.dn+1+q.rn+q.im) _ (A.o.m m _ A.x).1.e J J J).mono;rintro e w7 ⟨rfl,O,U⟩;have Z9:=zh$ A.mod (c':=⟨mtx$ k+b,bY (k+b+1) q.tn,mrk (k+b+1+q.tn) q.f,cQ (k+b+1+q.tn+l) q.dn,((k+b+1+q.tn+l+q.dn:Nat):Int),bY (k+b+1+q.tn+l+q.dn+1) q.rn,gV (k+b+1+q.tn+l+q.dn+1+q.rn) q.im,iY (k+b+1+q.tn+l+q.dn+1+q.rn+q.im) q.en⟩) ((A.o.m m _ A.x).1.set_e O U) rfl (λj s=>.inr$ .inr$ .inr$ .inr$ .inr s) p U;clear A O U q7;go_wp2
   go_roundw
   .exact⟨m+1,J,by go_num,by rw[a3.o];go_num,_,a6.o _ _ _ Z9.o (by unfold mkC;rw[N.o])⟩
   .simp[intOf];omega
  .have e:Zh (m=n):=by show m=n;omega
   have S:=zh R;clear R f;go_wp2;go_ret;exact⟨aJ (by rw[e.o]),P,by have:=S.o;rw[e.o]at this;exact this⟩
def tH (g n a0 base k)(hs:List Hd)(L)(a:Nat->Nat)(w)(H:OMs w base (qS (qP g) n a0) L a)(hd:∀i,i<n->L[i]?=some (hs.getD i zHd,mkC (hs.getD i zHd)$ k+upS (λj=>bJ$ hs.getD j zHd) i))(h0:0<k)(hz:k+upS (λj=>bJ$ hs.getD j zHd) n<=4194305)(l:∀i,i<n->(hs.getD i zHd).bn<=1048576)(hn:n<=1048576):
 qC 46 #[qS (qP g) n a0,qI k] w λe w'=>e=.returned (qI ((k+upS (λj=>bJ$ hs.getD j zHd) n:Nat):Int))/\qY w w':=by
 delta qC;go_in
 go_wp2;go_loopw [1,5] (λx i wr=>∃m:Nat,m<=n/\i=qI m/\x=qI ((k+upS (λj=>bJ$ hs.getD j zHd) m:Nat):Int)/\qY w wr) (λ_ i _=>n-(intOf i).toNat)
 .exact⟨0,xC _,rfl,rfl,brf⟩
 .obtain⟨m,hm,rfl,rfl,B⟩:=hrel;by_cases u:m<n
  .have a1:(m:Int)<(n:Int):=J
   have:=l m u;have:bJ (hs.getD m zHd)+upS (λj=>bJ$ hs.getD j zHd) m<=upS (λj=>bJ$ hs.getD j zHd) n:=aC9 (λj=>bJ$ hs.getD j zHd) n m u;have M:Zh (upS (λj=>bJ$ hs.getD j zHd) (m+1)=upS (λj=>bJ$ hs.getD j zHd) m+bJ (hs.getD m zHd)):=rfl;have K:Zh (bJ (hs.getD m zHd)=2+(hs.getD m zHd).tn+cC (hs.getD m zHd).f (hs.getD m zHd).bn+(hs.getD m zHd).dn+(hs.getD m zHd).rn+(hs.getD m zHd).im+3*(hs.getD m zHd).en):=rfl;have p:=zb w λX hX=>xA ((H.bw hX).at$ hd m u) ((H.bw hX).m m _$ hd m u).1;generalize upS (λj=>bJ$ hs.getD j zHd) m=b at *;generalize hs.getD m zHd=q at *;unfold mkC at p;have:=K.o;clear K;generalize G:cC q.f q.bn=y at *;have I:=zh G;generalize bJ q=cm at *;have O:=zh B;clear B G hd;dsimp only at p;let⟨⟨p0,_⟩,_⟩:=(p wr O).1;have U:=zh λW=>eW (k+b) W;let⟨s,hs⟩:=aO$ mtx$ k+b;rw[<-hs]at U p p0;clear hs;have:(s.toList !=s.toList)=false:=Jb
   go_wp2_with fail
   go_region_held3 (λw'=>qN w' g (m*8)=some (.string s)) (go_keep) (first
    | (go_at_call 97;refine(U _).mono ?_;rintro e C ⟨rfl,l⟩;replace l:=yT O$ aU l;have c1:=(p C l).1.1.1;have t:=zh l;clear l))
   clear p0 O U c1;let⟨⟨_,d,f,Q,S,q5,q6,q7⟩,_⟩:=(p C t).1;have E:=(p C t).2;have:¬(((k+b+1+q.tn:Nat):Int)<0):=J
   have:¬(((k+b+1+q.tn+y:Nat):Int)<0):=J
   have:¬(((k+b+1+q.tn+y+q.dn:Nat):Int)<0):=J
   have:¬(((k+b+1+q.tn+y+q.dn+1+q.rn:Nat):Int)<0):=J
   have:¬(((k+b+1+q.tn+y+q.dn+1+q.rn+q.im:Nat):Int)<0):=J
   have:¬(((k+b+1+q.tn+y+q.dn+1+q.rn+q.im+3*q.en:Nat):Int)<0):=J
   have Z:=zh$ iJ q.a1 q.tn q.c1 (k+b+1) C E.t.is;go_wp2_with fail
   apply Z.mono;rintro e D ⟨rfl,rfl⟩;have P:=zh (aBt q.a2 q.bn q.c2 (k+b+1+q.tn) (a m) q.f C E.b J (by rw[I.o];omega) J);rw[I.o]at P;have H3:=zh$ eJ q.a3 q.dn q.c3 (k+b+1+q.tn+y) C E.d.bs;have Y:=zh$ iJ q.a5 q.rn q.c5 (k+b+1+q.tn+y+q.dn+1) C E.r.is;have H6:=zh$ uX q.a6 q.im q.c6 (a m) (k+b+1+q.tn+y+q.dn+1+q.rn) C E.i J J J;clear Z E;go_wp2_with fail
   apply P.mono;rintro e D ⟨rfl,rfl⟩;go_wp2_with fail
   apply H3.mono;rintro e D ⟨rfl,rfl⟩;go_wp2_with fail
   apply Y.mono;rintro e D ⟨rfl,rfl⟩;go_wp2_with fail
   apply H6.mono;rintro e D ⟨rfl,l⟩;have A:=zh$ yT t l;have V:=zh$ vB q.a7 q.en q.c7 (a m) (k+b+1+q.tn+y+q.dn+1+q.rn+q.im) D (p D A).2.e J J J;clear P H3 Y H6 l d f Q S q5 q6 q7;let⟨⟨_,d,f,Q,S,q5,q6,q7⟩,_⟩:=(p D A).1;go_wp2_with fail
   apply V.mono;rintro e w4 ⟨rfl,l⟩;have N:=zh$ yT A l;clear l V d f Q S q5 q6 q7 t A;go_wp2
   go_roundw
   .exact⟨m+1,J,by go_num,by rw[M.o];go_num,N.o⟩
   .simp[intOf];omega
  .have e:Zh (m=n):=by show m=n;omega
   have HX:=zh B;clear B;go_wp2;go_ret;exact⟨aJ (by rw[e.o]),HX.o⟩
def sR (a)(b k:Nat)(w):
 qC 41 #[qS a 0 b,qI k] w λe w'=>e=.returned (qI (k:Nat))/\w=w':=by
 delta qC;go_in
 go_wp2;go_loopw [1,5] (λx i wr=>x=qI (k:Nat)/\i=qI 0/\w=wr) (λ_ _ _=>0)
 .exact⟨rfl,rfl,rfl⟩
 .obtain⟨rfl,rfl,rfl⟩:=hrel;go_wp2;go_ret;exact⟨rfl,rfl⟩
def tG (a)(b k:Nat)(w):
 qC 46 #[qS a 0 b,qI k] w λe w'=>e=.returned (qI (k:Nat))/\w=w':=by
 delta qC;go_in
 go_wp2;go_loopw [1,5] (λx i wr=>x=qI (k:Nat)/\i=qI 0/\w=wr) (λ_ _ _=>0)
 .exact⟨rfl,rfl,rfl⟩
 .obtain⟨rfl,rfl,rfl⟩:=hrel;go_wp2;go_ret;exact⟨rfl,rfl⟩
structure LayB (L:Lay):Prop where
 r:LayR L
 p:L.places.length<=4/\∀x∈L.places,x.banks.length<=4
 s:L.slots.length<=4
 t:L.targets.length<=4/\∀x∈L.targets,x.length<=16
def aM3:LayB L0:=⟨⟨by simp[L0],by simp[L0],by simp[L0]⟩,by simp[L0],by simp[L0],by simp[L0]⟩
theorem cW {k:Int}(h:lkc ps s w k d=0):cfo s w k d=true/\1<=ps.length/\ps.length<=4/\iQ ps/\oJ ps:=by
 unfold lkc at h;split at h
 .rename_i b;exact absurd h b
 rename_i b;split at h
 .grind
 rename_i p;simp at b;unfold fJ at b;split at b
 .grind
 rename_i e;split at b
 .grind
 rename_i l
 grind
def aP3 {k:Int}(h:lkc ps s w k d=0):LayB (lay ps s w k):=by
 let⟨hc,p,t,g,_⟩:=cW h;unfold cfo at hc;simp at hc;have b:∀i,i<ps.length->fY (ps.getD i zP)=0:=g;refine⟨⟨λx hx z a=>?_,λz a=>?_,?_,?_,λx hx=>?_⟩,⟨?_,λx hx=>?_⟩,?_,⟨?_,λx hx=>?_⟩⟩
 .simp only[lay,List.mem_map,List.mem_range]at hx;obtain⟨i,hi,rfl⟩:=hx;simp only[plc,List.mem_map,List.mem_range]at a;obtain⟨q,u,rfl⟩:=a;have j:=fP g i J;have:=cT (b i hi) q J;have f:=cJ$ b i hi;have l:=aX (x:=4*((ps.getD i zP).tz.length:Int));have e:tsz (ps.getD i zP)=rnd (4*((ps.getD i zP).tz.length:Int)):=rfl;rw[e];unfold wfi;omega
 .simp only[lay,List.mem_map,List.mem_range]at a;obtain⟨i,hi,rfl⟩:=a;have j:=cN g ps.length aQ;have l:=aX (x:=4*w);have e:(0:Int)<=(i:Int)*rnd (4*w):=Int.mul_nonneg J J;have:(i:Int)*rnd (4*w)<=4*287:=Int.mul_le_mul J J J J;unfold slt wfi;omega
 .simp[lay];omega
 .simp[lay];omega
 .simp only[lay,List.mem_map,List.mem_range]at hx;obtain⟨i,hi,rfl⟩:=hx;have f:=cJ$ b i hi;simp only[tgs,xH,List.length_range];omega
 .simp[lay];omega
 .simp only[lay,List.mem_map,List.mem_range]at hx;obtain⟨i,hi,rfl⟩:=hx;have f:=cJ$ b i hi;simp only[plc,xH,List.length_range];omega
 .simp[lay];omega
 .simp[lay];omega
 .simp only[lay,List.mem_map,List.mem_range]at hx;obtain⟨i,hi,rfl⟩:=hx;have f:=cJ$ b i hi;simp only[tgs,xH,List.length_range];omega
def vN (ps s w k d):LayB (lkL ps s w k d):=by
 unfold lkL;by_cases h:lkc ps s w k d=0
 .rw[if_pos h];exact aP3 h
 .rw[if_neg h];exact aM3
def TgS (w:qw)(a:qO)(n cap:Nat)(zs:List Tg):Prop:=
 zs.length=n/\n<=maxLen/\(n≠0->∃b off,a=some (qR b off)/\∀i,i<n->w.cell? (qR b$ off+i*3)=some (qI (zs.getD i zT).1)/\w.cell? (qR b$ off+i*3+1)=some (qI (zs.getD i zT).2.1)/\w.cell? (qR b$ off+i*3+2)=some (qI (zs.getD i zT).2.2))/\n<=cap
def aB {w w':qw}(e:qY w w'){b:Nat}(h:w.cell? (qR b o)=some v):w'.cell? (qR b o)=some v:=(e.cell$ xD w _ h).trans h
def TgS.bw {w w':qw}(h:TgS w a n cap zs)(l:qY w w'):TgS w' a n cap zs:=by
 obtain⟨d,f,g,j⟩:=h;refine⟨d,f,λk=>?_,j⟩;let⟨b,off,e,hc⟩:=g k;exact⟨b,off,e,λi hi=>⟨aB l (hc i hi).1,aB l (hc i hi).2.1,aB l (hc i hi).2.2⟩⟩
theorem TgS.at {w:qw}(h:TgS w a n cap zs)(i)(hi:i<n):∃b off,a=some (qR b off)/\w.cell? (qR b$ off+i*3)=some (qI (zs.getD i zT).1)/\w.cell? (qR b$ off+i*3+1)=some (qI (zs.getD i zT).2.1)/\w.cell? (qR b$ off+i*3+2)=some (qI (zs.getD i zT).2.2):=by
 let⟨b,off,e,hc⟩:=h.2.2.1 J
 grind
def TsS (w:qw)(a:qO)(n cap:Nat)(ts:List TB):Prop:=
 ts.length=n/\n<=maxLen/\(n≠0->∃b off,a=some (qR b off)/\∀i,i<n->w.cell? (qR b$ off+i)=some (svT$ ts.getD i zTB))/\(∀i,i<n->TgS w (ts.getD i zTB).2.1 (ts.getD i zTB).1.length (ts.getD i zTB).2.2 (ts.getD i zTB).1)/\n<=cap
def TsS.bw {w w':qw}(h:TsS w a n cap ts)(l:qY w w'):TsS w' a n cap ts:=by
 obtain⟨d,f,g,j,k⟩:=h;refine⟨d,f,λp=>?_,λi hi=>(j i hi).bw l,k⟩;let⟨b,off,e,hc⟩:=g p;exact⟨b,off,e,λi hi=>aB l$ hc i hi⟩
theorem TsS.at {w:qw}(h:TsS w a n cap ts)(i)(hi:i<n):∃b off,a=some (qR b off)/\w.cell? (qR b$ off+i)=some (svT$ ts.getD i zTB):=by
 let⟨b,off,e,hc⟩:=h.2.2.1 J
 grind
def PlS (w:qw)(a:qO)(n cap:Nat)(xs:List PB):Prop:=
 xs.length=n/\n<=maxLen/\(n≠0->∃b off,a=some (qR b off)/\∀i,i<n->w.cell? (qR b$ off+i*4)=some (qI (xs.getD i zPB).1.text)/\w.cell? (qR b$ off+i*4+1)=some (svP$ xs.getD i zPB)/\w.cell? (qR b$ off+i*4+2)=some (qI (xs.getD i zPB).1.data)/\w.cell? (qR b$ off+i*4+3)=some (qI (xs.getD i zPB).1.size))/\(∀i,i<n->IS w (xs.getD i zPB).2.1 (xs.getD i zPB).1.banks.length (xs.getD i zPB).2.2 (xs.getD i zPB).1.banks)/\n<=cap
def PlS.bw {w w':qw}(h:PlS w a n cap xs)(l:qY w w'):PlS w' a n cap xs:=by
 obtain⟨d,f,g,j,k⟩:=h;refine⟨d,f,λp=>?_,λi hi=>(j i hi).bw l,k⟩;let⟨b,off,e,hc⟩:=g p;exact⟨b,off,e,λi hi=>⟨aB l (hc i hi).1,aB l (hc i hi).2.1,aB l (hc i hi).2.2.1,aB l (hc i hi).2.2.2⟩⟩
theorem PlS.at {w:qw}(h:PlS w a n cap xs)(i)(hi:i<n):∃b off,a=some (qR b off)/\w.cell? (qR b$ off+i*4)=some (qI (xs.getD i zPB).1.text)/\w.cell? (qR b$ off+i*4+1)=some (svP$ xs.getD i zPB)/\w.cell? (qR b$ off+i*4+2)=some (qI (xs.getD i zPB).1.data)/\w.cell? (qR b$ off+i*4+3)=some (qI (xs.getD i zPB).1.size):=by
 let⟨b,off,e,hc⟩:=h.2.2.1 J
 grind
structure LyT (w:qw)(L:Lay)(a0:qO)(c0:Nat)(xs:List PB)(a2:qO)(c2:Nat)(a5:qO)(c5:Nat)(ts:List TB):Prop where
 p:PlS w a0 xs.length c0 xs
 ps:xs.map (fun x=>x.1)=L.places
 s:IS w a2 L.slots.length c2 L.slots
 t:TsS w a5 ts.length c5 ts
 tt:ts.map (fun x=>x.1)=L.targets
 v:wfi L.stack/\wfi L.flash/\wfi L.ram
def LyT.bw {w w':qw}{L:Lay}{e:qO}{p:Nat}{a2:qO}{c2:Nat}{q:qO}{l:Nat}(h:LyT w L e p xs a2 c2 q l ts)(b:qY w w'):LyT w' L e p xs a2 c2 q l ts:=⟨h.p.bw b,h.ps,h.s.bw b,h.t.bw b,h.tt,h.v⟩
def cX (L:Lay):Int:=if L.slots=[] then wrap64 (65536+L.ram) else L.slots.getD 0 0
def aHo {p:Nat}(t:p=122\/p=197)(L a f xs a2 c2 d g i w)(h:LyT w L a f xs a2 c2 d g i):
 qC p #[.agg$ qL L a xs.length f a2 L.slots.length c2 d i.length g] w (qB w$ qI$ cX L):=by
 rcases t with rfl|rfl
 all_goals
  have l:Zh (qY w$ w.alloc$ .cells (qL L a xs.length f a2 L.slots.length c2 d i.length g) 65):=brf.alloc aQ _;have hs:=h.s.bw l;unfold cX;by_cases c:L.slots=[]
  .rw[if_pos c];have e:L.slots.length=0:=by rw[c];rfl
   rw[e];rw[e]at l
   delta qC;go_in
   go_wp2;go_ret;exact⟨rfl,l⟩
  .rw[if_neg c];have e:0<L.slots.length:=List.length_pos_iff.2 c;obtain⟨b,off,rfl,hc⟩:=hs.2.2.2.1 J;have q:=hc 0 e;rw[Nat.add_zero]at q;generalize L.slots.length=n at *;generalize L.slots.getD 0 0=z at *
   delta qC;go_in
   go_wp2;go_ret;exact⟨rfl,l⟩
def yZ:=@aHo _$ .inl rfl
def cfQ (L:Lay):Int:=wrap64$ (wrap64$ wrap64 (65536+L.ram)-L.slots.getD 0 0).tdiv (L.slots.length:Int)
def cfW (L:Lay):Int:=if L.slots=[] then 1 else wrap64 ((cfQ L).tdiv 4)
def cfK (L:Lay):Int:=wrap64$ cX L-L.stack
def aFe (L a f xs a2 c2 d g i w)(h:LyT w L a f xs a2 c2 d g i):
 qC 294 #[.agg$ qL L a xs.length f a2 L.slots.length c2 d i.length g] w (qB w$ .agg$ qW L.slots.length (cfW L) (cfK L) 0):=by
 have:=h.s.2.1;by_cases c:L.slots=[]
 .have x:L.slots.length=0:=by rw[c];rfl
  have p:=zh (show cfW L=1 by unfold cfW;rw[if_pos c]);have t:=zh (show cfK L=wrap64 (wrap64 (65536+L.ram)-L.stack)by unfold cfK cX;rw[if_pos c]);rw[p.o,t.o,x]
  delta qC;go_in
  go_wp2;refine bodyPost_ret (v:=.agg #[qI 0,qI 1,qI$ wrap64$ wrap64 (65536+L.ram)-L.stack,qI 0]) (by simp[results,Tryz.results294,go_sem]) rfl ⟨rfl,?_⟩;exact(brf.alloc aQ _).alloc Jb _
 .have x:0<L.slots.length:=List.length_pos_iff.2 c;have p:=zh (show cfW L=wrap64 ((cfQ L).tdiv 4)by unfold cfW;rw[if_neg c]);have t:=zh (show cfK L=wrap64 (L.slots.getD 0 0-L.stack)by unfold cfK cX;rw[if_neg c]);rw[p.o,t.o];have D:Zh (cfQ L=wrap64 ((wrap64$ wrap64 (65536+L.ram)-L.slots.getD 0 0).tdiv (L.slots.length:Int))):=rfl;clear p t;obtain⟨b,off,rfl,hc⟩:=h.s.2.2.2.1 J;have q:=hc 0 x;have:=xD _ _ q;rw[Nat.add_zero]at q;generalize L.slots.length=n at *;generalize L.slots.getD 0 0=z at *;generalize cfQ L=Q at *;clear hc c h;have A:qY w ((w.alloc$ .cells (qL L a xs.length f (qe b off) n c2 d i.length g) 65).alloc$ .cells (qW 0 0 0 0) 37):=(brf.alloc aQ _).alloc Jb _;have u:=(Blk.new w (qL L a xs.length f (qe b off) n c2 d i.length g) 65).alloc$ .cells (qW 0 0 0 0) 37;have v:=Blk.new (w.alloc$ .cells (qL L a xs.length f (qe b off) n c2 d i.length g) 65) (qW 0 0 0 0) 37;simp only[xF]at v;have B:=zh λ(nq:Nat)=>xA (below_drewN A nq)$ xA (u.bw$ below_drewN brf nq)$ v.bw$ below_drewN brf nq;clear A u v
  delta qC;go_in
  go_wp2
  go_quiet (fail)
  rw[<-D.o];go_wp2;let⟨s,u,v⟩:=B nq;clear B;generalize (((w.alloc$ .cells (qL L a xs.length f (qe b off) n c2 d i.length g) 65).alloc$ .cells (qW 0 0 0 0) 37).drewN nq)=W at *;have:=aB s q;have:=u.e1;have:=u.e2;have:=v.z4;have:=v.frozen;have:b≠w.heap.size+1:=J
  have:w.heap.size+1≠b:=J
  have l:=zh$ xA s v;clear u v s
  go_region_held3 (λE=>qn E w 1=qj L.stack/\qn E w 2=qk (qe b off) n c2/\qN E b off=qj z) (go_keep) (fail)
  simp only[xP];have C:=(((l.2.set 0$ qI n).set 1$ qI$ wrap64$ Q.tdiv 4).set 2$ qI$ wrap64$ z-L.stack).set 3$ qI 0;have T:Turn (λj=>j=w.heap.size+1) W ((((W.setCell (qr w 0)$ qI n).setCell (qr w 1)$ qI$ wrap64$ Q.tdiv 4).setCell (qr w 2)$ qI$ wrap64$ z-L.stack).setCell (qr w 3)$ qI 0):=(((aD _ _ _ _).trans$ aD _ _ _ _).trans$ aD _ _ _ _).trans$ aD _ _ _ _;have y:=zh$ aF l.1 T (λk e=>J) l.1.size;simp only[yA,yB,yC]at C;generalize ((((W.setCell (qr w 0)$ qI n).setCell (qr w 1)$ qI$ wrap64$ Q.tdiv 4).setCell (qr w 2)$ qI$ wrap64$ z-L.stack).setCell (qr w 3)$ qI 0)=O at *;let⟨s0,s1,s2,s3⟩:=C.z4;clear T C l;go_wp2;exact bodyPost_ret (v:=.agg$ qW n (wrap64$ Q.tdiv 4) (wrap64$ z-L.stack) 0) (by simp[results,Tryz.results294,go_sem,s0,s1,s2,s3]) rfl ⟨rfl,y.o.drew⟩
def Lok (ps:List PMod)(L:Lay):Prop:=lkc ps (L.slots.length:Int) (cfW L) (cfK L) 0=0/\lkL ps (L.slots.length:Int) (cfW L) (cfK L) 0=L
def plE (a b:Pl):Decidable (a=b):=decidable_of_iff (a.text=b.text/\a.banks=b.banks/\a.data=b.data/\a.size=b.size) (by cases a;cases b;simp)
def aXv (a b:Lay):Decidable (a=b):=
 have:DecidableEq Pl:=plE
 decidable_of_iff (a.places=b.places/\a.stack=b.stack/\a.slots=b.slots/\a.flash=b.flash/\a.ram=b.ram/\a.targets=b.targets) (by cases a;cases b;simp)
def aVr (ps:List PMod)(L:Lay):Decidable (Lok ps L):=@instDecidableAnd _ _ _$ aXv _ _
def aDr (a s n K x Q xs d w)(h:TgS w a n K xs)(B:TgS w s x Q d):
 qC 311 #[qS a n K,qS s x Q] w (qB w$ .bool$ decide$ xs=d):=by
 have I:=h.1;have:=B.1;have C:=h.2.1;have t:=B.2.1;unfold maxLen at C t;by_cases W:n=x
 .subst W;have E:((n:Int) !=(n:Int))=false:=Jb
  delta qC;go_in
  go_wp2;go_loopw [13] (λi wr=>∃k:Nat,k<=n/\i=qI k/\xs.take k=d.take k/\qY w wr) (qf n)
  .exact⟨0,xC _,rfl,Jb,brf⟩
  .obtain⟨k,U,rfl,D,p⟩:=hrel;by_cases q:k<n
   .have H:(k:Int)<(n:Int):=J
    obtain⟨b,off,rfl,X,Y,Z⟩:=(h.bw p).at k q;obtain⟨b',a0,rfl,p0,p1,p2⟩:=(B.bw p).at k q;by_cases A:xs.getD k zT=d.getD k zT
    .have M:Zh (xs.take (k+1)=d.take (k+1)):=dU zT xs d k D J J A;rw[A]at X Y Z;generalize d.getD k zT=z at *;obtain⟨f,j,z2⟩:=z;go_wp2
     go_quiet (fail)
     go_wp2
     go_roundw
     .exact⟨k+1,J,by go_num,M,below_drewN p _⟩
     .simp[qf,intOf];omega
    .have l:Zh (decide (xs=d)=false):=by
      show _=_;simp;intro e;exact A (by rw[e])
     generalize d.getD k zT=z at *;generalize xs.getD k zT=O at *;obtain⟨f,j,z2⟩:=z;obtain⟨g,S,V⟩:=O;have u:¬(g=f/\S=j/\V=z2):=λe=>A (by rw[e.1,e.2.1,e.2.2]);by_cases y:g=f
     .by_cases G:S=j
      .have P:¬V=z2:=λe=>u ⟨y,G,e⟩;subst y G;go_wp2
       go_quiet (fail)
       go_wp2;go_ret;exact⟨aA l.symm,below_drewN p _⟩
      .subst y;go_wp2
       go_quiet (fail)
       go_wp2;go_ret;exact⟨aA l.symm,below_drewN p _⟩
     .have N:(g==f)=false:=by simpa using y
      go_wp2
      go_quiet (fail)
      go_wp2;go_ret;exact⟨aA l.symm,below_drewN p _⟩
   .have l:Zh (decide (xs=d)=true):=by
     show _=_;simp;rw[xG J,xG J]at D;exact D
    go_wp2;go_ret;exact⟨aA l.symm,p⟩
 .have l:Zh (decide (xs=d)=false):=by
   show _=_;simp;intro e;rw[e]at I;omega
  have E:((n:Int) !=(x:Int))=true:=Jc
  delta qC;go_in
  go_wp2;go_ret;exact⟨aA l.symm,brf⟩
end Go.Proofs.YtdjdcdnjjmjonaaGreat
namespace Go.Proofs.YtdjdcdnjjmjonaaGreat
open Go.RowKit Classical
set_option maxRecDepth 100000
def aA7 (t d z a n c bs g i j E G c' s w)(h:IS w a n c bs)(B:IS w E G c' s):
 qC 309 #[.agg #[qI t,qS a n c,qI d,qI z],.agg #[qI g,qS E G c',qI i,qI j]] w λe w'=>e=.returned (.bool$ decide$ (⟨t,bs,d,z⟩:Pl)=⟨g,s,i,j⟩)/\qY w w':=by
 have u:qY w ((w.alloc$ .cells #[qI t,qS a n c,qI d,qI z] 170).alloc$ .cells #[qI g,qS E G c',qI i,qI j] 170):=bal.alloc Jb _;have l:=zh u;have b:=zh$ pZ a E n c G c' bs s _ (h.bw u)$ B.bw u;let⟨r,H⟩:=aO$ decide$ (⟨t,bs,d,z⟩:Pl)=⟨g,s,i,j⟩;rw[<-H];have p:=zh H;clear H;by_cases f:t=g
 .by_cases c2:d=i
  .by_cases k:z=j
   .have x:(t==g)=true:=by simpa using f
    have A:(d==i)=true:=by simpa using c2
    have C:(z==j)=true:=by simpa using k
    have q:=zh (show decide (bs=s)=r by rw[p.o];simp[f,c2,k]);rw[q.o]at b;clear f c2 k p
    delta qC;go_in
    go_wp2_with fail
    apply b.mono;rintro e D ⟨rfl,y⟩;cases r
    all_goals
     go_wp2;go_ret;exact⟨rfl,yT l y⟩
   .have x:(t==g)=true:=by simpa using f
    have A:(d==i)=true:=by simpa using c2
    have C:(z==j)=false:=by simpa using k
    have q:=zh (show r=false by rw[p.o];simp[k]);clear f c2 k p b
    delta qC;go_in
    go_wp2;go_ret;exact⟨aA q.symm,l⟩
  .have x:(t==g)=true:=by simpa using f
   have A:(d==i)=false:=by simpa using c2
   have q:=zh (show r=false by rw[p.o];simp[c2]);clear f c2 p b
   delta qC;go_in
   go_wp2;go_ret;exact⟨aA q.symm,l⟩
 .have x:(t==g)=false:=by simpa using f
  have q:=zh (show r=false by rw[p.o];simp[f]);clear f p b
  delta qC;go_in
  go_wp2;go_ret;exact⟨aA q.symm,l⟩
def bQ {α d:Type}(f:α->d)(xs:List α)(i a b)(h:i<xs.length:=by omega):(xs.map f).getD i b=f (xs.getD i a):=by
 simp[xB,h]
def zZ (a a' n a0 M a1 xs d w)(h:PlS w a n a0 xs)(K:PlS w a' M a1 d):
 qC 308 #[qS a n a0,qS a' M a1,.func (.func 309) #[] #[]] w λe w'=>e=.returned (.bool$ decide$ xs.map (λx=>x.1)=d.map (λx=>x.1))/\qY w w':=by
 have hl:=h.1;have a2:=K.1;have O:=h.2.1;have I:=K.2.1;unfold maxLen at O I;let⟨r,hr⟩:=aO$ decide$ xs.map (λx=>x.1)=d.map (λx=>x.1);rw[<-hr];have X:=zh hr;clear hr;by_cases hn:n=M
 .subst hn;have P:((n:Int) !=(n:Int))=false:=Jb
  delta qC;go_in
  go_wp2;go_loopw [17] (λi wr=>∃k:Nat,k<=n/\i=qI k/\(xs.map λx=>x.1).take k=(d.map λx=>x.1).take k/\qY w wr) (qf n)
  .exact⟨0,xC _,rfl,Jb,brf⟩
  .obtain⟨k,hk,rfl,G,E⟩:=hrel;by_cases A:k<n
   .have Y:(k:Int)<(n:Int):=J
    obtain⟨b,off,rfl,j,s,q2,q3⟩:=(h.bw E).at k A;obtain⟨b',a4,rfl,f,g,p2,p3⟩:=(K.bw E).at k A;have W:=(h.bw E).2.2.2.1 k A;have N:=(K.bw E).2.2.2.1 k A;have B:Zh ((xs.getD k zPB).1=(d.getD k zPB).1->(xs.map λx=>x.1).take (k+1)=(d.map λx=>x.1).take (k+1)):=λt=>dU zPB.1 _ _ k G Jc Jc (by rw[bQ _ _ _ zPB _,bQ _ _ _ zPB _,t])
    have u:=zh (show(xs.getD k zPB).1≠(d.getD k zPB).1->r=false from λt=>by
     rw[X.o,decide_eq_false_iff_not];intro e;have e2:=congrArg (λl=>l.getD k zPB.1) e;try simp only at e2
     rw[bQ _ _ _ zPB _,bQ _ _ _ zPB _]at e2
     exact t e2)
    clear G;unfold svP at s g;generalize xs.getD k zPB=x at *;generalize d.getD k zPB=y at *;obtain⟨⟨xt,Q,xd,xz⟩,xa,xc⟩:=x;obtain⟨⟨yt,S,yd,yz⟩,ya,yc⟩:=y;dsimp only at j s q2 q3 f g p2 p3 W N B u;have a3:=xD _ _ j;have Z:=xD _ _ f;have C:qY wr ((wr.alloc$ .cells #[qI xt,qS xa Q.length xc,qI xd,qI xz] 170).alloc$ .cells #[qI yt,qS ya S.length yc,qI yd,qI yz] 170):=bal.alloc Jb _;have p:=zh$ aA7 xt xd xz xa Q.length xc Q yt yd yz ya S.length yc S _ (W.bw C)$ N.bw C;have H:=zh$ yT E C;clear W N C E;by_cases t:(⟨xt,Q,xd,xz⟩:Pl)=⟨yt,S,yd,yz⟩
    .rw[xR t]at p;have U:=zh$ B t;clear t B u;go_wp2_with fail
     apply p.mono;rintro e w1 ⟨rfl,q⟩;have D:=zh$ yT H q;clear j s q2 q3 f g p2 p3 q p;go_wp2
     go_roundw
     .exact⟨k+1,J,by go_num,U,D⟩
     .simp[qf,intOf];omega
    .rw[xS t]at p;have U:=zh$ u t;clear t B u;go_wp2_with fail
     apply p.mono;rintro e w1 ⟨rfl,q⟩;have D:=zh$ yT H q;clear j s q2 q3 f g p2 p3 q p;go_wp2;go_ret;exact⟨aA U.symm,D⟩
   .have V:Zh (r=true):=by
     show _=_;rw[X.o];simp;rw[xG Jc,xG Jc]at G;exact G
    clear G;go_wp2;go_ret;exact⟨aA V.symm,E⟩
 .have V:Zh (r=false):=by
   show _=_;rw[X.o,decide_eq_false_iff_not];intro e;have:=congrArg List.length e;simp at this;omega
  have P:((n:Int) !=(M:Int))=true:=Jc
  delta qC;go_in
  go_wp2;go_ret;exact⟨aA V.symm,brf⟩
def zY (a S n a0 K a1 xs d w)(h:TsS w a n a0 xs)(I:TsS w S K a1 d):
 qC 310 #[qS a n a0,qS S K a1,.func (.func 311) #[] #[]] w λe w'=>e=.returned (.bool$ decide$ xs.map (λx=>x.1)=d.map (λx=>x.1))/\qY w w':=by
 have hl:=h.1;have Y:=I.1;have N:=h.2.1;have H:=I.2.1;unfold maxLen at N H;let⟨r,j⟩:=aO$ decide$ xs.map (λx=>x.1)=d.map (λx=>x.1);rw[<-j];have W:=zh j;clear j;by_cases hn:n=K
 .subst hn;have O:((n:Int) !=(n:Int))=false:=Jb
  delta qC;go_in
  go_wp2;go_loopw [17] (λi wr=>∃k:Nat,k<=n/\i=qI k/\(xs.map λx=>x.1).take k=(d.map λx=>x.1).take k/\qY w wr) (qf n)
  .exact⟨0,xC _,rfl,Jb,brf⟩
  .obtain⟨k,hk,rfl,E,D⟩:=hrel;by_cases A:k<n
   .have X:(k:Int)<(n:Int):=J
    obtain⟨b,off,rfl,g⟩:=(h.bw D).at k A;obtain⟨b',a2,rfl,f⟩:=(I.bw D).at k A;have V:=(h.bw D).2.2.2.1 k A;have M:=(I.bw D).2.2.2.1 k A;have B:Zh ((xs.getD k zTB).1=(d.getD k zTB).1->(xs.map λx=>x.1).take (k+1)=(d.map λx=>x.1).take (k+1)):=λt=>dU zTB.1 _ _ k E Jc Jc (by rw[bQ _ _ _ zTB _,bQ _ _ _ zTB _,t])
    have u:=zh (show(xs.getD k zTB).1≠(d.getD k zTB).1->r=false from λt=>by
     rw[W.o,decide_eq_false_iff_not];intro e;have e2:=congrArg (λl=>l.getD k zTB.1) e;try simp only at e2
     rw[bQ _ _ _ zTB _,bQ _ _ _ zTB _]at e2
     exact t e2)
    clear E;unfold svT at g f;generalize xs.getD k zTB=x at *;generalize d.getD k zTB=y at *;obtain⟨s,xa,xc⟩:=x;obtain⟨Q,ya,yc⟩:=y;dsimp only at g f V M B u;have p:=zh$ aDr xa ya s.length xc Q.length yc s Q _ V M;have G:=zh D;clear V M D;by_cases t:s=Q
    .rw[xR t]at p;have P:=zh$ B t;clear t B u;go_wp2_with fail
     apply p.mono;rintro e Z ⟨rfl,q⟩;have C:=zh$ yT G q;clear g f q p;go_wp2
     go_roundw
     .exact⟨k+1,J,by go_num,P,C⟩
     .simp[qf,intOf];omega
    .rw[xS t]at p;have P:=zh$ u t;clear t B u;go_wp2_with fail
     apply p.mono;rintro e Z ⟨rfl,q⟩;have C:=zh$ yT G q;clear g f q p;go_wp2;go_ret;exact⟨aA P.symm,C⟩
   .have U:Zh (r=true):=by
     show _=_;rw[W.o];simp;rw[xG Jc,xG Jc]at E;exact E
    clear E;go_wp2;go_ret;exact⟨aA U.symm,D⟩
 .have U:Zh (r=false):=by
   show _=_;rw[W.o,decide_eq_false_iff_not];intro e;have:=congrArg List.length e;simp at this;omega
  have O:((n:Int) !=(K:Int))=true:=Jc
  delta qC;go_in
  go_wp2;go_ret;exact⟨aA U.symm,brf⟩
def Blk.ly6 {w:qw}{b:Nat}{t:TypeId}{v0 v1 v2 v3 v4 v5:Value}(h:Blk w b #[v0,v1,v2,v3,v4,v5] t):w.cell? (qR b 0)=some v0/\w.cell? (qR b 1)=some v1/\w.cell? (qR b 2)=some v2/\w.cell? (qR b 3)=some v3/\w.cell? (qR b 4)=some v4/\w.cell? (qR b 5)=some v5:=⟨h.cell 0,h.cell 1,h.cell 2,h.cell 3,h.cell 4,h.cell 5⟩
def wG (L S c0 xs a2 c2 a5 c5 k a a0 a4 Q a1 a6 a3 a7 s w)(h:LyT w L S c0 xs a2 c2 a5 c5 k)(H:LyT w a a0 a4 Q a1 a6 a3 a7 s):
 qC 295 #[.agg$ qJ L S xs c0 a2 c2 a5 k c5,.agg$ qL a a0 Q.length a4 a1 a.slots.length a6 a3 s.length a7] w (qB w$ .bool$ decide$ L=a):=by
 have P:=h.ps;have E:=H.ps;have M:=h.tt;have D:=H.tt;have B:=zb w λW C=>pZ a2 a1 L.slots.length c2 a.slots.length a6 L.slots a.slots W (h.s.bw C)$ H.s.bw C;have q:=zb w λW C=>zZ S a0 xs.length c0 Q.length a4 xs Q W (h.p.bw C)$ H.p.bw C;have p:=zb w λW C=>zY a5 a3 k.length c5 s.length a7 k s W (h.t.bw C)$ H.t.bw C;rw[P,E]at q;rw[M,D]at p;clear h H P E M D;obtain⟨pl,st,sl,d,g,tg⟩:=L;obtain⟨a9,j,a8,f,i,aa⟩:=a;let⟨r,hr⟩:=aO$ decide$ (⟨pl,st,sl,d,g,tg⟩:Lay)=⟨a9,j,a8,f,i,aa⟩;rw[<-hr];have x:=zh hr;clear hr;have B0:qY w ((w.alloc$ .cells #[qS S xs.length c0,qI st,qS a2 sl.length c2,qI d,qI g,qS a5 k.length c5] 65).alloc$ .cells #[qS a0 Q.length a4,qI j,qS a1 a8.length a6,qI f,qI i,qS a3 s.length a7] 65):=bal.alloc Jb _;have u:=(Blk.new w #[qS S xs.length c0,qI st,qS a2 sl.length c2,qI d,qI g,qS a5 k.length c5] 65).alloc$ .cells #[qS a0 Q.length a4,qI j,qS a1 a8.length a6,qI f,qI i,qS a3 s.length a7] 65;have v:=Blk.new (w.alloc$ .cells #[qS S xs.length c0,qI st,qS a2 sl.length c2,qI d,qI g,qS a5 k.length c5] 65) #[qS a0 Q.length a4,qI j,qS a1 a8.length a6,qI f,qI i,qS a3 s.length a7] 65;simp only[xF]at v;have G:=zh$ xA B0$ xA u v;clear u v;by_cases I:st=j
 rotate_left
 .have g1:(st==j)=false:=by simpa using I
  have t:=zh (show r=false by rw[x.o];simp[I]);clear x B q p
  delta qC;go_in
  go_wp2;go_ret;exact⟨aA t.symm,G.1⟩
 have g1:(st==j)=true:=by simpa using I
 have ab:=zh I;clear I;by_cases N:d=f
 rotate_left
 .have g2:(d==f)=false:=by simpa using N
  have t:=zh (show r=false by rw[x.o];simp[N]);clear x B q p
  delta qC;go_in
  go_wp2;go_ret;exact⟨aA t.symm,G.1⟩
 have g2:(d==f)=true:=by simpa using N
 have ac:=zh N;clear N;by_cases K:g=i
 rotate_left
 .have g3:(g==i)=false:=by simpa using K
  have t:=zh (show r=false by rw[x.o];simp[K]);clear x B q p
  delta qC;go_in
  go_wp2;go_ret;exact⟨aA t.symm,G.1⟩
 have g3:(g==i)=true:=by simpa using K
 have Y:=zh K;clear K
 delta qC;go_in
 go_wp2_with fail
 apply(B _ G.1).mono;rintro e w1 ⟨rfl,A⟩;have b:=zh$ xA (yT G.1 A)$ xA (G.2.1.bw A)$ G.2.2.bw A;clear A G B0;by_cases O:sl=a8
 rotate_left
 .rw[xS O];have t:=zh (show r=false by rw[x.o];simp[O]);go_wp2;go_ret;exact⟨aA t.symm,b.1⟩
 rw[xR O];have ad:=zh O;clear O;have p0:=(b.2.1).ly6;have q0:=(b.2.2).ly6;go_wp2_with fail
 apply(q _ b.1).mono;rintro e w2 ⟨rfl,y⟩;have l:=zh$ xA (yT b.1 y)$ xA (b.2.1.bw y)$ b.2.2.bw y;clear y p0 q0;by_cases U:pl=a9
 rotate_left
 .rw[xS U];have t:=zh (show r=false by rw[x.o];simp[U]);go_wp2;go_ret;exact⟨aA t.symm,l.1⟩
 rw[xR U];have X:=zh U;clear U;have p0:=(l.2.1).ly6;have q0:=(l.2.2).ly6;go_wp2_with fail
 apply(p _ l.1).mono;rintro e w3 ⟨rfl,V⟩;have Z:=zh$ yT l.1 V;have t:=zh (show decide (tg=aa)=r by rw[x.o];simp[ab.o,ac.o,Y.o,ad.o,X.o]);rw[t.o];clear V p0 q0 x;cases r
 all_goals
  go_wp2;go_ret;exact⟨rfl,Z⟩
