import Derived.Test.YtdjdcdnjjmjonaaGreatT05
import Derived.Test.YtdjdcdnjjmjonaaGreatT07
set_option linter.all false
set_option maxHeartbeats 8000000
namespace Go.Proofs.YtdjdcdnjjmjonaaGreat
open Go.RowKit
open Go.Proofs.Tryz
set_option maxRecDepth 100000
variable {P:PMod}{S:Nat->Prop}{a a1 a2 a3 a5 a6 a7:qO}{b base c c1 c2 c3 c5 c6 c7 cap g j k n o sz:Nat}{bl:List Bk}{cs:Array Value}{es:List Ex}{m pc:Int}{q:Rg}{rs:List Rg}{ss:List ByteArray}{v v' v1 v2 v3 v3' v4' v5' v6' v7':Value}{xs:List Value}{β:Nat->Nat}
abbrev SlT:=Bool×Int×Int×Int
abbrev FrT:=Int×Int×Int×Int
def zSl:SlT:=(false,0,0,0)
def zFr:FrT:=(0,0,0,0)
def cM (x:SlT):List Value:=[.bool x.1,qI x.2.1,qI x.2.2.1,qI x.2.2.2]
def bM (x:FrT):List Value:=[qI x.1,qI x.2.1,qI x.2.2.1,qI x.2.2.2]
def cH:∀x:SlT,(cM x).length=4:=λx=>rfl
def dJ:∀x:FrT,(bM x).length=4:=λx=>rfl
def QS {α:Type}(f:α->List Value)(z:α)(w:qw)(a:qO)(n cap:Nat)(xs:List α):Prop:=
 xs.length=n/\n<=maxLen/\(n≠0->∃b off,a=some (qR b off)/\∀i,i<n->∀j v,(f$ xs.getD i z)[j]?=some v->w.cell? (qR b$ off+i*4+j)=some v)/\n<=cap
section
variable {α:Type}{f:α->List Value}{z:α}{w w':qw}{a:qO}{n cap:Nat}{xs:List α}
def QS.bw (h:QS f z w a n cap xs)(d:qY w w'):QS f z w' a n cap xs:=by
 obtain⟨g,k,p,q⟩:=h;refine⟨g,k,λs=>?_,q⟩;let⟨b,t,e,hc⟩:=p s;exact⟨b,t,e,λi hi j v l=>aB d$ hc i hi j v l⟩
def QS.at (h:QS f z w a n cap xs)(i)(hi:i<n)(v0 v1 v2 v3)(l:f (xs.getD i z)=[v0,v1,v2,v3]):∃b d,a=some (qR b d)/\w.cell? (qR b$ d+i*4)=some v0/\w.cell? (qR b$ d+i*4+1)=some v1/\w.cell? (qR b$ d+i*4+2)=some v2/\w.cell? (qR b$ d+i*4+3)=some v3:=by
 let⟨b,d,e,hc⟩:=h.2.2.1 J;have k:=hc i hi;rw[l]at k;exact⟨b,d,e,k 0 _ rfl,k 1 _ rfl,k 2 _ rfl,k 3 _ rfl⟩
def tU {t:TypeId}(e:∀x,(f x).length=4)(h:OG t 4 f w base (qS a n cap) xs):QS f z w a n cap xs:=by
 let⟨b,k,p,q⟩:=aY h;refine⟨b,k,λs=>?_,p⟩;obtain⟨g,rfl,hc⟩:=q s;refine⟨g,0,rfl,λi hi j v l=>?_⟩
 have d:j<4:=by
  grind
 rw[Nat.zero_add];exact hc _ _ (by rw[yQ f 4 e z xs i j J d];exact l)
end
def aIr:(prog.info? 132).map (λi=>(i.zero,i.size,i.bytes))=some (some$ .agg #[.bool false,qI 0,qI 0,qI 0],4,32):=Je
def yH:(prog.info? 136).map (λi=>(i.zero,i.size,i.bytes))=some (some$ .agg$ qW 0 0 0 0,4,32):=Je
def aE3 (a n b l w)(d:0<=l)(i:l<=1048576)(hn:n<=maxLen):
 qC 20 #[qS a n b,qI l] w λe w'=>e=.returned (qI$ szR l n)/\w=w':=by
 unfold maxLen at hn;unfold szR;by_cases h:l<n
 .delta qC;go_in
  go_wp2;go_ret;exact⟨rfl,rfl⟩
 .delta qC;go_in
  go_wp2;go_ret;exact⟨rfl,rfl⟩
def aCu (a n b l w)(d:0<=l)(i:l<=1048576)(hn:n<=maxLen):
 qC 21 #[qS a n b,qI l] w λe w'=>e=.returned (qI$ szR l n)/\w=w':=by
 unfold maxLen at hn;unfold szR;by_cases h:l<n
 .delta qC;go_in
  go_wp2;go_ret;exact⟨rfl,rfl⟩
 .delta qC;go_in
  go_wp2;go_ret;exact⟨rfl,rfl⟩
def dV (w:qw)(pc:Int)(n:Nat)(zs:qi)(e:Ending)(w':qw):Prop:=
 ∃a' cap',e=.returned (.agg #[qI pc,qS a' n cap'])/\OI w' w.heap.size (qS a' n cap') zs/\qY w w'
def Blk.two' {w:qw}{a b:Value}{t:TypeId}(h:Blk w g #[a,b] t):w.cell? (qR g 0)=some a/\w.cell? (qR g 1)=some b/\∀i,w.frozen? (qR g i)=false:=
 ⟨by rw[h.cell];rfl,by rw[h.cell];rfl,λi=>h.frozen i⟩
def aGb (pc b f n a zs w)(h:IS w (some$ qR b f) n a zs)(G:0<n)(hn:n<=1048576):
 qC 71 #[.agg #[qI pc,qS (some$ qR b f) n a]] w (dV w pc n zs):=by
 let⟨Z,hi,q,P,S⟩:=info_parts nC;have V:=h.1;have y:qY w (((w.alloc$ .cells #[qI pc,qS (qe b f) n a] 38).alloc$ .cells #[qI 0,qS none 0 0] 38).alloc$ .cells #[] 3):=(bal.alloc Jb _).alloc Jc _;have U:=h.bw y;have I:=(Blk.new (w.alloc$ .cells #[qI pc,qS (qe b f) n a] 38) #[qI 0,qS none 0 0] 38).alloc$ .cells #[] 3;simp only[xF]at I;have s:=zh$ aHt$ (w.alloc$ .cells #[qI pc,qS (qe b f) n a] 38).alloc$ .cells #[qI 0,qS none 0 0] 38;have t:=zh$ aD2 U;have C:=zh$ ints_oneCell .i64 zs;have A:=zh$ show(zs.map$ Value.int .i64).length=n*1 from Jc;have W:=zh y;have N:=zh I;have X:=zh h;have kb:=((Blk.new w #[qI pc,qS (qe b f) n a] 38).alloc$ .cells #[qI 0,qS none 0 0] 38).alloc$ .cells #[] 3;have O:=zh kb;simp only[xF]at s
 delta qC;go_in
 go_wp2
 go_region_law (first
  | (refine step_append_lies _ rfl _ _ 25 rfl (w.heap.size+1+1) 3 Z (qI 0) 1 8 underlying25 hi q P S rfl Ja (qS (qP$ w.heap.size+1+1) 0 0) 0 [] rfl (by exact s.o) (qR b f) n a (zs.map$ Value.int .i64) rfl A.o (by exact t.o) C.o G Jf J Ji _ rfl ?_;intro g d w1 x i M H;obtain⟨c1,c2,c3⟩:=(bG i (by exact O.o) (by intro e;have l:some w.heap.size=some (w.heap.size+1+1):=e;injection l with l;omega)).two';have B:=zh (bG i (by exact N.o) (by intro e;have l:some (w.heap.size+1)=some (w.heap.size+1+1):=e;injection l with l;omega));obtain⟨r1,r2,r3⟩:=B.o.two'))
 all_goals
  have u:w1.ownsRow (w.heap.size+1+1) 3 1 (qS (qP g) n d) n (zs.map$ Value.int .i64):=by simpa using x
  have Y:OI w1 (w.heap.size+1+1) (qS (qP g) n d) zs:=⟨V ▸ u,X.o.2.2.1⟩;have E:qY w w1:=W.o.drew.grown i Ji (λk Q=>by have l:some (w.heap.size+1+1)=some k:=Q;injection l with l;omega);have j:=(B.set 0$ qI pc).set 1$ qS (qP g) n d;have R:=((Y.other (qr w 0) (qI pc) Jd).other (qr w 1) (qS (qP g) n d) Jd).mono (base':=w.heap.size) J;have F:=(E.setCell (p:=(qr w 0)) Jd$ qI pc).setCell (p:=(qr w 1)) Jd$ qS (qP g) n d;have D:Blk ((w1.setCell (qr w 0)$ qI pc).setCell (qr w 1)$ qS (qP g) n d) (w.heap.size+1) #[qI pc,qS (qP g) n d] 38:=by simpa using j
  let⟨p1,p2,p3⟩:=D.two';have K:=zh$ xA R F;go_wp2;exact bodyPost_ret (v:=.agg #[qI pc,qS (qP g) n d]) (by simp[results,results71,go_sem,p1,p2]) rfl ⟨qP g,d,rfl,K.o.1,K.o.2⟩
def aLa (pc a n b l w)(i:0<=l)(p:l<=1048576)(hn:n<=maxLen)(hs:(n:Int)<=l):
 qC 18 #[.agg #[qI pc,qS a n b],qI l] w (qB w$ qI$ l-n):=by
 have d:=zh λw=>iO a n b l w i p hn;rw[if_neg J]at d
 delta qC;go_in
 go_wp2_with (go_at_call 59;refine(d.o _).mono ?_;rintro e f ⟨rfl,rfl⟩)
 go_ret;exact⟨rfl,bal⟩
def aK9 (pc a n b l w)(i:0<=l)(p:l<=1048576)(hn:n<=maxLen)(hs:l<(n:Int)):
 qC 18 #[.agg #[qI pc,qS a n b],qI l] w (qB w$ qI (-1)):=by
 have d:=zh λw=>iO a n b l w i p hn;rw[if_pos hs]at d
 delta qC;go_in
 go_wp2_with (go_at_call 59;refine(d.o _).mono ?_;rintro e f ⟨rfl,rfl⟩)
 go_ret;exact⟨rfl,bal⟩
def aHb (pc a n b zs w)(h:IS w a n b zs)(hn:n<=1048576):
 qC 27 #[.agg #[qI pc,qS a n b]] w λe w'=>∃g,w.heap.size<=g/\e=.returned (.agg #[qI pc,qS (qP g) n n])/\RowI w' g zs/\qY w w':=by
 have l:qY w (((w.alloc$ .cells #[qI pc,qS a n b] 27).alloc$ .cells #[qI 0,qS none 0 0] 38).alloc$ .cells #[qI pc,qS none 0 0] 38):=(bal.alloc Jb _).alloc Jc _;have A:=(Blk.new (w.alloc$ .cells #[qI pc,qS a n b] 27) #[qI 0,qS none 0 0] 38).alloc$ .cells #[qI pc,qS none 0 0] 38;have B:=Blk.new ((w.alloc$ .cells #[qI pc,qS a n b] 27).alloc$ .cells #[qI 0,qS none 0 0] 38) #[qI pc,qS none 0 0] 38;simp only[xF]at A B
 delta qC;go_in
 go_wp2_with fail
 apply(lH a n b zs _ (h.bw l) hn).mono;rintro e D ⟨rfl,y,d⟩;have i:=A.bw d;have s:=B.bw d;have u:=l.trans$ d.mono Jc;simp only[xF]at y;have:=i.two';have:=s.two';have f:=((i.other (qR (w.heap.size+1+1) 1) (qS (qP$ w.heap.size+1+1+1) n n) Jd).set 0$ qI pc).set 1$ qS (qP$ w.heap.size+1+1+1) n n
 have C:RowI (((D.setCell (qR (w.heap.size+1+1) 1)$ qS (qP$ w.heap.size+1+1+1) n n).setCell (qr w 0)$ qI pc).setCell (qr w 1)$ qS (qP$ w.heap.size+1+1+1) n n) (w.heap.size+1+1+1) zs:=by
  unfold RowI at *;rw[heap_setCell_other _ _ _ _ Jd,heap_setCell_other _ _ _ _ Jd,heap_setCell_other _ _ _ _ Jd];exact y
 have t:=((u.setCell (p:=(qR (w.heap.size+1+1) 1)) Jd$ qS (qP$ w.heap.size+1+1+1) n n).setCell (p:=(qr w 0)) Jd$ qI pc).setCell (p:=(qr w 1)) Jd$ qS (qP$ w.heap.size+1+1+1) n n;have x:Blk (((D.setCell (qR (w.heap.size+1+1) 1)$ qS (qP$ w.heap.size+1+1+1) n n).setCell (qr w 0)$ qI pc).setCell (qr w 1)$ qS (qP$ w.heap.size+1+1+1) n n) (w.heap.size+1) #[qI pc,qS (qP$ w.heap.size+1+1+1) n n] 38:=by simpa using f
 let⟨s1,s2,s3⟩:=x.two';have E:=zh$ xA C t;clear f x C t u d y i s A B l;go_wp2;exact bodyPost_ret (v:=.agg #[qI pc,qS (qP$ w.heap.size+1+1+1) n n]) (by simp[results,results27,go_sem,s1,s2]) rfl ⟨_,J,rfl,E.o.1,E.o.2⟩
def aGu (pc a b n f g j w)(h:IS w a n f j)(k:IS w b n g j):
 qC 37 #[.agg #[qI pc,qS a n f],.agg #[qI pc,qS b n g]] w (qB w$ .bool true):=by
 have d:qY w (qm (qm w #[qI pc,qS a n f] 38) #[qI pc,qS b n g] 38):=bal.alloc Jb _
 delta qC;go_in
 go_wp2_with fail
 apply(mC a b n f n g j j _ (h.bw d)$ k.bw d).mono;rw[xR rfl];rintro e l ⟨rfl,i⟩;go_wp2;go_ret;exact⟨rfl,d.trans$ i.mono Jc⟩
structure Mn where
 ma:qO
 mn:Nat
 mc:Nat
 ms:List Md
 cs:Int
 cw:Int
 ck:Int
 cd:Int
 pc:Int
 ka:qO
 kn:Nat
 kc:Nat
 kz:List Int
 fa:qO
 fn:Nat
 fc:Nat
 fz:List Int
 ra:qO
 rn:Nat
 rc:Nat
 rz:List Int
 oa:qO
 on:Nat
 oc:Nat
 oz:List Int
 md:Int
 bk:Int
 la:qO
 ln:Nat
 lc:Nat
 lz:List SlT
 ha:qO
 hn:Nat
 hc:Nat
 hz:List FrT
 tn:Int
abbrev qA (M:Mn):Array Value:=#[.slice M.ma M.mn M.mc,.int .i64 M.cs,.int .i64 M.cw,.int .i64 M.ck,.int .i64 M.cd,.int .i64 M.pc,.slice M.ka M.kn M.kc,.slice M.fa M.fn M.fc,.slice M.ra M.rn M.rc,.slice M.oa M.on M.oc,.int .i64 M.md,.int .i64 M.bk,.slice M.la M.ln M.lc,.slice M.ha M.hn M.hc,.int .i64 M.tn]
abbrev qX (M:Mn)(a:Option Addr)(b c:Nat)(d:Option Addr)(e f:Nat)(g:Option Addr)(h i:Nat)(j:Option Addr)(k l:Nat)(m:Option Addr)(n o:Nat)(p:Option Addr)(q r:Nat)(s:Option Addr)(t u:Nat):Array Value:=#[.slice a b c,.int .i64 M.cs,.int .i64 M.cw,.int .i64 M.ck,.int .i64 M.cd,.int .i64 M.pc,.slice d e f,.slice g h i,.slice j k l,.slice m n o,.int .i64 M.md,.int .i64 M.bk,.slice p q r,.slice s t u,.int .i64 M.tn]
abbrev qK (M:Mn)(a b c d e f g:Nat):Array Value:=#[.slice (some (qR a 0)) M.mn M.mn,.int .i64 M.cs,.int .i64 M.cw,.int .i64 M.ck,.int .i64 M.cd,.int .i64 M.pc,.slice (some (qR b 0)) M.kn M.kn,.slice (some (qR c 0)) M.fn M.fn,.slice (some (qR d 0)) M.rn M.rn,.slice (some (qR e 0)) M.on M.on,.int .i64 M.md,.int .i64 M.bk,.slice (some (qR f 0)) M.ln M.ln,.slice (some (qR g 0)) M.hn M.hn,.int .i64 M.tn]
structure MnT (w:qw)(M:Mn):Prop where
 m:MS w M.ma M.mn M.mc M.ms
 k:IS w M.ka M.kn M.kc M.kz
 f:BS w M.fa M.fn M.fc M.fz
 r:BS w M.ra M.rn M.rc M.rz
 o:BS w M.oa M.on M.oc M.oz
 l:QS cM zSl w M.la M.ln M.lc M.lz
 h:QS bM zFr w M.ha M.hn M.hc M.hz
def MnT.bw {w w':qw}{M:Mn}(h:MnT w M)(d:qY w w'):MnT w' M:=⟨h.m.bw d,h.k.bw d,h.f.bw d,h.r.bw d,h.o.bw d,h.l.bw d,h.h.bw d⟩
structure MnB (M:Mn):Prop where
 n:M.mn<=1048576
 m:∀i,i<M.mn->(M.ms.getD i aL).size<=1048576
 k:M.kn<=1048576
 b:M.fn+M.rn+M.on<=1048576
 l:M.ln<=1048576
 h:M.hn<=1048576
 s:M.mn+upS (fun j=>(M.ms.getD j aL).size) M.mn+M.kn+M.fn+M.rn+M.on+M.ln+M.hn<=1048576
def Blk.mc {w:qw}{t:TypeId}{v0 v4 u y x s p l d i e v14:Value}(h:Blk w b #[v0,v1,v2,v3,v4,u,y,x,s,p,l,d,i,e,v14] t):w.cell? (qR b 0)=some v0/\w.cell? (qR b 1)=some v1/\w.cell? (qR b 2)=some v2/\w.cell? (qR b 3)=some v3/\w.cell? (qR b 4)=some v4/\w.cell? (qR b 5)=some u/\w.cell? (qR b 6)=some y/\w.cell? (qR b 7)=some x/\w.cell? (qR b 8)=some s/\w.cell? (qR b 9)=some p/\w.cell? (qR b 10)=some l/\w.cell? (qR b 11)=some d/\w.cell? (qR b 12)=some i/\w.cell? (qR b 13)=some e/\w.cell? (qR b 14)=some v14:=⟨h.cell 0,h.cell 1,h.cell 2,h.cell 3,h.cell 4,h.cell 5,h.cell 6,h.cell 7,h.cell 8,h.cell 9,h.cell 10,h.cell 11,h.cell 12,h.cell 13,h.cell 14⟩
def aAi (M w)(h:MnT w M):
 qC 5 #[.agg$ qA M,qI 1048576] w λe w'=>∃z:Int,e=.returned (qI z)/\(0<=z->MnB M)/\qY w w':=by
 have k0:=Blk.new w (qA M) 34;have O:qY w (w.alloc$ .cells (qA M) 34):=bal;have y:=zh$ aAh M.ma M.mn M.mc M.ms 1048576 _ (h.m.bw O) J J;have U:=zh λ(z:Int)(W:qw)(u:0<=z)(l:z<=1048576)=>xA (λq=>aLa M.pc M.ka M.kn M.kc z W u l h.k.2.1 q) λq=>aK9 M.pc M.ka M.kn M.kc z W u l h.k.2.1 q;have N:=zh λ(z:Int)(W:qw)(u:0<=z)(l:z<=1048576)=>xA (λq=>aM8 M.fa M.ra M.oa M.fn M.fc M.rn M.rc M.on M.oc z W u l h.f.2.1 h.r.2.1 h.o.2.1 q) λq=>aM7 M.fa M.ra M.oa M.fn M.fc M.rn M.rc M.on M.oc z W u l h.f.2.1 h.r.2.1 h.o.2.1 q;have H:=zh λ(z:Int)(W:qw)(u:0<=z)(l:z<=1048576)=>aE3 M.la M.ln M.lc z W u l h.l.2.1;have Y:=zh λ(z:Int)(W:qw)(u:0<=z)(l:z<=1048576)=>aCu M.ha M.hn M.hc z W u l h.h.2.1;have I:=zh λi hi=>aCm (λj=>(M.ms.getD j aL).size) M.mn i hi;unfold szR at y H Y;have E:=zh$ xA O k0;clear O k0 h;generalize B:M.mn+upS (λj=>(M.ms.getD j aL).size) M.mn=q1 at *;have R:=zh B;clear B;by_cases S:(1048576:Int)<(q1:Int)
 .rw[if_pos S]at y
  delta qC;go_in
  go_wp2_with fail
  apply y.mono;rintro e w1 ⟨rfl,t⟩;go_wp2;go_ret;exact⟨-1,rfl,λh=>absurd h Ja,yT E.1 t⟩
 rw[if_neg S]at y;obtain⟨l,a⟩:∃l:Int,l=1048576-q1:=⟨_,rfl⟩;rw[<-a]at y;have:¬l<0:=J
 have e1:l<=1048576:=J
 have X:=zh a;clear a
 delta qC;go_in
 go_wp2_with fail
 apply y.mono;rintro e w1 ⟨rfl,t⟩;have k:=yT E.1 t;have D:=E.2.bw t;have d:=zh$ xA k D;clear t E y k;have y5:=D.e5;have y6:=D.e6;clear D;by_cases c2:l<(M.kn:Int)
 .go_wp2_with fail
  apply((U l _ J e1).2 c2).mono;rintro e w2 ⟨rfl,p⟩;go_wp2;go_ret;exact⟨-1,rfl,λh=>absurd h Ja,yT d.1 p⟩
 obtain⟨x,b⟩:∃x:Int,x=l-M.kn:=⟨_,rfl⟩;have:¬x<0:=J
 have e2:x<=1048576:=J
 have F:=zh b;go_wp2_with fail
 apply((U l _ J e1).1 J).mono;rintro e w2 ⟨rfl,p⟩;rw[<-b];have Z:=yT d.1 p;have C:=d.2.bw p;clear p d y5 y6 b U;have d:=zh$ xA Z C;clear Z;have y7:=C.e7;have y8:=C.e8;have y9:=C.e9;clear C;by_cases c3:x<(M.fn:Int)+M.rn+M.on
 .go_wp2_with fail
  apply((N x _ J e2).2 c3).mono;rintro e w3 ⟨rfl,s⟩;go_wp2;go_ret;exact⟨-1,rfl,λh=>absurd h Ja,yT d.1 s⟩
 obtain⟨A,f⟩:∃A:Int,A=x-M.fn-M.rn-M.on:=⟨_,rfl⟩;have:¬A<0:=J
 have e3:A<=1048576:=J
 have G:=zh f;go_wp2_with fail
 apply((N x _ J e2).1 J).mono;rintro e w3 ⟨rfl,s⟩;rw[<-f];have P:=yT d.1 s;have K:=d.2.bw s;clear s d y7 y8 y9 f N;have:=K.e12;have:=K.e13;have V:=zh P;clear K P;go_wp2_with fail
 apply(H A _ J e3).mono;rintro e w4 ⟨rfl,rfl⟩;by_cases c4:A<(M.ln:Int)
 .rw[if_pos c4];go_wp2;go_ret;exact⟨-1,rfl,λh=>absurd h Ja,V⟩
 rw[if_neg c4];obtain⟨z4,g⟩:∃z4:Int,z4=A-M.ln:=⟨_,rfl⟩;have:¬z4<0:=J
 have e4:z4<=1048576:=J
 have Q:=zh g;rw[<-g];clear g H;go_wp2_with fail
 apply(Y z4 _ J e4).mono;rintro e w5 ⟨rfl,rfl⟩;by_cases c5:z4<(M.hn:Int)
 .rw[if_pos c5];go_wp2;go_ret;exact⟨-1,rfl,λh=>absurd h Ja,V⟩
 rw[if_neg c5];have:¬z4-(M.hn:Int)<0:=J
 have HF:=zh (show MnB M by
  have:=R.o;have:=X.o;have:=F.o;have:=G.o;have:=Q.o
  exact⟨J,λi hi=>jK$ I i hi,J,J,J,J,J⟩)
 go_wp2;go_ret;exact⟨_,rfl,λ_=>HF,V⟩
def ShL (hs:List Hd)(j:Nat):Prop:=∃i,i<hs.length/\Sh (hs.getD i zHd) j
structure MnO (W:qw)(base:Nat)(v0:Value)(hs:List Hd)(L:List (Hd×Ct))(β:Nat->Nat)(v1 vf vr vo vl vh:Value)(K F R O:qi)(S:List SlT)(H:List FrT):Prop where
 m:OMs W base v0 L β
 e:L.map (fun x=>x.1)=hs
 k:OI W base v1 K
 q:OM W base vf vr vo F R O
 l:OG 132 4 cM W base vl S
 h:OG 136 4 bM W base vh H
 km:∀j,v1.ownBlock=some j->¬ShL hs j
 qm:∀j,uT vf vr vo j->¬ShL hs j
 lo:∀(i:Nat)(x:Hd×Ct),L[i]?=some x->base<=β i
section
variable {W W':qw}{base:Nat}{v0:Value}{hs:List Hd}{L L':List (Hd×Ct)}{β:Nat->Nat}{v1 vf vr vo vl vh:Value}{K F R O K' F' R' O':qi}{S S':List SlT}{H H':List FrT}
def MnO.bw (h:MnO W base v0 hs L β v1 vf vr vo vl vh K F R O S H)(d:qY W W'):MnO W' base v0 hs L β v1 vf vr vo vl vh K F R O S H:=⟨h.m.bw d,h.e,h.k.bw d,h.q.bw d,h.l.bw d,h.h.bw d,h.km,h.qm,h.lo⟩
def aNn (h:MnO W base v0 hs L β v1 vf vr vo vl vh K F R O S H)(d:ShL hs j):∃(i:Nat) (x:Hd×Ct),L[i]?=some x/\Sh x.1 j:=by
 obtain⟨i,hi,d⟩:=d;let⟨c,hc⟩:=aTg h.e hi
 grind
def MnO.no (h:MnO W base v0 hs L β v1 vf vr vo vl vh K F R O S H)(d:ShL hs j){t:TypeId}(l:Blk W j cs t)(e:t≠3/\t≠5/\t≠9/\t≠209):False:=by
 let⟨i,x,hx,hs⟩:=aNn h d;exact(h.m.m i x hx).1.no hs l e
def fV {f r o:Value}{x1 x2 x3:qi}(h:OM W base f r o x1 x2 x3)(d:uT f r o j):∃cs,Blk W j cs 5:=by
 rcases d with e|e|e
 .exact aE h.o1.1 e
 .exact aE h.o2.1 e
 .exact aE h.o3.1 e
def MnO.mods (h:MnO W base v0 hs L β v1 vf vr vo vl vh K F R O S H)(M:OMs W' base v0 L' β)(e:L'.map (λx=>x.1)=hs)(T:Turn (λj=>v0.ownBlock=some j\/ShL hs j) W W'):MnO W' base v0 hs L' β v1 vf vr vo vl vh K F R O S H:=by
 have:∀{j:Nat}{a:Array Value}{t:TypeId},Blk W j a t->t≠128->v0.ownBlock≠some j:=λu l e=>by
  let⟨c,k⟩:=aE h.m.o e;exact l$ aH u k
 refine⟨M,e,aX T h.k λk d s=>?_,h.q.kept T λj p s=>?_,h.l.kept T λk d s=>?_,h.h.kept T λk d s=>?_,h.km,h.qm,λi x hx=>?_⟩
 .have⟨c,kb⟩:=aE h.k.1 d;rcases s with s|s
  .grind
  .exact h.km k d s
 .have⟨c,kb⟩:=fV h.q p;rcases s with s|s
  .grind
  .exact h.qm j p s
 .have⟨c,kb⟩:=aE h.l d;rcases s with s|s
  .grind
  .exact h.no s kb Ja
 .have⟨c,kb⟩:=aE h.h d;rcases s with s|s
  .grind
  .exact h.no s kb Ja
 .have y:L.length=L'.length:=by have q:=congrArg List.length$ h.e.trans e.symm;simpa using q
  exact h.lo i _$ xN (by grind)
def OMs.far (M:OMs W base v0 L β)(e:L.map (λx=>x.1)=hs){Q:Nat->Prop}(T:Turn Q W W')(u:∀j,Q j->¬ShL hs j)(l:∀j,Q j->∃cs t,Blk W j cs t/\t≠128/\t≠25):OMs W' base v0 L β:=
 M.kept T (λj d s=>by
  let⟨cs,t,kb,a,_⟩:=l j s;let⟨c,k⟩:=aE M.o d
  exact a$ aH kb k) (λi x hx j d s=>u j s ⟨i,by grind,by grind⟩) (λj cs p s=>by
  let⟨f,t,kb,_,b⟩:=l j s
  exact b$ aH kb p)
def MnO.core (h:MnO W base v0 hs L β v1 vf vr vo vl vh K F R O S H)(u:OI W' base v1 K')(T:Turn (λj=>v1.ownBlock=some j) W W'):MnO W' base v0 hs L β v1 vf vr vo vl vh K' F R O S H:=by
 have:∀{j:Nat}{a:Array Value}{t:TypeId},Blk W j a t->t≠3->v1.ownBlock≠some j:=λp l e=>by
  let⟨c,k⟩:=aE h.k.1 e;exact l$ aH p k
 refine⟨h.m.far h.e T h.km λj d=>?_,h.e,u,h.q.kept T λj d s=>?_,h.l.kept T λk i s=>?_,h.h.kept T λk i s=>?_,h.km,h.qm,h.lo⟩
 .have⟨c,kb⟩:=aE h.k.1 d
  grind
 .have⟨c,kb⟩:=fV h.q d
  grind
 .have⟨c,kb⟩:=aE h.l i
  grind
 .have⟨c,kb⟩:=aE h.h i
  grind
def MnO.mem (h:MnO W base v0 hs L β v1 vf vr vo vl vh K F R O S H)(u:OM W' base vf vr vo F' R' O')(T:Turn (uT vf vr vo) W W'):MnO W' base v0 hs L β v1 vf vr vo vl vh K F' R' O' S H:=by
 have:∀{j:Nat}{a:Array Value}{t:TypeId},Blk W j a t->t≠5->¬uT vf vr vo j:=λl i e=>by
  let⟨c,k⟩:=fV h.q e;exact i$ aH l k
 refine⟨h.m.far h.e T h.qm λj p=>?_,h.e,aX T h.k λk d s=>?_,u,h.l.kept T λk d s=>?_,h.h.kept T λk d s=>?_,h.km,h.qm,h.lo⟩
 .have⟨c,kb⟩:=fV h.q p
  grind
 .have⟨c,kb⟩:=aE h.k.1 d
  grind
 .have⟨c,kb⟩:=aE h.l d
  grind
 .have⟨c,kb⟩:=aE h.h d
  grind
def MnO.slot (h:MnO W base v0 hs L β v1 vf vr vo vl vh K F R O S H)(u:OG 132 4 cM W' base vl S')(T:Turn (λj=>vl.ownBlock=some j) W W'):MnO W' base v0 hs L β v1 vf vr vo vl vh K F R O S' H:=by
 have:∀{j:Nat}{a:Array Value}{t:TypeId},Blk W j a t->t≠132->vl.ownBlock≠some j:=λp l e=>by
  let⟨c,k⟩:=aE h.l e;exact l$ aH p k
 refine⟨h.m.far h.e T (λj d s=>?_) λj d=>?_,h.e,aX T h.k λk i s=>?_,h.q.kept T λj d s=>?_,u,h.h.kept T λk i s=>?_,h.km,h.qm,h.lo⟩
 .have⟨c,kb⟩:=aE h.l d;exact h.no s kb Ja
 .have⟨c,kb⟩:=aE h.l d
  grind
 .have⟨c,kb⟩:=aE h.k.1 i
  grind
 .have⟨c,kb⟩:=fV h.q d
  grind
 .have⟨c,kb⟩:=aE h.h i
  grind
def MnO.frame (h:MnO W base v0 hs L β v1 vf vr vo vl vh K F R O S H)(u:OG 136 4 bM W' base vh H')(T:Turn (λj=>vh.ownBlock=some j) W W'):MnO W' base v0 hs L β v1 vf vr vo vl vh K F R O S H':=by
 have:∀{j:Nat}{a:Array Value}{t:TypeId},Blk W j a t->t≠136->vh.ownBlock≠some j:=λp l e=>by
  let⟨c,k⟩:=aE h.h e;exact l$ aH p k
 refine⟨h.m.far h.e T (λj d s=>?_) λj d=>?_,h.e,aX T h.k λk i s=>?_,h.q.kept T λj d s=>?_,h.l.kept T λk i s=>?_,u,h.km,h.qm,h.lo⟩
 .have⟨c,kb⟩:=aE h.h d;exact h.no s kb Ja
 .have⟨c,kb⟩:=aE h.h d
  grind
 .have⟨c,kb⟩:=aE h.k.1 i
  grind
 .have⟨c,kb⟩:=fV h.q d
  grind
 .have⟨c,kb⟩:=aE h.l i
  grind
end
def aGt (a x1 x2 x3 w):qC 95 #[.agg #[.bool a,qI x1,qI x2,qI x3],.agg #[.bool a,qI x1,qI x2,qI x3]] w (qB w$ .bool true):=by
 have d:qY w ((w.alloc$ .cells #[.bool a,qI x1,qI x2,qI x3] 132).alloc$ .cells #[.bool a,qI x1,qI x2,qI x3] 132):=bal.alloc Jb _
 delta qC;go_in
 go_wp2;go_ret;exact⟨rfl,d⟩
def aEc (a K n c c' xs w)(h:QS cM zSl w a n c xs)(C:QS cM zSl w K n c' xs):
 qC 39 #[qS a n c,qS K n c'] w (qB w$ .bool true):=by
 have t:=h.2.1;unfold maxLen at t;have A:=zh$ xA h C
 delta qC;go_in
 go_wp2;go_loopw [5] (λi wr=>∃k:Nat,k<=n/\i=qI k/\qY w wr) (qf n)
 .exact⟨0,xC _,rfl,brf⟩
 .obtain⟨k,M,rfl,s⟩:=hrel;by_cases p:k<n
  .have y:(k:Int)<(n:Int):=J
   obtain⟨b,f,rfl,R,S,U,V⟩:=(A.1.bw s).at k p _ _ _ _ rfl;obtain⟨q,E,rfl,N,O,P,Q⟩:=(A.2.bw s).at k p _ _ _ _ rfl;generalize xs.getD k zSl=r at *;obtain⟨F,G,H,I⟩:=r;have x:=zh s;go_wp2
   go_region_held3 (λj=>qN j b (f+k*4)=some (.bool F)/\qN j b (f+k*4+1)=qj G/\qN j b (f+k*4+2)=qj H/\qN j b (f+k*4+3)=qj I/\qN j q (E+k*4)=some (.bool F)/\qN j q (E+k*4+1)=qj G/\qN j q (E+k*4+2)=qj H/\qN j q (E+k*4+3)=qj I) (go_keep)
    (first
      | (go_at_call 95;refine(aGt F G H I _).mono ?_;rintro e D ⟨rfl,l⟩;replace l:=aW l;have d:∀g o v,qN wr g o=some v->qN D g o=some v:=(λg o v B=>(l.cell$ xD wr _ B).trans B);have:=d _ _ _ R;have:=d _ _ _ S;have:=d _ _ _ U;have:=d _ _ _ V;have:=d _ _ _ N;have:=d _ _ _ O;have:=d _ _ _ P;have:=d _ _ _ Q;clear d))
   have u:=zh$ yT x l;go_wp2
   go_roundw
   .exact⟨k+1,J,by go_num,u⟩
   .simp[qf,intOf];omega
  .have x:=zh s;go_wp2;go_ret;exact⟨rfl,x⟩
def aEe (a x1 x2 x3 w):qC 96 #[.agg$ qW a x1 x2 x3,.agg$ qW a x1 x2 x3] w (qB w$ .bool true):=by
 have d:qY w ((w.alloc$ .cells (qW a x1 x2 x3) 136).alloc$ .cells (qW a x1 x2 x3) 136):=bal.alloc Jb _
 delta qC;go_in
 go_wp2;go_ret;exact⟨rfl,d⟩
def aBb (a K n c c' xs w)(h:QS bM zFr w a n c xs)(C:QS bM zFr w K n c' xs):
 qC 40 #[qS a n c,qS K n c'] w (qB w$ .bool true):=by
 have t:=h.2.1;unfold maxLen at t;have A:=zh$ xA h C
 delta qC;go_in
 go_wp2;go_loopw [5] (λi wr=>∃k:Nat,k<=n/\i=qI k/\qY w wr) (qf n)
 .exact⟨0,xC _,rfl,brf⟩
 .obtain⟨k,M,rfl,s⟩:=hrel;by_cases p:k<n
  .have y:(k:Int)<(n:Int):=J
   obtain⟨b,f,rfl,R,S,U,V⟩:=(A.1.bw s).at k p _ _ _ _ rfl;obtain⟨q,E,rfl,N,O,P,Q⟩:=(A.2.bw s).at k p _ _ _ _ rfl;generalize xs.getD k zFr=r at *;obtain⟨F,G,H,I⟩:=r;have x:=zh s;go_wp2
   go_region_held3 (λj=>qN j b (f+k*4)=qj F/\qN j b (f+k*4+1)=qj G/\qN j b (f+k*4+2)=qj H/\qN j b (f+k*4+3)=qj I/\qN j q (E+k*4)=qj F/\qN j q (E+k*4+1)=qj G/\qN j q (E+k*4+2)=qj H/\qN j q (E+k*4+3)=qj I) (go_keep)
    (first
      | (go_at_call 96;refine(aEe F G H I _).mono ?_;rintro e D ⟨rfl,l⟩;replace l:=aW l;have d:∀g o v,qN wr g o=some v->qN D g o=some v:=(λg o v B=>(l.cell$ xD wr _ B).trans B);have:=d _ _ _ R;have:=d _ _ _ S;have:=d _ _ _ U;have:=d _ _ _ V;have:=d _ _ _ N;have:=d _ _ _ O;have:=d _ _ _ P;have:=d _ _ _ Q;clear d))
   have u:=zh$ yT x l;go_wp2
   go_roundw
   .exact⟨k+1,J,by go_num,u⟩
   .simp[qf,intOf];omega
  .have x:=zh s;go_wp2;go_ret;exact⟨rfl,x⟩
structure MnD (w:qw)(M:Mn):Prop where
 m:MSD w M.ma M.mn M.mc M.ms
 k:IS w M.ka M.kn M.kc M.kz
 f:BS w M.fa M.fn M.fc M.fz
 r:BS w M.ra M.rn M.rc M.rz
 o:BS w M.oa M.on M.oc M.oz
 l:QS cM zSl w M.la M.ln M.lc M.lz
 h:QS bM zFr w M.ha M.hn M.hc M.hz
def MnD.bw {w w':qw}{M:Mn}(h:MnD w M)(d:qY w w'):MnD w' M:=⟨h.m.bw d,h.k.bw d,h.f.bw d,h.r.bw d,h.o.bw d,h.l.bw d,h.h.bw d⟩
abbrev usd (m b:Int)(x:SlT):Prop:=x.1=true/\x.2.1=m/\x.2.2.1=b
def gS (m b:Int):Nat->List SlT->Int
 | _,[]=>-1
 | i,x::xs=>if usd m b x then (i:Int) else gS m b (i+1) xs
def hld (xs:List SlT)(m b:Int):Int:=gS m b 0 xs
def aKr {α:Type}(xs:List α)(z k)(h:k<xs.length):xs.drop k=xs.getD k z::xs.drop (k+1):=by
 rw[List.drop_eq_getElem_cons h]
 grind
def aGj {xs:List SlT}{b:Int}(h:k<xs.length)(hu:usd m b (xs.getD k zSl)):gS m b k (xs.drop k)=k:=by
 rw[aKr xs zSl k h,gS,if_pos hu]
def aB6 {xs:List SlT}{b:Int}(h:k<xs.length)(hu:¬usd m b (xs.getD k zSl)):gS m b k (xs.drop k)=gS m b (k+1) (xs.drop$ k+1):=by
 rw[aKr xs zSl k h,gS,if_neg hu]
def yK (m b:Int):∀(xs:List SlT)(i:Nat),gS m b i xs=-1\/((i:Int)<=gS m b i xs/\gS m b i xs<(i:Int)+xs.length)
 | [],i=>.inl rfl
 | x::xs,i=>by
   unfold gS;by_cases c:usd m b x
   .grind
   .rw[if_neg c];rcases yK m b xs (i+1)with h|h
    .grind
    .grind
def lD (xs m b):hld xs m b=-1\/(0<=hld xs m b/\hld xs m b<(xs.length:Int)):=by
 have:=yK m b xs 0;simpa[hld]using this
structure Sam (M N:Mn):Prop where
 s:N.cs=M.cs/\N.cw=M.cw/\N.ck=M.ck/\N.cd=M.cd/\N.pc=M.pc/\N.md=M.md/\N.bk=M.bk/\N.tn=M.tn
 n:N.mn=M.mn/\N.kn=M.kn/\N.fn=M.fn/\N.rn=M.rn/\N.on=M.on/\N.ln=M.ln/\N.hn=M.hn
 z:N.kz=M.kz/\N.fz=M.fz/\N.rz=M.rz/\N.oz=M.oz/\N.lz=M.lz/\N.hz=M.hz
 m:∀i,i<M.mn->aQh (M.ms.getD i aL) (N.ms.getD i aL)
def aBd (s c k d w):qC 36 #[.agg #[qI s,qI c,qI k,qI d],.agg #[qI s,qI c,qI k,qI d]] w (qB w$ .bool true):=by
 have e:qY w ((w.alloc$ .cells #[qI s,qI c,qI k,qI d] 37).alloc$ .cells #[qI s,qI c,qI k,qI d] 37):=bal.alloc Jb _
 delta qC;go_in
 go_wp2;go_ret;exact⟨rfl,e⟩
def fJ (M N w)(h:MnD w M)(E:MnD w N)(s:Sam M N):
 qC 9 #[.agg #[qS M.ma M.mn M.mc,qI M.cs,qI M.cw,qI M.ck,qI M.cd,qI M.pc,qS M.ka M.kn M.kc,qS M.fa M.fn M.fc,qS M.ra M.rn M.rc,qS M.oa M.on M.oc,qI M.md,qI M.bk,qS M.la M.ln M.lc,qS M.ha M.hn M.hc,qI M.tn],.agg #[qS N.ma N.mn N.mc,qI N.cs,qI N.cw,qI N.ck,qI N.cd,qI N.pc,qS N.ka N.kn N.kc,qS N.fa N.fn N.fc,qS N.ra N.rn N.rc,qS N.oa N.on N.oc,qI N.md,qI N.bk,qS N.la N.ln N.lc,qS N.ha N.hn N.hc,qI N.tn]] w (qB w$ .bool true):=by
 obtain⟨⟨e1,e2,e3,e4,e5,e6,e7,e8⟩,⟨k,q,F,H,K,O,P⟩,⟨z1,z2,z3,z4,z5,z6⟩,hm⟩:=s;obtain⟨j,f,b,S,R,g,E⟩:=E;rw[k]at j;rw[q,z1]at f;rw[F,z2]at b;rw[H,z3]at S;rw[K,z4]at R;rw[O,z5]at g;rw[P,z6]at E;rw[e1,e2,e3,e4,e5,e6,e7,e8,k,q,F,H,K,O,P];clear e1 e2 e3 e4 e5 e6 e7 e8 k q F H K O P z1 z2 z3 z4 z5 z6;have p:qY w ((w.alloc$ .cells #[qS M.ma M.mn M.mc,qI M.cs,qI M.cw,qI M.ck,qI M.cd,qI M.pc,qS M.ka M.kn M.kc,qS M.fa M.fn M.fc,qS M.ra M.rn M.rc,qS M.oa M.on M.oc,qI M.md,qI M.bk,qS M.la M.ln M.lc,qS M.ha M.hn M.hc,qI M.tn] 43).alloc$ .cells #[qS N.ma M.mn N.mc,qI M.cs,qI M.cw,qI M.ck,qI M.cd,qI M.pc,qS N.ka M.kn N.kc,qS N.fa M.fn N.fc,qS N.ra M.rn N.rc,qS N.oa M.on N.oc,qI M.md,qI M.bk,qS N.la M.ln N.lc,qS N.ha M.hn N.hc,qI M.tn] 43):=bal.alloc Jb _;have u0:=(Blk.new w #[qS M.ma M.mn M.mc,qI M.cs,qI M.cw,qI M.ck,qI M.cd,qI M.pc,qS M.ka M.kn M.kc,qS M.fa M.fn M.fc,qS M.ra M.rn M.rc,qS M.oa M.on M.oc,qI M.md,qI M.bk,qS M.la M.ln M.lc,qS M.ha M.hn M.hc,qI M.tn] 43).alloc$ .cells #[qS N.ma M.mn N.mc,qI M.cs,qI M.cw,qI M.ck,qI M.cd,qI M.pc,qS N.ka M.kn N.kc,qS N.fa M.fn N.fc,qS N.ra M.rn N.rc,qS N.oa M.on N.oc,qI M.md,qI M.bk,qS N.la M.ln N.lc,qS N.ha M.hn N.hc,qI M.tn] 43;have v0:=Blk.new (w.alloc$ .cells #[qS M.ma M.mn M.mc,qI M.cs,qI M.cw,qI M.ck,qI M.cd,qI M.pc,qS M.ka M.kn M.kc,qS M.fa M.fn M.fc,qS M.ra M.rn M.rc,qS M.oa M.on M.oc,qI M.md,qI M.bk,qS M.la M.ln M.lc,qS M.ha M.hn M.hc,qI M.tn] 43) #[qS N.ma M.mn N.mc,qI M.cs,qI M.cw,qI M.ck,qI M.cd,qI M.pc,qS N.ka M.kn N.kc,qS N.fa M.fn N.fc,qS N.ra M.rn N.rc,qS N.oa M.on N.oc,qI M.md,qI M.bk,qS N.la M.ln N.lc,qS N.ha M.hn N.hc,qI M.tn] 43;simp only[xF]at v0;have H1:=zb w λW d=>yZ M.ma N.ma M.mn M.mc N.mc M.ms N.ms W (h.m.s.bw d) (j.s.bw d) hm;have H2:=zh λ(W:qw)=>aBd M.cs M.cw M.ck M.cd W;have H3:=zb w λW d=>aGu M.pc M.ka N.ka M.kn M.kc N.kc M.kz W (h.k.bw d)$ f.bw d;have H4:=zb w λW d=>aI2 M.fa M.ra M.oa N.fa N.ra N.oa M.fn M.fc M.rn M.rc M.on M.oc M.fn N.fc M.rn N.rc M.on N.oc M.fz M.rz M.oz W (h.f.bw d) (h.r.bw d) (h.o.bw d) (b.bw d) (S.bw d)$ R.bw d;have H5:=zb w λW d=>aEc M.la N.la M.ln M.lc N.lc M.lz W (h.l.bw d)$ g.bw d;have H6:=zb w λW d=>aBb M.ha N.ha M.hn M.hc N.hc M.hz W (h.h.bw d)$ E.bw d;clear h j f b S R g E hm;have i:=zh$ xA u0 v0
 delta qC;go_in
 go_wp2_with fail
 apply(H1 _ p).mono;rintro e w1 ⟨rfl,d⟩;have D:=p.trans$ d.mono (by have:=p.size;simp;omega);have l:=xA (i.1.bw d)$ i.2.bw d;clear p u0 v0 d i;have p1:=l.1.e1;have q1:=l.2.e1;have p2:=l.1.e2;have q2:=l.2.e2;have p3:=l.1.e3;have q3:=l.2.e3;have p4:=l.1.e4;have q4:=l.2.e4;have i:=zh l;clear l;go_wp2_with fail
 apply(H2 _).mono;rintro e w2 ⟨rfl,d⟩;have y:=yT D d;have C:=xA (i.1.bw d)$ i.2.bw d;clear D d i p1 q1 p2 q2 p3 q3 p4 q4;have p5:=C.1.e5;have q5:=C.2.e5;have p6:=C.1.e6;have q6:=C.2.e6;have i:=zh C;clear C;go_wp2_with fail
 apply(H3 _ y).mono;rintro e w3 ⟨rfl,d⟩;have B:=yT y d;have t:=xA (i.1.bw d)$ i.2.bw d;clear y d i p5 q5 p6 q6;have p7:=t.1.e7;have q7:=t.2.e7;have p8:=t.1.e8;have q8:=t.2.e8;have p9:=t.1.e9;have q9:=t.2.e9;have i:=zh t;clear t;go_wp2_with fail
 apply(H4 _ B).mono;rintro e w4 ⟨rfl,d⟩;have A:=yT B d;have u:=xA (i.1.bw d)$ i.2.bw d;clear B d i p7 q7 p8 q8 p9 q9;have U:=u.1.e10;have Q:=u.2.e10;have V:=u.1.e11;have I:=u.2.e11;have X:=u.1.e12;have a4:=u.2.e12;have i:=zh u;clear u;go_wp2_with fail
 apply(H5 _ A).mono;rintro e w5 ⟨rfl,d⟩;have x:=yT A d;have G:=xA (i.1.bw d)$ i.2.bw d;clear A d i U Q V I X a4;have a0:=G.1.e13;have Y:=G.2.e13;have i:=zh G;clear G;go_wp2_with fail
 apply(H6 _ x).mono;rintro e w6 ⟨rfl,d⟩;have Z:=yT x d;have a:=xA (i.1.bw d)$ i.2.bw d;clear x d i a0 Y;have:=a.1.e14;have:=a.2.e14;clear a;go_wp2;go_ret;exact⟨rfl,Z⟩
def P0:PMod:=⟨⟨#[]⟩,[],[],[],0,[],[],[]⟩
def aOq {E:ByteArray}{U:qO}{tn p:Nat}{X:qi}{B:qO}{D C:Nat}{Q:qO}{x G:Nat}{M:qi}{l:Int}{ra:qO}{rn rc:Nat}{rz:qi}{y:qO}{u N:Nat}{I:qO}{V A:Nat}{w:qw}(h:MD w E U tn p X B D C bl Q x G M l ra rn rc rz y u N ss I V A es):MT w E U tn p X B D C bl Q x G M l ra rn rc rz y u N ss I V A es where
 n:=by have:=h.n;unfold maxLen;omega
 t:=h.t
 b:=h.b
 d:=h.d
 s:=h.s
 r:=h.r
 i:=by
  let⟨a,f,g,j,k⟩:=h.i;refine⟨a,f,λi=>?_,j,k⟩;by_cases hi:i<ss.length
  .have:=g (ss.getD i zS) (by grind);unfold maxLen;omega
  .rw[xB,xO J];decide
 e:=by
  let⟨a,f,g,j,k⟩:=h.e;refine⟨a,f,λi=>?_,j,k⟩;by_cases hi:i<es.length
  .have:=g (es.getD i zE) (by grind);unfold maxLen;omega
  .rw[xB,xO J];decide
def bkF (bl:List Bk)(i:Nat):qO×Nat×Nat:=((bl.getD i zB).1,(bl.getD i zB).2.1,(bl.getD i zB).2.2.1)
def bkX (bl:List Bk)(i:Nat):List Int:=(bl.getD i zB).2.2.2
def aOh {w:qw}{xs:qi}(h:OG 3 1 clI w base v xs)(hx:∀z∈xs,wfi z):OI w base v xs:=by
 unfold OG at h;rw[aGr]at h;exact⟨h,hx⟩
def aE5 (a):∀n,n<=a.length->cD (bkF a) n=((a.take n).map λB=>B.2.1).sum
 | 0,_=>by simp[cD]
 | n+1,h=>by
   show cD (bkF a) n+(bkF a n).2.1=_;have e:(bkF a n).2.1=(a[n]'J).2.1:=by simp[bkF,xB,show n<a.length from J]
   rw[aE5 a n J,List.take_add_one,xN J,e];simp only[Option.toList_some,List.map_append,List.map_cons,List.map_nil,List.sum_append,List.sum_cons,List.sum_nil,Nat.add_zero]
def aUe {w:qw}(h:OBk w base (qS a bl.length c) bl)(hx:∀B∈bl,∀z∈B.2.2.2,wfi z):Rr w base a bl.length (bkF bl) (bkX bl):=by
 have l:∀i,i<bl.length->bl.getD i zB∈bl:=λi hi=>by simp[xB,hi]
 have d:∀i,i<bl.length->OI w base (.slice (bkF bl i).1 (bkF bl i).2.1 (bkF bl i).2.2) (bkX bl i):=λi hi=>aOh (h.rows _$ l i hi).2$ hx _$ l i hi;refine⟨λF=>?_,d,λi j hi I y k u=>?_⟩
 .obtain⟨N,⟨U,A⟩|⟨g,q,p,s,D,t,A,M,E,x⟩⟩:=h.head
  .grind
  .simp at s;refine⟨g,p,s.1,λ⟨i,hi,e⟩=>?_,t,λi hi=>?_⟩
   .have⟨f,b⟩:=aE (d i hi).1 e;exact absurd (aH b t) Ja
   .have:(p.toList.take$ bl.length*1)[i]?=(bl.map λB=>qS B.1 B.2.1 B.2.2.1)[i]?:=by rw[x]
    rw[List.getElem?_take]at this;rw[if_pos J]at this;rw[<-Array.getElem?_toList,this];simp[bkF,xB,hi]
 .have C:=List.pairwise_iff_getElem.1 h.apart;have Q:bl.getD i zB=bl[i]:=by grind
  have G:bl.getD j zB=bl[j]:=by grind
  unfold bkF at u⊢
  grind
def ModO.m6G {W:qw}(h:ModO W base P a1 c1 a2 c2 bl a3 c3 a5 c5 a6 c6 a7 c7)(R:PmG P):
 M6 W base (qS a1 P.tz.length c1) (qS a3 P.dz.length c3) (qS a5 P.rz.length c5) (qS a6 P.ss.length c6) (qS a7 P.es.length c7) a2 bl.length (bkF bl) P.tz (bkX bl) P.dz P.rz P.ss P.es where
 t:=aOh h.t R.t.2
 b:=aUe h.b (λB s z a=>by
  have p:B.2.2.2∈P.bl:=by rw[<-h.bls];exact List.mem_map.2 ⟨B,s,rfl⟩
  exact(R.b.2 _ p).2 z a)
 d:=h.d
 r:=aOh h.r R.r.2
 i:=h.i
 e:=h.e
 tr:=h.tr
 tb:=λk l⟨i,hi,e⟩=>h.tb k l _ (by simp[xB,hi]) e
 rb:=λk l⟨i,hi,e⟩=>h.br k l _ (by simp[xB,hi]) e
def ModO.sum {W:qw}(h:ModO W base P a1 c1 a2 c2 bl a3 c3 a5 c5 a6 c6 a7 c7):cD (bkF bl) bl.length=(P.bl.map List.length).sum/\bl.length=P.bl.length:=by
 refine⟨?_,by rw[<-h.bls,xH]⟩;rw[aE5 bl bl.length aO,List.take_length,<-h.bls,List.map_map];congr 1;apply List.map_congr_left;intro B d;exact(h.b.rows B d).1
def ModO.same {W a:qw}{base':Nat}{x:qO}{A:Nat}{d:qO}{D:Nat}{bl':List Bk}{u:qO}{p:Nat}{E:qO}{G:Nat}{y:qO}{t:Nat}{s:qO}{C:Nat}(h:ModO W base P a1 c1 a2 c2 bl a3 c3 a5 c5 a6 c6 a7 c7)(I:ModO a base' P x A d D bl' u p E G y t s C):bl.length=bl'.length/\∀i,i<bl.length->(bl'.getD i zB).2.1=(bl.getD i zB).2.1/\(bl'.getD i zB).2.2.2=(bl.getD i zB).2.2.2:=by
 have e:bl.map (λB=>B.2.2.2)=bl'.map (λB=>B.2.2.2):=h.bls.trans I.bls.symm;have Q:bl.length=bl'.length:=by have:=congrArg List.length e;simpa using this
 refine⟨Q,λi hi=>?_⟩
 have e2:(bl.getD i zB).2.2.2=(bl'.getD i zB).2.2.2:=by
  have:=congrArg (λl=>l[i]?) e
  grind
 have M:bl.getD i zB∈bl:=by simp[xB,hi]
 have N:bl'.getD i zB∈bl':=by simp[xB,show i<bl'.length from J]
 exact⟨by rw[(I.b.rows _ N).1,(h.b.rows _ M).1,e2],e2.symm⟩
structure Mb where
 a1:qO
 c1:Nat
 a2:qO
 c2:Nat
 bl:List Bk
 a3:qO
 c3:Nat
 a5:qO
 c5:Nat
 a6:qO
 c6:Nat
 a7:qO
 c7:Nat
abbrev MOb (W:qw)(base:Nat)(x:PMod×Mb):Prop:=ModO W base x.1 x.2.a1 x.2.c1 x.2.a2 x.2.c2 x.2.bl x.2.a3 x.2.c3 x.2.a5 x.2.c5 x.2.a6 x.2.c6 x.2.a7 x.2.c7
def hdP (x:PMod×Mb):Hd×Ct:=(⟨x.2.a1,x.1.tz.length,x.2.c1,x.2.a2,x.2.bl.length,x.2.c2,bkF x.2.bl,x.2.a3,x.1.dz.length,x.2.c3,x.2.a5,x.1.rz.length,x.2.c5,x.2.a6,x.1.ss.length,x.2.c6,x.2.a7,x.1.es.length,x.2.c7⟩,⟨x.1.nm,x.1.tz,bkX x.2.bl,x.1.dz,x.1.bss,x.1.rz,x.1.ss,x.1.es⟩)
def clB (x:PMod×Mb):List Value:=clH$ hdP x
def mdP (x:PMod×Mb):Md:=⟨x.1.nm,x.2.a1,x.1.tz.length,x.2.c1,x.1.tz,x.2.a2,x.2.bl.length,x.2.c2,x.2.bl,x.2.a3,x.1.dz.length,x.2.c3,x.1.dz,x.1.bss,x.2.a5,x.1.rz.length,x.2.c5,x.1.rz,x.2.a6,x.1.ss.length,x.2.c6,x.1.ss,x.2.a7,x.1.es.length,x.2.c7,x.1.es⟩
def ModO.keptS {W a:qw}{x:PMod×Mb}(h:MOb W base x)(l:Turn S W a)(hS:∀{t:TypeId}{sz n:Nat}{v:Value}{xs:List Value},W.ownsRow base t sz v n xs->t≠128->∀k,v.ownBlock=some k->¬S k):MOb a base x:=by
 have row:∀{t:TypeId}{sz n:Nat}{v:Value}{xs:List Value},W.ownsRow base t sz v n xs->t≠128->a.ownsRow base t sz v n xs:=λ{t}{sz}{n}{v}{xs}e d=>by
  have p:=hS e d;obtain⟨b,s|⟨g,j,q,f,D,E,u,y,A,C⟩⟩:=e
  .exact⟨b,.inl s⟩
  .exact⟨b,.inr ⟨g,j,q,f,D,aD (w:=W) l E (p g (by rw[f];rfl)),u,y,A,C⟩⟩
 exact⟨row h.t Ja,⟨row h.b.head Ja,λB i=>⟨(h.b.rows B i).1,row (h.b.rows B i).2 Ja⟩,h.b.apart⟩,h.bls,⟨row h.d.1 Ja,h.d.2⟩,row h.r Ja,row h.i Ja,row h.e Ja,h.tb,h.tr,h.br⟩
def ModO.blw {W a:qw}{x:PMod×Mb}(h:MOb W base x)(d:qY W a):MOb a base x:=ModO.keptS h (S:=λ_=>False) (aI d) λ_ _ _ _ s=>s
structure OMp (W:qw)(base:Nat)(v:Value)(L:List (PMod×Mb))(β:Nat->Nat):Prop where
 o:OG 128 8 clB W base v L
 m:∀(i:Nat)(x:PMod×Mb),L[i]?=some x->MOb W (β i) x/\PmG x.1/\∀j,Sh (hdP x).1 j->j<β (i+1)
 mono:∀i k,i<=k->k<=L.length->β i<=β k
 lo:base<=β 0
 hi:β L.length<=W.heap.size
def OMp.bw {W a:qw}{L:List (PMod×Mb)}(H:OMp W base v L β)(d:qY W a):OMp a base v L β:=⟨H.o.bw d,λi x hx=>⟨ModO.blw (H.m i x hx).1 d,(H.m i x hx).2⟩,H.mono,H.lo,xM H.hi d.size⟩
def aPr (L:List (PMod×Mb)):(L.map hdP).flatMap clH=L.flatMap clB:=by
 rw[List.flatMap_map];rfl
def OMp.oms {W:qw}{L:List (PMod×Mb)}(H:OMp W base v L β):OMs W base v (L.map hdP) β where
 o:=by
  have o:=H.o;unfold OG at o⊢;rw[xH,aPr];exact o
 m:=λi y d=>by
  rw[List.getElem?_map,Option.map_eq_some_iff]at d;obtain⟨x,hx,rfl⟩:=d;let⟨a,b,e⟩:=H.m i x hx;exact⟨ModO.m6G a b,e⟩
 mono:=by rw[xH];exact H.mono
def OMp.msd {W:qw}{L:List (PMod×Mb)}(H:OMp W base v L β)(A:L.length<=1048576):∃a cap,v=qS a L.length cap/\MSD W a L.length cap (L.map mdP):=by
 obtain⟨a,cap,rfl⟩:=aZ H.o;refine⟨a,cap,rfl,?_⟩;have d:∀i,i<L.length->∃x,L[i]?=some x/\(L.map mdP).getD i aL=mdP x:=λi hi=>⟨L[i],xN hi,by simp[xB,hi]⟩
 have hd:∀i,i<L.length->((L.map mdP).getD i aL).md W:=λi hi=>by
  let⟨x,hx,e⟩:=d i hi;rw[e];exact ModO.mdG (H.m i x hx).1 (H.m i x hx).2.1
 refine⟨⟨Jb,Jf,λb=>?_,λi hi=>?_,?_⟩,hd⟩
 .have⟨g,cp,e,_⟩:=World.ownsRow.form H.o J;obtain⟨rfl,-,rfl⟩:=e;refine⟨g,0,rfl,λi hi=>?_⟩;let⟨x,hx,e⟩:=d i hi;rw[e,Nat.zero_add]
  have k:∀j,j<8->∀u,(clB x)[j]?=some u->qN W g (i*8+j)=some u:=λj l u hu=>by
   have q:=World.ownsRow.cells H.o (g:=g) rfl _ _$ (aD7 (λ_=>rfl) L i x hx j l).trans hu
   rwa[cI,Nat.zero_add]at q
  exact⟨k 0 J _ rfl,k 1 J _ rfl,k 2 J _ rfl,k 3 J _ rfl,k 4 J _ rfl,k 5 J _ rfl,k 6 J _ rfl,k 7 J _ rfl⟩
 .have⟨x,hx,e⟩:=d i hi;have q:=hd i hi;rw[e]at q⊢;exact aOq q
 .obtain⟨_,t|⟨g,cp,p,s,_,_,y,_⟩⟩:=H.o
  .grind
  .grind
def OMp.pms {W:qw}{L:List (PMod×Mb)}(H:OMp W base v L β):aF (L.map mdP)=L.map (λx=>x.1):=by
 unfold aF;rw[List.map_map];apply List.ext_getElem
 .simp
 .intro i d l;simp only[xH]at d;have e:=(H.m i L[i] (xN d)).1.bls;simp only[List.getElem_map,Function.comp];generalize L[i]=x at *;obtain⟨⟨g,k,a,f,b,j,ss,es⟩,y⟩:=x;simp only[Md.pm,mdP]at e⊢;rw[e]
def bup (β:Nat->Nat)(n a b:Nat)(j:Nat):Nat:=if j<=n then (if j=n then a else β j) else b
def OMp.push {W l w2 w4:qw}{L:List (PMod×Mb)}{x:PMod×Mb}(H:OMp W base (qS a n c) L β)(t:L.length=n)(Q:qY W l)(V:MOb l W.heap.size x)(R:PmG x.1)(M:qY l w2)(u:w4.ownsRow base 128 8 v' (n+1) (L.flatMap clB++clB x))(d:w2.grownBy w4 (qS a n c).ownBlock):OMp w4 base v' (L++[x]) (bup β n W.heap.size l.heap.size):=by
 have E:qY W w2:=yT Q M;have U:=H.bw E;have T:Turn (λj=>(qS a n c).ownBlock=some j) w2 w4:=⟨d.os,d.tape,d.output,d.size,λj I hs=>d.block j I λe=>hs e.symm⟩
 have D:∀{b:Nat}{y:PMod×Mb},MOb w2 b y->MOb w4 b y:=λp=>ModO.keptS p T (λY N k C s=>by
  let⟨q,f⟩:=aE Y C;let⟨c2,g⟩:=aE U.o s
  exact N$ aH f g)
 have:∀i,i<n->bup β n W.heap.size l.heap.size i=β i:=λi hi=>by unfold bup;rw[if_pos J,if_neg J]
 have G:bup β n W.heap.size l.heap.size n=W.heap.size:=by unfold bup;rw[if_pos J,if_pos rfl]
 have B:bup β n W.heap.size l.heap.size (n+1)=l.heap.size:=by unfold bup;rw[if_neg J]
 have hi:=H.hi;rw[t]at hi;have mono:=H.mono;rw[t]at mono;refine⟨?_,λi y p=>?_,λi k Z C=>?_,?_,?_⟩
 .unfold OG;rw[xI,t,xU,xX];exact u
 .by_cases e:i=n
  .subst e;rw[List.getElem?_append_right J,t,Nat.sub_self]at p;simp at p;subst p;rw[G,B];exact⟨D$ ModO.blw V M,R,λj I=>(M6h.sh (x:=hdP x) (ModO.m6G V R) I).1.2⟩
  .have A:=lT p;rw[xI,t]at A;simp at A;rw[List.getElem?_append_left J]at p;let⟨F,K,O⟩:=U.m i y p
   grind
 .rw[xI,t]at C;simp at C;have:=Q.size;unfold bup
  grind
 .have w:=H.lo;unfold bup
  grind
 .rw[xI,t];show bup β n (qs W) (qs l) (n+1)<=_;rw[B];have:=M.size;have:=d.size;omega
def OMp.turn {W a:qw}{L:List (PMod×Mb)}(H:OMp W base v L β)(t:Turn S W a)(hS:∀j,S j->j<base):OMp a base v L β:=
 ⟨H.o.kept t λk d s=>jL ((H.o.lt k d).1)$ hS k s,λi x hx=>⟨ModO.keptS (H.m i x hx).1 t (λe _ k d s=>by
  have:=(World.ownsRow.lt e k d).1;have:=hS k s;have:=H.mono 0 i (xC _)$ Nat.le_of_lt$ lT hx;have:=H.lo
  omega),(H.m i x hx).2⟩,H.mono,H.lo,xM H.hi t.size⟩
def ModO.keptU {W a:qw}{x:PMod×Mb}(h:MOb W base x)(u:Turn S W a)(hu:∀j,Sh (hdP x).1 j->¬S j)(e:∀j cs,Blk W j cs 25->¬S j):MOb a base x:=by
 have row:∀{t:TypeId}{sz n:Nat}{v:Value}{xs:List Value},W.ownsRow base t sz v n xs->(∀k,v.ownBlock=some k->¬S k)->a.ownsRow base t sz v n xs:=λ{t}{sz}{n}{v}{xs}p d=>by
  obtain⟨b,A|⟨g,q,y,f,F,G,C,e,D,E⟩⟩:=p
  .exact⟨b,.inl A⟩
  .exact⟨b,.inr ⟨g,q,y,f,F,aD (w:=W) u G (d g (by rw[f];rfl)),C,e,D,E⟩⟩
 exact⟨row h.t λk d=>hu k$ .inl d,⟨row h.b.head (λk d s=>by obtain⟨c,kb⟩:=aE h.b.head d;exact e k c kb s),λB l=>⟨(h.b.rows B l).1,row (h.b.rows B l).2 (λk d=>hu k (.inr (.inl (by
  obtain⟨i,hi,rfl⟩:=List.getElem_of_mem l
  exact⟨i,hi,by simpa[hdP,bkF,xB,hi]using d⟩))))⟩,h.b.apart⟩,h.bls,⟨row h.d.1 λk d=>hu k$ .inr$ .inr$ .inl d,h.d.2⟩,row h.r λk d=>hu k$ .inr$ .inr$ .inr$ .inl d,row h.i λk d=>hu k$ .inr$ .inr$ .inr$ .inr$ .inl d,row h.e λk d=>hu k$ .inr$ .inr$ .inr$ .inr$ .inr d,h.tb,h.tr,h.br⟩
def OMp.keep {W a:qw}{L:List (PMod×Mb)}(H:OMp W base v L β)(t:Turn S W a)(d:∀j,v.ownBlock=some j->¬S j)(hS:∀j,S j->β L.length<=j)(l:∀j cs,Blk W j cs 25->¬S j):OMp a base v L β:=
 ⟨H.o.kept t d,λi x hx=>⟨ModO.keptU (H.m i x hx).1 t (λj e s=>by
  have:=(H.m i x hx).2.2 j e;have:=H.mono (i+1) L.length (lT hx) aO
  grind) l,(H.m i x hx).2⟩,H.mono,H.lo,xM H.hi t.size⟩
def aRj (W base)(d:base<=W.heap.size):OMp W base (qS none 0 0) [] (λ_=>W.heap.size):=⟨gQ _ _ _ _ _,λi x hx=>by grind,λ_ _ _ _=>aO,d,aO⟩
def aD6 (d:qi):d.flatMap (λz=>[Value.int .u8 z])=d.map (Value.int .u8):=dS _ d
def aVo {W:qw}{zs:qi}(h:OB W base v zs):OG 5 1 (λz=>[Value.int .u8 z]) W base v zs:=by
 unfold OG;rw[aD6];exact h.1
def aS4 {W:qw}{zs:qi}(h:OG 5 1 (λz=>[Value.int .u8 z]) W base v zs)(hz:∀z∈zs,0<=z/\z<=255):OB W base v zs:=by
 unfold OG at h;rw[aD6]at h;exact⟨h,hz⟩
def aGd (a n b p w)(h:Srd (λz=>[Value.int .u8 z]) w a n b p)(A:∀z∈p,0<=z/\z<=255)(D:p.length=n)(hn:n<=1048576):
 qC 51 #[qS a n b] w λe w'=>∃a l,e=.returned (qS a n l)/\OB w' w.heap.size (qS a n l) p/\qY w w':=by
 let⟨H,hi,q,F,G⟩:=info_parts rC;have s:=zh$ h.bw$ (Below.refl (qs w) w).alloc aO$ .cells #[] 5;have j:=zh A;have t:=zh$ cC 5 1 (λz=>[Value.int .u8 z]) w (qs w) aO;have C:=zh$ (Below.refl w.heap.size w).alloc aO$ .cells #[] 5
 delta qC;go_in
 go_wp2_with (at_builtin;refine bY rfl _ _ 28 rfl w.heap.size 5 H (.int .u8 0) 1 1 underlying28 hi q F G rfl Ja _ [] rfl t.o a n b p rfl s.o (λ_=>rfl) (λy u hu=>by simp at hu;subst hu;rfl) (by unfold maxLen;simp;omega) Jc Jb ?_;intro I E i d)
 rw[List.nil_append]at i;obtain⟨f,g,rfl⟩:=aZ i;have x:=zh$ xA (aS4 i j.o)$ aG C.o (S:=λk=>k=w.heap.size) ⟨d.os,d.tape,d.output,d.size,λk B hs=>d.block k B λe=>hs (by cases e;rfl)⟩ (λk B=>J) Jb;rw[D]at x⊢;go_ret;exact⟨f,g,rfl,x.1,x.2⟩
def tO {X W w6:qw}(h:Below b X W)(hs:b<=W.heap.size)(i:v.ownBlock=some b)(G:W.grownBy w6 v.ownBlock):Below b X w6:=aG h (S:=λk=>k=b) ⟨G.os,G.tape,G.output,G.size,λk d hs=>G.block k d (λe=>hs (by rw[i]at e;cases e;rfl))⟩ (λk d=>J) hs
structure Cpb (W0 X:qw)(gm lo:Nat)(t1:qO)(e1:Nat)(tz:qi)(a2:qO)(c2:Nat)(bl:List Bk)(nm v3 v4 v5 v6 v7:Value):Prop where
 c:Cpm W0 X gm #[nm,qS t1 tz.length e1,qS a2 bl.length c2,v3,v4,v5,v6,v7]
 t:OG 3 1 clI X W0.heap.size (qS t1 tz.length e1) tz
 b:OBk X lo (qS a2 bl.length c2) bl
 tl:∀k,(qS t1 tz.length e1).ownBlock=some k->k<lo
 gl:gm<lo
 lh:lo<=X.heap.size
section
variable {W0 X X' w' w4:qw}{gm lo:Nat}{t1:qO}{e1:Nat}{tz:qi}{a2:qO}{c2:Nat}{bl:List Bk}{nm v2 v3 v4 v5 v6 v7 u:Value}
def Cpb.bw (h:Cpb W0 X gm lo t1 e1 tz a2 c2 bl nm v3 v4 v5 v6 v7)(d:qY X X'):Cpb W0 X' gm lo t1 e1 tz a2 c2 bl nm v3 v4 v5 v6 v7:=⟨h.c.bw d,h.t.bw d,h.b.turn (S:=λ_=>False) (aI d) λ_ s=>absurd s id,h.tl,h.gl,xM h.lh d.size⟩
def mJ {t:TypeId}(G:(X.alloc$ .cells #[] t).grownBy w' (some X.heap.size)):qY X w':=aG (brf.alloc aO$ .cells #[] t) (S:=λk=>k=X.heap.size) ⟨G.os,G.tape,G.output,G.size,λk d hs=>G.block k d λe=>hs (by cases e;rfl)⟩ (λk d=>J) Jb
def Cpb.new (h:Cpm W0 X gm #[nm,qS t1 tz.length e1,v2,v3,v4,v5,v6,v7])(i:OG 3 1 clI X W0.heap.size (qS t1 tz.length e1) tz):Cpb W0 ((X.alloc$ .cells #[] 25).setCell (qR gm 2)$ qS (qP X.heap.size) 0 0) gm X.heap.size t1 e1 tz (qP X.heap.size) 0 [] nm v3 v4 v5 v6 v7:=by
 have l:qY X (qm X #[] 25):=bal;have a:=h.bw l;let⟨c2,b⟩:=a.set 2$ qS (qp X) 0 0;refine⟨c2,(i.bw l).kept b λk d e=>?_,OBk.turn (w:=qm X #[] 25) ⟨cC 25 1 (λv:Value=>[v]) X X.heap.size aO,Jb,Jb⟩ b λk e d=>jK h.k.lt,λk d=>(i.lt k d).2,h.k.lt,Jb⟩;subst e;let⟨c,kb⟩:=aE (i.bw l) d;exact absurd (aH kb a.k) Ja
def Cpb.bank {A:qO}{C:Nat}{x:qi}{d:Value}(h:Cpb W0 X gm lo t1 e1 tz a2 c2 bl nm v3 v4 v5 v6 v7)(O:OG 3 1 clI w' X.heap.size (qS A x.length C) x)(M:qY X w')
 (D:w4.ownsRow lo 25 1 d (bl.length+1) (bl.map (λB=>qS B.1 B.2.1 B.2.2.1)++[qS A x.length C])) (p:w'.grownBy w4 (qS a2 bl.length c2).ownBlock):
 Cpm W0 w4 gm #[nm,qS t1 tz.length e1,qS a2 bl.length c2,v3,v4,v5,v6,v7]/\∃t y,d=.slice t (bl++[((A,x.length,C,x):Bk)]).length y/\Cpb W0 (w4.setCell (qR gm 2) d) gm lo t1 e1 tz t y (bl++[((A,x.length,C,x):Bk)]) nm v3 v4 v5 v6 v7:=by
 have i:=h.bw M;have E:=i.b.push rfl O h.lh (λB Q j N=>((h.b.rows B Q).2.lt j N).2) D p;have:W0.heap.size<=lo:=jL h.c.g h.gl;have T:Turn (λk=>(qS a2 bl.length c2).ownBlock=some k) w' w4:=⟨p.os,p.tape,p.output,p.size,λk l hs=>p.block k l λe=>hs e.symm⟩
 have I:Blk w4 gm #[nm,qS t1 tz.length e1,qS a2 bl.length c2,v3,v4,v5,v6,v7] 128:=bG p i.c.k (λe=>by
  let⟨c,kb⟩:=aE i.b.head e.symm
  exact absurd (aH kb i.c.k) Ja)
 have G:=i.t.kept T (λk l s=>by
  let⟨c,kb⟩:=aE i.t l;let⟨a,u⟩:=aE i.b.head s
  exact absurd (aH kb u) Ja)
 have f:Cpm W0 w4 gm #[nm,qS t1 tz.length e1,qS a2 bl.length c2,v3,v4,v5,v6,v7]:=⟨aG i.c.b T (λk l=>jK$ (i.b.lt k l).1) i.c.b.size,I,i.c.g⟩;obtain⟨b,a,rfl⟩:=aLx E;let⟨q,g⟩:=f.set 2$ .slice b (bl++[((A,x.length,C,x):Bk)]).length a;refine⟨f,b,a,rfl,q,G.kept g λk l e=>?_,E.turn g λk e l=>jK h.gl,h.tl,h.gl,by rw[aK];exact xM i.lh p.size⟩;subst e;let⟨c,kb⟩:=aE G l;exact absurd (aH kb I) Ja
def Cpb.put (h:Cpb W0 X gm lo t1 e1 tz a2 c2 bl nm v3 v4 v5 v6 v7)(l:qY X w')(j)(e:(#[nm,qS t1 tz.length e1,qS a2 bl.length c2,v3,v4,v5,v6,v7]:Array Value).setIfInBounds j u=#[nm,qS t1 tz.length e1,qS a2 bl.length c2,v3',v4',v5',v6',v7']):
 Cpb W0 (w'.setCell (qR gm j) u) gm lo t1 e1 tz a2 c2 bl nm v3' v4' v5' v6' v7'/\Turn (λj=>j=gm\/X.heap.size<=j) X (w'.setCell (qR gm j) u):=by
 have d:=h.bw l;let⟨b,a⟩:=d.c.set j u;rw[e]at b;refine⟨⟨b,d.t.kept a λk i e=>?_,d.b.turn a λk e i=>jK h.gl,h.tl,h.gl,by rw[aK];exact d.lh⟩,(aI l).trans$ a.mono λk i=>.inl i⟩;subst e;let⟨c,kb⟩:=aE d.t i;exact absurd (aH kb d.c.k) Ja
def aJ1 {t:TypeId}(h:X.ownsRow b t sz v n xs)(e:Blk X gm cs 128)(d:t≠128)(j u):(X.setCell (qR gm j) u).ownsRow b t sz v n xs:=dA ((aC X gm j u).mono λk i=>.inl i) e h d
def Cpb.row {α:Type}{f:α->List Value}{t:TypeId}{p:List α}(h:Cpb W0 X gm lo t1 e1 tz a2 c2 bl nm v3 v4 v5 v6 v7)(O:OG t sz f w' X.heap.size v' p)(i:qY X w')(d:t≠128)(j)(e:(#[nm,qS t1 tz.length e1,qS a2 bl.length c2,v3,v4,v5,v6,v7]:Array Value).setIfInBounds j v'=#[nm,qS t1 tz.length e1,qS a2 bl.length c2,v3',v4',v5',v6',v7']):
 Cpb W0 w' gm lo t1 e1 tz a2 c2 bl nm v3 v4 v5 v6 v7/\Cpb W0 (w'.setCell (qR gm j) v') gm lo t1 e1 tz a2 c2 bl nm v3' v4' v5' v6' v7'/\OG t sz f (w'.setCell (qR gm j) v') X.heap.size v' p/\Turn (λj=>j=gm\/X.heap.size<=j) X (w'.setCell (qR gm j) v')/\X.heap.size<=w'.heap.size:=by
 have l:=h.bw i;let⟨c2,a⟩:=h.put i j e;exact⟨l,c2,aJ1 O l.c.k d j v',a,i.size⟩
def Cpb.apart {α:Type}{f:α->List Value}{t:TypeId}{d:List α}(h:Cpb W0 X gm lo t1 e1 tz a2 c2 bl nm v3 v4 v5 v6 v7)(O:OG t sz f w' X.heap.size v' d):∀k,v'.ownBlock=some k->(qS t1 tz.length e1).ownBlock≠some k/\∀B∈bl,(qS B.1 B.2.1 B.2.2.1).ownBlock≠some k:=λk i=>by
 have:=(O.lt k i).1;exact⟨λe=>jK$ (h.t.lt k e).2,λB l e=>jK$ ((h.b.rows B l).2.lt k e).2⟩
def Cpb.done {C D A y:Nat}(h:Cpb W0 X gm lo t1 e1 P.tz a2 c2 bl nm v3 v4 v5 v6 v7)(s:bl.map (λB=>B.2.2.2)=P.bl)(hz:∀z∈P.dz,0<=z/\z<=255)
 (M:OG 5 1 (λz=>[Value.int .u8 z]) X C (qS a3 P.dz.length c3) P.dz) (U:W0.heap.size<=C) (N:OG 3 1 clI X D (qS a5 P.rz.length c5) P.rz) (I:W0.heap.size<=D) (Q:OG 9 1 clT X A (qS a6 P.ss.length c6) P.ss) (E:W0.heap.size<=A) (V:OG 209 3 clX X y (qS a7 P.es.length c7) P.es) (G:W0.heap.size<=y)
 (p:∀k,(qS a5 P.rz.length c5).ownBlock=some k->(qS t1 P.tz.length e1).ownBlock≠some k/\∀B∈bl,(qS B.1 B.2.1 B.2.2.1).ownBlock≠some k):ModO X W0.heap.size P t1 e1 a2 c2 bl a3 c3 a5 c5 a6 c6 a7 c7 where
 t:=h.t
 b:=h.b.mono$ jL h.c.g h.gl
 bls:=s
 d:=aS4 (M.mono U) hz
 r:=N.mono I
 i:=Q.mono E
 e:=V.mono G
 tb:=λk l B x e=>by have:=h.tl k l;have:=((h.b.rows B x).2.lt k e).1;omega
 tr:=λk l e=>(p k e).1 l
 br:=λk l B x=>(p k l).2 B x
end
def aKp {α:Type}{f:α->List Value}{sz:Nat}(d:∀x,(f x).length=sz):∀(L:List α)(j:Nat)(u:Value),(L.flatMap f)[j]?=some u->∃i x r,L[i]?=some x/\j=i*sz+r/\(f x)[r]?=some u
 | [],j,u,h=>by grind
 | y::L,j,u,h=>by
   have:=d y;rw[xT]at h;by_cases c:j<(f y).length
   .rw[List.getElem?_append_left c]at h;exact⟨0,y,j,rfl,J,h⟩
   .rw[List.getElem?_append_right J]at h;let⟨i,x,r,b,e,a⟩:=aKp d L _ u h;exact⟨i+1,x,r,by grind,by grind,a⟩
section
variable {w:qw}{b off n cap:Nat}
def aIp {zs:qi}(h:IS w (some$ qR b off) n cap zs):Srd clI w (some$ qR b off) n cap zs:=⟨h.1,.inr ⟨b,off,rfl,λj u hu=>by
 have e:zs.flatMap clI=zs.map (Value.int .i64):=dS _ zs;rw[e]at hu;have q:=aD2 h j u hu
 rwa[cI]at q⟩⟩
def aUt {zs:qi}(h:BS w (some$ qR b off) n cap zs):Srd (λz=>[Value.int .u8 z]) w (some$ qR b off) n cap zs:=⟨h.1,.inr ⟨b,off,rfl,λj u hu=>by
 rw[aD6]at hu;have q:=aEl h j u hu
 rwa[cI]at q⟩⟩
def aTw (h:SS w (some$ qR b off) n cap ss):Srd clT w (some$ qR b off) n cap ss:=⟨h.1,.inr ⟨b,off,rfl,λj u hu=>by
 have e:ss.flatMap clT=ss.map Value.string:=dS _ ss;rw[e,List.getElem?_map,Option.map_eq_some_iff]at hu;obtain⟨s,hs,rfl⟩:=hu;have:=lT hs;have:=h.1;let⟨a,f,d,hc⟩:=h.2.2.2.1 J
 grind⟩⟩
def aUo (h:ES w (some$ qR b off) n cap es):Srd clX w (some$ qR b off) n cap es:=⟨h.1,.inr ⟨b,off,rfl,λj u hu=>by
 obtain⟨i,x,r,k,rfl,a⟩:=aKp (sz:=3) (λ_=>rfl) es j u hu;have:=lT k;have:=h.1;let⟨l,p,g,hc⟩:=h.2.2.2.1 J;cases g
 let⟨e,f,c2⟩:=hc i J;have d:es.getD i zE=x:=by grind
 rw[d]at e f c2
 match r,a with
 | 0,a=>simp[clX]at a;subst a;exact e
 | 1,a=>simp[clX]at a;subst a;exact f
 | 2,a=>simp[clX]at a;subst a;exact c2
 | _+3,a=>simp[clX]at a⟩⟩
end
def fP {α:Type}{t:TypeId}{f:α->List Value}{w:qw}{xs:List α}(h:OG t sz f w base (qS a n c) xs):n=xs.length:=by
 let⟨b,d,e⟩:=aZ h
 grind
def kD {w:qw}{d:qi}(h:OI w base (qS a n c) d):n=d.length:=by
 obtain⟨_,e|⟨g,cp,b,f,_⟩⟩:=h.1
 .grind
 .grind
def cS {w:qw}{d:qi}(h:OB w base (qS a n c) d):n=d.length:=by
 obtain⟨_,e|⟨g,cp,b,f,_⟩⟩:=h.1
 .grind
 .grind
structure Msr (W:qw)(x:PMod×Mb):Prop where
 t:Srd clI W x.2.a1 x.1.tz.length x.2.c1 x.1.tz
 b:∀k,k<x.2.bl.length->∃gb A C zs,x.2.a2=some (qR gb 0)/\x.2.bl[k]?=some (A,zs.length,C,zs)/\W.cell? (qR gb k)=some (qS A zs.length C)/\Srd clI W A zs.length C zs
 bls:x.2.bl.map (fun B=>B.2.2.2)=x.1.bl
 d:Srd (fun z=>[Value.int .u8 z]) W x.2.a3 x.1.dz.length x.2.c3 x.1.dz
 r:Srd clI W x.2.a5 x.1.rz.length x.2.c5 x.1.rz
 i:Srd clT W x.2.a6 x.1.ss.length x.2.c6 x.1.ss
 e:Srd clX W x.2.a7 x.1.es.length x.2.c7 x.1.es
def aKu {W b:qw}(d:qY W b){a:Addr}(h:W.cell? a=some v):b.cell? a=some v:=(d.cell$ xD W _ h).trans h
def Msr.bw {W a:qw}{x:PMod×Mb}(h:Msr W x)(d:qY W a):Msr a x:=
 ⟨h.t.bw d,λk e=>by obtain⟨b,A,C,f,e1,e2,e3,o⟩:=h.b k e;exact⟨b,A,C,f,e1,e2,aKu d e3,o.bw d⟩,h.bls,h.d.bw d,h.r.bw d,h.i.bw d,h.e.bw d⟩
structure OMq (W:qw)(a:qO)(L:List (PMod×Mb)):Prop where
 o:∀(i:Nat)(x:PMod×Mb),L[i]?=some x->∃g,a=some (qR g 0)/\At8 W g (i*8) (mdP x)
 m:∀(i:Nat)(x:PMod×Mb),L[i]?=some x->Msr W x/\PmG x.1
def OMq.bw {W b:qw}{L:List (PMod×Mb)}(h:OMq W a L)(d:qY W b):OMq b a L:=
 ⟨λi x hx=>by obtain⟨g,e,f⟩:=h.o i x hx;exact⟨g,e,f.bw d⟩,λi x hx=>⟨(h.m i x hx).1.bw d,(h.m i x hx).2⟩⟩
def OMq.srcM {W:qw}{L:List (PMod×Mb)}{i:Nat}{d l D p B E:qO}{y t x A G C:Nat}{s:List Bk}(H:OMq W (qP g) L)(hx:L[i]?=some (P,⟨d,y,l,t,s,D,x,p,A,B,G,E,C⟩)):
 (W.cell? (qR g$ i*8)=some (.string P.nm)/\W.cell? (qR g$ i*8+1)=some (qS d P.tz.length y)/\W.cell? (qR g$ i*8+2)=some (qS l s.length t)/\W.cell? (qR g$ i*8+3)=some (qS D P.dz.length x)/\W.cell? (qR g$ i*8+4)=some (qI P.bss)/\W.cell? (qR g$ i*8+5)=some (qS p P.rz.length A)/\W.cell? (qR g$ i*8+6)=some (qS B P.ss.length G)/\W.cell? (qR g$ i*8+7)=some (qS E P.es.length C))/\Msr W (P,⟨d,y,l,t,s,D,x,p,A,B,G,E,C⟩)/\PmG P:=by
 let⟨b,e,a⟩:=H.o i _ hx;cases e
 exact⟨a,(H.m i _ hx).1,(H.m i _ hx).2⟩
def nK {α a:Type}{f:α->a}{l:List α}{x:α}(h:l[k]?=some x):(l.take$ k+1).map f=(l.take k).map f++[f x]:=by
 rw[List.take_add_one,h,List.map_append];rfl
def aJ6 {W:qw}{L:List (PMod×Mb)}(d:L.length=n)(h:OG 128 8 clB W base v L):W.ownsRow base 128 8 v n (L.flatMap clB):=by
 subst d;exact h
def aHq {w a X w4:qw}{L:List (PMod×Mb)}(O:OMp a w.heap.size v L β)(B:qY w a)(l:qY a X)(d:X.grownBy w4 v.ownBlock):qY w w4:=
 aG (yT B l) (S:=λq=>v.ownBlock=some q) ⟨d.os,d.tape,d.output,d.size,λq i hs=>d.block q i λe=>hs e.symm⟩ (λq i=>(O.o.lt q i).1) (xM B.size l.size)
def TMx (W W':qw):Prop:=Turn (λj=>∃cs,Blk W j cs 43) W W'
def ModO.keptM {W a:qw}{x:PMod×Mb}(h:MOb W base x)(l:Turn S W a)(hS:∀{t:TypeId}{sz n:Nat}{v:Value}{xs:List Value},W.ownsRow base t sz v n xs->t≠43->∀k,v.ownBlock=some k->¬S k):MOb a base x:=by
 have row:∀{t:TypeId}{sz n:Nat}{v:Value}{xs:List Value},W.ownsRow base t sz v n xs->t≠43->a.ownsRow base t sz v n xs:=λ{t}{sz}{n}{v}{xs}e d=>by
  have p:=hS e d;obtain⟨b,s|⟨g,j,q,f,D,E,u,y,A,C⟩⟩:=e
  .exact⟨b,.inl s⟩
  .exact⟨b,.inr ⟨g,j,q,f,D,aD (w:=W) l E (p g (by rw[f];rfl)),u,y,A,C⟩⟩
 exact⟨row h.t Ja,⟨row h.b.head Ja,λB i=>⟨(h.b.rows B i).1,row (h.b.rows B i).2 Ja⟩,h.b.apart⟩,h.bls,⟨row h.d.1 Ja,h.d.2⟩,row h.r Ja,row h.i Ja,row h.e Ja,h.tb,h.tr,h.br⟩
def oM {W:qw}{t:TypeId}(h:W.ownsRow base t sz v n xs)(i:t≠43):∀k,v.ownBlock=some k->¬∃cs,Blk W k cs 43:=λk d⟨cs,e⟩=>by
 let⟨b,a⟩:=aE h d;exact i$ aH a e
def fC {W W':qw}(h:qY W W'):TMx W W':=aI h
def TMx.trans {A B C:qw}(h:TMx A B)(k:TMx B C):TMx A C:=
 ⟨k.os.trans h.os,k.tape.trans h.tape,k.output.trans h.output,xM h.size k.size,λj d hs=>by
  have e:=h.block j d hs
  exact(k.block j (Nat.lt_of_lt_of_le d h.size) λ⟨a,kb⟩=>hs ⟨a,e.symm.trans kb⟩).trans e⟩
def eZ {W W':qw}(kb:Blk W g cs 43)(t:Turn (λj=>j=g) W W'):TMx W W':=t.mono (λj d=>by grind)
def OMp.tm {W a:qw}{L:List (PMod×Mb)}(h:OMp W base v L β)(t:TMx W a):OMp a base v L β:=
 ⟨h.o.kept t$ oM h.o Ja,λi x hx=>⟨ModO.keptM (h.m i x hx).1 t λe d=>oM e d,(h.m i x hx).2⟩,h.mono,h.lo,xM h.hi t.size⟩
def OI.tm {W a:qw}{zs:qi}(h:OI W base v zs)(t:TMx W a):OI a base v zs:=aX t h$ oM h.1 Ja
def uW {W:qw}{x1 x2 x3:qi}(h:cB W base v1 v2 v3 x1 x2 x3):OM W base v1 v2 v3 x1 x2 x3:=by
 obtain⟨g,i,j,a,b,f⟩:=h;exact⟨g,i,j,λk d e=>Nat.lt_irrefl k$ a k k d e,λk d e=>Nat.lt_irrefl k$ b k k d e,λk d e=>Nat.lt_irrefl k$ f k k d e⟩
section
variable {W W':qw}{base base':Nat}{v1 v2 v3:Value}{x1 x2 x3:qi}
def dX (h:cB W base v1 v2 v3 x1 x2 x3)(t:Turn S W W')(hs:∀j,uT v1 v2 v3 j->¬S j):cB W' base v1 v2 v3 x1 x2 x3:=⟨aT t h.1 λk d=>hs k$ .inl d,aT t h.2.1 λk d=>hs k$ .inr$ .inl d,aT t h.2.2.1 λk d=>hs k$ .inr$ .inr d,h.2.2.2⟩
def aJ7 (h:cB W base v1 v2 v3 x1 x2 x3)(t:TMx W W'):cB W' base v1 v2 v3 x1 x2 x3:=dX h t (λj d=>by rcases d with e|e|e;exact oM h.1.1 Ja j e;exact oM h.2.1.1 Ja j e;exact oM h.2.2.1.1 Ja j e)
end
structure Cn where
 ps:List PMod
 cs:Int
 cw:Int
 ck:Int
 cd:Int
 pc:Int
 kz:List Int
 fz:List Int
 rz:List Int
 oz:List Int
 md:Int
 bk:Int
 lz:List SlT
 hz:List FrT
 tn:Int
def Mn.cn (M:Mn):Cn:=⟨aF M.ms,M.cs,M.cw,M.ck,M.cd,M.pc,M.kz,M.fz,M.rz,M.oz,M.md,M.bk,M.lz,M.hz,M.tn⟩
def szc (P:PMod):Nat:=2+P.tz.length+(P.bl.map List.length).sum+P.dz.length+P.rz.length+P.ss.length+3*P.es.length
def mkn (C:Cn):Nat:=1+(C.ps.map szc).sum+C.kz.length+C.fz.length+C.rz.length+C.oz.length+4*C.lz.length+4*C.hz.length
def aEy {α:Type}(f:α->Nat)(z:α)(l:List α):∀k,k<=l.length->upS (λj=>f$ l.getD j z) k=((l.take k).map f).sum
 | 0,_=>by simp[upS]
 | k+1,h=>by
   rw[upS,aEy f z l k J,List.take_add_one,List.map_append,List.sum_append];congr 1;simp[xB,show k<l.length from J]
def aCj {α:Type}(f:α->Nat)(z)(l:List α):upS (λj=>f$ l.getD j z) l.length=(l.map f).sum:=by
 rw[aEy f z l _ aO,List.take_length]
structure MxO (W:qw)(base aP:Nat)(C:Cn)(M:Mn)(L:List (PMod×Mb))(β:Nat->Nat):Prop where
 m:OMp W base (qS M.ma M.mn M.mc) L β
 e:L.map (fun x=>x.1)=C.ps
 k:OI W aP (qS M.ka M.kn M.kc) C.kz
 q:cB W aP (qS M.fa M.fn M.fc) (qS M.ra M.rn M.rc) (qS M.oa M.on M.oc) C.fz C.rz C.oz
 l:OG 132 4 cM W aP (qS M.la M.ln M.lc) C.lz
 h:OG 136 4 bM W aP (qS M.ha M.hn M.hc) C.hz
 bm:base<=aP
 bh:β L.length<=aP
 vs:M.cs=C.cs/\M.cw=C.cw/\M.ck=C.ck/\M.cd=C.cd/\M.pc=C.pc/\M.md=C.md/\M.bk=C.bk/\M.tn=C.tn
 vz:M.ms=L.map mdP/\M.kz=C.kz/\M.fz=C.fz/\M.rz=C.rz/\M.oz=C.oz/\M.lz=C.lz/\M.hz=C.hz
section
variable {W W':qw}{base aP base' mid':Nat}{C:Cn}{M N:Mn}{L L':List (PMod×Mb)}{β β':Nat->Nat}
def MxO.bw (h:MxO W base aP C M L β)(d:qY W W'):MxO W' base aP C M L β:=⟨h.m.bw d,h.e,h.k.bw d,bD h.q d,h.l.bw d,h.h.bw d,h.bm,h.bh,h.vs,h.vz⟩
def MxO.turn (h:MxO W base aP C M L β)(t:Turn S W W')(hS:∀j,S j->j<base):MxO W' base aP C M L β:=
 ⟨h.m.turn t hS,h.e,aX t h.k (λk d s=>by have:=(h.k.lt k d).1;have:=hS k s;have:=h.bm;omega),dX h.q t (λj e s=>by have:=((uW h.q).lt e).1;have:=hS j s;have:=h.bm;omega),h.l.kept t (λk d s=>by have:=(h.l.lt k d).1;have:=hS k s;have:=h.bm;omega),h.h.kept t (λk d s=>by have:=(h.h.lt k d).1;have:=hS k s;have:=h.bm;omega),h.bm,h.bh,h.vs,h.vz⟩
def MxO.len (h:MxO W base aP C M L β):L.length=M.mn:=(fP h.m.o).symm
def MxO.mnd (h:MxO W base aP C M L β)(hn:M.mn<=1048576):MnD W M:=by
 have d:=h.len;let⟨a,j,e,b⟩:=h.m.msd J;simp only[Value.slice.injEq]at e;obtain⟨e1,e2,e3⟩:=e;rw[d,<-e1,<-e3]at b;let⟨v1,v2,v3,v4,f,g,i⟩:=h.vz;exact⟨by grind,v2 ▸ h.k.is,v3 ▸ h.q.1.bs,v4 ▸ h.q.2.1.bs,f ▸ h.q.2.2.1.bs,by rw[g];exact tU (λ_=>rfl) h.l,by rw[i];exact tU (λ_=>rfl) h.h⟩
def MxO.sam (h:MxO W base aP C M L β)(d:MxO W' base' mid' C N L' β'):Sam M N:=by
 have G:=h.len;have B:=d.len;let⟨s1,s2,s3,j,k,q,u,w⟩:=h.vs;let⟨F,H,K,O,Q,R,S,U⟩:=d.vs;let⟨v1,v2,v3,v4,v5,v6,v7⟩:=h.vz;let⟨f,V,X,Y,Z,u6,u7⟩:=d.vz;have s:L.map (λx=>x.1)=L'.map (λx=>x.1):=h.e.trans d.e.symm;have I:L.length=L'.length:=by have:=congrArg List.length s;simpa using this
 refine⟨⟨by grind,by grind,by grind,by grind,by grind,by grind,by grind,by grind⟩,⟨J,by rw[kD h.k,kD d.k],by rw[cS h.q.1,cS d.q.1],by rw[cS h.q.2.1,cS d.q.2.1],by rw[cS h.q.2.2.1,cS d.q.2.2.1],by rw[fP h.l,fP d.l],by rw[fP h.h,fP d.h]⟩,⟨by grind,by grind,by grind,by grind,by grind,by grind⟩,λi hi=>?_⟩;rw[v1,f];have p:i<L.length:=J
 have e:i<L'.length:=J
 have t:(L.map mdP).getD i aL=mdP L[i]:=by simp[xB,p]
 have E:(L'.map mdP).getD i aL=mdP L'[i]:=by simp[xB,e]
 rw[t,E];have A:=(h.m.m i L[i] (xN p)).1;have D:=(d.m.m i L'[i] (xN e)).1
 have e1:L[i].1=L'[i].1:=by
  have:=congrArg (λl=>l[i]?) s
  grind
 generalize L[i]=x at *;generalize L'[i]=y at *;obtain⟨P,x⟩:=x;obtain⟨g,y⟩:=y;subst e1;let⟨a,b⟩:=ModO.same A D;exact⟨rfl,rfl,rfl,a,b,rfl,rfl,rfl,rfl,rfl,rfl,rfl,rfl,rfl⟩
def MxO.mno (h:MxO W base aP C M L β):MnO W base (qS M.ma M.mn M.mc) ((L.map hdP).map λx=>x.1) (L.map hdP) β (qS M.ka M.kn M.kc) (qS M.fa M.fn M.fc) (qS M.ra M.rn M.rc) (qS M.oa M.on M.oc) (qS M.la M.ln M.lc) (qS M.ha M.hn M.hc) C.kz C.fz C.rz C.oz C.lz C.hz:=by
 have:=h.bh
 have no:∀j,aP<=j->¬ShL ((L.map hdP).map λx=>x.1) j:=λj d⟨i,hi,hs⟩=>by
  simp only[xH]at hi;have e:((L.map hdP).map λx=>x.1).getD i zHd=(hdP L[i]).1:=by simp[xB,hi]
  rw[e]at hs;have:=(h.m.m i L[i] (xN hi)).2.2 j hs;have:=h.m.mono (i+1) L.length J aO;omega
 exact⟨h.m.oms,rfl,h.k.mono h.bm,(uW h.q).mono h.bm,h.l.mono h.bm,h.h.mono h.bm,λj d=>no j (h.k.lt j d).1,λj d=>no j ((uW h.q).lt d).1,λi x hx=>xM h.m.lo$ h.m.mono 0 i (xC _) (by grind)⟩
def MxO.cnt (h:MxO W base aP C M L β):1+upS (λj=>bK$ ((L.map hdP).map λx=>x.1).getD j zHd) M.mn+M.kn+M.fn+M.rn+M.on+4*M.ln+4*M.hn=mkn C/\∀i,i<M.mn->(((L.map hdP).map λx=>x.1).getD i zHd).bn<=1048576:=by
 have:=h.len
 have e1:upS (λj=>bK$ ((L.map hdP).map λx=>x.1).getD j zHd) M.mn=(C.ps.map szc).sum:=by
  have l:M.mn=((L.map hdP).map λx=>x.1).length:=by grind
  rw[l,aCj bK zHd,<-h.e,List.map_map,List.map_map,List.map_map];congr 1;apply List.map_congr_left;intro x hx;obtain⟨i,hi,rfl⟩:=List.getElem_of_mem hx;have s:=(ModO.sum (h.m.m i L[i] (xN hi)).1).1;simp only[Function.comp,bK,hdP,szc];rw[s]
 have:=kD h.k;have:=cS h.q.1;have:=cS h.q.2.1;have:=cS h.q.2.2.1;have:=fP h.l;have:=fP h.h;refine⟨by unfold mkn;rw[e1];omega,λi hi=>?_⟩;have d:i<L.length:=J
 have e:((L.map hdP).map λx=>x.1).getD i zHd=(hdP L[i]).1:=by simp[xB,d]
 rw[e];let⟨a,R,_⟩:=h.m.m i L[i] (xN d);have s:=(ModO.sum a).2;have:=R.b.1;show L[i].2.bl.length<=_;omega
end
def RowW (w:qw)(g:Nat)(rs:List Rg):Prop:=
 (∃cur,Blk w g cur 231)/\∀i,i<rs.length->At6 w g (i*6) (rs.getD i z6)
def RowW.frozen {w:qw}(h:RowW w g rs)(i):w.frozen? (qR g i)=false:=by obtain⟨⟨b,a⟩,_⟩:=h;exact a.frozen i
def aRd {w:qw}(h:ORg w base (qS (qP g) n cap) rs)(hn:n≠0):RowW w g rs:=by
 have d:=eM h;obtain⟨_,⟨k,l⟩|⟨j,f,b,a,u,e,p,q,s,t⟩⟩:=h.1
 .grind
 .simp at a;obtain⟨rfl,_⟩:=a;exact⟨⟨b,e⟩,λi hi=>by have:=d.at i J;rw[Nat.zero_add]at this;exact this⟩
def gF {w w':qw}(t:Turn S w w')(h:ORg w base v rs)(d:∀k,v.ownBlock=some k->¬S k):ORg w' base v rs:=by
 refine⟨?_,h.2⟩;obtain⟨b,g|⟨a,e,f,rfl,q,s,i,j,l,p⟩⟩:=h.1
 .exact⟨b,.inl g⟩
 .exact⟨b,.inr ⟨a,e,f,rfl,q,aD t s$ d a rfl,i,j,l,p⟩⟩
def aJ9 {w:qw}(h:ORg w base v rs)(k)(d:v.ownBlock=some k):k<w.heap.size:=by
 obtain⟨t,⟨rfl,g⟩|⟨a,b,f,rfl,q,s,i,j,l,p⟩⟩:=h.1
 .cases d
 .have e:some a=some k:=d
  grind
def vX {w:qw}(h:ORg w base (qS a n cap) rs)(k)(d:(qS a n cap).ownBlock=some k):base<=k:=by
 obtain⟨u,⟨e,_⟩|⟨b,g,i,f,s,t,j,l,p,q⟩⟩:=h.1
 .rw[e]at d;cases d
 .rw[f]at d;have:some b=some k:=d
  grind
def aIh (A m X rs f s r x y base w)(hb:base<=w.heap.size)(h:ORg w base (qS A m X) rs)(hf:wfi f)(hs:wfi s)(hm:m<=1000000):
 qC 121 #[qS A m X,qI f,qI s,.bool r,.bool x,.bool y] w λe w'=>∃p l d,e=.returned (qS p l d)/\l=m+(cvL f s).length/\ORg w' base (qS p l d) (rs++rts r x y (cvL f s))/\Below base w w':=by
 let⟨i0,hi,a2,a3,a5⟩:=info_parts aKi;have HC:=zh$ aHl f s w (by unfold wfi at hf;omega) (by unfold wfi at hs;omega);have HL:=zh$ vD f s;have a0:=zh h;generalize cvL f s=C at *;clear h
 delta qC;go_in
 go_wp2_with fail
 apply HC.mono;rintro e w2 ⟨c,n,cc,rfl,t,U⟩;have F:=zh (eM t).1;have hn:n<=8192:=jL F.o HL.o;have R:=zh$ xA t U;have ae:=zh$ gF (aI U) a0 (λk hk h=>by exact h);clear t U;go_wp2_with fail
 go_loopw [0,15] (λo i wr=>∃(p:qO) (l d k:Nat),k<=n/\l=m+k/\o=qS p l d/\i=qI k/\ORg wr base (qS p l d) (rs++(rts r x y C).take k)/\ORg wr w.heap.size (qS c n cc) C/\(∀j,(qS p l d).ownBlock=some j->¬(qS c n cc).ownBlock=some j)/\Below base w wr) (λ_ i _=>n-(intOf i).toNat)
 .exact⟨A,m,X,0,xC _,rfl,rfl,rfl,by simpa using ae.o,R.o.1,λj O P=>jL (aJ9 a0.o j O)$ vX R.o.1 j P,R.o.2.mono hb⟩
 .obtain⟨p,l,d,k,hk,Q,rfl,rfl,D,t,hd,u⟩:=hrel;by_cases Z:k<n
  .have aq:(k:Int)<(n:Int):=J
   obtain⟨b,a6,rfl⟩:=(eM t).some J;have ab:=(eM t).at k Z
   have aa:=t.2 (C.getD k z6) (by
    have:k<C.length:=by rw[F.o];exact Z
    simp[xB,this])
   have HT:=zh (aNt r x y C k (by rw[F.o];exact Z));generalize hG:C.getD k z6=G at *;obtain⟨a,g,q,g4,g5,g6⟩:=G;have HG:=zh hG;obtain⟨p0,p1,p2,p3,p4,p5⟩:=ab;let⟨W1,H⟩:=aN$ wr.alloc$ .cells #[qI a,qI g,qI q,.bool g4,.bool g5,.bool g6] 231;have S:Blk W1 wr.heap.size #[qI a,qI g,qI q,.bool g4,.bool g5,.bool g6] 231:=by rw[H];exact Blk.new _ _ _
   have B1:qY wr W1:=by rw[H];exact bal
   have s1:W1.heap.size=wr.heap.size+1:=by rw[H];simp
   let⟨W2,K⟩:=aN$ ((W1.setCell ⟨wr.heap.size,3,none⟩$ .bool r).setCell ⟨wr.heap.size,4,none⟩$ .bool x).setCell ⟨wr.heap.size,5,none⟩$ .bool y
   have K2:Blk W2 wr.heap.size #[qI a,qI g,qI q,.bool r,.bool x,.bool y] 231:=by
    rw[K];exact((S.set 3$ .bool r).set 4$ .bool x).set 5 (.bool y)
   have B2:qY wr W2:=by rw[K];exact((B1.setCell aO _).setCell aO _).setCell aO _
   have s2:W2.heap.size=wr.heap.size+1:=by rw[K];simp[s1]
   have M:qY wr (W2.alloc$ .cells #[qI a,qI g,qI q,.bool r,.bool x,.bool y] 231):=B2.alloc (by rw[s2];omega) _
   have ai:=zh (show(W2.alloc$ .cells #[qI a,qI g,qI q,.bool r,.bool x,.bool y] 231).ownsRow base 231 6 (qS p l d) l (fI$ rs++(rts r x y C).take k)by
    have:=(gF (aI M) D λ_ _ h=>h).1
    rwa[(eM D).1]at this)
   have Y:=zh (by have:=aOm W2 (a,g,q,r,x,y);rw[s2]at this;exact this);have V:=zh Q;have a8:=zh$ aRi (a,g,q,r,x,y);have an:=zh D.2;have ar:=zh$ aJ9 D;have ah:=zh$ vX D;have ac:=zh$ gF (aI M) t λ_ _ h=>h;have am:=zh$ aJ9 t;have HD:=zh hd;have ad:=zh (eM D).1;have a9:=zh (show base<=(W2.alloc$ .cells #[qI a,qI g,qI q,.bool r,.bool x,.bool y] 231).heap.size by have:=u.size;simp;omega);have ag:=zh (show(W2.alloc$ .cells #[qI a,qI g,qI q,.bool r,.bool x,.bool y] 231).heap.size=wr.heap.size+2 by simp[s2]);have aj:Zh (Below base w$ W2.alloc$ .cells #[qI a,qI g,qI q,.bool r,.bool x,.bool y] 231):=u.trans$ M.mono$ jK u.size;have ao:=zh aa;have q1:=S.six';have u1:=K2.six';have ak:=zh H;have af:=zh K;clear H K S K2 B1 B2 M D t hd u aa hG Q;generalize a4:W2.alloc (.cells #[qI a,qI g,qI q,.bool r,.bool x,.bool y] 231)=W3 at *;have ap:=zh a4;clear a4;go_wp2_with (first|rw[<-ak.o]|rw[<-af.o]|rw[ap.o]|(at_builtin;refine wpList_append_own_at _ rfl _ _ 118 rfl base 231 i0 (.agg #[qI 0,qI 0,qI 0,.bool false,.bool false,.bool false]) 6 32 underlying118 hi a2 a3 a5 rfl Ja (qS p l d) l (fI$ rs++(rts r x y C).take k) rfl ai.o (qr wr 0) 1 1 (dT (a,g,q,r,x,y)) rfl rfl Y.o a8.o (by have:=V.o;unfold maxLen;omega) (jK V.o) a9.o ?_;intro v' w3 B I _ E;have N:=zh$ xA B$ xA I E;clear B I E;obtain⟨A2,a1,he⟩:=pW N.o.1;subst he))
   have t3:=lZ N.2.1;refine⟨⟨A2,l+1,a1,k+1,J,jK V.o,rfl,by go_num,?_,?_,?_,?_⟩,by simp[intOf];omega⟩
   .rw[HT.o,<-List.append_assoc];refine aDm (W:=W3) (v:=qS p l d) an ao ?_;rw[ad.o];exact N.1
   .exact gF t3 ac (λj hj h=>HD j h hj)
   .intro j O P;rcases N.2.2 with h|h
    .exact HD j (h ▸ O) P
    .rw[O]at h;injection h with h
     have:=am j P;have:=ag.o;omega
   .exact aG aj t3 (λj hj=>ah j hj) a9
  .have HE:=zh$ show k=n from J;have HF:=zh$ xA D u;clear D t hd u;go_wp2;go_ret;refine⟨p,l,d,rfl,by rw[Q,HE.o,F.o],?_,HF.o.2⟩;have:=HF.1
   rwa[xG (by rw[jN,HE.o,F.o];exact aO)]at this
def aOy {d:qi}{v:Int}(h:v∈d):∃k,k<d.length/\d.getD k 0=v:=by
 let⟨k,a,e⟩:=List.mem_iff_getElem.1 h;exact⟨k,a,by grind⟩
def aB8 {zs:qi}(h:k<zs.length):zs.getD k 0∈zs:=by
 simp[xB,h]
def cok (pc:Int)(n:Nat)(zs:qi):Bool:=decide (0<=pc/\pc<=4294967295/\n=8)&&zs.all λz=>decide$ 0<=z/\z<=4294967295
def aKt {d:qi}(k)(e:k<d.length)(h:¬(0<=d.getD k 0/\d.getD k 0<=4294967295)):cok pc n d=false:=by
 unfold cok;rw[Bool.and_eq_false_iff];right;rw[List.all_eq_false];refine⟨d.getD k 0,?_,by grind⟩
 grind
def aGz {d:qi}(e:0<=pc)(i:pc<=4294967295)(l:d.length=8)(h:∀j,j<8->0<=d.getD j 0/\d.getD j 0<=4294967295):cok pc 8 d=true:=by
 unfold cok;rw[Bool.and_eq_true];refine⟨by grind,?_⟩;rw[List.all_eq_true];intro z a;obtain⟨j,b,rfl⟩:=List.getElem_of_mem a;have:=h j J
 grind
def rB (pc a n q f w)(h:IS w a n q f):
 qC 63 #[.agg #[qI pc,qS a n q]] w (qB w$ .bool$ cok pc n f):=by
 have d:qY w (w.alloc$ .cells #[qI pc,qS a n q] 38):=bal;have I:=h.1;by_cases F:pc<0
 .have l:Zh (cok pc n f=false):=by show _=_;unfold cok;simp;omega
  rw[l.o]
  delta qC;go_in
  go_wp2;go_ret;exact⟨rfl,d⟩
 .by_cases c2:4294967295<pc
  .have l:Zh (cok pc n f=false):=by show _=_;unfold cok;simp;omega
   rw[l.o]
   delta qC;go_in
   go_wp2;go_ret;exact⟨rfl,d⟩
  .by_cases C:n=8
   .subst C;obtain⟨b,H,rfl⟩:=h.addr J;have G:=h.bw d;have y:=zh d;have E:(((8:Nat):Int) !=8)=false:=Jb
    delta qC;go_in
    go_wp2;go_loop [3] (λi=>∃k:Nat,k<=8/\i=qI k/\Hid (∀j,j<k->0<=f.getD j 0/\f.getD j 0<=4294967295)) (λi=>8-(intOf i).toNat)
    .exact⟨0,J,rfl,zh λj D=>J⟩
    .obtain⟨k,U,rfl,B⟩:=hrel;by_cases s:k<8
     .have A:(k:Int)<8:=J
      have hc:=G.at k s;have p:Zh (∀z,z=f.getD k 0->¬(0<=z/\z<=4294967295)->cok pc 8 f=false):=λz g u=>aKt k J (by rw[<-g];exact u)
      have t:=zh (show ∀z,z=f.getD k 0->(0<=z/\z<=4294967295)->∀j,j<k+1->0<=f.getD j 0/\f.getD j 0<=4294967295 from λz g u j D=>by
       by_cases e:j=k
       .subst e;rw[<-g];exact u
       .exact B.out j J)
      let⟨z,g⟩:=aN$ f.getD k 0;rw[<-g]at hc;have p:=zh$ p z g;have t:=zh$ t z g;clear g;by_cases Q:z<0
      .have x:=zh$ p J;go_wp2;go_ret;exact⟨aA x.symm,y⟩
      .by_cases V:4294967295<z
       .have x:=zh$ p J;go_wp2;go_ret;exact⟨aA x.symm,y⟩
       .go_wp2
        go_round
        .exact⟨k+1,J,by go_num,zh$ t J⟩
        .simp[intOf];omega
     .have e:Zh (cok pc 8 f=true):=zh$ aGz J J I λj D=>B.out j J;go_wp2;go_ret;exact⟨aA e.symm,y⟩
   .have l:Zh (cok pc n f=false):=by show _=_;unfold cok;simp;omega
    rw[l.o];have E:((n:Int) !=8)=true:=Jc
    delta qC;go_in
    go_wp2;go_ret;exact⟨rfl,d⟩
def aI7 (pc a n u f w)(h:IS w a n u f):
 qC 142 #[.agg #[qI pc,qS a n u]] w (qB w$ .bool$ cok pc n f):=by
 have l:qY w (w.alloc$ .cells #[qI pc,qS a n u] 38):=bal;have U:=h.1;by_cases H:pc<0
 .have s:Zh (cok pc n f=false):=by show _=_;unfold cok;simp;omega
  rw[s.o];have d:=zh λw=>cO pc w;rw[xS J]at d
  delta qC;go_in
  go_wp2_with (go_at_call 183;refine(d.o _).mono ?_;rintro e q ⟨rfl,rfl⟩)
  go_ret;exact⟨rfl,l⟩
 .by_cases c2:4294967295<pc
  .have s:Zh (cok pc n f=false):=by show _=_;unfold cok;simp;omega
   rw[s.o];have d:=zh λw=>cO pc w;rw[xS J]at d
   delta qC;go_in
   go_wp2_with (go_at_call 183;refine(d.o _).mono ?_;rintro e q ⟨rfl,rfl⟩)
   go_ret;exact⟨rfl,l⟩
  .by_cases F:n=8
   .subst F;obtain⟨b,K,rfl⟩:=h.addr J;have Q:=h.bw l;have B:=zh l;have I:(((8:Nat):Int) !=8)=false:=Jb
    have d:=zh λw=>cO pc w;rw[xR J]at d
    delta qC;go_in
    go_wp2_with (go_at_call 183;refine(d.o _).mono ?_;rintro e q ⟨rfl,rfl⟩)
    go_loop [18] (λi=>∃k:Nat,k<=8/\i=qI k/\Hid (∀j,j<k->0<=f.getD j 0/\f.getD j 0<=4294967295)) (λi=>8-(intOf i).toNat)
    .exact⟨0,J,rfl,zh λj G=>J⟩
    .obtain⟨k,Y,rfl,E⟩:=hrel;by_cases x:k<8
     .have D:(k:Int)<8:=J
      have hc:=Q.at k x;have t:Zh (∀z,z=f.getD k 0->¬(0<=z/\z<=4294967295)->cok pc 8 f=false):=λz g C=>aKt k J (by rw[<-g];exact C)
      have y:=zh (show ∀z,z=f.getD k 0->(0<=z/\z<=4294967295)->∀j,j<k+1->0<=f.getD j 0/\f.getD j 0<=4294967295 from λz g C j G=>by
       by_cases e:j=k
       .subst e;rw[<-g];exact C
       .exact E.out j J)
      let⟨z,g⟩:=aN$ f.getD k 0;rw[<-g]at hc;have t:=zh$ t z g;have y:=zh$ y z g;clear g;by_cases V:z<0
      .have A:=zh$ t J;have p:=zh λw=>cO z w;rw[xS J]at p;go_wp2_with (go_at_call 183;refine(p.o _).mono ?_;rintro e q ⟨rfl,rfl⟩)
       go_ret;exact⟨aA A.symm,B⟩
      .by_cases Z:4294967295<z
       .have A:=zh$ t J;have p:=zh λw=>cO z w;rw[xS J]at p;go_wp2_with (go_at_call 183;refine(p.o _).mono ?_;rintro e q ⟨rfl,rfl⟩)
        go_ret;exact⟨aA A.symm,B⟩
       .have p:=zh λw=>cO z w;rw[xR J]at p;go_wp2_with (go_at_call 183;refine(p.o _).mono ?_;rintro e q ⟨rfl,rfl⟩)
        go_round
        .exact⟨k+1,J,by go_num,zh$ y J⟩
        .simp[intOf];omega
     .have e:Zh (cok pc 8 f=true):=zh$ aGz J J U λj G=>E.out j J;go_wp2;go_ret;exact⟨aA e.symm,B⟩
   .have s:Zh (cok pc n f=false):=by show _=_;unfold cok;simp;omega
    rw[s.o];have I:((n:Int) !=8)=true:=Jc
    have d:=zh λw=>cO pc w;rw[xR J]at d
    delta qC;go_in
    go_wp2_with (go_at_call 183;refine(d.o _).mono ?_;rintro e q ⟨rfl,rfl⟩)
    go_ret;exact⟨rfl,l⟩
def aDf (w:qw)(g o:Nat)(r x y:Bool):World:=((w.setCell (qR g$ o+3)$ .bool r).setCell (qR g$ o+4)$ .bool x).setCell (qR g$ o+5)$ .bool y
def dG (w g o b o' r x y)(h:b≠g\/o'<o+3\/o+6<=o':=by omega):(aDf w g o r x y).cell? (qR b o')=w.cell? (qR b o'):=by
 unfold aDf;rw[dI,dI,dI]
def aQ5 {w:qw}(h:At6 w g o q)(r x y):At6 (aDf w g o r x y) g o (rgt r x y q):=by
 obtain⟨a,b,d,e,f,i⟩:=h;refine⟨?_,?_,?_,?_,?_,?_⟩
 .rw[dG _ _ _ _ _ _ _ _];exact a
 .rw[dG _ _ _ _ _ _ _ _];exact b
 .rw[dG _ _ _ _ _ _ _ _];exact d
 .unfold aDf;rw[dI,dI];exact tL e
 .unfold aDf;rw[dI];exact tL (by rw[dI];exact f)
 .unfold aDf;exact tL (by rw[dI,dI];exact i)
def aFl {w:qw}{d:Nat}(h:At6 w b d q)(r x y)(e:b≠g\/d+6<=o\/o+6<=d):At6 (aDf w g o r x y) b d q:=by
 unfold At6;rw[dG _ _ _ _ _ _ _ _,dG _ _ _ _ _ _ _ _,dG _ _ _ _ _ _ _ _,dG _ _ _ _ _ _ _ _,dG _ _ _ _ _ _ _ _,dG _ _ _ _ _ _ _ _];exact h
def wK (r x y:Bool)(C:List Rg)(k:Nat):List Rg:=(rts r x y C).take k++C.drop k
def wJ (r x y C k)(h:k<=C.length):(wK r x y C k).length=C.length:=by
 simp[wK,jN];omega
theorem aKe (r x y C k i)(h:k<=C.length)(hi:i<C.length):(wK r x y C k).getD i z6=if i<k then rgt r x y (C.getD i z6) else C.getD i z6:=by
 unfold wK;by_cases c:i<k
 .rw[if_pos c,xB,List.getElem?_append_left (by simp[jN];omega)];simp[rts,c,hi,xB]
 .rw[if_neg c,xB,List.getElem?_append_right (by grind)];simp only[List.length_take,jN,List.getElem?_drop]
  grind
def aNx {w:qw}{r x y:Bool}{C:List Rg}(e:k<C.length)(h:RowW w g (wK r x y C k)):RowW (aDf w g (k*6) r x y) g (wK r x y C$ k+1):=by
 obtain⟨⟨b,hc⟩,a⟩:=h;refine⟨⟨_,((hc.set _ _).set _ _).set _ _⟩,λi hi=>?_⟩;rw[wJ _ _ _ _ _ J]at hi;have d:=a i (by rw[wJ _ _ _ _ _ J];exact hi);rw[aKe _ _ _ _ _ _ J hi]at d;rw[aKe _ _ _ _ _ _ J hi];by_cases c:i=k
 .subst c;rw[if_neg J]at d;rw[if_pos J];exact aQ5 d r x y
 .by_cases c2:i<k
  .rw[if_pos c2]at d;rw[if_pos J];exact aFl d r x y J
  .rw[if_neg c2]at d;rw[if_neg J];exact aFl d r x y J
def aFi (f s r x y w)(hf:wfi f)(hs:wfi s):
 qC 268 #[.agg #[qI f,qI s,.bool r,.bool x,.bool y]] w λe w'=>∃A n cap,e=.returned (qS A n cap)/\RS w' A n cap (rts r x y$ cvL f s)/\(A=none->n=0/\cap=0)/\qY w w':=by
 obtain⟨W,b⟩:=aN$ w.alloc$ .cells #[qI f,qI s,.bool r,.bool x,.bool y] 252;have t:=zh (show qY w W by rw[b];exact bal);have F:Blk W w.heap.size #[qI f,qI s,.bool r,.bool x,.bool y] 252:=by rw[b];exact Blk.new w _ _
 have sW:W.heap.size=w.heap.size+1:=by rw[b];simp
 have d0:=F.e0;have d1:=F.e1;have HK:=zh F;have X:=zh$ aIu f s W (by unfold wfi at hf;omega);have HL:=zh$ vD f s;generalize cvL f s=C at *;have HW:=zh b;clear b F;go_enter func268,ntmps268
 go_wp2_with (rw[<-HW.o])
 apply X.o.mono;rintro e w2 ⟨c,n,cc,rfl,U,E⟩;have D:=zh (eM U).1;have hn:n<=8192:=jL D.o HL.o;have Y:=zh$ xA U E;by_cases R:n=0
 .subst R;clear U E;go_wp2_with fail
  go_loopw [16] (λi wr=>i=qI 0/\wr=w2) (λ_ _=>0)
  .exact⟨rfl,rfl⟩
  .obtain⟨rfl,rfl⟩:=hrel;go_wp2;go_ret;have e0:C=[]:=xE D.o;refine⟨_,_,_,rfl,?_,λhc=>?_,t.o.trans$ Y.o.2.mono t.o.size⟩;rotate_left
   .obtain⟨u,⟨d,_⟩|⟨K,B,Z,j,_⟩⟩:=Y.o.1.1
    .injection d with _ d h2;exact⟨rfl,h2⟩
    .injection j with d;rw[hc]at d;cases d
   have:=eM Y.o.1;rw[e0]at this⊢;exact this
 .have I:n≠0:=R
  obtain⟨g,ha⟩:∃g,c=some ⟨g,0,none⟩:=by
   obtain⟨u,⟨d,_⟩|⟨K,B,Z,j,_⟩⟩:=U.1
   .injection d with _ d;exact absurd d I
   .injection j with d;exact⟨K,d⟩
  subst ha;have HR:=zh$ aRd U I
  have Q:W.heap.size<=g:=by
   obtain⟨u,⟨d,_⟩|⟨K,B,Z,j,hg,_⟩⟩:=U.1
   .injection d with _ d;exact absurd d I
   .injection j with d;injection d with d;injection d with d;omega
  clear U E;go_wp2_with fail
  go_loopw [16] (λi wr=>∃k:Nat,k<=n/\i=qI k/\RowW wr g (wK r x y C k)/\qY W wr) (qf n)
  .exact⟨0,xC _,rfl,by simpa[wK]using HR.o,Y.o.2⟩
  .obtain⟨k,hk,rfl,V,a⟩:=hrel;by_cases P:k<n
   .have a9:(k:Int)<(n:Int):=J
    obtain⟨p0,p1,p2,p3,p4,p5⟩:=V.2 k (by rw[wJ _ _ _ _ _ (by rw[D.o];omega),D.o];exact P);have l:=V.frozen;have H:=HK.o.bw a;have e2:=H.e2;have e3:=H.e3;have e4:=H.e4;have HS:=zh (aNx (by rw[D.o];exact P) V);have a8:Zh (qY W$ (aDf wr g (k*6) r x y).drew):=(((a.setCell (p:=(qR g$ k*6+3)) Q _).setCell (p:=(qR g$ k*6+4)) Q _).setCell (p:=(qR g$ k*6+5)) Q _).drew;clear V a H;generalize (wK r x y C k).getD k z6=G at *;obtain⟨g1,g2,g3,g4,g5,g6⟩:=G;have ab:¬g=w.heap.size:=J
    have aa:¬w.heap.size=g:=J
    have f3:=l$ k*6+3;have f4:=l$ k*6+4;have f5:=l$ k*6+5;clear l;go_wp2
    go_region_with (fail)
    all_goals
     go_wp2
     go_roundw
     .exact⟨k+1,J,by go_num,HS.o,a8.o⟩
     .simp[qf,intOf];omega
   .have M:=zh$ show k=n from J;have N:=zh$ xA V a;clear V a;go_wp2;go_ret;refine⟨_,_,_,rfl,?_,(λhc=>by cases hc),t.o.trans$ N.o.2.mono t.o.size⟩;have O:=N.o.1
    have e0:wK r x y C k=rts r x y C:=by
     have u:=jN r x y C;have:=D.o;unfold wK;rw[List.drop_eq_nil_of_le (by rw[M.o,this];exact aO),List.append_nil,xG (by rw[u,this,M.o];exact aO)]
    rw[e0]at O;refine⟨by rw[jN];exact D.o,Jf,?_,λ_=>⟨g,0,rfl,λi hi=>by have:=O.2 i (by rw[jN,D.o];exact hi);rw[Nat.zero_add];exact this⟩,(eM Y.o.1).2.2.2.2⟩;intro q S;simp only[rts,List.mem_map]at S;obtain⟨p,hp,rfl⟩:=S;exact Y.o.1.2 p hp
