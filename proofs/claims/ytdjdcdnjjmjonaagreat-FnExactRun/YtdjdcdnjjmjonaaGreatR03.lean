import Derived.Maps.OwnSet
import Derived.Test.YtdjdcdnjjmjonaaGreatR02
set_option linter.all false
set_option maxHeartbeats 1000000
namespace Go.Proofs.YtdjdcdnjjmjonaaGreat
open Go.RowKit
set_option maxRecDepth 100000
variable {base cap g go k n:Nat}{bx cs:Array Value}{row:Option Nat}{v v1 v2 v3:Value}
theorem aPn (v:Int):((v.tmod 4294967296)+4294967296).tmod 4294967296=v%4294967296:=by grind
def aJh (v w)(f:-9223372036854775808<=v/\v<=9223372036854775807):
 qC 166 #[qI v,qI 4294967296] w λe w'=>e=.returned (qI$ v%4294967296)/\w=w':=by
 have b:-4294967296<v.tmod 4294967296:=Int.lt_tmod_of_pos v J;have a:v.tmod 4294967296<4294967296:=Int.tmod_lt_of_pos v J;have d:=zh$ aPn v
 delta qC;go_in
 go_wp2;go_ret;exact⟨aJ (by have:=d.o;rwa[xL J]at this),rfl⟩
def dQ (v w)(a:-9223372036854775808<=v/\v<=9223372036854775807):
 qC 116 #[qI v] w λe w'=>e=.returned (qI$ v%4294967296)/\w=w':=by
 delta qC;go_in
 go_wp2_with fail
 apply(aJh v _ a).mono;rintro e b ⟨rfl,rfl⟩;go_wp2;go_ret;exact⟨rfl,rfl⟩
def bt (v:Int)(j:Nat):Int:=v/(256:Int)^j%256
def aD6 (w:qw)(g k:Nat)(v:Int):Nat->World
 | 0=>w
 | j+1=>(aD6 w g k v j).setCell (qR g$ k+j)$ .int .u8$ bt v j
def put (zs:qi)(k:Nat)(v:Int):Nat->List Int
 | 0=>zs
 | j+1=>(put zs k v j).set (k+j)$ bt v j
def gR (v j):0<=bt v j/\bt v j<=255:=by unfold bt;omega
def aTj (v j):v/(256:Int)^j/256=v/(256:Int)^(j+1):=by
 rw[Int.pow_succ,Int.ediv_ediv_of_nonneg$ Int.le_of_lt$ Int.pow_pos J]
def qQ (a:qi)(k:Nat)(v:Int):∀j,(put a k v j).length=a.length
 | 0=>rfl
 | j+1=>by rw[put,List.length_set,qQ a k v j]
def Room (w:qw)(g n:Nat):Prop:=∃cur,Blk w g cur 5/\n<=cur.size
def Room.cell {w:qw}(h:Room w g n)(i)(hi:i<n):∃u,w.cell? (qR g i)=some u:=by
 obtain⟨a,b,d⟩:=h;rw[b.cell];exact⟨a[i],Jb⟩
def Room.frozen {w:qw}(h:Room w g n)(i):w.frozen? (qR g i)=false:=by
 obtain⟨b,a,d⟩:=h;exact a.frozen i
theorem Room.set {w:qw}(h:Room w g n)(i u):Room (w.setCell (qR g i) u) g n:=by
 obtain⟨b,a,d⟩:=h;exact⟨_,a.set i u,by grind⟩
def Room.put {w:qw}{g n:Nat}(h:Room w g n)(k:Nat)(v:Int):∀j,Room (aD6 w g k v j) g n
 | 0=>h
 | j+1=>(Room.put h k v j).set (k+j) _
def tC (g n A k:Nat)(s v w)(h:Room w g n)(hn:n<=16384)(y:1<=s)(hs:s<=4)(H:(k:Int)+s<=n)(b:0<=v)(E:v<=4294967295):
 qC 115 #[qS (qP g) n A,qI k,qI s,qI v] w λe D=>e=.returned (.tuple #[])/\D=aD6 w g k v s.toNat:=by
 delta qC;go_in
 go_wp2;go_loopw [3,8] (λx i wr=>∃j:Nat,(j:Int)<=s/\i=qI j/\x=qI (v/(256:Int)^j)/\wr=aD6 w g k v j) (λ_ i _=>s.toNat-(intOf i).toNat)
 .exact⟨0,J,rfl,Jb,rfl⟩
 .obtain⟨j,I,rfl,rfl,rfl⟩:=hrel;by_cases C:(j:Int)<s
  .have d:=h.put k v j;let⟨u,hu⟩:=d.cell (k+j) J;have:=d.frozen$ k+j;have l:0<(256:Int)^j:=Int.pow_pos J;have:0<=v/(256:Int)^j:=Int.ediv_nonneg b J;have:v/(256:Int)^j<=v:=Int.ediv_le_self _ b;have p:=zh$ aTj v j;have f:aD6 w g k v (j+1)=(aD6 w g k v j).setCell (qR g$ k+j) (.int .u8$ v/(256:Int)^j%256):=rfl;have t:=zh f;clear f d l;generalize aD6 w g k v j=W at *;generalize v/(256:Int)^j=q at *;go_wp2
   go_roundw
   .exact⟨j+1,J,by go_num,by rw[p.o],t.o.symm⟩
   .simp[intOf];omega
  .have a:s.toNat=j:=J
   have B:=zh a;clear a;generalize v/(256:Int)^j=q at *;go_wp2
   go_end0
   exact⟨rfl,by rw[B.o]⟩
def aKv (w:qw)(g k:Nat)(v:Int):World:=
 (((w.setCell (qR g$ k+3)$ .int .u8$ bt v 3).setCell (qR g$ k+2)$ .int .u8$ bt v 2).setCell (qR g$ k+1)$ .int .u8$ bt v 1).setCell (qR g k) (.int .u8$ bt v 0)
def aKw (w:qw)(g k:Nat)(v:Int):World:=(w.setCell (qR g$ k+1)$ .int .u8$ bt v 1).setCell (qR g k)$ .int .u8$ bt v 0
def aKx (w:qw)(g k:Nat)(v:Int):World:=w.setCell (qR g k)$ .int .u8$ bt v 0
def bt0 (v):bt v 0=v%256:=by unfold bt;simp
def bt1 (v):bt v 1=v/256%256:=by unfold bt;simp
def bt2 (v):bt v 2=v/65536%256:=by unfold bt;rw[show(256:Int)^2=65536 from rfl]
def bt3 (v):bt v 3=v/16777216%256:=by unfold bt;rw[show(256:Int)^3=16777216 from rfl]
def pC (g n b k v w)(h:Room w g (k+4))(hn:4<=n)(a:-9223372036854775808<=v/\v<=9223372036854775807):
 qC 296 #[qS (some$ qR g k) n b,qI 4,qI v] w λe d=>e=.returned (.tuple #[])/\d=aKv w g k v:=by
 let⟨p,f⟩:=h.cell k J;let⟨q,j⟩:=h.cell (k+1) J;let⟨s,c2⟩:=h.cell (k+2) J;let⟨t,l⟩:=h.cell (k+3) J;have:∀i,w.frozen? (qR g i)=false:=h.frozen;unfold aKv;rw[bt3,bt2,bt1,bt0]
 delta qC;go_in
 go_wp2
 go_end0
 exact⟨rfl,rfl⟩
def aIj (g n b k v w)(h:Room w g (k+2))(hn:2<=n)(a:-9223372036854775808<=v/\v<=9223372036854775807):
 qC 296 #[qS (some$ qR g k) n b,qI 2,qI v] w λe d=>e=.returned (.tuple #[])/\d=aKw w g k v:=by
 let⟨l,f⟩:=h.cell k J;let⟨p,j⟩:=h.cell (k+1) J;have:∀i,w.frozen? (qR g i)=false:=h.frozen;unfold aKw;rw[bt1,bt0]
 delta qC;go_in
 go_wp2
 go_end0
 exact⟨rfl,rfl⟩
def aIk (g n b k v w)(h:Room w g (k+1))(hn:1<=n)(a:-9223372036854775808<=v/\v<=9223372036854775807):
 qC 296 #[qS (some$ qR g k) n b,qI 1,qI v] w λe d=>e=.returned (.tuple #[])/\d=aKx w g k v:=by
 let⟨j,f⟩:=h.cell k J;have:∀i,w.frozen? (qR g i)=false:=h.frozen;unfold aKx;rw[bt0]
 delta qC;go_in
 go_wp2
 go_end0
 exact⟨rfl,rfl⟩
def aTi (v):bt (v%4294967296) 0=bt v 0/\bt (v%4294967296) 1=bt v 1/\bt (v%4294967296) 2=bt v 2/\bt (v%4294967296) 3=bt v 3:=by
 rw[bt0,bt1,bt2,bt3,bt0,bt1,bt2,bt3];omega
def aMg (a k v):put a k v 4=(((a.set (k+3)$ bt v 3).set (k+2)$ bt v 2).set (k+1)$ bt v 1).set k (bt v 0):=by
 simp only[put,Nat.add_zero];rw[List.set_comm _ _$ show k≠k+1 from J,List.set_comm _ _$ show k≠k+2 from J,List.set_comm _ _$ show k≠k+3 from J];congr 1;rw[List.set_comm _ _$ show k+1≠k+2 from J,List.set_comm _ _$ show k+1≠k+3 from J];congr 1;rw[List.set_comm _ _$ show k+2≠k+3 from J]
def aMh (a k v):put a k v 2=(a.set (k+1)$ bt v 1).set k (bt v 0):=by
 simp only[put,Nat.add_zero];rw[List.set_comm _ _$ show k≠k+1 from J]
theorem lP {w:qw}{a:qi}(h:OB w base (qS (qP g) n cap) a)(i)(hi:i<n)(z)(hz:0<=z/\z<=255):OB (w.setCell (qR g i)$ .int .u8 z) base (qS (qP g) n cap) (a.set i z):=by
 obtain⟨⟨u,q|⟨p,l,d,b,j,k,s,e,t,f⟩⟩,x⟩:=h
 .grind
 .simp at b;obtain⟨rfl,rfl,rfl⟩:=b;refine⟨⟨Jb,.inr ⟨g,cap,d.setIfInBounds i$ .int .u8 z,Jb,j,Blk.set (w:=w) k i _,by grind,e,by grind,?_⟩⟩,?_⟩
  .rw[List.length_set,xW,List.take_set,f,List.map_set]
  .grind
def aEl {w:qw}{base g n b:Nat}{a:qi}(h:OB w base (qS (qP g) n b) a)(k:Nat)(v:Int):∀j,k+j<=n->OB (aD6 w g k v j) base (qS (qP g) n b) (put a k v j)
 | 0,_=>h
 | j+1,hj=>lP (aEl h k v j J) (k+j) J _$ gR v j
def wW {w:qw}{a:qi}(h:OB w base (qS (qP g) n cap) a)(k v)(b:k+4<=n:=by omega):OB (aKv w g k v) base (qS (qP g) n cap) (put a k v 4):=by
 rw[aMg];exact lP (lP (lP (lP h (k+3) J _$ gR v 3) (k+2) J _$ gR v 2) (k+1) J _$ gR v 1) k J _$ gR v 0
def aPe {w:qw}{a:qi}(h:OB w base (qS (qP g) n cap) a)(k v)(b:k+2<=n):OB (aKw w g k v) base (qS (qP g) n cap) (put a k v 2):=by
 rw[aMh];exact lP (lP h (k+1) J _$ gR v 1) k J _$ gR v 0
def aPf {w:qw}{a:qi}(h:OB w base (qS (qP g) n cap) a)(k v)(b:k+1<=n):OB (aKx w g k v) base (qS (qP g) n cap) (put a k v 1):=
 lP h k J _ (gR v 0)
theorem nU {w:qw}{a:qi}(h:OB w base (qS (qP g) n cap) a):Room w g n:=by
 obtain⟨⟨t,j|⟨i,f,d,b,s,e,k,l,p,q⟩⟩,u⟩:=h
 .grind
 .simp at b;obtain⟨rfl,rfl,rfl⟩:=b;exact⟨d,e,J⟩
def fF (g:Nat)(w w':qw):Prop:=w'.heap.size=w.heap.size/\(∀k,k≠g->w'.heap[k]?=w.heap[k]?)/\w'.os=w.os/\w'.tape=w.tape/\w'.output=w.output
def fV (g w):fF g w w:=⟨rfl,λ_ _=>rfl,rfl,rfl,rfl⟩
def gN {w w':qw}(h:fF g w w')(i u):fF g w (w'.setCell (qR g i) u):=
 ⟨by rw[aL];exact h.1,λk a=>by rw[heap_setCell_other _ _ _ _ a];exact h.2.1 k a,h.2.2.1,h.2.2.2.1,h.2.2.2.2⟩
def rA (g k:Nat)(v:Int)(w:qw):∀j,fF g w$ aD6 w g k v j
 | 0=>fV g w
 | j+1=>gN (rA g k v w j) (k+j) _
def pH (g k v w):fF g w (aKv w g k v):=gN (gN (gN (gN (fV g w) _ _) _ _) _ _) _ _
def aIo (g k v w):fF g w (aKw w g k v):=gN (gN (fV g w) _ _) _ _
def aIp (g k v w):fF g w (aKx w g k v):=gN (fV g w) _ _
def dA {B:Nat}{a w w':qw}(h:Below B a w)(b:fF g w w')(e:B<=g):Below B a w':=
 ⟨b.2.2.1.trans h.os,b.2.2.2.1.trans h.tape,b.2.2.2.2.trans h.output,b.1 ▸ h.size,λk d=>(b.2.1 k J).trans$ h.block k d⟩
def bP {w w':qw}{t:TypeId}(b:fF g w w')(h:Blk w k cs t)(a:k≠g):Blk w' k cs t:=by
 unfold Blk at *;rw[b.2.1 k a];exact h
def nS {w w':qw}{zs:qi}(b:fF g w w')(h:OB w base v zs)(a:v.ownBlock≠some g):OB w' base v zs:=by
 refine⟨?_,h.2⟩;obtain⟨d,k|⟨j,f,i,rfl,t,u,l,p,q,s⟩⟩:=h.1
 .exact⟨d,.inl k⟩
 .refine⟨d,.inr ⟨j,f,i,rfl,t,?_,l,p,q,s⟩⟩;exact bP b u (by intro e;subst e;exact a rfl)
def aO1 (a k v):put a k (v%4294967296) 4=put a k v 4/\put a k (v%4294967296) 2=put a k v 2/\put a k (v%4294967296) 1=put a k v 1:=by
 let⟨e0,e1,e2,e3⟩:=aTi v;simp only[put,e0,e1,e2,e3,and_self]
def aY {w w':qw}{x1 x2 x3:qi}(h:cB w base v1 v2 v3 x1 x2 x3)(a:qY w w'):cB w' base v1 v2 v3 x1 x2 x3:=
 ⟨h.1.bw a,h.2.1.bw a,h.2.2.1.bw a,h.2.2.2⟩
def fU {w:qw}{x1 x2 x3:qi}(h:cB w base v1 v2 v3 x1 x2 x3)(o):cB (w.alloc o) base v1 v2 v3 x1 x2 x3:=
 aY h (brf.alloc aQ o)
def fS {w:qw}{x1 x2 x3:qi}(h:cB w base v1 v2 v3 x1 x2 x3)(a u)(ha:a.block<base):cB (w.setCell a u) base v1 v2 v3 x1 x2 x3:=
 ⟨h.1.other a u ha,h.2.1.other a u ha,h.2.2.1.other a u ha,h.2.2.2⟩
def fT {w:qw}{base':Nat}{x1 x2 x3:qi}(h:cB w base v1 v2 v3 x1 x2 x3)(a:base'<=base):cB w base' v1 v2 v3 x1 x2 x3:=
 ⟨h.1.mono a,h.2.1.mono a,h.2.2.1.mono a,h.2.2.2⟩
def sO {w:qw}{g:Nat}{zs:qi}(h:OB w base v zs)(a u)(ha:v.ownBlock≠some a.block):OB (w.setCell a u) base v zs:=by
 refine⟨?_,h.2⟩;obtain⟨b,j|⟨i,d,f,rfl,s,t,k,l,p,q⟩⟩:=h.1
 .exact⟨b,.inl j⟩
 .exact⟨b,.inr ⟨i,d,f,rfl,s,Blk.other (w:=w) t a u (by intro e;apply ha;rw[<-e];rfl),k,l,p,q⟩⟩
def bL {w w':qw}{t:TypeId}(b:w.grownBy w' row)(h:Blk w k cs t)(a:some k≠row):Blk w' k cs t:=by
 have:=b.block k h.lt a;unfold Blk at *;rw[this];exact h
def rQ {w w':qw}{zs:qi}(b:w.grownBy w' row)(h:OB w base v zs)(a:v.ownBlock=none\/v.ownBlock≠row):OB w' base v zs:=
 ⟨h.1.kept b a,h.2⟩
def wrm (n1 n2 n3:Nat)(x1 x2 x3:qi)(p s v:Int):List Int×List Int×List Int×Int:=
 if mok n1 n2 n3=true/\wd s=true then
  if (p.tmod s !=0)=true then (x1,x2,x3,1)
  else if p=131072 then (if 5000<=n3 then (x1,x2,x3,4) else (x1,x2,x3++[v%256],0))
   else if ins p s 0 n1=true then (x1,x2,x3,3)
   else if ins p s 65536 n2=true then (x1,put x2 (p-65536).toNat v s.toNat,x3,0) else (x1,x2,x3,2)
 else (x1,x2,x3,2)
def aV1 (w:qw)(r:List Int×List Int×List Int×Int)(e:Ending)(w':qw):Prop:=
 ∃a1 m1 d1 a2 m2 d2 a3 m3 d3,e=.returned (.tuple #[.agg$ qV a1 m1 d1 a2 m2 d2 a3 m3 d3,qI r.2.2.2])/\cB w' w.heap.size (qS a1 m1 d1) (qS a2 m2 d2) (qS a3 m3 d3) r.1 r.2.1 r.2.2.1/\qY w w'
structure Hold (w W:qw)(base go:Nat)(bx:Array Value)(v1 v2 v3:Value)(x1 x2 x3:qi):Prop where
 bw:qY w W
 big:w.heap.size+2<=base
 gobig:base<=go
 box:Blk W w.heap.size bx 39
 res:Blk W (w.heap.size+1) (qV none 0 0 none 0 0 none 0 0) 39
 out:Blk W go #[v1,v2,v3] 39
 own:cB W base v1 v2 v3 x1 x2 x3
 far:∀v,v=v1\/v=v2\/v=v3->v.ownBlock≠some go
def Hold.step {w W b:qw}{x1 x2 x3:qi}(h:Hold w W base go bx v1 v2 v3 x1 x2 x3)(a:qY W b):Hold w b base go bx v1 v2 v3 x1 x2 x3:=
 ⟨yT h.bw a,h.big,h.gobig,h.box.bw a,h.res.bw a,h.out.bw a,aY h.own a,h.far⟩
def aWp (W:qw)(g:Nat)(v1 v2 v3:Value):World:=((W.setCell (qR g 0) v1).setCell (qR g 1) v2).setCell (qR g 2) v3
theorem Hold.done {w W:qw}{x1 x2 x3:qi}(h:Hold w W base go bx v1 v2 v3 x1 x2 x3):
 cB (aWp W (w.heap.size+1) v1 v2 v3) w.heap.size v1 v2 v3 x1 x2 x3/\qY w (aWp W (w.heap.size+1) v1 v2 v3):=by
 have:=h.big
 exact⟨fT (fS (fS (fS h.own _ _ (by grind)) _ _ (by grind)) _ _ (by grind)) J,
  ((h.bw.setCell (by grind) _).setCell (by grind) _).setCell (by grind) _⟩
def aP {S:Nat->Prop}{w w':qw}{zs:qi}(b:Turn S w w')(h:OB w base v zs)(a:∀k,v.ownBlock=some k->¬S k):OB w' base v zs:=by
 refine⟨?_,h.2⟩;obtain⟨e,i|⟨d,f,g,rfl,s,t,j,l,p,q⟩⟩:=h.1
 .exact⟨e,.inl i⟩
 .exact⟨e,.inr ⟨d,f,g,rfl,s,aC b t$ a d rfl,j,l,p,q⟩⟩
def rlk (rz:qi)(dn:Nat)(k:Nat):Bool:=decide$ 0<=rz.getD k 0/\rz.getD k 0%4=0/\rz.getD k 0<=(dn:Int)-4/\(k=0\/rz.getD (k-1) 0<rz.getD k 0)
def rlo (rn:Nat)(rz:qi)(dn:Nat):Bool:=decide (rn<=16)&&(List.range rn).all (rlk rz dn)
theorem lL (f:Nat->Bool)(n k)(a:k<n)(h:f k=false):(List.range n).all f=false:=by grind
theorem kK (f:Nat->Bool)(n)(h:∀j,j<n->f j=true):(List.range n).all f=true:=by grind
theorem aWd (z:Int):(z.tmod 4 !=0)=decide (z%4≠0):=by grind
def aDg (s b i w):
 qC 177 #[.agg #[.string s,qI b,qI i]] w (qB w$ .agg #[.string s,qI b,qI i]):=by
 delta qC;go_in
 go_wp2;refine bodyPost_ret (v:=.agg #[.string s,qI b,qI i]) (by simp[results,Tryz.results177,go_sem]) rfl ⟨rfl,?_⟩;exact((bal.alloc Jb _).alloc Jc _)
def aBy (s b i w):
 qC 240 #[.agg #[.string s,qI b,qI i],.agg #[.string s,qI b,qI i]] w (qB w$ .bool true):=by
 have a:qY w ((w.alloc$ .cells #[.string s,qI b,qI i] 209).alloc$ .cells #[.string s,qI b,qI i] 209):=bal.alloc Jb _;have d:=zh a
 delta qC;go_in
 go_wp2;go_ret;exact⟨rfl,by first|exact d|exact below_drewN d _⟩
end Go.Proofs.YtdjdcdnjjmjonaaGreat
namespace Go.Proofs.YtdjdcdnjjmjonaaGreat
open Go Go.Maps Go.WideShapes
def fd (f:Nat->List UInt8):Nat->DataW Unit
 | 0=>.map []
 | k+1=>if has (fd f k) (.string$ f k) then fd f k else (fd f k).put (.string$ f k) (.lit$ .int .i64 k)
def lY (f:Nat->List UInt8)(k):fd f (k+1)=if has (fd f k) (.string$ f k) then fd f k else (fd f k).put (.string$ f k) (.lit$ .int .i64 k):=rfl
def aEw (s):WideAt.IsKeyLit (.string s):=by simp[WideAt.IsKeyLit]
def oA (f:Nat->List UInt8):∀k,Tidy$ fd f k
 | 0=>tidy_empty
 | k+1=>by
   rw[lY];split
   .exact oA f k
   .exact(oA f k).put (aEw _) _
def aE5 (f:Nat->List UInt8)(s):∀k,has (fd f k) (.string s)=(List.range k).any (λj=>f j==s)
 | 0=>rfl
 | k+1=>by
   rw[List.range_succ,List.any_append,<-aE5 f s k];rw[lY];by_cases e:f k=s
   .subst e;split
    .rename_i h;rw[h];rfl
    .rw[has_put_same (oA f k).isMap$ aEw _];simp
   .have a:(Lit.string s)≠.string (f k):=by intro h;injection h with h;exact e h.symm
    split
    .simp[e]
    .rw[has_put_other a];simp[e]
def pP (f:Nat->List UInt8):∀k,size (fd f k)<=k
 | 0=>aQ
 | k+1=>by
   have:=pP f k;rw[lY];split
   .omega
   .rename_i h;rw[size_put$ oA f k,if_neg h];omega
theorem aE4 (f:Nat->List UInt8):∀k,decide (size (fd f k)=k)=(List.range k).all (λi=>(List.range i).all λj=>!(f j==f i))
 | 0=>rfl
 | k+1=>by
   have:=pP f k;rw[List.range_succ,List.all_append,<-aE4 f k];have:=aE5 f (f k) k;have e:(List.range k).all (λj=>!(f j==f k))=!(has (fd f k)$ .string$ f k):=by grind
   simp only[List.all_cons,List.all_nil,Bool.and_true,e];rw[lY];cases a:has (fd f k) (.string$ f k)
   .rw[if_neg Jb,size_put$ oA f k,a,if_neg Jb];simp
   .grind
def fst? (f:Nat->List UInt8) (s:List UInt8):Nat->Option Nat
 | 0=>none
 | k+1=>match fst? f s k with|some j=>some j|none=>if f k=s then some k else none
def gP (f:Nat->List UInt8)(s:List UInt8)(k:Nat):fst? f s (k+1)=match fst? f s k with|some j=>some j|none=>if f k=s then some k else none:=rfl
theorem rU (f:Nat->List UInt8)(s:List UInt8):∀k,(fst? f s k).isSome=has (fd f k) (.string s)
 | 0=>rfl
 | k+1=>by
   rw[aE5,List.range_succ,List.any_append,<-aE5,<-rU f s k];rw[gP]
   grind
theorem aQr (f:Nat->List UInt8)(s:List UInt8)(z:DataW Unit):∀k,(fd f k).atKey (.string s) z=match fst? f s k with|some j=>.lit (.int .i64 j)|none=>z
 | 0=>rfl
 | k+1=>by
   have a:=aQr f s z k;have d:=rU f s k;rw[gP,lY];by_cases e:f k=s
   .subst e;cases b:fst? f (f k) k with
    | some j=>rw[b]at d a;simp only[Option.isSome_some]at d;rw[if_pos d.symm];simpa using a
    | none=>rw[b]at d;simp only[Option.isSome_none]at d;rw[if_neg (by grind),atKey_put_same (oA f k).isMap$ aEw _];simp
   .have i:(Lit.string s)≠.string (f k):=by intro h;injection h with h;exact e h.symm
    split<;>(cases b:fst? f s k with
     | some j=>rw[b]at a;simpa[atKey_put_other i]using a
     | none=>rw[b]at a;simpa[atKey_put_other i,e]using a)
open Go.RowKit
def cQ (k n:Nat):List Int:=(List.range n).map λi=>((k+i:Nat):Int)%256
def mY (zs:qi)(k m:Nat):List Int:=(List.range zs.length).map λi=>if i<m then ((k+i:Nat):Int)%256 else zs.getD i 0
def aIy (zs k):mY zs k 0=zs:=by
 apply List.ext_getElem
 .simp[mY]
 .intro i b a;simp[mY,a]
def aMs (d k):mY d k d.length=cQ k d.length:=by
 apply List.ext_getElem
 .simp[mY,cQ]
 .intro i b a;simp[cQ]at a;simp[mY,cQ,a]
theorem aMr (d k m)(h:m<d.length):(mY d k m).set m (((k+m:Nat):Int)%256)=mY d k (m+1):=by
 apply List.ext_getElem
 .simp[mY]
 .intro i a b;simp only[mY,List.getElem_set,List.getElem_map,List.getElem_range]
  grind
def yQ (g n y base B)(k:Nat)(w)(h:OB w base (qS (qP g) n y) B)(hn:n<=5000000)(E:k<=20000000):
 qC 56 #[qS (qP g) n y,qI k] w λe w'=>e=.returned (qI ((k+n:Nat):Int))/\OB w' base (qS (qP g) n y) (cQ k n)/\Turn (λj=>j=g) w w':=by
 have l:=h.bs.1
 delta qC;go_in
 go_wp2;go_loopw [1,5] (λx i wr=>∃m:Nat,m<=n/\i=qI m/\x=qI ((k+m:Nat):Int)/\OB wr base (qS (qP g) n y) (mY B k m)/\Turn (λj=>j=g) w wr) (λ_ i _=>n-(intOf i).toNat)
 .exact⟨0,xC _,rfl,rfl,by rw[aIy];exact h,Turn.refl _ _⟩
 .obtain⟨m,C,rfl,rfl,b,t⟩:=hrel;by_cases d:m<n
  .have p:(m:Int)<(n:Int):=J
   let⟨u,hu⟩:=(nU b).cell m d;have:=(nU b).frozen m;have a:=lP b m d (((k+m:Nat):Int)%256) J;rw[aMr B k m J]at a
   have f:Turn (λj=>j=g) w (wr.setCell (qR g m)$ .int .u8$ ((k+m:Nat):Int)%256):=
    t.trans ⟨rfl,rfl,rfl,by rw[aL];exact aQ,λj G hs=>heap_setCell_other _ _ _ _ hs⟩
   have q:=zh a;have s:=zh f;obtain⟨K,D⟩:∃K:Int,K=((k+m:Nat):Int):=⟨_,rfl⟩;have:0<=K:=J
   have:K<=67108864:=J
   have A:=zh$ show K+1=((k+(m+1):Nat):Int)from J;rw[<-D]at q s⊢;clear D;go_wp2
   go_roundw
   .exact⟨m+1,J,by go_num,by rw[A.o],q.o,s.o⟩
   .simp[intOf];omega
  .have e:Zh (m=n):=by show m=n;omega
   go_wp2;go_ret;exact⟨aJ (by rw[e.o]),by rw[e.o,<-l,aMs]at b;rw[l]at b;exact b,t⟩
def yP (a)(b k:Nat)(w):
 qC 56 #[qS a 0 b,qI k] w λe w'=>e=.returned (qI k)/\w=w':=by
 delta qC;go_in
 go_wp2;go_loop [1,5] (λx i=>i=qI 0/\x=qI k) (λ_ _=>0)
 .exact⟨rfl,rfl⟩
 .obtain⟨rfl,rfl⟩:=hrel;go_wp2;go_ret;exact⟨rfl,rfl⟩
theorem eH (a n l base p)(k:Nat)(w)(h:OB w base (qS a n l) p)(hn:n<=5000000:=by omega)(d:k<=20000000:=by omega):
 qC 56 #[qS a n l,qI k] w λe w'=>e=.returned (qI ((k+n:Nat):Int))/\OB w' base (qS a n l) (cQ k n)/\Turn (λj=>(qS a n l).ownBlock=some j) w w':=by
 by_cases i:n=0
 .subst i;refine(yP a l k w).mono λe w' b=>?_;obtain⟨rfl,rfl⟩:=b;have q:p=[]:=xE h.bs.1;subst q;exact⟨rfl,h,Turn.refl _ _⟩
 .obtain⟨g,rfl⟩:∃g,a=some ⟨g,0,none⟩:=by
   obtain⟨x,⟨u,_⟩|⟨g,s,t,y,_⟩⟩:=h.1
   .grind
   .grind
  refine(yQ g n l base p k w h hn d).mono λe w' b=>⟨b.1,b.2.1,b.2.2.mono ?_⟩;intro j f;subst f;rfl
def aI6 (k n m)(h:m<n):(cQ k n).getD m 0=((k+m:Nat):Int)%256:=by simp[cQ,xB,h]
def eJ (a n g k w)(h:BS w a n g (cQ k n))(hn:n<=5000000:=by omega)(s:k<=20000000:=by omega):
 qC 57 #[qS a n g,qI k] w λe w'=>e=.returned (qI ((k+n:Nat):Int))/\w=w':=by
 delta qC;go_in
 go_wp2;go_loop [1,5] (λx i=>∃m:Nat,m<=n/\i=qI m/\x=qI ((k+m:Nat):Int)) (λ_ i=>n-(intOf i).toNat)
 .exact⟨0,xC _,rfl,rfl⟩
 .obtain⟨m,q,rfl,rfl⟩:=hrel;by_cases d:m<n
  .have f:(m:Int)<(n:Int):=J
   obtain⟨b,off,rfl⟩:=h.some J;have hc:=h.at m d;rw[aI6 k n m d]at hc;obtain⟨K,j⟩:∃K:Int,K=((k+m:Nat):Int):=⟨_,rfl⟩;have:0<=K:=J
   have:K<=67108864:=J
   have l:=zh$ show K+1=((k+(m+1):Nat):Int)from J;rw[<-j]at hc⊢;clear j;go_wp2
   go_round
   .exact⟨m+1,J,by go_num,by rw[l.o]⟩
   .simp[intOf];omega
  .have e:Zh (m=n):=by show m=n;omega
   go_wp2;go_ret;exact⟨aJ (by rw[e.o]),rfl⟩
def vG (v1 v2 v3:Value)(j:Nat):Prop:=v1.ownBlock=some j\/v2.ownBlock=some j\/v3.ownBlock=some j
