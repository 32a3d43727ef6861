import Derived.Test.YtdjdcdnjjmjonaaGreatR02
set_option linter.all false
set_option maxHeartbeats 4000000
namespace Go.Proofs.YtdjdcdnjjmjonaaGreat
open Go.RowKit
set_option maxRecDepth 100000
variable {a:qO}{b base cap g n off:Nat}{c d v x y:Value}
theorem IS.at {w:qw}{f:qi}(h:IS w (Option.some$ qR b off) n cap f)(i)(hi:i<n):w.cell? (qR b$ off+i)=Option.some (qI$ f.getD i 0):=by
 let⟨a,d,e,hd⟩:=h.2.2.2.1 J
 grind
theorem IS.addr {w:qw}{f:qi}(h:IS w a n cap f)(hn:n≠0):∃b off,a=some (qR b off):=by
 let⟨b,off,e,_⟩:=h.2.2.2.1 hn
 grind
def OI (w:qw)(base:Nat)(v:Value)(zs:qi):Prop:=w.ownsRow base 3 1 v zs.length (zs.map$ Value.int .i64)/\∀z∈zs,wfi z
theorem aS4 {w:qw}{f:qi}(h:IS w (some$ qR b off) n cap f):∀j u,(f.map$ Value.int .i64)[j]?=some u->w.cell? (((qR b off):Addr).add j)=some u:=by
 intro j u k;have:=h.1
 have e:j<n:=by
  grind
 rw[cE,h.at j e]
 grind
def OI.bw {w w':qw}{zs:qi}(h:OI w base v zs)(e:qY w w'):OI w' base v zs:=by
 refine⟨?_,h.2⟩;obtain⟨a,f|⟨g,b,d,s,p,q,i,j,k,l⟩⟩:=h.1
 .exact⟨a,.inl f⟩
 .refine⟨a,.inr ⟨g,b,d,s,p,?_,i,j,k,l⟩⟩;exact Blk.bw (w:=w) q e
def OI.mono {w:qw}{base':Nat}{zs:qi}(h:OI w base v zs)(e:base'<=base):OI w base' v zs:=by
 refine⟨?_,h.2⟩;obtain⟨a,f|⟨g,b,d,q,s,p,i,j,k,l⟩⟩:=h.1
 .exact⟨a,.inl f⟩
 .exact⟨a,.inr ⟨g,b,d,q,J,p,i,j,k,l⟩⟩
def OI.other {w:qw}{zs:qi}(h:OI w base v zs)(a u)(ha:a.block<base):OI (w.setCell a u) base v zs:=by
 refine⟨?_,h.2⟩;obtain⟨b,f|⟨g,d,e,s,p,q,i,j,k,l⟩⟩:=h.1
 .exact⟨b,.inl f⟩
 .exact⟨b,.inr ⟨g,d,e,s,p,Blk.other (w:=w) q a u J,i,j,k,l⟩⟩
def OI.lt {w:qw}{e:qi}(h:OI w base v e):∀k,v.ownBlock=some k->base<=k/\k<w.heap.size:=h.1.lt
theorem OI.is {w:qw}{zs:qi}(h:OI w base (qS a n cap) zs):IS w a n cap zs:=by
 obtain⟨x,⟨b,j⟩|⟨g,p,f,e,u,l,k,q,s,t⟩⟩:=h.1
 .simp at b;obtain⟨rfl,rfl,rfl⟩:=b;exact⟨j,xC _,h.2,λd=>absurd rfl d,aQ⟩
 .simp at e;obtain⟨rfl,rfl,rfl⟩:=e;refine⟨rfl,J,h.2,λd=>⟨g,0,rfl,λi hi=>?_⟩,k⟩;rw[Nat.zero_add,Blk.cell (w:=w) l]
  have:f.toList[i]?=(zs.map$ Value.int .i64)[i]?:=by
   grind
  grind
def RoomI (w:qw)(g n:Nat):Prop:=∃cur,Blk w g cur 3/\n<=cur.size
def RoomI.cell {w:qw}(h:RoomI w g n)(i)(hi:i<n):∃u,w.cell? (qR g i)=some u:=by
 obtain⟨a,b,d⟩:=h;rw[b.cell];exact⟨a[i],Jb⟩
def RoomI.frozen {w:qw}(h:RoomI w g n)(i):w.frozen? (qR g i)=false:=by
 obtain⟨b,a,d⟩:=h;exact a.frozen i
theorem aPc {w:qw}{e:qi}(h:OI w base (qS (qP g) n cap) e)(i)(hi:i<n)(z)(hz:wfi z):OI (w.setCell (qR g i)$ qI z) base (qS (qP g) n cap) (e.set i z):=by
 obtain⟨⟨u,q|⟨p,l,b,a,j,k,s,d,t,f⟩⟩,x⟩:=h
 .grind
 .simp at a;obtain⟨rfl,rfl,rfl⟩:=a;refine⟨⟨Jb,.inr ⟨g,cap,b.setIfInBounds i$ qI z,Jb,j,Blk.set (w:=w) k i _,by grind,d,by grind,?_⟩⟩,?_⟩
  .rw[List.length_set,xW,List.take_set,f,List.map_set]
  .grind
theorem aK2 {w:qw}{e:qi}(h:OI w base (qS (qP g) n cap) e):RoomI w g n:=by
 obtain⟨⟨t,j|⟨i,f,b,a,s,d,k,l,p,q⟩⟩,u⟩:=h
 .grind
 .simp at a;obtain⟨rfl,rfl,rfl⟩:=a;exact⟨b,d,J⟩
def aV {S:Nat->Prop}{w w':qw}{zs:qi}(f:Turn S w w')(h:OI w base v zs)(e:∀k,v.ownBlock=some k->¬S k):OI w' base v zs:=by
 refine⟨?_,h.2⟩;obtain⟨b,i|⟨a,d,g,rfl,s,t,j,l,p,q⟩⟩:=h.1
 .exact⟨b,.inl i⟩
 .exact⟨b,.inr ⟨a,d,g,rfl,s,aC f t$ e a rfl,j,l,p,q⟩⟩
def bY (k n:Nat):List Int:=(List.range n).map λi=>((k+i:Nat):Int)
def iW (zs:qi)(k m:Nat):List Int:=(List.range zs.length).map λi=>if i<m then ((k+i:Nat):Int) else zs.getD i 0
def aGu (zs k):iW zs k 0=zs:=by
 apply List.ext_getElem
 .simp[iW]
 .intro i f e;simp[iW,e]
def aI5 (a k):iW a k a.length=bY k a.length:=by
 apply List.ext_getElem
 .simp[iW,bY]
 .intro i f e;simp[bY]at e;simp[iW,bY,e]
theorem aI4 (a k m)(h:m<a.length):(iW a k m).set m (((k+m:Nat):Int))=iW a k (m+1):=by
 apply List.ext_getElem
 .simp[iW]
 .intro i e f;simp only[iW,List.getElem_set,List.getElem_map,List.getElem_range]
  grind
def aBg (g n a base b)(k:Nat)(w)(h:OI w base (qS (qP g) n a) b)(hn:n<=5000000)(M:k<=20000000):
 qC 98 #[qS (qP g) n a,qI k] w λe w'=>e=.returned (qI ((k+n:Nat):Int))/\OI w' base (qS (qP g) n a) (bY k n)/\Turn (λj=>j=g) w w':=by
 have s:=h.is.1
 delta qC;go_in
 go_wp2;go_loopw [1,5] (λx i wr=>∃m:Nat,m<=n/\i=qI m/\x=qI ((k+m:Nat):Int)/\OI wr base (qS (qP g) n a) (iW b k m)/\Turn (λj=>j=g) w wr) (λ_ i _=>n-(intOf i).toNat)
 .exact⟨0,xC _,rfl,rfl,by rw[aGu];exact h,Turn.refl _ _⟩
 .obtain⟨m,H,rfl,rfl,l,C⟩:=hrel;by_cases p:m<n
  .have t:(m:Int)<(n:Int):=J
   let⟨u,hu⟩:=(aK2 l).cell m p;have:=(aK2 l).frozen m;have f:=aPc l m p (((k+m:Nat):Int)) Jh;rw[aI4 b k m J]at f
   have q:Turn (λj=>j=g) w (wr.setCell (qR g m)$ qI$ ((k+m:Nat):Int)):=
    C.trans ⟨rfl,rfl,rfl,by rw[aL];exact aQ,λj N hs=>heap_setCell_other _ _ _ _ hs⟩
   have A:=zh f;have B:=zh q;obtain⟨K,d⟩:∃K:Int,K=((k+m:Nat):Int):=⟨_,rfl⟩;have:0<=K:=J
   have:K<=67108864:=J
   have E:=zh$ show K+1=((k+(m+1):Nat):Int)from J;rw[<-d]at A B⊢;clear d;go_wp2
   go_roundw
   .exact⟨m+1,J,by go_num,by rw[E.o],A.o,B.o⟩
   .simp[intOf];omega
  .have e:Zh (m=n):=by show m=n;omega
   go_wp2;go_ret;exact⟨aJ (by rw[e.o]),by rw[e.o,<-s,aI5]at l;rw[s]at l;exact l,C⟩
def aBf (a)(b k:Nat)(w):
 qC 98 #[qS a 0 b,qI k] w λe w'=>e=.returned (qI k)/\w=w':=by
 delta qC;go_in
 go_wp2;go_loop [1,5] (λx i=>i=qI 0/\x=qI k) (λ_ _=>0)
 .exact⟨rfl,rfl⟩
 .obtain⟨rfl,rfl⟩:=hrel;go_wp2;go_ret;exact⟨rfl,rfl⟩
theorem iA (a n b base d)(k:Nat)(w)(h:OI w base (qS a n b) d)(hn:n<=5000000:=by omega)(i:k<=20000000:=by omega):
 qC 98 #[qS a n b,qI k] w λe w'=>e=.returned (qI ((k+n:Nat):Int))/\OI w' base (qS a n b) (bY k n)/\Turn (λj=>(qS a n b).ownBlock=some j) w w':=by
 by_cases p:n=0
 .subst p;refine(aBf a b k w).mono λe w' f=>?_;obtain⟨rfl,rfl⟩:=f;have q:d=[]:=xE h.is.1;subst q;exact⟨rfl,h,Turn.refl _ _⟩
 .obtain⟨g,rfl⟩:∃g,a=some ⟨g,0,none⟩:=by
   obtain⟨x,⟨u,_⟩|⟨g,s,t,y,_⟩⟩:=h.1
   .grind
   .grind
  refine(aBg g n b base d k w h hn i).mono λe w' f=>⟨f.1,f.2.1,f.2.2.mono ?_⟩;intro j l;subst l;rfl
def aGy (k n m)(h:m<n):(bY k n).getD m 0=((k+m:Nat):Int):=by simp[bY,xB,h]
def iJ (a n d k w)(h:IS w a n d (bY k n))(hn:n<=5000000:=by omega)(t:k<=20000000:=by omega):
 qC 102 #[qS a n d,qI k] w λe w'=>e=.returned (qI ((k+n:Nat):Int))/\w=w':=by
 delta qC;go_in
 go_wp2;go_loop [1,5] (λx i=>∃m:Nat,m<=n/\i=qI m/\x=qI ((k+m:Nat):Int)) (λ_ i=>n-(intOf i).toNat)
 .exact⟨0,xC _,rfl,rfl⟩
 .obtain⟨m,s,rfl,rfl⟩:=hrel;by_cases f:m<n
  .have j:(m:Int)<(n:Int):=J
   obtain⟨b,off,rfl⟩:=h.addr J;have hc:=h.at m f;rw[aGy k n m f]at hc;obtain⟨K,g⟩:∃K:Int,K=((k+m:Nat):Int):=⟨_,rfl⟩;have:0<=K:=J
   have:K<=67108864:=J
   have p:=zh$ show K+1=((k+(m+1):Nat):Int)from J;rw[<-g]at hc⊢;clear g;go_wp2
   go_round
   .exact⟨m+1,J,by go_num,by rw[p.o]⟩
   .simp[intOf];omega
  .have e:Zh (m=n):=by show m=n;omega
   go_wp2;go_ret;exact⟨aJ (by rw[e.o]),rfl⟩
def bM (n)(e:0<=n)(f:n<2^62):IntKind.i64.wrap n=n:=by
 rw[IntKind.wrap_i64];omega
theorem aEm (a):a &&& 983040=(a/65536%16)*65536:=by
 apply Nat.eq_of_testBit_eq;intro i;have e1:(983040:Nat)=(2^4-1)*2^16:=Ja
 have e2:(a/65536%16)*65536=(a/2^16%2^4)*2^16:=by rfl
 rw[e2,e1,Nat.testBit_and,Nat.testBit_mul_two_pow,Nat.testBit_mul_two_pow,Nat.testBit_mod_two_pow,Nat.testBit_div_two_pow,Nat.testBit_two_pow_sub_one]
 grind
def aH1 (x)(e:0<=x)(f:x<=4294967295):bits .and .i64 x 983040=(x/65536%16)*65536:=by
 obtain⟨a,rfl⟩:=xV e;have:=(bits_nat .i64 62 Ja bM a 983040 J J).1;rw[show(983040:Int)=((983040:Nat):Int)from rfl,this,aEm];simp
def aUj (x)(e:0<=x)(f:x<=4294967295):bits .and .i64 x 7=x%8:=bits_mask .i64 62 Ja bM 3 Ja x e J
def aTq (x)(e:0<=x)(f:x<=4294967295):bits .and .i64 x 65535=x%65536:=bits_mask .i64 62 Ja bM 16 Ja x e J
def cL (v w):
 qC 183 #[qI v] w λe w'=>e=.returned (.bool$ decide$ 0<=v/\v<=4294967295)/\w=w':=by
 delta qC;go_in
 go_wp2
 all_goals
  go_ret;refine⟨aA ?_,rfl⟩;rw[xJ];simp;try omega
def cM (v m w):
 qC 141 #[qI v,qI m] w λe w'=>e=.returned (.bool$ decide$ 0<=v/\v<=m)/\w=w':=by
 delta qC;go_in
 go_wp2
 all_goals
  go_ret;refine⟨aA ?_,rfl⟩;rw[xJ];simp;try omega
def Blk.four' {w:qw}{a b:Value}{t:TypeId}(h:Blk w g #[a,b,c,d] t):
 w.cell? (qR g 0)=some a/\w.cell? (qR g 1)=some b/\w.cell? (qR g 2)=some c/\w.cell? (qR g 3)=some d/\∀i,w.frozen? (qR g i)=false:=
 ⟨by rw[h.cell];rfl,by rw[h.cell];rfl,by rw[h.cell];rfl,by rw[h.cell];rfl,λi=>h.frozen i⟩
def nX {e:qw}{z u:Value}(hz:Blk e g #[x,y,z,u] 186)(o d a i):
 Blk ((((e.setCell (qR g 0)$ qI o).setCell (qR g 1)$ qI d).setCell (qR g 2)$ qI a).setCell (qR g 3)$ qI i) g (qW o d a i) 186:=
 Blk.set (Blk.set (Blk.set (Blk.set hz 0 _) 1 _) 2 _) 3 _
def kZ {B:Nat}{w f:qw}(e:B<=g)(h:Below B w f)(o d a i):
 Below B w ((((f.setCell (qR g 0)$ qI o).setCell (qR g 1)$ qI d).setCell (qR g 2)$ qI a).setCell (qR g 3)$ qI i):=
 (((h.setCell e _).setCell e _).setCell e _).setCell e _
def gL (w:qw)(o d a i:Int)(b:Bool)(e:Ending)(w':qw):Prop:=e=.returned (.tuple #[.agg$ qW o d a i,.bool b])/\qY w w'
def aT (w W tmps o d a i b)(j:tmps[2]?=some (.pointer$ qP w.heap.size))(e:tmps[3]?=some (.bool b))
 (hz:Blk W w.heap.size (qW o d a i) 186) (f:qY w W):
 bodyPost Tryz.prog Tryz.f301 (gL w o d a i b) Exit.ret ⟨tmps,[]⟩ W:=by
 refine bodyPost_ret (v:=.tuple #[.agg$ qW o d a i,.bool b]) ?_ rfl ⟨rfl,f⟩;let⟨g,k,l,p,q⟩:=hz.four';simp[results,Tryz.results301,go_sem,j,e,g,k,l,p]
def aE0 (op w)(h:op<=0\/26<=op):
 qC 301 #[qI op] w (gL w 0 0 0 0 false):=by
 have i:=zh$ Blk.new w (qW 0 0 0 0) 186;have u:=zh$ (Below.refl w.heap.size w).alloc aQ$ .cells (qW 0 0 0 0) 186;have:(op==1)=false:=Jc
 have:(op==2)=false:=Jc
 have:(op==3)=false:=Jc
 have:(op==4)=false:=Jc
 have:(op==5)=false:=Jc
 have:(op==6)=false:=Jc
 have:(op==7)=false:=Jc
 have:(op==8)=false:=Jc
 have:(op==9)=false:=Jc
 have:(op==10)=false:=Jc
 have:(op==11)=false:=Jc
 have:(op==12)=false:=Jc
 have:(op==13)=false:=Jc
 have:(op==14)=false:=Jc
 have:(op==15)=false:=Jc
 have:(op==16)=false:=Jc
 have:(op==17)=false:=Jc
 have:(op==18)=false:=Jc
 have:(op==19)=false:=Jc
 have:(op==20)=false:=Jc
 have:(op==21)=false:=Jc
 have:(op==22)=false:=Jc
 have:(op==23)=false:=Jc
 have:(op==24)=false:=Jc
 have:(op==25)=false:=Jc
 clear h
 delta qC;go_in
 go_wp2;exact aT w _ _ 0 0 0 0 false rfl rfl i u
def aHe (op w)(h:1<=op)(e:op<=25):
 qC 301 #[qI op] w (gL w op (mD$ us op) (mA$ us op) (mI$ us op) true):=by
 rcases wR op with h|h|rfl|rfl|rfl|rfl|rfl|rfl|rfl|rfl|rfl|rfl|rfl|rfl|rfl|rfl|rfl|rfl|rfl|rfl|rfl|rfl|rfl|rfl|rfl|rfl|rfl
 .omega
 .omega
 .clear h e;rw[show us 1=0 from Ja,show mD 0=0 from Ja,show mA 0=0 from Ja,show mI 0=0 from Ja]
  delta qC;go_in
  go_wp2;exact aT w _ _ 1 0 0 0 true rfl rfl (Blk.new w _ _) bal
 .clear h e;rw[show us 2=5 from Ja,show mD 5=7 from Ja,show mA 5=0 from Ja,show mI 5=65535 from Ja]
  delta qC;go_in
  go_wp2;exact aT w _ _ 2 7 0 65535 true rfl rfl (Blk.new w _ _) bal
 .clear h e;rw[show us 3=5 from Ja,show mD 5=7 from Ja,show mA 5=0 from Ja,show mI 5=65535 from Ja]
  delta qC;go_in
  go_wp2;exact aT w _ _ 3 7 0 65535 true rfl rfl (Blk.new w _ _) bal
 .clear h e;rw[show us 4=3 from Ja,show mD 3=7 from Ja,show mA 3=7 from Ja,show mI 3=0 from Ja]
  delta qC;go_in
  go_wp2;exact aT w _ _ 4 7 7 0 true rfl rfl (Blk.new w _ _) bal
 .clear h e;rw[show us 5=3 from Ja,show mD 3=7 from Ja,show mA 3=7 from Ja,show mI 3=0 from Ja]
  delta qC;go_in
  go_wp2;exact aT w _ _ 5 7 7 0 true rfl rfl (Blk.new w _ _) bal
 .clear h e;rw[show us 6=7 from Ja,show mD 7=7 from Ja,show mA 7=7 from Ja,show mI 7=65535 from Ja]
  delta qC;go_in
  go_wp2;exact aT w _ _ 6 7 7 65535 true rfl rfl (Blk.new w _ _) bal
 .clear h e;rw[show us 7=3 from Ja,show mD 3=7 from Ja,show mA 3=7 from Ja,show mI 3=0 from Ja]
  delta qC;go_in
  go_wp2;exact aT w _ _ 7 7 7 0 true rfl rfl (Blk.new w _ _) bal
 .clear h e;rw[show us 8=3 from Ja,show mD 3=7 from Ja,show mA 3=7 from Ja,show mI 3=0 from Ja]
  delta qC;go_in
  go_wp2;exact aT w _ _ 8 7 7 0 true rfl rfl (Blk.new w _ _) bal
 .clear h e;rw[show us 9=3 from Ja,show mD 3=7 from Ja,show mA 3=7 from Ja,show mI 3=0 from Ja]
  delta qC;go_in
  go_wp2;exact aT w _ _ 9 7 7 0 true rfl rfl (Blk.new w _ _) bal
 .clear h e;rw[show us 10=3 from Ja,show mD 3=7 from Ja,show mA 3=7 from Ja,show mI 3=0 from Ja]
  delta qC;go_in
  go_wp2;exact aT w _ _ 10 7 7 0 true rfl rfl (Blk.new w _ _) bal
 .clear h e;rw[show us 11=3 from Ja,show mD 3=7 from Ja,show mA 3=7 from Ja,show mI 3=0 from Ja]
  delta qC;go_in
  go_wp2;exact aT w _ _ 11 7 7 0 true rfl rfl (Blk.new w _ _) bal
 .clear h e;rw[show us 12=3 from Ja,show mD 3=7 from Ja,show mA 3=7 from Ja,show mI 3=0 from Ja]
  delta qC;go_in
  go_wp2;exact aT w _ _ 12 7 7 0 true rfl rfl (Blk.new w _ _) bal
 .clear h e;rw[show us 13=3 from Ja,show mD 3=7 from Ja,show mA 3=7 from Ja,show mI 3=0 from Ja]
  delta qC;go_in
  go_wp2;exact aT w _ _ 13 7 7 0 true rfl rfl (Blk.new w _ _) bal
 .clear h e;rw[show us 14=7 from Ja,show mD 7=7 from Ja,show mA 7=7 from Ja,show mI 7=65535 from Ja]
  delta qC;go_in
  go_wp2;exact aT w _ _ 14 7 7 65535 true rfl rfl (Blk.new w _ _) bal
 .clear h e;rw[show us 15=7 from Ja,show mD 7=7 from Ja,show mA 7=7 from Ja,show mI 7=65535 from Ja]
  delta qC;go_in
  go_wp2;exact aT w _ _ 15 7 7 65535 true rfl rfl (Blk.new w _ _) bal
 .clear h e;rw[show us 16=7 from Ja,show mD 7=7 from Ja,show mA 7=7 from Ja,show mI 7=65535 from Ja]
  delta qC;go_in
  go_wp2;exact aT w _ _ 16 7 7 65535 true rfl rfl (Blk.new w _ _) bal
 .clear h e;rw[show us 17=7 from Ja,show mD 7=7 from Ja,show mA 7=7 from Ja,show mI 7=65535 from Ja]
  delta qC;go_in
  go_wp2;exact aT w _ _ 17 7 7 65535 true rfl rfl (Blk.new w _ _) bal
 .clear h e;rw[show us 18=7 from Ja,show mD 7=7 from Ja,show mA 7=7 from Ja,show mI 7=65535 from Ja]
  delta qC;go_in
  go_wp2;exact aT w _ _ 18 7 7 65535 true rfl rfl (Blk.new w _ _) bal
 .clear h e;rw[show us 19=7 from Ja,show mD 7=7 from Ja,show mA 7=7 from Ja,show mI 7=65535 from Ja]
  delta qC;go_in
  go_wp2;exact aT w _ _ 19 7 7 65535 true rfl rfl (Blk.new w _ _) bal
 .clear h e;rw[show us 20=4 from Ja,show mD 4=0 from Ja,show mA 4=0 from Ja,show mI 4=65535 from Ja]
  delta qC;go_in
  go_wp2;exact aT w _ _ 20 0 0 65535 true rfl rfl (Blk.new w _ _) bal
 .clear h e;rw[show us 21=5 from Ja,show mD 5=7 from Ja,show mA 5=0 from Ja,show mI 5=65535 from Ja]
  delta qC;go_in
  go_wp2;exact aT w _ _ 21 7 0 65535 true rfl rfl (Blk.new w _ _) bal
 .clear h e;rw[show us 22=5 from Ja,show mD 5=7 from Ja,show mA 5=0 from Ja,show mI 5=65535 from Ja]
  delta qC;go_in
  go_wp2;exact aT w _ _ 22 7 0 65535 true rfl rfl (Blk.new w _ _) bal
 .clear h e;rw[show us 23=4 from Ja,show mD 4=0 from Ja,show mA 4=0 from Ja,show mI 4=65535 from Ja]
  delta qC;go_in
  go_wp2;exact aT w _ _ 23 0 0 65535 true rfl rfl (Blk.new w _ _) bal
 .clear h e;rw[show us 24=4 from Ja,show mD 4=0 from Ja,show mA 4=0 from Ja,show mI 4=65535 from Ja]
  delta qC;go_in
  go_wp2;exact aT w _ _ 24 0 0 65535 true rfl rfl (Blk.new w _ _) bal
 .clear h e;rw[show us 25=0 from Ja,show mD 0=0 from Ja,show mA 0=0 from Ja,show mI 0=0 from Ja]
  delta qC;go_in
  go_wp2;exact aT w _ _ 25 0 0 0 true rfl rfl (Blk.new w _ _) bal
def wds (zs:qi):Bool:=zs.all λz=>decide$ 0<=z/\z<=4294967295
theorem aKj (a k)(e:k<a.length)(h:¬(0<=a.getD k 0/\a.getD k 0<=4294967295)):wds a=false:=by
 unfold wds;rw[List.all_eq_false];refine⟨a[k],List.getElem_mem _,?_⟩
 grind
theorem aFp (a)(h:∀j,j<a.length->0<=a.getD j 0/\a.getD j 0<=4294967295):wds a=true:=by
 unfold wds;rw[List.all_eq_true];intro z b;obtain⟨i,hi,rfl⟩:=List.getElem_of_mem b
 grind
def uF (a n g d w)(h:IS w a n g d):
 qC 283 #[qS a n g] w λe w'=>e=.returned (.bool$ wds d)/\w=w':=by
 have:=h.1;have l:=h.2.1;unfold maxLen at l
 delta qC;go_in
 go_wp2_with fail
 go_loop [3] (λi=>∃k:Nat,k<=n/\i=qI k/\Hid (∀j,j<k->0<=d.getD j 0/\d.getD j 0<=4294967295)) (λi=>n-(intOf i).toNat)
 .exact⟨0,xC _,rfl,zh λj s=>J⟩
 .obtain⟨k,D,rfl,t⟩:=hrel;by_cases f:k<n
  .have p:(k:Int)<(n:Int):=J
   obtain⟨b,off,rfl⟩:=h.addr J;have:=h.at k f;have q:=zh$ aKj d k J
   have A:=zh (show 0<=d.getD k 0/\d.getD k 0<=4294967295->∀j,j<k+1->0<=d.getD j 0/\d.getD j 0<=4294967295 from λh j s=>by
    by_cases e:j=k
    .subst e;exact h
    .exact t.out j J)
   generalize d.getD k 0=z at *;by_cases u:z<0
   .go_wp2;go_ret;exact⟨aA (q J).symm,rfl⟩
   .by_cases c2:4294967295<z
    .go_wp2;go_ret;exact⟨aA (q J).symm,rfl⟩
    .go_wp2
     go_round
     .exact⟨k+1,J,by go_num,zh$ A J⟩
     .simp[intOf];omega
  .have B:=zh$ aFp d λj s=>t.out j J;go_wp2;go_ret;exact⟨aA B.symm,rfl⟩
def sC (a n x d w)(h:IS w a n x d):
 qC 305 #[qS a n x] w λe w'=>e=.returned (.bool$ wds d)/\w=w':=by
 have:=h.1;have p:=h.2.1;unfold maxLen at p;have q:=zh λv w=>cL v w
 delta qC;go_in
 go_wp2_with fail
 go_loop [7] (λi=>∃k:Nat,k<=n/\i=qI k/\Hid (∀j,j<k->0<=d.getD j 0/\d.getD j 0<=4294967295)) (λi=>n-(intOf i).toNat)
 .exact⟨0,xC _,rfl,zh λj t=>J⟩
 .obtain⟨k,H,rfl,u⟩:=hrel;by_cases l:k<n
  .have s:(k:Int)<(n:Int):=J
   obtain⟨b,off,rfl⟩:=h.addr J;have:=h.at k l;have B:=zh$ aKj d k J
   have C:=zh (show 0<=d.getD k 0/\d.getD k 0<=4294967295->∀j,j<k+1->0<=d.getD j 0/\d.getD j 0<=4294967295 from λh j t=>by
    by_cases e:j=k
    .subst e;exact h
    .exact u.out j J)
   generalize d.getD k 0=z at *;have f:=zh$ q z;by_cases g:0<=z/\z<=4294967295
   .rw[xR g]at f;go_wp2_with (go_at_call 183;refine(f.o _).mono ?_;rintro e D ⟨rfl,rfl⟩)
    go_round
    .exact⟨k+1,J,by go_num,zh$ C g⟩
    .simp[intOf];omega
   .rw[xS g]at f;go_wp2_with (go_at_call 183;refine(f.o _).mono ?_;rintro e D ⟨rfl,rfl⟩)
    go_ret;exact⟨aA (B g).symm,rfl⟩
  .have E:=zh$ aFp d λj t=>u.out j J;go_wp2;go_ret;exact⟨aA E.symm,rfl⟩
abbrev Bk:=qO×Nat×Nat×List Int
def zB:Bk:=(none,0,0,[])
def BKS (w:qw)(a:qO)(n cap:Nat)(bl:List Bk):Prop:=
 bl.length=n/\n<=maxLen/\(n≠0->∃b off,a=some (qR b off)/\∀i,i<n->w.cell? (qR b$ off+i)=some (.slice (bl.getD i zB).1 (bl.getD i zB).2.1 (bl.getD i zB).2.2.1))/\(∀i,i<n->IS w (bl.getD i zB).1 (bl.getD i zB).2.1 (bl.getD i zB).2.2.1 (bl.getD i zB).2.2.2)/\n<=cap
def BKS.bw {w w':qw}{bl:List Bk}(h:BKS w a n cap bl)(f:qY w w'):BKS w' a n cap bl:=by
 obtain⟨d,g,j,k,l⟩:=h;refine⟨d,g,λp=>?_,λi hi=>(k i hi).bw f,l⟩;let⟨b,off,e,hc⟩:=j p;exact⟨b,off,e,λi hi=>(f.cell$ xD w _$ hc i hi).trans$ hc i hi⟩
theorem BKS.addr {w:qw}{f:List Bk}(h:BKS w a n cap f)(hn:n≠0):∃b off,a=some (qR b off):=by
 let⟨b,off,e,_⟩:=h.2.2.1 hn
 grind
theorem BKS.at {w:qw}{f:List Bk}(h:BKS w (some$ qR b off) n cap f)(i)(hi:i<n):w.cell? (qR b$ off+i)=some (.slice (f.getD i zB).1 (f.getD i zB).2.1 (f.getD i zB).2.2.1):=by
 let⟨a,d,e,hc⟩:=h.2.2.1 J
 grind
def bko (b:Bk):Bool:=decide (1<=b.2.1/\b.2.1<=64)&&wds b.2.2.2
def cdo (tn:Nat)(tz:qi)(bn:Nat)(bl:List Bk):Bool:=decide (tn<=200/\bn<=4)&&(wds tz&&bl.all bko)
theorem aLr (e:List Bk)(k)(f:k<e.length)(h:bko (e.getD k zB)=false):e.all bko=false:=by
 rw[List.all_eq_false];exact⟨e[k],List.getElem_mem _,by grind⟩
theorem aH2 (e:List Bk)(h:∀j,j<e.length->bko (e.getD j zB)=true):e.all bko=true:=by
 rw[List.all_eq_true];intro z a;obtain⟨i,hi,rfl⟩:=List.getElem_of_mem a
 grind
def Blk.eight {w:qw}{a b e f:Value}{t:TypeId}(h:Blk w g #[a,b,c,d,e,f,x,y] t):
 w.cell? (qR g 0)=some a/\w.cell? (qR g 1)=some b/\w.cell? (qR g 2)=some c/\w.cell? (qR g 3)=some d/\w.cell? (qR g 4)=some e/\w.cell? (qR g 5)=some f/\w.cell? (qR g 6)=some x/\w.cell? (qR g 7)=some y:=
 ⟨by rw[h.cell];rfl,by rw[h.cell];rfl,by rw[h.cell];rfl,by rw[h.cell];rfl,by rw[h.cell];rfl,by rw[h.cell];rfl,by rw[h.cell];rfl,by rw[h.cell];rfl⟩
def aHs {U:Nat}(Z:U=242\/U=286)(nm x tn y g ba f bc a v3 v5 v6 v7 a0 w)(X:IS w x tn y g)(G:BKS w ba f bc a):
 qC U #[.agg #[.string nm,qS x tn y,qS ba f bc,v3,qI a0,v5,v6,v7]] w (qB w$ .bool$ cdo tn g f a):=by
 rcases Z with rfl|rfl
 all_goals
  let⟨W,hW,d,kb⟩:=nwb w #[.string nm,qS x tn y,qS ba f bc,v3,qI a0,v5,v6,v7] 128;have:=kb.eight;have A:=zh λw h=>xA (uF x tn y g w h)$ sC x tn y g w h;let⟨r,b⟩:=aO$ cdo tn g f a;rw[<-b];unfold cdo at b;have q:=X.bw d;have t:=G.bw d;have:=X.2.1;have:=G.2.1;have E:=zh hW;clear hW;by_cases c1:200<tn
  .have p:=zh (show r=false by rw[b,xS J];rfl);clear b;have S:(200:Int)<(tn:Int):=J
   delta qC;go_in
   go_wp2_with (rw[<-E.o])
   go_ret;exact⟨aA p.symm,d⟩
  .have S:¬(200:Int)<(tn:Int):=J
   by_cases c2:4<f
   .have p:=zh (show r=false by rw[b,xS J];rfl);clear b;have M:(4:Int)<(f:Int):=J
    delta qC;go_in
    go_wp2_with (rw[<-E.o])
    go_ret;exact⟨aA p.symm,d⟩
   .have M:¬(4:Int)<(f:Int):=J
    cases hz:wds g
    .rw[hz]at A;have p:=zh (show r=false by rw[b,hz];simp);clear b
     delta qC;go_in
     go_wp2_with (first|(rw[<-E.o])|((first|refine(A.o _ q).1.mono ?_|refine(A.o _ q).2.mono ?_);rintro e N ⟨rfl,rfl⟩))
     go_ret;exact⟨aA p.symm,d⟩
    .rw[hz]at A;have D:r=a.all bko:=by rw[b,hz,xR J];simp
     have p:=zh D;clear b D;have:=G.1
     delta qC;go_in
     go_wp2_with (first|(rw[<-E.o])|((first|refine(A.o _ q).1.mono ?_|refine(A.o _ q).2.mono ?_);rintro e N ⟨rfl,rfl⟩))
     first|(go_loop [3] (λi=>∃k:Nat,k<=f/\i=qI k/\Hid (∀j,j<k->bko (a.getD j zB)=true)) (λi=>f-(intOf i).toNat);focus (exact⟨0,xC _,rfl,zh λj P=>J⟩))|(go_loop [24] (λi=>∃k:Nat,k<=f/\i=qI k/\Hid (∀j,j<k->bko (a.getD j zB)=true)) (λi=>f-(intOf i).toNat);focus (exact⟨0,xC _,rfl,zh λj P=>J⟩))
     .obtain⟨k,hk,rfl,V⟩:=hrel;by_cases C:k<f
      .have Y:(k:Int)<(f:Int):=J
       obtain⟨bb,off,rfl⟩:=t.addr J;have Q:=t.at k C;have l:=t.2.2.2.1 k C;have I:=zh$ aLr a k J
       have HG:=zh (show bko (a.getD k zB)=true->∀j,j<k+1->bko (a.getD j zB)=true from λh j P=>by
        by_cases e:j=k
        .subst e;exact h
        .exact V.out j J)
       generalize a.getD k zB=B at *;obtain⟨xa,s,xc,xz⟩:=B;dsimp only at Q l;have H:=l.2.1;unfold maxLen at H;have u:=zh λw h=>xA (uF xa s xc xz w h)$ sC xa s xc xz w h;by_cases d1:s<1
       .have O:(s:Int)<1:=J
        go_wp2;go_ret;exact⟨aA (by rw[p.o];exact(I.o (by unfold bko;dsimp only;rw[decide_eq_false J];rfl)).symm),d⟩
       .have O:¬(s:Int)<1:=J
        by_cases d2:64<s
        .have K:(64:Int)<(s:Int):=J
         go_wp2;go_ret;exact⟨aA (by rw[p.o];exact(I.o (by unfold bko;dsimp only;rw[decide_eq_false J];rfl)).symm),d⟩
        .have K:¬(64:Int)<(s:Int):=J
         cases hx:wds xz
         .rw[hx]at u;go_wp2_with ((first|refine(u.o _ l).1.mono ?_|refine(u.o _ l).2.mono ?_);rintro e N ⟨rfl,rfl⟩)
          go_ret;exact⟨aA (by rw[p.o];exact(I.o (by unfold bko;dsimp only;rw[hx];simp)).symm),d⟩
         .rw[hx]at u;go_wp2_with ((first|refine(u.o _ l).1.mono ?_|refine(u.o _ l).2.mono ?_);rintro e N ⟨rfl,rfl⟩)
          go_round
          .exact⟨k+1,J,by go_num,zh (HG.o (by unfold bko;dsimp only;rw[hx,decide_eq_true J];rfl))⟩
          .simp[intOf];omega
      .have HE:=zh$ aH2 a λj P=>V.out j J;go_wp2;go_ret;exact⟨aA (by rw[p.o];exact HE.o.symm),d⟩
def aEv:=@aHs _$ .inl rfl
def aJ3:=@aHs _$ .inr rfl
