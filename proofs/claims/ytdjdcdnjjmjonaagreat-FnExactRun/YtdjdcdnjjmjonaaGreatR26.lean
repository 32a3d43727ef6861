import Derived.Test.YtdjdcdnjjmjonaaGreatR21
import Derived.Test.YtdjdcdnjjmjonaaGreatR22
set_option linter.all false
set_option maxHeartbeats 4000000
namespace Go.Proofs.YtdjdcdnjjmjonaaGreat
open Go.RowKit
open Go.Proofs.Tryz
set_option maxRecDepth 100000
variable {W W' w:World}{base cap go n:Nat}{bx:Array Value}{v1 v2 v3:Value}{x1 x2 x3:List Int}
def aJo {d:World}
 (b:cB d ((w.alloc$ .cells bx 39).alloc$ .cells #[.slice none 0 0,.slice none 0 0,.slice none 0 0] 39).heap.size v1 v2 v3 x1 x2 x3) (a:Below ((w.alloc$ .cells bx 39).alloc$ .cells #[.slice none 0 0,.slice none 0 0,.slice none 0 0] 39).heap.size ((w.alloc$ .cells bx 39).alloc$ .cells #[.slice none 0 0,.slice none 0 0,.slice none 0 0] 39) d):
 Hold w (d.alloc$ .cells #[v1,v2,v3] 39) (w.heap.size+2) d.heap.size bx v1 v2 v3 x1 x2 x3:=by
 have hs:=a.size;have f:Below w.heap.size w ((w.alloc$ .cells bx 39).alloc$ .cells #[.slice none 0 0,.slice none 0 0,.slice none 0 0] 39):=((Below.refl _ _).alloc (Nat.le_refl _) _).alloc Jb _;have g:=Blk.new (w.alloc$ .cells bx 39) #[.slice none 0 0,.slice none 0 0,.slice none 0 0] 39;simp only[World.size_alloc]at hs b g;refine⟨(f.trans$ a.mono Jc).alloc J _,Nat.le_refl _,J,(((Blk.new w bx 39).alloc _).bw a).alloc _,(g.bw a).alloc _,Blk.new d _ _,fU b _,?_⟩;intro v i e;rcases i with rfl|rfl|rfl
 .have:=b.1.lt _ e;omega
 .have:=b.2.1.lt _ e;omega
 .have:=b.2.2.1.lt _ e;omega
def aQg {g:Nat}{b:List Int}(h:Hold w W base go bx v1 (.slice (some ⟨g,0,none⟩) n cap) v3 x1 x2 x3)
 (a:fF g W W') (f:OB W' base (.slice (some ⟨g,0,none⟩) n cap) b):Hold w W' base go bx v1 (.slice (some ⟨g,0,none⟩) n cap) v3 x1 b x3:=by
 have:=h.big;have:=h.own.2.1.lt g rfl;have:g≠go:=λe=>h.far _ (Or.inr$ Or.inl rfl) (by rw[<-e];rfl);refine⟨dA h.bw a J,h.big,h.gobig,bP a h.box J,bP a h.res J,bP a h.out J,⟨?_,f,?_,h.own.2.2.2⟩,h.far⟩
 .exact nS a h.own.1 (λe=>Nat.lt_irrefl _$ h.own.2.2.2.1 g g e rfl)
 .exact nS a h.own.2.2.1 (λe=>Nat.lt_irrefl _$ h.own.2.2.2.2.2 g g rfl e)
theorem aSm {a:Option Addr}{b:List Int}(h:OB w base (.slice a n cap) b)(hn:n≠0):∃g,a=some ⟨g,0,none⟩:=by
 obtain⟨i,⟨f,_⟩|⟨g,d,e,j,_⟩⟩:=h.1
 .grind
 .grind
theorem aQh {v':Value}{z:Int}(h:Hold w W base go bx v1 v2 v3 x1 x2 x3)(hz:0<=z/\z<=255)
 (bs) (i:base<=bs) (G:∀k,v1.ownBlock=some k->k<bs) (I:∀k,v2.ownBlock=some k->k<bs)
 (A:W'.ownsRow bs 5 1 v' (x3.length+1) (x3.map (Value.int .u8)++[Value.int .u8 z])) (b:(W.alloc$ .cells #[.int .u8 z] 5).grownBy W' v3.ownBlock):
 Hold w (W'.setCell ⟨go,2,none⟩ v') base go bx v1 v2 v' x1 x2 (x3++[z]):=by
 have x:=h.big;have p:=h.gobig;have:∀k,v3.ownBlock=some k->base<=k:=λk a=>(h.own.2.2.1.lt k a).1
 have E:v1.ownBlock=none\/v1.ownBlock≠v3.ownBlock:=by
  cases e:v1.ownBlock with
  | none=>exact Or.inl rfl
  | some k=>right;intro s;exact Nat.lt_irrefl _$ h.own.2.2.2.2.1 k k e s.symm
 have B:v2.ownBlock=none\/v2.ownBlock≠v3.ownBlock:=by
  cases e:v2.ownBlock with
  | none=>exact Or.inl rfl
  | some k=>right;intro s;exact Nat.lt_irrefl _$ h.own.2.2.2.2.2 k k e s.symm
 have kb:=bL b (h.box.alloc$ .cells #[.int .u8 z] 5) (λe=>by grind);have K:=bL b (h.res.alloc$ .cells #[.int .u8 z] 5) (λe=>by grind);have t:=bL b (h.out.alloc$ .cells #[.int .u8 z] 5) λe=>h.far v3 (Or.inr$ Or.inr rfl) e.symm
 have d:v'.ownBlock≠some go:=by
  intro e;obtain⟨_,⟨rfl,_⟩|⟨g,N,O,rfl,P,M,_⟩⟩:=A
  .grind
  .simp[Value.ownBlock]at e;subst e;rw[t]at M
   grind
 have u:Below w.heap.size w (W.alloc$ .cells #[.int .u8 z] 5):=h.bw.alloc h.bw.size _;have D:=rQ b (fU h.own$ .cells #[.int .u8 z] 5).1 E;have C:=rQ b (fU h.own$ .cells #[.int .u8 z] 5).2.1 B
 have q:OB W' bs v' (x3++[z]):=⟨by grind,λy f=>by
  rcases List.mem_append.1 f with f|f
  .exact h.own.2.2.1.2 y f
  .grind⟩
 refine⟨(u.grown b (jK u.size) (λk a=>by grind)).setCell (by grind) _,x,p,kb.other _ _ (by grind),K.other _ _ (by grind),?_,⟨?_,?_,?_,h.own.2.2.2.1,?_,?_⟩,?_⟩
 .have:=t.set 2 v'
  grind
 .exact sO (g:=go) D _ _ (h.far v1$ Or.inl rfl)
 .exact sO (g:=go) C _ _ (h.far v2$ Or.inr$ Or.inl rfl)
 .exact(sO (g:=go) q _ _ d).mono i
 .intro k j a l;have:=G k a;have:=q.lt j l;omega
 .intro k j a l;have:=I k a;have:=q.lt j l;omega
 .intro v H;rcases H with rfl|rfl|rfl
  .exact h.far _ (Or.inl rfl)
  .exact h.far _ (Or.inr$ Or.inl rfl)
  .grind
def aO7 (h:Hold w W base go bx v1 v2 v3 x1 x2 x3):
 ∃bs,base<=bs/\bs<=W.heap.size/\(∀k,v1.ownBlock=some k->k<bs)/\(∀k,v2.ownBlock=some k->k<bs)/\W.ownsRow bs 5 1 v3 x3.length (x3.map$ Value.int .u8):=by
 obtain⟨e,⟨s,t⟩|⟨g,p,q,b,u,d,f,i,j,l⟩⟩:=h.own.2.2.1.1
 .refine⟨W.heap.size,jL h.out.lt h.gobig,Nat.le_refl _,λk a=>(h.own.1.lt k a).2,λk a=>(h.own.2.1.lt k a).2,e,.inl ⟨s,t⟩⟩
 .refine⟨g,u,Nat.le_of_lt$ Blk.lt (w:=W) d,λk a=>h.own.2.2.2.2.1 k g a (by rw[b];rfl),λk a=>h.own.2.2.2.2.2 k g a (by rw[b];rfl),e,.inr ⟨g,p,q,b,Nat.le_refl _,d,f,i,j,l⟩⟩
def sWr (e1 e2 e3 n1 c1 n2 c2 n3 c3 x1 x2 x3 p s v w)(X:OB w 0 (qS e1 n1 c1) x1)(Y:OB w 0 (qS e2 n2 c2) x2)(I:OB w 0 (qS e3 n3 c3) x3)(hn:n1+n2+n3<=1048576)(P:0<=v/\v<=4294967295)(p0:0<=p)(p1:p<=4294967295):
 qC 173 #[.agg$ qV e1 n1 c1 e2 n2 c2 e3 n3 c3,qI p,qI s,qI v] w (aV1 w$ wrm n1 n2 n3 x1 x2 x3 p s v):=by
 have q:qY w ((w.alloc$ .cells (qV e1 n1 c1 e2 n2 c2 e3 n3 c3) 39).alloc$ .cells (qV none 0 0 none 0 0 none 0 0) 39):=bal.alloc Jb _;let⟨i0,hI,a7,a8,a9⟩:=info_parts uG;have t:=I.bs.1;let⟨r,hr⟩:=aO$ wrm n1 n2 n3 x1 x2 x3 p s v;rw[<-hr];unfold wrm at hr;have d:=zh hr;have M:=zh$ xA X$ xA Y I;have Z:=zh λw=>lJ e1 e2 e3 n1 c1 n2 c2 n3 c3 w;have S:Zh (mok n1 n2 n3=true->n1<=16384/\n2<=16384/\n3<=5000):=uO;generalize mok n1 n2 n3=A at *;clear hr X Y I
 delta qC;go_in
 go_wp2_with fail
 apply(tE e1 e2 e3 n1 c1 n2 c2 n3 c3 x1 x2 x3 _ (M.1.bw q) (M.2.1.bw q) (M.2.2.bw q) hn).mono;rintro e w1 ⟨W,f,a2,b,a3,i,rfl,U,x⟩;have H:=aJo (bx:=(qV e1 n1 c1 e2 n2 c2 e3 n3 c3)) U x;have K:=x.size;simp only[xF]at K;clear U x;have D:=H.box.three;let⟨q5,q6,q7,q8⟩:=H.res.three;let⟨q9,a0,a1,a4⟩:=H.out.three;go_wp2_with fail
 apply(Z _).mono;rintro e w2 ⟨rfl,B⟩;replace H:=H.step B;clear B D q5 q6 q7 q8 q9 a0 a1 a4;have D:=H.box.three;let⟨q5,q6,q7,q8⟩:=H.res.three;let⟨q9,a0,a1,a4⟩:=H.out.three;cases A
 .obtain rfl:r=(x1,x2,x3,2):=d.o.trans$ if_neg Jb;clear d;go_wp2;exact bodyPost_ret (v:=.tuple #[.agg$ qV W n1 f a2 n2 b a3 n3 i,qI 2]) (by simp[results,results173,go_sem,q5,q6,q7]) rfl ⟨W,n1,f,a2,n2,b,a3,n3,i,rfl,H.done.1,H.done.2⟩
 let⟨l1,l2,l3⟩:=S rfl;go_wp2_with fail
 apply(fZ _ _).mono;rintro e wx ⟨rfl,rfl⟩;let⟨A,l⟩:=aO$ wd s;have a:=d.o;rw[<-l]at a⊢;clear d S;cases A
 .obtain rfl:r=(x1,x2,x3,2):=a.trans$ if_neg Jb;clear a l;go_wp2;exact bodyPost_ret (v:=.tuple #[.agg$ qV W n1 f a2 n2 b a3 n3 i,qI 2]) (by simp[results,results173,go_sem,q5,q6,q7]) rfl ⟨W,n1,f,a2,n2,b,a3,n3,i,rfl,H.done.1,H.done.2⟩
 obtain⟨s0,s4⟩:1<=s/\s<=4:=by rcases eD l.symm with rfl|rfl|rfl<;>decide
 have:(s==0)=false:=Jc
 rw[if_pos Jb,xL p0]at a;clear l;by_cases ha:(p%s !=0)=true
 .rw[if_pos ha]at a;subst a;go_wp2;exact bodyPost_ret (v:=.tuple #[.agg$ qV W n1 f a2 n2 b a3 n3 i,qI 1]) (by simp[results,results173,go_sem,q5,q6,q7]) rfl ⟨W,n1,f,a2,n2,b,a3,n3,i,rfl,H.done.1,H.done.2⟩
 rw[if_neg ha]at a;replace ha:(p%s !=0)=false:=by simpa using ha
 have d:=zh a;clear a;go_wp2_with fail
 apply(dQ v _ J).mono;rintro e wx ⟨rfl,rfl⟩;rw[show v%4294967296=v from J];by_cases E:p=131072
 .subst E;have a:=d.o;rw[if_pos rfl]at a;by_cases V:5000<=n3
  .rw[if_pos V]at a;subst a;have Q:(5000:Int)<=(n3:Int):=J
   go_wp2;exact bodyPost_ret (v:=.tuple #[.agg$ qV W n1 f a2 n2 b a3 n3 i,qI 4]) (by simp[results,results173,go_sem,q5,q6,q7]) rfl ⟨W,n1,f,a2,n2,b,a3,n3,i,rfl,H.done.1,H.done.2⟩
  .rw[if_neg V]at a;subst a;have Q:¬(5000:Int)<=(n3:Int):=J
   obtain⟨ab,ac⟩:=P;let⟨bs,a6,aa,f1,f2,a5⟩:=aO7 H;rw[t]at a5;have y:=zh$ a5.alloc$ .cells #[.int .u8$ v%256] 5;have N:=zh f1;have G:=zh f2;have HX:=zh t;clear a5 f1 f2 t;go_wp2_with (at_builtin;refine wpList_append_own _ rfl _ _ 28 rfl bs 5 i0 (.int .u8 0) 1 1 underlying28 hI a7 a8 a9 rfl Ja _ n3 (x3.map$ Value.int .u8) rfl y.o (qh w2 0) 1 1 [.int .u8$ v%256] rfl rfl (cell_one_new _ _ _) (by intro u hu;simp at hu;subst hu;rfl) Jf J Jc ?_;intro v' w3 g j _;obtain⟨a',d',he⟩:=sM g;subst he;have O:=aQh H (z:=v%256) J bs a6 N.o G.o (by rw[HX.o];exact g) j;obtain⟨q5,q6,q7,q8⟩:=(bL j (H.res.alloc$ .cells #[.int .u8$ v%256] 5) λe=>jK$ (H.own.2.2.1.lt _ e.symm).1).three;obtain⟨q9,a0,a1,a4⟩:=(bL j (H.out.alloc$ .cells #[.int .u8$ v%256] 5) λe=>H.far _ (Or.inr$ Or.inr rfl) e.symm).three;clear g j)
   let⟨r5,r6,r7,r8⟩:=O.res.three;exact bodyPost_ret (v:=.tuple #[.agg$ qV W n1 f a2 n2 b a' (n3+1) d',qI 0]) (by simp[results,results173,go_sem,r5,r6,r7]) rfl ⟨W,n1,f,a2,n2,b,a',n3+1,d',rfl,O.done.1,O.done.2⟩
 have a:=d.o;rw[if_neg E]at a;have:(p==131072)=false:=by simpa using E
 clear d E;have d:=zh a;clear a;go_wp2_with fail
 apply(iD p s 0 n1 _).mono;rintro e wx ⟨rfl,rfl⟩;have a:=d.o;clear d;let⟨A,l⟩:=aO$ ins p s 0 n1;rw[<-l]at a⊢;clear l;cases A
 .have d:=zh a;clear a;go_wp2_with fail
  apply(iD p s 65536 n2 _).mono;rintro e wx ⟨rfl,rfl⟩;have a:=d.o;clear d;let⟨A,l⟩:=aO$ ins p s 65536 n2;rw[<-l]at a⊢;cases A
  .obtain rfl:r=(x1,x2,x3,2):=a;clear l;go_wp2;exact bodyPost_ret (v:=.tuple #[.agg$ qV W n1 f (a2) n2 b a3 n3 i,qI 2]) (by simp[results,results173,go_sem,q5,q6,q7]) rfl ⟨W,n1,f,a2,n2,b,a3,n3,i,rfl,H.done.1,H.done.2⟩
  .have hj:=l.symm;simp[ins]at hj;let⟨k,hk⟩:=xV$ show 0<=p-65536 from J;rw[hk]at a;obtain⟨g2,rfl⟩:=aSm H.own.2.1 J;have d:=zh a;clear a l;go_wp2_with fail
   apply(tC g2 n2 b k s v _ (nU H.own.2.1) l2 s0 s4 J P.1 P.2).mono;rintro e w3 ⟨rfl,C⟩;replace H:=aQg H (rA g2 k v _ s.toNat)$ aEl H.own.2.1 k v s.toNat J;rw[<-C]at H;clear C D q5 q6 q7 q8 q9 a0 a1 a4;have D:=H.box.three;let⟨q5,q6,q7,q8⟩:=H.res.three;let⟨q9,a0,a1,a4⟩:=H.out.three;obtain rfl:r=(x1,put x2 k v s.toNat,x3,0):=d.o;go_wp2;exact bodyPost_ret (v:=.tuple #[.agg$ qV W n1 f (qP g2) n2 b a3 n3 i,qI 0]) (by simp[results,results173,go_sem,q5,q6,q7]) rfl ⟨W,n1,f,qP g2,n2,b,a3,n3,i,rfl,H.done.1,H.done.2⟩
 .obtain rfl:r=(x1,x2,x3,3):=a;go_wp2;exact bodyPost_ret (v:=.tuple #[.agg$ qV W n1 f (a2) n2 b a3 n3 i,qI 3]) (by simp[results,results173,go_sem,q5,q6,q7]) rfl ⟨W,n1,f,a2,n2,b,a3,n3,i,rfl,H.done.1,H.done.2⟩
theorem aCy {α:Type}{f:α->List Value}{sz:Nat}(a:∀x,(f x).length=sz):∀(b:List α)(k:Nat),(b.take k).flatMap f=(b.flatMap f).take (k*sz)
 | [],k=>Jb
 | x::b,0=>Jb
 | x::b,k+1=>by
   have e:=aCy a b k;rw[List.take_succ_cons,List.flatMap_cons,List.flatMap_cons,e,List.take_append,a,show List.take ((k+1)*sz) (f x)=f x from List.take_of_length_le (by grind),show(k+1)*sz-sz=k*sz by grind]
theorem OG.pop {α:Type}{t:TypeId}{sz:Nat}{f:α->List Value}{c:Nat}{a:qO}{xs:List α}(b:∀x,(f x).length=sz)(h:OG t sz f w base (qS a (n+1) c) xs):OG t sz f w base (qS a n c) (xs.take n):=by
 obtain⟨y,h|⟨g,s,i,e,j,k,u,l,d,p⟩⟩:=h
 .grind
 .simp only[Value.slice.injEq]at e;obtain⟨rfl,e2,rfl⟩:=e;have q:(xs.take n).length=n:=by grind
  unfold OG;rw[q,aCy b,<-p,List.take_take,Nat.min_eq_left$ Nat.mul_le_mul_right _ J];exact⟨by rw[List.length_take,Array.length_toList,d];exact Nat.min_eq_left$ Nat.mul_le_mul_right _ J,.inr ⟨g,c,i,rfl,j,k,J,l,d,rfl⟩⟩
def MxO.pop {aN:Nat}{C:Cn}{M:Mn}{a:List (PMod×Mb)}{β:Nat->Nat}(h:MxO W base aN C M a β)(e:M.hn=n+1):MxO W base aN { C with hz:=C.hz.take n } { M with hn:=n,hz:=C.hz.take n } a β:=by
 have q:=h.h;rw[e]at q;exact⟨h.m,h.e,h.k,h.q,h.l,OG.pop dD q,h.bm,h.bh,h.vs,⟨h.vz.1,h.vz.2.1,h.vz.2.2.1,h.vz.2.2.2.1,h.vz.2.2.2.2.1,h.vz.2.2.2.2.2.1,rfl⟩⟩
abbrev sf4 (W:World)(b:Nat)(x0 x1 x2 x3:Int):World:=(((W.setCell ⟨b,0,none⟩ (qI x0)).setCell ⟨b,1,none⟩ (qI x1)).setCell ⟨b,2,none⟩ (qI x2)).setCell ⟨b,3,none⟩ (qI x3)
def aB8 (W b a x1 x2 x3):Turn (λj=>j=b) W (sf4 W b a x1 x2 x3):=(((aD W b _ _).trans$ aD _ b _ _).trans$ aD _ b _ _).trans$ aD _ b _ _
def Blk.f4 {b:Nat}{t:TypeId}{a d f e:Int}(k:Blk W b (qW a d f e) t)(g x1 x2 x3):Blk (sf4 W b g x1 x2 x3) b (qW g x1 x2 x3) t:=(((k.s0$ qI g).s1$ qI x1).s2$ qI x2).s3$ qI x3
def aTl {X Z:World}{G i:Nat}{v:Value}{cs:Array Value}{t:TypeId}(a:qY w X)(k:Blk w G cs t)(T:Turn (λj=>w.heap.size<=j) (X.setCell ⟨G,i,none⟩ v) Z):qY (w.setCell ⟨G,i,none⟩ v) Z:=by
 refine⟨T.os.trans a.os,T.tape.trans a.tape,T.output.trans a.output,?_,λj b=>?_⟩
 .have:=T.size;rw[aL]at this⊢;exact xM a.size this
 .rw[aL]at b;rw[T.block j (by rw[aL];have:=a.size;omega) J];by_cases e:j=G
  .subst e;exact Eq.trans ((k.bw a).set i v)$ Eq.symm$ k.set i v
  .rw[heap_setCell_other _ _ _ _ e,heap_setCell_other _ _ _ _ e];exact a.block j b
def aR4 (w1 G Y C M a0 vr w)(h:Mg w1 w G Y C M a0 vr)(n)(hn:C.hz.length=n+1)(S x1 x2 x3)(hx:C.hz.getD n zFr=(S,x1,x2,x3)):Calls prog 238 #[.pointer$ some ⟨G,21,none⟩] w λe w'=>e=.returned (.tuple #[.agg$ qW S x1 x2 x3,.bool true])/\Mg w1 w' G Y { C with hz:=C.hz.take n } { M with hn:=n,hz:=C.hz.take n } a0 vr/\Kb w w':=by
 let⟨a1,aN,Ls,β,W,_,_⟩:=h.m;have p:M.hn=n+1:=by rw[eP W.h,hn]
 have q:=(aW W.h).2.1;unfold maxLen at q;let⟨U,X⟩:=aO$ (w.alloc$ .cells (qW 0 0 0 0) 136).alloc$ .cells (qW 0 0 0 0) 136;have a:qY w U:=by rw[X];exact bal.alloc Jb _
 have b:Blk U w.heap.size (qW 0 0 0 0) 136:=by rw[X];exact(Blk.new _ _ _).alloc _
 have f:Blk U (w.heap.size+1) (qW 0 0 0 0) 136:=by rw[X];have:=Blk.new (w.alloc$ .cells (qW 0 0 0 0) 136) (qW 0 0 0 0) 136;simpa using this
 have O:G<w.heap.size:=h.k.lt;let⟨V,oh,Z,q0,q1,q2,q3⟩:=((uC (z:=zFr) dD W.h).bw a).at n J _ _ _ _ rfl;rw[hx]at q0 q1 q2 q3;dsimp only at q0 q1 q2 q3
 have i:V<w.heap.size:=by
  have:=(W.h.lt V (by rw[Z];rfl)).2;exact this
 have d:U.cell? ⟨G,22,none⟩=qk M.ha M.hn M.hc:=(h.k.bw a).cell 22;have s:=(h.k.bw a).frozen 22;rw[Z]at d;let⟨y0,y1,y2,y3⟩:=b.z4;have P:=b.frozen;let⟨z0,z1,z2,z3⟩:=f.z4;have I:=f.frozen;have H:IntKind.i64.wrap ((M.hn:Int)-1)=(n:Int):=by rw[show(M.hn:Int)-1=(n:Int)from J,xP,xQ _ J]
 have E:((M.hn:Int)==0)=false:=Jc
 have u:(n:Int)<(M.hn:Int):=J
 have A:(n:Int)<=(M.hc:Int):=jK$ (aW W.h).2.2.1;have n1:¬G=w.heap.size:=J
 have n2:¬G=w.heap.size+1:=J
 have n3:¬V=w.heap.size+1:=J
 have K:¬w.heap.size=G:=J
 have Q:¬w.heap.size+1=G:=J
 have t:=zh (show Mg w1 (sf4 ((sf4 U (w.heap.size+1) S x1 x2 x3).setCell ⟨G,22,none⟩$ qS (some ⟨V,oh,none⟩) n M.hc) w.heap.size S x1 x2 x3) G Y { C with hz:=C.hz.take n } { M with hn:=n,hz:=C.hz.take n } a0 vr by
  rw[<-Z]
  exact(h.put 22 (qS M.ha n M.hc) rfl λx=>x.pop p).bw (aTl (aF a (aB8 U (w.heap.size+1) S x1 x2 x3) (λj l=>J) a.size) h.k$ (aB8 _ w.heap.size S x1 x2 x3).mono λj l=>J))
 have y:=zh$ ((aC (aB8 U (w.heap.size+1) S x1 x2 x3) b λe=>J).other ⟨G,22,none⟩ (qS (some ⟨V,oh,none⟩) n M.hc) Jd).f4 S x1 x2 x3
 have g:Zh (Kb w$ sf4 ((sf4 U (w.heap.size+1) S x1 x2 x3).setCell ⟨G,22,none⟩$ qS (some ⟨V,oh,none⟩) n M.hc) w.heap.size S x1 x2 x3):=λj cs N hn k=>by
  have l:=k.lt
  exact aC (aB8 _ w.heap.size S x1 x2 x3) ((aC (aB8 U (w.heap.size+1) S x1 x2 x3) (k.bw a) λe=>J).other ⟨G,22,none⟩ _ (λe=>by
   have D:j=G:=e;subst D
   exact hn$ .inl$ .inr$ .inl$ aH k h.k)) λe=>J
 have B:=zh X;clear X a b f h W p q hx i
 go_in
 go_wp2_with (rw[<-B.o])
 let⟨t0,t1,t2,t3⟩:=y.z4;exact bodyPost_ret_by (v:=.tuple #[.agg$ qW S x1 x2 x3,.bool true]) (by simp[results,results238,go_sem,t0,t1,t2,t3]) rfl ⟨rfl,t.o,g.o⟩
def aO3 (H G Y C M D E w)(h:Mg H w G Y C M D E)(hn:C.hz.length=0):Calls prog 238 #[.pointer$ some ⟨G,21,none⟩] w (qB w$ .tuple #[.agg$ qW 0 0 0 0,.bool false]):=by
 let⟨K,aN,I,N,u,_,_⟩:=h.m;have e:M.hn=0:=by rw[eP u.h,hn]
 let⟨U,t⟩:=aO$ (w.alloc$ .cells (qW 0 0 0 0) 136).alloc$ .cells (qW 0 0 0 0) 136;have a:qY w U:=by rw[t];exact bal.alloc Jb _
 have b:Blk U w.heap.size (qW 0 0 0 0) 136:=by rw[t];exact(Blk.new _ _ _).alloc _
 have f:Blk U (w.heap.size+1) (qW 0 0 0 0) 136:=by rw[t];have:=Blk.new (w.alloc$ .cells (qW 0 0 0 0) 136) (qW 0 0 0 0) 136;simpa using this
 have d:U.cell? ⟨G,22,none⟩=qk M.ha M.hn M.hc:=(h.k.bw a).cell 22;rw[e]at d;have p:=b.z4;have l:=b.frozen;have q:=f.z4;have k:=zh$ aF a (aB8 U w.heap.size 0 0 0 0) (λj s=>J) a.size;have g:=zh$ b.f4 0 0 0 0;have i:=zh t;clear t a b f h u e
 go_in
 go_wp2_with (rw[<-i.o])
 let⟨x,y,A,B⟩:=g.z4;exact bodyPost_ret_by (v:=.tuple #[.agg$ qW 0 0 0 0,.bool false]) (by simp[results,results238,go_sem,x,y,A,B]) rfl ⟨rfl,k.o⟩
def aAg {D:Nat}(M:D=71\/D=85)(pc a n Y zs w)(h:Srd clI w a n Y zs)(hz:∀z∈zs,wfi z)(hn:n<=1048576):qC D #[.agg #[qI pc,qS a n Y]] w (fQ w pc n zs):=by
 let⟨i0,hi,a0,a1,a2⟩:=info_parts rO;have I:=h.1;let⟨V,Z⟩:=aO$ (w.alloc$ .cells #[qI pc,qS a n Y] 38).alloc$ .cells #[qI 0,qS none 0 0] 38;have hs:V.heap.size=w.heap.size+1+1:=by rw[Z];simp
 have t:qY w V:=by rw[Z];exact bal.alloc Jb _
 have H:Blk V (w.heap.size+1) #[qI 0,qS none 0 0] 38:=by rw[Z];have:=Blk.new (w.alloc$ .cells #[qI pc,qS a n Y] 38) #[qI 0,qS none 0 0] 38;simpa using this
 have kb:Blk V w.heap.size #[qI pc,qS a n Y] 38:=by rw[Z];exact(Blk.new _ _ _).alloc _
 let⟨U,hU⟩:=aO$ V.alloc$ .cells #[] 3;have s:qY V U:=by rw[hU];exact bal
 have G:=zh (show OG 3 1 clI U V.heap.size (qS (qP V.heap.size) 0 0) [] by rw[hU];exact cP _ _ _ _ _ aQ);have b:=zb V λX l=>show qY w X/\Blk X (w.heap.size+1) #[qI 0,qS none 0 0] 38/\Blk X w.heap.size #[qI pc,qS a n Y] 38/\Srd clI X a n Y zs from⟨yT t l,H.bw l,kb.bw l,(h.bw t).bw l⟩;have Q:=zh Z;have P:=zh hU;have d:=zh$ xA hs s;have K:=zh hz;have S:=kb.two';have x1:=(b U s).2.2.1.two';clear t H kb s Z hU hs h hz;rcases M with rfl|rfl
 all_goals
  delta qC;go_in
  go_wp2_with (first|rw[<-Q.o]|rw[<-P.o])
  go_region_law (first
   | (refine vZ rfl _ _ 25 rfl V.heap.size 3 i0 (qI 0) 1 8 underlying25 hi a0 a1 a2 rfl Ja _ [] rfl (by first|exact G.o|exact G.o.bw brf.drew|exact⟨rfl,.inl ⟨rfl,rfl⟩⟩) a n Y zs rfl (by first|exact(b U d.o.2).2.2.2|exact(b V brf).2.2.2) (λ_=>rfl) (λy u hu=>by simp[clI]at hu;subst hu;rfl) (by unfold maxLen;simp;omega) Jc (by first|exact d.o.2.size|exact aQ) ?_;intro v' w1 i j;rw[List.nil_append]at i;obtain⟨W,c,rfl⟩:=aZ i;obtain⟨c1,c2,c3⟩:=(bL j (by first|exact(b U d.o.2).2.2.1|exact(b V brf).2.2.1) (by intro e;first|(have f:some w.heap.size=some V.heap.size:=e;injection f with f;have:=d.o.1;omega)|cases e)).two';have g:=zh (bL j (by first|exact(b U d.o.2).2.1|exact(b V brf).2.1) (by intro e;first|(have f:some (w.heap.size+1)=some V.heap.size:=e;injection f with f;have:=d.o.1;omega)|cases e));obtain⟨r1,r2,r3⟩:=g.o.two'))
  all_goals
   try rw[I]at i
   have hs:=d.o.1;have O:OI w1 V.heap.size (qS W n c) zs:=⟨by have q:=i;unfold OG at q;rw[zW]at q;exact q,K.o⟩
   have A:qY w w1:=by
    first
     | exact(b U d.o.2).1.drew.grown j (by have:=(b U d.o.2).1.size;exact this) (λk B=>by have f:some V.heap.size=some k:=B;injection f with f;omega)
     | exact(b V brf).1.drew.grown j (by have:=(b V brf).1.size;exact this) (λk B=>by cases B)
   have N:=((O.other (qr w 0) (qI pc) Jd).other (qr w 1) (qS W n c) Jd).mono (base':=w.heap.size) J;have x:=(A.setCell (p:=(qr w 0)) Jd$ qI pc).setCell (p:=(qr w 1)) Jd$ qS W n c;have C:Blk ((w1.setCell (qr w 0)$ qI pc).setCell (qr w 1)$ qS W n c) (w.heap.size+1) #[qI pc,qS W n c] 38:=by simpa using(g.o.set 0$ qI pc).set 1 (qS W n c)
   have p:=C.two';have E:=zh$ xA N x;go_wp2;exact bodyPost_ret (v:=.agg #[qI pc,qS W n c]) (by simp[results,results71,results85,go_sem,p]) rfl ⟨W,c,rfl,E.o.1,E.o.2⟩
def zC (pc b off n a d w)(h:IS w (some$ qR b off) n a d)(hn:n<=1048576):qC 71 #[.agg #[qI pc,qS (some$ qR b off) n a]] w (fQ w pc n d):=aAg (.inl rfl) pc _ n a d w (zF h) h.2.2.1 hn
def aFc (pc b off n a d w)(h:IS w (some$ qR b off) n a d)(hn:n<=1048576):qC 85 #[.agg #[qI pc,qS (some$ qR b off) n a]] w (fQ w pc n d):=aAg (.inr rfl) pc _ n a d w (zF h) h.2.2.1 hn
def aJe (pc w):qC 71 #[.agg #[qI pc,qS none 0 0]] w (fQ w pc 0 []):=aAg (.inl rfl) pc none 0 0 [] w ⟨rfl,.inl ⟨rfl,rfl,rfl⟩⟩ (λ_ h=>by cases h) Ja
def upN (n:Nat):List Int:=(List.range n).map (λi:Nat=>(i:Int))
def nO (n):(upN n).length=n:=by simp[upN]
def aUs (n k)(h:k<n):(upN n).getD k 0=(k:Int):=by simp[upN,xB,h]
def aA5 (L X Z)(xs:List PB)(a2 c2 Y c5)(q:List TB)(b l w)(O:¬b=-1)(G:¬l=0)(S:l<=1048576):
 qC 182 #[.agg$ qL L X xs.length Z a2 l c2 Y q.length c5,qI b] w λe w'=>∃g,e=.returned (qS (qP g) l l)/\RowI w' g (upN l)/\qY w w':=by
 let⟨i0,hi,a0,a1,a3⟩:=info_parts rO;have E:((l:Int)==0)=false:=by simpa using G
 let⟨W,V⟩:=aO$ w.alloc$ .cells (qL L X xs.length Z a2 l c2 Y q.length c5) 65;have x:=zh (show qY w W by rw[V];exact bal);have A:Blk W w.heap.size (qL L X xs.length Z a2 l c2 Y q.length c5) 65:=by rw[V];exact Blk.new w _ _
 have I:=A.e2;have H:=zh V;clear V A;generalize xs.length=n at *;generalize q.length=k at *
 delta qC;go_in
 go_wp2_with (first|rw[<-H.o]|(at_make;refine wpList_make_full _ rfl _ _ 25 rfl W.heap.size 3 i0 (qI 0) 1 underlying25 hi a0 a1 .i64 .i64 _ _ l rfl rfl rfl rfl (by rw[a3];omega) Jf aQ ?_;intro Q f p))
 have d:=lK f;have a:=bH p;clear f p hi a0 a1 a3 I;go_loopw [6,22] (λ_ i wr=>∃k:Nat,k<=l/\i=qI k/\RowI wr W.heap.size (aN (upN l) k)/\qY W wr) (λ_ i _=>l-(intOf i).toNat)
 .exact⟨0,xC _,rfl,by rw[kY,nO];exact d,a⟩
 .obtain⟨k,P,rfl,j,s⟩:=hrel;clear d a;by_cases t:k<l
  .have B:(k:Int)<(l:Int):=J
   have D:qn wr W k=qj ((aN (upN l) k).getD k 0):=j.cell k (by rw[rG,nO];omega);have K:wr.frozen? (qh W k)=false:=j.frozen k;have u:=j.set k$ (upN l).getD k 0;rw[rE (upN l) k (by rw[nO];omega),aUs l k t]at u;have y:qY W (wr.setCell (qh W k)$ qI (k:Int)):=s.setCell aQ _;have N:=zh u;have M:=zh y;generalize (aN (upN l) k).getD k 0=U at *;clear j s u y;go_wp2
   go_roundw
   .exact⟨k+1,J,by go_num,N,M⟩
   .simp[intOf];omega
  .have e:Zh (k=l):=by show k=l;omega
   have C:=zh$ xA j s;clear j s;go_wp2;go_ret;refine⟨_,rfl,?_,yT x C.2⟩;have:=C.1;have e2:aN (upN l) l=upN l:=by have:=rH$ upN l;rwa[nO]at this
   rw[e.o,e2]at this;exact this
