import Derived.Test.YtdjdcdnjjmjonaaGreatR17
import Derived.Test.YtdjdcdnjjmjonaaGreatR19
set_option linter.all false
set_option maxHeartbeats 8000000
namespace Go.Proofs.YtdjdcdnjjmjonaaGreat
open Go.RowKit
open Go.Proofs.Tryz
set_option maxRecDepth 100000
variable {C:Cn}{G g:Nat}{M:Mn}{S:Nat->Prop}{cs:Array Value}{rs:List Rg}{s1 s2 s3 s4 v:Value}
def aKc {P:Program}{f:FuncId}{fn:Func}{c:Code}{args:Array Value}{w:qw}{R:Ending->World->Prop}(b:P.funcs[f]?=some fn)(a:fn.body=some c)(h:c.wp P (bodyPost P fn R) { tmps:=args++Array.replicate (fn.ntmps-args.size) undef,defers:=[] } w):Calls P f args w R/\∀u,CallsD P f args u w λe d w'=>d=u/\R e w':=⟨calls_of_wp b a h,λu=>callsD_of_wp b a h⟩
theorem MxO.gm {W b:qw}{base aN:Nat}{a:List (PMod×Mb)}{β:Nat->Nat}(h:MxO W base aN C M a β)(kb:Blk W G cs 142)(e:aN<=G)(T:Turn (λj=>j=G) W b):MxO b base aN C M a β:=
 ⟨h.upd T (λj d=>by grind),h.e,aV T h.k$ aS kb h.k.1 Ja,dV h.q T (λj d=>by
  rcases d with q|q|q
  .exact aS kb h.q.1.1 Ja j q
  .exact aS kb h.q.2.1.1 Ja j q
  .exact aS kb h.q.2.2.1.1 Ja j q),h.l.kept T$ aS kb h.l Ja,h.h.kept T$ aS kb h.h Ja,h.bm,h.bh,h.vs,h.vz⟩
def Mg.put {s W:qw}{Y:Lyb}{d p:Value}(h:Mg s W G Y C M d p)(i v){a:Mn}{q:Cn}{b vr':Value}(e:(#[qS M.ma M.mn M.mc,qI M.cs,qI M.cw,qI M.ck,qI M.cd,qI M.pc,qS M.ka M.kn M.kc,qS M.fa M.fn M.fc,qS M.ra M.rn M.rc,qS M.oa M.on M.oc,qI M.md,qI M.bk,qS M.la M.ln M.lc,d,qI M.tn,qS Y.a0 Y.xs.length Y.c0,qI Y.L.stack,qS Y.a2 Y.L.slots.length Y.c2,qI Y.L.flash,qI Y.L.ram,qS Y.a5 Y.ts.length Y.c5,qI M.cd,qS M.ha M.hn M.hc,p]:Array Value).setIfInBounds i v=#[qS a.ma a.mn a.mc,qI a.cs,qI a.cw,qI a.ck,qI a.cd,qI a.pc,qS a.ka a.kn a.kc,qS a.fa a.fn a.fc,qS a.ra a.rn a.rc,qS a.oa a.on a.oc,qI a.md,qI a.bk,qS a.la a.ln a.lc,b,qI a.tn,qS Y.a0 Y.xs.length Y.c0,qI Y.L.stack,qS Y.a2 Y.L.slots.length Y.c2,qI Y.L.flash,qI Y.L.ram,qS Y.a5 Y.ts.length Y.c5,qI a.cd,qS a.ha a.hn a.hc,vr'])(t:∀{X:qw}{g aN:Nat}{f:List (PMod×Mb)}{l:Nat->Nat},MxO X g aN C M f l->MxO X g aN q a f l):Mg s (W.setCell (qR G i) v) G Y q a b vr':=by
 have T:=aD W G i v;let⟨g,aN,f,l,m,x,w⟩:=h.m;have k:=h.k.set i v;rw[e]at k;exact⟨aF h.b T (λj u=>jK h.g) h.b.size,h.g,k,⟨g,aN,f,l,t$ m.gm h.k w T,x,w⟩,h.l⟩
def gkd (ty:TypeId):Prop:=ty=5\/ty=142\/ty=132\/ty=3
def TGx (W W':qw):Prop:=Turn (λj=>∃cs ty,Blk W j cs ty/\gkd ty) W W'
def TGx.trans {A B C:qw}(h:TGx A B)(k:TGx B C):TGx A C:=
 ⟨k.os.trans h.os,k.tape.trans h.tape,k.output.trans h.output,xM h.size k.size,λj a hs=>by
  have e:=h.block j a hs
  exact(k.block j (Nat.lt_of_lt_of_le a h.size) λ⟨b,d,kb,q⟩=>hs ⟨b,d,e.symm.trans kb,q⟩).trans e⟩
def bN {W W':qw}(h:qY W W'):TGx W W':=aG h
def fI {W W':qw}(t:Turn S W W')(h:∀j,S j->∃cs a,Blk W j cs a/\gkd a):TGx W W':=t.mono h
def TGx.blk {W a:qw}{ty:TypeId}(t:TGx W a)(k:Blk W g cs ty)(h:¬gkd ty):Blk a g cs ty:=aC t k (λ⟨c,y,kb,q⟩=>h (by rw[aH k kb];exact q))
def Kb (w w':qw):Prop:=∀(j:Nat)(cs:Array Value)(t:TypeId),¬(gkd t\/t=136)->Blk w j cs t->Blk w' j cs t
def Kb.trans {A B C:qw}(h:Kb A B)(k:Kb B C):Kb A C:=λj a t n b=>k j a t n$ h j a t n b
def TGx.kb {A B:qw}(h:TGx A B):Kb A B:=λj a t n b=>h.blk b λq=>n$ .inl q
def bR {A B:qw}(h:qY A B):Kb A B:=λj a t n b=>b.bw h
def rgR:Rg:=(65536,14,0,false,true,false)
def aRu (a)(d:65536<=a)(b:a<81920):dC [rgR] a 2 1=true:=by
 have e1:zM rgR a=true:=by
  unfold zM rgR hs;simp;omega
 show(if zM ([rgR].getD 0 z6) a then aCt ([rgR].getD 0 z6) 2 else dC [rgR] a 2 0)=true;rw[show([rgR].getD 0 z6)=rgR from rfl,e1];rfl
def aRv (a)(d:65536<=a)(b:a+4<=81920):alw [rgR] 1 a 4 2=true:=by
 have e1:okB [rgR] 1=true:=Ja
 have e2:upB [rgR] a 2 1 (4:Int).toNat=true:=pV.2 (λi hi=>by
  have hi:i<4:=hi;have:wrap64 (a+i)=a+i:=by unfold wrap64;omega
  rw[this]
  exact aRu _ J J)
 unfold alw;rw[e1,e2];rfl
def aWo {W:qw}(k:Blk W g #[qI 65536,qI 14,qI 0,.bool false,.bool true,.bool false] 231):RS W (qP g) 1 1 [rgR]:=by
 refine⟨rfl,Ja,λg a=>?_,λ_=>⟨g,0,rfl,λi hi=>?_⟩,aQ⟩
 .simp at a;subst a;unfold rgR wfi;simp
 .obtain rfl:i=0:=J
  exact⟨k.cell 0,k.cell 1,k.cell 2,k.cell 3,k.cell 4,k.cell 5⟩
def aMf (l G Y C M i s w)(h:Mg l w G Y C M i s):qC 281 #[.pointer$ qP G] w λe w'=>e=.returned (.tuple #[])/\∃g,Mg l w' G Y C M i (qS (qP g) 1 1)/\Blk w' g #[qI 65536,qI 14,qI 0,.bool false,.bool true,.bool false] 231/\TGx w w':=by
 let⟨V,p,f,q⟩:=nwb w #[qI 65536,qI 14,qI 0,.bool false,.bool true,.bool false] 231;have a:=h.bw f;have:=a.k.cell 23;have:=a.k.frozen 23;have:G<w.heap.size:=h.k.lt;have b:Zh (Mg l (V.setCell (qR G 23)$ qS (qp w) 1 1) G Y C M i (qS (qp w) 1 1)/\Blk (V.setCell (qR G 23)$ qS (qp w) 1 1) w.heap.size #[qI 65536,qI 14,qI 0,.bool false,.bool true,.bool false] 231/\TGx w (V.setCell (qR G 23)$ qS (qp w) 1 1)):=⟨a.put 23 _ rfl λx=>x,q.other (qR G 23) (qS (qp w) 1 1) Jd,(bN f).trans (fI (aD _ G 23 _) (λj k=>by subst k;exact⟨_,_,a.k,.inr$ .inl rfl⟩))⟩;have d:=zh p;clear p f q a h
 delta qC;go_in
 go_wp2_with (rw[<-d.o])
 go_end0
 exact⟨rfl,w.heap.size,b.1,b.2.1,b.2.2⟩
structure Cz (C:Cn)(L:Lay):Prop where
 l:Lok C.ps L
 n:C.ps.length<=4
 p:0<=pcq C.ps C.md C.bk
 s:hld C.lz C.md C.bk=-1\/(C.bk≠-1/\0<=hld C.lz C.md C.bk/\hld C.lz C.md C.bk<(L.slots.length:Int))
abbrev plQ (C:Cn)(L:Lay):List Rg:=if (plR C.ps L C.md C.bk (hld C.lz C.md C.bk)).length<=8 then plR C.ps L C.md C.bk (hld C.lz C.md C.bk) else []
abbrev Rgn (w:qw)(v:Value)(rs:List Rg):Prop:=∃b,ORg w b v rs
def vI {w w':qw}(h:Rgn w v rs)(T:Turn S w w')(hS:∀j,S j->∃cs a,Blk w j cs a/\a≠231):Rgn w' v rs:=
 let⟨b,o⟩:=h
 ⟨b,fG T o (λk e s=>by
  let⟨cs,a,kb,n⟩:=hS k s;let⟨_,d⟩:=aE o.1 e
  exact n$ aH kb d)⟩
def mP {w w':qw}(h:Rgn w v rs)(a:qY w w'):Rgn w' v rs:=vI (S:=λ_=>False) h (aG a) λ_ q=>q.elim
def LwP (w1 w:qw)(G:Nat)(Y:Lyb)(C:Cn)(M:Mn)(v13:Value)(e:Ending)(w':qw):Prop:=e=.returned (.tuple #[])/\∃A k c,Mg w1 w' G Y C M v13 (qS A k c)/\Rgn w' (qS A k c) (plQ C Y.L)/\Turn (λj=>j=G) w w'
def sY (S G Y C M g vr w)(h:Mg S w G Y C M g vr)(hz:Cz C Y.L):qC 83 #[.pointer$ qP G] w (LwP S w G Y C M g)/\∀u,CallsD prog 83 #[.pointer$ qP G] u w λe Q w'=>Q=u/\LwP S w G Y C M g e w':=by
 let⟨⟨_,_,_,_,_,e6,e7,_⟩,e9,_⟩:=h.vs;have t:=zb w λX a=>(aCh S G Y C M g vr X$ h.bw a).mono λe w' d=>show e=.returned (.agg$ qT M.md M.bk 0)/\qY w w' from⟨d.1,yT a d.2⟩;have y:=zb w λX a=>(wE S G Y C M g vr X$ h.bw a).mono λe w' d=>show e=.returned (qI$ hld C.lz M.md M.bk)/\qY w w' from⟨d.1,yT a d.2⟩
 have l:=zh (λ(X:qw)(a:qY w X)=>(wL M.ma M.mn M.mc M.ms Y.L Y.a0 Y.c0 Y.xs Y.a2 Y.c2 Y.a5 Y.c5 Y.ts M.md M.bk 0 (hld C.lz M.md M.bk) X ((h.bw a).mnd hz.n).m (h.bw a).ly (by rw[e9];exact hz.l) (by rw[e9,e6,e7];exact hz.p) (by rw[e6,e7];exact hz.s)).mono (λe w' d=>show ∃A k c q,e=.returned (.tuple #[qS A k c,.bool q])/\qY w w'/\((w'.setCell (qR G 23)$ qS A k c).cell? (qR G 0)=qk M.ma M.mn M.mc/\(w'.setCell (qR G 23)$ qS A k c).cell? (qR G 15)=qk Y.a0 Y.xs.length Y.c0/\(w'.setCell (qR G 23)$ qS A k c).cell? (qR G 16)=qj Y.L.stack/\(w'.setCell (qR G 23)$ qS A k c).cell? (qR G 17)=qk Y.a2 Y.L.slots.length Y.c2/\(w'.setCell (qR G 23)$ qS A k c).cell? (qR G 18)=qj Y.L.flash/\(w'.setCell (qR G 23)$ qS A k c).cell? (qR G 19)=qj Y.L.ram/\(w'.setCell (qR G 23)$ qS A k c).cell? (qR G 20)=qk Y.a5 Y.ts.length Y.c5)/\(qN w' G 23=some vr/\w'.frozen? (qR G 23)=false)/\LwP S w G Y C M g (.returned$ .tuple #[]) (w'.setCell (qR G 23)$ qS A k c)by
  obtain⟨A,k,c,d,ho,hb⟩:=d;have D:=yT a hb;have b:=(h.bw D);rw[e9,e6,e7]at ho;refine⟨A,k,c,_,d,D,⟨(b.put 23 (qS A k c) (vr':=qS A k c) rfl λx=>x).k.cell 0,(b.put 23 (qS A k c) (vr':=qS A k c) rfl λx=>x).k.cell 15,(b.put 23 (qS A k c) (vr':=qS A k c) rfl λx=>x).k.cell 16,(b.put 23 (qS A k c) (vr':=qS A k c) rfl λx=>x).k.cell 17,(b.put 23 (qS A k c) (vr':=qS A k c) rfl λx=>x).k.cell 18,(b.put 23 (qS A k c) (vr':=qS A k c) rfl λx=>x).k.cell 19,(b.put 23 (qS A k c) (vr':=qS A k c) rfl λx=>x).k.cell 20⟩,⟨b.k.cell 23,b.k.frozen 23⟩,rfl,A,k,c,b.put 23 _ rfl λx=>x,?_,(aG D).trans$ aD _ G 23 _⟩;have T:=aD w' G 23$ qS A k c;refine⟨_,fG T ho λj O e=>?_⟩;subst e;have:=(World.ownsRow.lt ho.1 _ O).1;have:=h.k.lt;have:=a.size
  omega))
 have p:=zb w λX a=>show qN X G 0=qk M.ma M.mn M.mc/\qN X G 15=qk Y.a0 Y.xs.length Y.c0/\qN X G 16=qj Y.L.stack/\qN X G 17=qk Y.a2 Y.L.slots.length Y.c2/\qN X G 18=qj Y.L.flash/\qN X G 19=qj Y.L.ram/\qN X G 20=qk Y.a5 Y.ts.length Y.c5 from⟨(h.bw a).k.cell 0,(h.bw a).k.cell 15,(h.bw a).k.cell 16,(h.bw a).k.cell 17,(h.bw a).k.cell 18,(h.bw a).k.cell 19,(h.bw a).k.cell 20⟩;generalize hld C.lz M.md M.bk=s at *;have:=p w brf;clear h hz e6 e7 e9;refine aKc func83 rfl ?_;simp only[ntmps83,List.size_toArray,List.length_cons,List.length_nil,Nat.reduceAdd,Nat.reduceSub,Array.replicate_succ,Array.replicate_zero,List.push_toArray,List.append_toArray,List.nil_append,List.cons_append];go_wp2_with fail
 go_region_held3 (λw'=>qN w' G 0=qk M.ma M.mn M.mc/\qN w' G 15=qk Y.a0 Y.xs.length Y.c0/\qN w' G 16=qj Y.L.stack/\qN w' G 17=qk Y.a2 Y.L.slots.length Y.c2/\qN w' G 18=qj Y.L.flash/\qN w' G 19=qj Y.L.ram/\qN w' G 20=qk Y.a5 Y.ts.length Y.c5) (go_keep)
  (first
    | (go_at_call 148;refine(t _ (by first|exact brf|exact brf.drew|exact f)).mono ?_
       rintro e U ⟨rfl,i⟩
       have:=p U i)
    | (go_at_call 149;refine(y _ (by first|exact brf|exact brf.drew|exact i)).mono ?_
       rintro e K ⟨rfl,f⟩
       have:=p K f)
    | (go_at_call 147;first
        | with_reducible refine(l.o _ f).mono ?_
        | with_reducible refine(l.o _ i).mono ?_
       rintro e w4 ⟨A,k,c,q,rfl,B,⟨m0,H,V,a0,I,P,Z⟩,⟨N,yf⟩,E⟩;have:=p w4 B;have W:=zh E
       clear E))
 all_goals
  go_wp2
  go_end0
  exact W
theorem aUq {n1 n2 n3 k:Nat}{x1 x2 x3:qi}{p v:Int}(b:mok n1 n2 n3=true)(a:p-65536=(k:Int))(d:k+4<=n2)(ha:p%4=0):wrm n1 n2 n3 x1 x2 x3 p 4 v=(x1,put x2 k v 4,x3,0):=by
 have:=uO b;unfold wrm;rw[if_pos ⟨b,wd4⟩,if_neg (by grind),if_neg J,if_neg (by unfold ins;simp;omega),if_pos (by unfold ins;simp;omega),a];rfl
def oP (x n P rs w)(h:RS w x n P rs)(F)(K:F=(decide (n<=8)&&okB rs n)):
 qC 270 #[qS x n P] w (qB w$ .bool F):=by
 have:=h.1;have:=h.2.1;have B:=zh K;clear K;by_cases h8:8<n
 .have E:(8:Int)<(n:Int):=J
  delta qC;go_in
  go_wp2;go_ret;exact⟨aA (by rw[B.o];simp[show ¬n<=8 from J]),brf⟩
 .have E:¬(8:Int)<(n:Int):=J
  delta qC;go_in
  go_wp2;go_loopw [10] (λi wr=>∃j:Nat,j<=n/\i=qI j/\aBd rs j/\qY w wr) (qf n)
  .exact⟨0,xC _,rfl,λi hi=>absurd hi J,brf⟩
  .obtain⟨j,hj,rfl,l,s⟩:=hrel;by_cases u:j<n
   .obtain⟨b,off,rfl⟩:=h.some J;have d:=(h.bw s).at j u;have q:=zh l;clear l;have y:=h.2.2.1 (rs.getD j z6) (by simp[xB,show j<rs.length from J]);have p:gok (rs.getD j z6)=false->okB rs n=false:=aCl u;have f:gok (rs.getD j z6)=true->aBd rs (j+1):=aCk q;have k:=zh p;have a:=zh f;clear p f;generalize rs.getD j z6=g at *;obtain⟨C,G,M,S,W,Z⟩:=g;have V:=wfl y.1;clear y;have U:=d.1;have Y:=d.2.1;have X:=d.2.2.1;have O:=d.2.2.2.1;have N:=d.2.2.2.2.1;have Q:=d.2.2.2.2.2;simp only at U Y X O N Q;have:qY w wr:=s;have:=s.size;go_wp2_with fail
    apply(oU C G M S W Z _ V).mono;rintro e w1 ⟨rfl,H⟩;have t:=(s.alloc s.size$ .cells #[qI C,qI G,qI M,.bool S,.bool W,.bool Z] 231).trans$ H.mono Jc;cases A:rok C G M
    .have I:=zh$ k A;clear A k a;go_wp2;go_ret;exact⟨aA (by rw[B.o,I.o];simp),t⟩
    .have I:=zh$ a A;clear A k a;go_wp2
     go_roundw
     .exact⟨j+1,J,by go_num,I,t⟩
     .simp[qf,intOf];omega
   .have D:j=n:=J
    subst D;have q:=zh$ nT.2 l;clear l;go_wp2;go_ret;exact⟨aA (by rw[B.o,q.o];simp;omega),s⟩
def aBr (x j g rs a s k w)(h:RS w x j g rs)(hn:j<=8)(hs:wd s=true)(y:aBd rs j)(ha:wfi a)(F)(K:F=(okB rs j&&upB rs a k j s.toNat)):
 qC 200 #[qS x j g,qI a,qI s,qI k] w (qB w$ .bool F):=by
 have O:=h.1;have t:1<=s/\s<=4:=by have:=hs;simp[wd]at this;omega
 obtain⟨C,t⟩:=t;have Q:=zh hs;have I:=zh K;have l:=zh y;clear hs K y
 delta qC;go_in
 go_wp2_with fail
 apply(jR s _).mono;rw[Q.o];rintro e V ⟨rfl,rfl⟩;go_wp2_with fail
 apply(oP x j g rs _ h true (by rw[nT.2 l.o];simp;omega)).mono;rintro e W ⟨rfl,A⟩;go_wp2;go_loopw [19] (λi wr=>∃m:Nat,(m:Int)<=s/\i=qI m/\aFq rs a k j m/\qY w wr) (qf s.toNat)
 .exact⟨0,J,rfl,λi hi=>absurd hi J,A⟩
 .obtain⟨m,X,rfl,b,A⟩:=hrel;by_cases P:(m:Int)<s
  .have p:dC rs (wrap64$ a+m) k j=false->upB rs a k j s.toNat=false:=sE J;have d:dC rs (wrap64$ a+m) k j=true->aFq rs a k j (m+1):=aB1 b;have u:=zh p;have f:=zh d;have B:=zh b;go_wp2_with fail
   apply(aRc x j g rs _ k _ (h.bw A) (aGn O l) (aNo _) hn).mono;generalize dC rs (wrap64$ a+m) k j=r at *;rintro e U ⟨rfl,D⟩;have q:=yT A D;cases r
   .have E:=zh$ u rfl;go_wp2;go_ret;exact⟨aA (by rw[I.o,E.o];simp),q⟩
   .have E:=zh$ f rfl;go_wp2
    go_roundw
    .exact⟨m+1,J,by go_num,E,q⟩
    .simp[qf,intOf];omega
  .have H:s.toNat=m:=J
   have N:=zh$ pV.2 b;rw[<-H]at N;have B:=zh b;go_wp2;go_ret;exact⟨aA (by rw[I.o,N.o];rw[nT.2 l.o];rfl),A⟩
def rP (x n g rs a s k w)(h:RS w x n g rs)(b:wd s=false\/(decide (n<=8)&&okB rs n)=false):
 qC 200 #[qS x n g,qI a,qI s,qI k] w (qB w$ .bool false):=by
 cases hs:wd s
 .clear b
  delta qC;go_in
  go_wp2_with fail
  apply(jR s _).mono;rw[hs];rintro e f ⟨rfl,rfl⟩;go_wp2;go_ret;exact⟨rfl,brf⟩
 .have b:=zh (show false=(decide (n<=8)&&okB rs n)by rcases b with b|b;rw[hs]at b;simp at b;exact b.symm)
  delta qC;go_in
  go_wp2_with fail
  apply(jR s _).mono;rw[hs];rintro e f ⟨rfl,rfl⟩;go_wp2_with fail
  apply(oP x n g rs _ h false b).mono;rintro e i ⟨rfl,d⟩;go_wp2;go_ret;exact⟨rfl,d⟩
theorem iH (x n e rs a s k w)(h:RS w x n e rs)(ha:wfi a):
 qC 200 #[qS x n e,qI a,qI s,qI k] w (qB w$ .bool$ alw rs n a s k):=by
 cases hs:wd s
 .have d:alw rs n a s k=false:=by simp[alw,hs]
  rw[d];exact rP x n e rs a s k w h$ Or.inl hs
 .cases b:(decide (n<=8)&&okB rs n)
  .have d:alw rs n a s k=false:=by
    unfold alw
    grind
   rw[d];exact rP x n e rs a s k w h$ Or.inr b
  .simp at b;exact aBr x n e rs a s k w h b.1 hs (nT.1 b.2) ha _ (by simp[alw,hs,b.1])
def aLx (w1 G g Y C M Z)(p v:Int)(w)(h:Mg w1 w G Y C M Z (qS (qP g) 1 1))(K:Blk w g #[qI 65536,qI 14,qI 0,.bool false,.bool true,.bool false] 231)(x:mok C.fz.length C.rz.length C.oz.length=true)(y:65536<=p)(V:p+4<=65536+C.rz.length)(ha:p%4=0)(Q:0<=v/\v<=4294967295):
 qC 317 #[.pointer$ qP G,qI p,qI v] w λe w'=>e=.returned (.tuple #[])/\∃oa on oc,Mg w1 w' G Y { C with rz:=put C.rz (p-65536).toNat v 4 } { M with rz:=put C.rz (p-65536).toNat v 4,oa:=oa,on:=on,oc:=oc,oz:=C.oz } Z (qS (qP g) 1 1)/\TGx w w':=by
 have d:=x;unfold mok at d;simp at d;have f:=zh$ iH (qP g) 1 1 [rgR] p 4 2 w (aWo K) Jh;rw[aRv p y J]at f
 have i:=zh (λ(X:qw)(t:qY w X)=>show qC 278 #[.pointer$ qe G 7,qI p,qI 4,qI v] X (λe w'=>∃r,e=.returned (qI r)/\∃oa on oc,Mg w1 w' G Y { C with rz:=put C.rz (p-65536).toNat v 4 } { M with rz:=put C.rz (p-65536).toNat v 4,oa:=oa,on:=on,oc:=oc,oz:=C.oz } Z (qS (qP g) 1 1)/\TGx w w')by
  have hx:=h.bw t;let⟨a0,aN,Ls,β,m,m1,m2⟩:=hx.m;have B:=bC m.q.1;have I:=bC m.q.2.1;have A:=bC m.q.2.2.1
  have s:=oK M.fa M.ra M.oa M.fn M.fc M.rn M.rc M.on M.oc G 7 aN _ 142 C.fz C.rz C.oz p 4 v X hx.k Ja rfl rfl rfl m.q (λu hu e=>by
   rcases hu with rfl|rfl|rfl
   .exact aS hx.k m.q.1.1 Ja G e rfl
   .exact aS hx.k m.q.2.1.1 Ja G e rfl
   .exact aS hx.k m.q.2.2.1.1 Ja G e rfl) (jK hx.k.lt) Q J J
  rw[aUq (k:=(p-65536).toNat) (by rw[B,I,A];exact x) J J ha]at s;refine s.mono λe w' P=>?_;obtain⟨oa,on,oc,e1,k1,q1,_,T⟩:=P
  have hS:∀j,(j=G\/(qS M.ra M.rn M.rc).ownBlock=some j\/(qS M.oa M.on M.oc).ownBlock=some j)->aN<=j/\∃S b,Blk X j S b/\(b=5\/b=142\/b=43):=λj a=>by
   rcases a with rfl|a|a
   .exact⟨m2,_,_,hx.k,.inr$ .inl rfl⟩
   .have⟨S,kb⟩:=aE m.q.2.1.1 a;exact⟨(m.q.2.1.lt j a).1,S,_,kb,.inl rfl⟩
   .have⟨S,kb⟩:=aE m.q.2.2.1.1 a;exact⟨(m.q.2.2.1.lt j a).1,S,_,kb,.inl rfl⟩
  refine⟨_,e1,oa,on,oc,⟨aF hx.b T (λj a=>jL ((hS j a).1) m.bm) hx.b.size,h.g,k1,⟨a0,aN,Ls,β,m.mem T hS q1,m1,m2⟩,h.l⟩,(bN t).trans (fI T (λj a=>by
   let⟨_,S,b,kb,q⟩:=hS j a
   exact⟨S,b,kb,by rcases q with q|q|q;exact .inl q;exact .inr$ .inl q;exact absurd q (by
    rintro rfl;rcases a with rfl|a|a
    .have:=aH hx.k kb;revert this;decide
    .have⟨c2,W⟩:=aE m.q.2.1.1 a;have:=aH W kb;revert this;decide
    .have⟨c2,W⟩:=aE m.q.2.2.1.1 a;have:=aH W kb;revert this;decide)⟩))⟩)
 have D:=h.k.cell 23
 delta qC;go_in
 go_wp2_with fail
 apply f.mono;rintro e N ⟨rfl,l⟩;have H:=zh l;go_wp2_with fail
 apply(i N H).mono;rintro e U ⟨r,rfl,E⟩;have O:=zh E;go_wp2
 go_end0
 exact⟨rfl,O⟩
def aQq (w1 G g Y C M a0 s ba O bc S w)(h:Mg w1 w G Y C M a0 (qS (qP g) 1 1))(d:Blk w g #[qI 65536,qI 14,qI 0,.bool false,.bool true,.bool false] 231)(hm:mok C.fz.length C.rz.length C.oz.length=true)(hc:1<=C.cw/\C.cw<=64)(hs:s<Y.L.slots.length)(h0:65536<=Y.L.slots.getD s 0)(h1:(Y.L.slots.getD s 0-65536).toNat+slz C.cw<=C.rz.length)(ha:Y.L.slots.getD s 0%4=0)(hw:∀i,0<=S.getD i 0/\S.getD i 0<=4294967295)
 (hi:∀{X:qw}{C':Cn}{M':Mn}{a8:Value},Mg w1 X G Y C' M' a0 a8->M'.ms=M.ms->C'.ps=C.ps->IS X ba O bc S):
 qC 304 #[.pointer$ qP G,qI s,qS ba O bc] w λe w'=>e=.returned (.tuple #[])/\∃oa on oc,Mg w1 w' G Y { C with rz:=cG C.rz (Y.L.slots.getD s 0-65536).toNat S (slz C.cw/4) } { M with rz:=cG C.rz (Y.L.slots.getD s 0-65536).toNat S$ slz C.cw/4,oa:=oa,on:=on,oc:=oc,oz:=C.oz } a0 (qS (qP g) 1 1)/\TGx w w':=by
 have p:=hm;unfold mok at p;simp at p;let⟨z1,z2,z3⟩:=gS hc.1 hc.2;have E:4*(slz C.cw/4)=slz C.cw:=by unfold rnd at z1;omega
 let⟨N,hN⟩:=aO$ slz C.cw/4;let⟨f,hf⟩:=aO$ (Y.L.slots.getD s 0-65536).toNat;let⟨A,hA⟩:=aO$ Y.L.slots.getD s 0;rw[<-hA]at hf ha h0;rw[<-hN,<-hA,<-hf];rw[<-hA,<-hf]at h1;let⟨gs,os,ea,a7⟩:=h.ly.s.2.2.2.1 J;have ag:=h.ly.s.2.1
 have a5:=zh (λ(X:qw)(P:qY w1 X)=>show qN X gs (os+s)=qj A by
  let⟨ai,aj,a1,a6⟩:=(h.l.bw P).s.2.2.2.1 J;rw[ea]at a1;cases a1
  rw[hA]
  exact a6 s J)
 have e2:=h.vs.1.2.1;have l:=zh (λ(X:qw)=>lI M.cs M.cw M.ck M.cd X (by rw[e2];exact hc.1) (by rw[e2];exact hc.2));rw[e2]at l
 have W:=zh (λ(k:Nat)(X:qw)(oa:qO)(on oc:Nat)(hk:k<N)(P:Mg w1 X G Y { C with rz:=cG C.rz f S k } { M with rz:=cG C.rz f S k,oa:=oa,on:=on,oc:=oc,oz:=C.oz } a0 (qS (qP g) 1 1))(a4:Blk X g #[qI 65536,qI 14,qI 0,.bool false,.bool true,.bool false] 231)=>show qC 317 #[.pointer$ qP G,qI$ A+4*k,qI$ S.getD k 0] X (λe w'=>e=.returned (.tuple #[])/\∃oa on oc,Mg w1 w' G Y { C with rz:=cG C.rz f S (k+1) } { M with rz:=cG C.rz f S$ k+1,oa:=oa,on:=on,oc:=oc,oz:=C.oz } a0 (qS (qP g) 1 1)/\TGx X w')by
  have I:(cG C.rz f S k).length=C.rz.length:=kQ _ _ _ _;have:=aLx w1 G g Y { C with rz:=cG C.rz f S k } { M with rz:=cG C.rz f S k,oa:=oa,on:=on,oc:=oc,oz:=C.oz } a0 (A+4*k) (S.getD k 0) X P a4 (by show mok _ (cG C.rz f S k).length _=true;rw[I];exact hm) J (by show _<=65536+((cG C.rz f S k).length:Int);rw[I];omega) J$ hw k;rw[show(A+4*(k:Int)-65536).toNat=f+4*k from J]at this
  exact this)
 have HI:=zh λ(k:Nat)(X:qw)(oa:qO)(on oc:Nat)(P:Mg w1 X G Y { C with rz:=cG C.rz f S k } { M with rz:=cG C.rz f S k,oa:=oa,on:=on,oc:=oc,oz:=C.oz } a0 (qS (qP g) 1 1))=>hi P rfl rfl;have aa:=zh$ xA z1$ xA z2 E;have af:((slz C.cw:Nat):Int).tdiv 4=(N:Nat):=by rw[Int.tdiv_eq_ediv_of_nonneg J];omega
 have ae:N<=64:=J
 have ah:A<=100000:=J
 have H:=(hi h rfl rfl).2.1;have ad:=(hi h rfl rfl).1;unfold maxLen at H
 have HS:=zh (show Mg w1 w G Y { C with rz:=cG C.rz f S 0 } { M with rz:=cG C.rz f S 0,oa:=M.oa,on:=M.on,oc:=M.oc,oz:=C.oz } a0 (qS (qP g) 1 1)by
  have e:M.rz=C.rz/\M.oz=C.oz:=by obtain⟨_,_,_,_,m,_⟩:=h.m;exact⟨m.vz.2.2.2.1,m.vz.2.2.2.2.1⟩
  have:=h;rw[show M={ M with rz:=C.rz,oa:=M.oa,on:=M.on,oc:=M.oc,oz:=C.oz } by rw[<-e.1,<-e.2]]at this
  exact this)
 have HK:=zh d;let⟨x1,x2,x3,x4⟩:=show w.cell? ⟨G,1,none⟩=qj M.cs/\w.cell? ⟨G,2,none⟩=qj M.cw/\w.cell? ⟨G,3,none⟩=qj M.ck/\w.cell? ⟨G,4,none⟩=qj M.cd from⟨h.k.cell 1,h.k.cell 2,h.k.cell 3,h.k.cell 4⟩;rw[e2]at x2;clear h d hm p hi a7 z1 z2 z3 E hN hf hA e2 h1 hc ha;generalize slz C.cw=Z at *
 delta qC;go_in
 go_wp2_with fail
 apply(l w).mono;rintro e wa ⟨rfl,u⟩;have Q:=zh$ HS.bw u;have B:=zh$ bN u;clear x1 x2 x3 x4 u HS l;go_wp2_with fail
 go_loopw [15] (λi wr=>∃(k:Nat) (oa:qO) (on oc:Nat),k<=N/\i=qI k/\Mg w1 wr G Y { C with rz:=cG C.rz f S k } { M with rz:=cG C.rz f S k,oa:=oa,on:=on,oc:=oc,oz:=C.oz } a0 (qS (qP g) 1 1)/\TGx w wr) (qf N)
 .exact⟨0,_,_,_,xC _,rfl,Q,B⟩
 .obtain⟨k,oa,on,oc,hk,rfl,j,d⟩:=hrel;clear Q B;by_cases V:k<N
  .have a9:(k:Int)<(N:Int):=J
   have q:qN wr G 17=qk Y.a2 Y.L.slots.length Y.c2:=j.k.cell 17;rw[ea]at q;have xs:=a5 wr j.b;have U:=zh$ W k wr oa on oc V j$ d.blk HK Jg;have D:=zh d;have ac:(s:Int)<(Y.L.slots.length:Int):=J
   have ab:(0:Int)<=(s:Int):=J
   by_cases c1:k<O
   .have a3:(k:Int)<(O:Int):=J
    let⟨gb,ob,eb,a2⟩:=(HI k wr oa on oc j).2.2.2.1 J;have xb:=a2 k c1;generalize S.getD k 0=z at *;subst eb;clear j d a2;go_wp2_with fail
    apply U.mono;rintro e wb ⟨rfl,y,x,t,a,b⟩;have K:=zh$ xA a$ D.trans b;clear a b q xs xb U;go_wp2
    go_roundw
    .exact⟨k+1,y,x,t,J,by go_num,K⟩
    .simp[qf,intOf];omega
   .have a3:¬(k:Int)<(O:Int):=J
    have ez:S.getD k 0=0:=by rw[xB,xO J];rfl
    rw[ez]at U;clear j d ez;go_wp2_with fail
    apply U.mono;rintro e wb ⟨rfl,y,x,t,a,b⟩;have K:=zh$ xA a$ D.trans b;clear a b q xs U;go_wp2
    go_roundw
    .exact⟨k+1,y,x,t,J,by go_num,K⟩
    .simp[qf,intOf];omega
  .obtain rfl:k=N:=J
   have K:=zh$ xA j d;clear j d;go_wp2
   go_end0
   exact⟨rfl,oa,on,oc,K⟩
structure Pr (w:qw)(g:Nat)(pc:Int)(rg:qi)(s1 s2 s3 s4:Value):Prop where
 blk:Blk w g (#[.int .u32 pc]++(rg.map (Value.int .u32)).toArray++#[s1,s2,s3,s4]) 152
 len:rg.length=8
 pcw:0<=pc/\pc<=4294967295
 rgw:∀z∈rg,0<=z/\z<=4294967295
def Pr.pc {w:qw}{pc:Int}{rg:qi}(h:Pr w g pc rg s1 s2 s3 s4):w.cell? (qR g 0)=some (.int .u32 pc):=by
 rw[h.blk.cell];simp
theorem Pr.reg {w:qw}{pc:Int}{rg:qi}(h:Pr w g pc rg s1 s2 s3 s4)(i)(hi:i<8):w.cell? (qR g$ 1+i)=some (.int .u32$ rg.getD i 0):=by
 rw[h.blk.cell];have:=h.len;rw[Array.getElem?_append_left (by grind),Array.getElem?_append_right Jb]
 grind
theorem Pr.range {w:qw}{pc:Int}{rg:qi}(h:Pr w g pc rg s1 s2 s3 s4)(i):0<=rg.getD i 0/\rg.getD i 0<=4294967295:=by
 by_cases hi:i<rg.length
 .have:=h.rgw rg[i] (List.getElem_mem hi)
  grind
 .grind
theorem aNp (n):IntKind.i16.wrap n=(n+32768)%65536-32768:=by
 simp[IntKind.wrap,IntKind.bits,IntKind.signed]
 grind
def tY (i w)(d:0<=i)(b:i<=65535):
 qC 277 #[qI i] w λe w'=>e=.returned (.int .u32$ eA i%4294967296)/\w=w':=by
 have a:Zh (IntKind.i16.wrap i%4294967296=eA i%4294967296):=by
  show _=_;rw[aNp];unfold eA;split<;>omega
 delta qC;go_in
 go_wp2;go_ret;exact⟨aJ a,rfl⟩
def aIn (op d a i g pc rg s1 s2 s3 e w)(h:Pr w g pc rg s1 s2 s3 e)(j:0<=d)(k:d<=7):
 qC 208 #[.pointer$ qP g,.agg$ qW op d a i] w (qB w$ .int .u32$ rg.getD d.toNat 0):=by
 have f:=h.reg d.toNat J;have:=xD w _ f;generalize rg.getD d.toNat 0=z at *;have b:=zh$ (Below.refl w.heap.size w).alloc aQ$ .cells (qW op d a i) 186
 delta qC;go_in
 go_wp2
 go_quiet (fail)
 go_wp2;go_ret;exact⟨rfl,⟨b.os,b.tape,b.output,b.size,b.block⟩⟩
def aO4 (op d a i g pc rg s1 s2 s3 e w)(h:Pr w g pc rg s1 s2 s3 e)(j:0<=a)(k:a<=7):
 qC 210 #[.pointer$ qP g,.agg$ qW op d a i] w (qB w$ .int .u32$ rg.getD a.toNat 0):=by
 have f:=h.reg a.toNat J;have:=xD w _ f;generalize rg.getD a.toNat 0=z at *;have b:=zh$ (Below.refl w.heap.size w).alloc aQ$ .cells (qW op d a i) 186
 delta qC;go_in
 go_wp2
 go_quiet (fail)
 go_wp2;go_ret;exact⟨rfl,⟨b.os,b.tape,b.output,b.size,b.block⟩⟩
def kS (g pc rg s1 s2 s3 a w)(h:Pr w g pc rg s1 s2 s3 a):
 qC 276 #[.pointer$ qP g] w λe w'=>e=.returned (.int .u32$ (pc+4)%4294967296)/\w=w':=by
 have:=h.pc
 delta qC;go_in
 go_wp2;go_ret;exact⟨rfl,rfl⟩
def Pr.bw {w w':qw}{pc:Int}{rg:qi}(h:Pr w g pc rg s1 s2 s3 s4)(a:qY w w'):Pr w' g pc rg s1 s2 s3 s4:=⟨h.blk.bw a,h.len,h.pcw,h.rgw⟩
def sL (op d a i g pc rg s1 s2 s3 D w)(h:Pr w g pc rg s1 s2 s3 D)(q:0<=a)(a1:a<=7)(t:0<=i)(u:i<=65535):
 qC 213 #[.pointer$ qP g,.agg$ qW op d a i] w (qB w$ .int .u32$ (rg.getD a.toNat 0+eA i)%4294967296):=by
 have f:qY w (w.alloc$ .cells (qW op d a i) 186):=bal;have kb:=Blk.new w (qW op d a i) 186;have l:=zh λw h=>aO4 op d a i g pc rg s1 s2 s3 D w h q a1;have p:=zh λw=>tY i w t u;have j:=h.bw f;generalize rg.getD a.toNat 0=z at *;generalize eA i=x at *;have k:Zh (∀y:Int,y=IntKind.u32.wrap (z+x%4294967296)->y=(z+x)%4294967296):=λy s=>by rw[s,IntKind.wrap_u32];omega
 delta qC;go_in
 go_wp2
 go_region_held3 (λC=>qn C w 0=qj op/\qn C w 1=qj d/\qn C w 2=qj a/\qn C w 3=qj i) (go_keep)
  (first
    | (go_at_call 210;refine(l _ ?_).mono ?_;exact⟨j.blk,j.len,j.pcw,j.rgw⟩;rintro e A ⟨rfl,b⟩;replace b:=aU b;obtain⟨E,G,H,I,K⟩:=(kb.bw b).four')
    | (go_at_call 277;refine(p _).mono ?_;rintro e B ⟨rfl,rfl⟩))
 go_wp2;go_ret;exact⟨aJ (by first|exact k.o _ rfl|omega),f.trans$ b.mono Jb⟩
def uA (op d a i g pc rg s1 s2 s3 C w)(h:Pr w g pc rg s1 s2 s3 C)(s:0<=i)(t:i<=65535):
 qC 234 #[.pointer$ qP g,.agg$ qW op d a i] w (qB w$ .int .u32$ (pc+4+4*eA i)%4294967296):=by
 have b:qY w (w.alloc$ .cells (qW op d a i) 186):=bal;have l:=zh λw h=>kS g pc rg s1 s2 s3 C w h;have p:=zh λw=>tY i w s t;have f:=h.bw b;generalize eA i=x at *;have k:Zh (∀y:Int,y=IntKind.u32.wrap ((pc+4)%4294967296+IntKind.u32.wrap (4*(x%4294967296)))->y=(pc+4+4*x)%4294967296):=λy q=>by rw[q,IntKind.wrap_u32,IntKind.wrap_u32];omega
 have j:=zh b
 delta qC;go_in
 go_wp2
 go_region_held3 (λB=>qn B w 0=qj op/\qn B w 1=qj d/\qn B w 2=qj a/\qn B w 3=qj i) (go_keep)
  (first
    | (go_at_call 276;refine(l _ ?_).mono ?_;exact⟨f.blk,f.len,f.pcw,f.rgw⟩;rintro e u ⟨rfl,rfl⟩)
    | (go_at_call 277;refine(p _).mono ?_;rintro e A ⟨rfl,rfl⟩))
 go_wp2;go_ret;exact⟨aJ (by first|exact k _ rfl|omega),by first|exact j|exact j.drew⟩
theorem Pr.setpc {w:qw}{pc:Int}{rg:qi}(h:Pr w g pc rg s1 s2 s3 s4)(v)(a:0<=v/\v<=4294967295):Pr (w.setCell (qR g 0)$ .int .u32 v) g v rg s1 s2 s3 s4:=by
 refine⟨?_,h.len,a,h.rgw⟩;have:=h.blk.set 0$ .int .u32 v
 grind
theorem Pr.setreg {w:qw}{pc:Int}{rg:qi}(h:Pr w g pc rg s1 s2 s3 s4)(i)(hi:i<8)(v)(a:0<=v/\v<=4294967295):Pr (w.setCell (qR g$ 1+i)$ .int .u32 v) g pc (rg.set i v) s1 s2 s3 s4:=by
 have:=h.len;refine⟨?_,by grind,h.pcw,λz b=>?_⟩
 .have:=h.blk.set (1+i)$ .int .u32 v
  have:(#[Value.int .u32 pc]++(rg.map$ Value.int .u32).toArray++#[s1,s2,s3,s4]).setIfInBounds (1+i) (.int .u32 v)=#[Value.int .u32 pc]++((rg.set i v).map$ Value.int .u32).toArray++#[s1,s2,s3,s4]:=by
   apply Array.toList_inj.1;rw[xW];simp only[Array.toList_append,List.map_set]
   grind
  grind
 .rcases List.mem_or_eq_of_mem_set b with b|rfl
  .exact h.rgw z b
  .exact a
def aK (w g i v):Turn (λj=>j=g) w (w.setCell (qR g i) v):=⟨rfl,rfl,rfl,by rw[aL];exact aQ,λj a b=>heap_setCell_other _ _ _ _ b⟩
def aIm (did num g pc rg s1 s2 s3 i w)(h:Pr w g pc rg s1 s2 s3 i):
 qC 204 #[.pointer$ qP g,qI did,qI num] w λe w'=>e=.returned (.agg #[qI did,qI num])/\Pr w' g ((pc+4)%4294967296) rg s1 s2 s3 i/\Turn (λj=>j=g) w w':=by
 have d:=zh λw h=>kS g pc rg s1 s2 s3 i w h;have a:=h.bw$ (Below.refl (qs w) w).alloc aQ$ .cells #[qI 0,qI 0] 80
 delta qC;go_in
 go_wp2_with fail
 apply(d _ a).mono;rintro e p ⟨rfl,rfl⟩;have:=h.blk.lt;have:=a.pc;have:=a.blk.frozen 0;let⟨v,b⟩:=aO$ (pc+4)%4294967296;have q:0<=v/\v<=4294967295:=J
 rw[<-b];have l:=zh b;have k:=zh$ (h.setpc v q).bw$ brf.alloc aQ$ .cells #[qI did,qI num] 80;have f:=zh$ (aK w g 0$ .int .u32 v).trans$ cK _$ .cells #[qI did,qI num] 80;clear b;go_wp2;refine bodyPost_ret (v:=.agg #[qI did,qI num]) (by simp[results,results204,go_sem]) rfl ⟨rfl,?_,f.o⟩;rw[<-l.o];exact k
def aMk (op d a i t g pc rg s1 s2 s3 G w)(h:Pr w g pc rg s1 s2 s3 G)(Y:0<=i)(X:i<=65535):
 qC 230 #[.pointer$ qP g,.agg$ qW op d a i,.bool t] w λe w'=>e=.returned (.agg #[qI 0,qI 0])/\Pr w' g (if t then (pc+4+4*eA i)%4294967296 else (pc+4)%4294967296) rg s1 s2 s3 G/\Turn (λj=>j=g) w w':=by
 have V:=zh λw h=>kS g pc rg s1 s2 s3 G w h;have W:=zh λw h=>uA op d a i g pc rg s1 s2 s3 G w h Y X;have u:qY w ((w.alloc$ .cells (qW op d a i) 186).alloc$ .cells #[qI 0,qI 0] 80):=bal.alloc Jb _;have x:=h.bw u;have I:=Blk.new (w.alloc$ .cells (qW op d a i) 186) #[qI 0,qI 0] 80;simp only[xF]at I;have:=h.blk.lt;cases t
 .delta qC;go_in
  go_wp2_with fail
  apply(V _ x).mono;rintro e b ⟨rfl,rfl⟩;have hc:=x.pc;have E:=x.blk.frozen 0;let⟨v,C⟩:=aO$ (pc+4)%4294967296;have M:0<=v/\v<=4294967295:=J
  rw[<-C];have H:=zh C;have s:=zh$ (h.setpc v M).bw$ (brf.alloc aQ$ .cells (qW op d a i) 186).alloc Jb$ .cells #[qI 0,qI 0] 80;have l:=zh$ ((aK w g 0$ .int .u32 v).trans$ cK _$ .cells (qW op d a i) 186).trans$ cK _$ .cells #[qI 0,qI 0] 80;clear C;go_wp2;refine bodyPost_ret (v:=.agg #[qI 0,qI 0]) (by simp[results,results230,go_sem]) rfl ⟨rfl,?_,l.o⟩;rw[<-H.o];exact s
 .delta qC;go_in
  go_wp2_with fail
  apply(W _ x).mono;rintro e b ⟨rfl,p⟩;have D:=x.bw p;have A:=I.bw p;have hc:=D.pc;have E:=D.blk.frozen 0;have B:=u.trans$ p.mono Jc;let⟨v,C⟩:=aO$ (pc+4+4*eA i)%4294967296;have M:0<=v/\v<=4294967295:=J
  rw[<-C];have H:=zh C;have s:=zh$ D.setpc v M;have l:Zh (Turn (λj=>j=g) w$ b.setCell (qR g 0)$ .int .u32 v):=zh$ (aG B).trans$ aK b g 0$ .int .u32 v;have f:=A.other (qR g 0) (.int .u32 v) Jd;have y:=(f.set 0$ qI 0).set 1$ qI 0;obtain⟨e1,e2,e3⟩:(b.setCell ⟨g,0,none⟩$ .int .u32 v).cell? ⟨w.heap.size+1,0,none⟩=qj 0/\(b.setCell ⟨g,0,none⟩$ .int .u32 v).cell? ⟨w.heap.size+1,1,none⟩=qj 0/\∀j,(b.setCell ⟨g,0,none⟩$ .int .u32 v).frozen? ⟨w.heap.size+1,j,none⟩=false:=⟨by rw[f.cell];rfl,by rw[f.cell];rfl,λj=>f.frozen j⟩;have:=zh$ (l.trans$ aG (S:=λj=>j=g) brf)
  have K:Zh (Pr (((b.setCell (qR g 0)$ .int .u32 v).setCell (qr w 0)$ qI 0).setCell (qr w 1)$ qI 0) g v rg s1 s2 s3 G):=
   zh ⟨(s.o.blk.other _ _ Jd).other _ _ Jd,s.o.len,s.o.pcw,s.o.rgw⟩
  have O:Zh (Turn (λj=>j=g) w$ ((b.setCell (qR g 0)$ .int .u32 v).setCell (qr w 0)$ qI 0).setCell (qr w 1)$ qI 0):=
   zh ⟨l.o.os,l.o.tape,l.o.output,by rw[aL,aL];exact l.o.size,λk P Q=>by rw[heap_setCell_other _ _ _ _ Jd,heap_setCell_other _ _ _ _ Jd];exact l.o.block k P Q⟩
  have q:Blk (((b.setCell (qR g 0)$ .int .u32 v).setCell (qr w 0)$ qI 0).setCell (qr w 1)$ qI 0) (w.heap.size+1) #[qI 0,qI 0] 80:=by simpa using y
  have U:(((b.setCell (qR g 0)$ .int .u32 v).setCell (qr w 0)$ qI 0).setCell (qr w 1)$ qI 0).cell? (qr w 0)=qj 0:=by rw[q.cell];rfl
  have N:(((b.setCell (qR g 0)$ .int .u32 v).setCell (qr w 0)$ qI 0).setCell (qr w 1)$ qI 0).cell? (qr w 1)=qj 0:=by rw[q.cell];rfl
  clear C A f y q;go_wp2;refine bodyPost_ret (v:=.agg #[qI 0,qI 0]) (by simp[results,results230,go_sem,U,N]) rfl ⟨rfl,?_,O.o⟩;rw[<-H.o];exact K
