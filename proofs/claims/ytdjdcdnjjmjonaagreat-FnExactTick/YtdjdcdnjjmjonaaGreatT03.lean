import Derived.Maps.OwnSet
import Derived.Defers
import Derived.Recover
import Derived.Test.YtdjdcdnjjmjonaaGreatT02
set_option linter.all false
set_option maxHeartbeats 4000000
namespace Go.Proofs.YtdjdcdnjjmjonaaGreat
open Go.RowKit
set_option maxRecDepth 100000
variable {R S:World->Prop}{arg cs:Array Value}{c g:Nat}
def cJ (c w r i v)(h:r<=c:=by omega):Turn (λj=>j<=c) w (w.setCell (qR r i) v):=⟨rfl,rfl,rfl,by rw[aK];exact aO,λj a b=>heap_setCell_other _ _ _ _ λe=>b (by grind)⟩
def Stab (c:Nat)(R:World->Prop):Prop:=∀W W',Turn (λj=>j<=c) W W'->R W->R W'
def vK {a:qi}(h:c<g):Stab c (λW=>RowI W g a):=λW b t r=>aD t r (by show ¬g<=c;omega)
def vL {a:qi}(h:c<g):Stab c (λW=>Row8 W g a):=λW b t r=>aD t r (by show ¬g<=c;omega)
def aNb {a:List ByteArray}(h:c<g):Stab c (λW=>RowT W g a):=λW b t r=>aD t r (by show ¬g<=c;omega)
def aTv {n:Nat}{b:List Bk}(h:c<g):Stab c (λW=>∃a,a.length=n/\RowB W g n a b):=λW d t r=>by
 obtain⟨a,j,⟨f,k,l⟩,e,p⟩:=r;exact⟨a,j,⟨f,aD t k (by grind),l⟩,λi hi=>⟨aD t (e i hi).1 (by grind),(e i hi).2⟩,p⟩
def aNa {es:List Ex}(h:c<g):Stab c (λW=>RowX W g es):=λW b t r=>by
 obtain⟨⟨f,d,j⟩,k⟩:=r;have e:b.heap[g]?=W.heap[g]?:=t.block g d.lt (by grind);have a:∀o,qN b g o=qN W g o:=λo=>World.cell?_of_block (w:=W) e;refine⟨⟨f,aD t d (by grind),j⟩,λi hi=>?_⟩;let⟨l,p,q⟩:=k i hi;exact⟨(a _).trans l,(a _).trans p,(a _).trans q⟩
def Stab.and (h:Stab c R)(k:Stab c S):Stab c (λW=>R W/\S W):=λW a t r=>⟨h W a t r.1,k W a t r.2⟩
structure TM (w W:qw)(arg cs:Array Value)(R:World->Prop):Prop where
 kb:Blk W w.heap.size arg 103
 kr:Blk W (w.heap.size+1) #[.string ⟨#[]⟩,qS none 0 0,qS none 0 0,qS none 0 0,qI 0,qS none 0 0,qS none 0 0,qS none 0 0] 128
 ko:Blk W (w.heap.size+1+1) cs 128
 hB:qY w W
 rows:R W
 st:Stab (w.heap.size+1+1) R
def TM.bw {w W b:qw}(h:TM w W arg cs R)(a:qY W b):TM w b arg cs R:=
 ⟨h.kb.bw a,h.kr.bw a,h.ko.bw a,yT h.hB a,h.st _ _ (aI a) h.rows,h.st⟩
def TM.set {w W:qw}(h:TM w W arg cs R)(i v):TM w (W.setCell (qR (w.heap.size+1+1) i) v) arg (cs.setIfInBounds i v) R:=
 ⟨h.kb.other _ _ Jd,h.kr.other _ _ Jd,h.ko.set i v,h.hB.setCell Jd _,h.st _ _ (cJ _ _ _ _ _ aO) h.rows,h.st⟩
def TM.add {w W:qw}(h:TM w W arg cs R)(r:S W)(s:Stab (w.heap.size+1+1) S):TM w W arg cs (λW=>R W/\S W):=
 ⟨h.kb,h.kr,h.ko,h.hB,⟨h.rows,r⟩,h.st.and s⟩
def aCm (f:Nat->Nat)(n i)(hi:i<n):f i<=upS f n:=by
 have:=gD f (i+1) n J;have:upS f (i+1)=upS f i+f i:=rfl;omega
def ToM (w:qw)(nm:ByteArray)(ta:qO)(tn tc:Nat)(tz:qi)(ba:qO)(bn bc:Nat)(bl:List Bk)(da:qO)(dn dc:Nat)(dz:qi)(bss:Int)(ra:qO)(rn rc:Nat)(rz:qi)(ia:qO)(im ic:Nat)(ss:List ByteArray)(ea:qO)(en ec:Nat)(es:List Ex)(e:Ending)(w':qw):Prop:=
 ∃g1 g2 g3 g5 g6 g7,e=.returned (.agg$ qM nm (qP g1) tn tn (qP g2) bn bn (qP g3) dn dn bss (qP g5) rn rn (qP g6) im im (qP g7) en en) /\
  w.heap.size<=g1/\g1<g2/\g2<g3/\g3<g5/\g5<g6/\g6<g7/\RowI w' g1 tz/\(∃gs,gs.length=bn/\RowB w' g2 bn gs bl)/\Row8 w' g3 dz/\RowI w' g5 rz/\RowT w' g6 ss/\RowX w' g7 es/\qY w w'
def aCo (nm ta tn tc tz ba R bc bl da dn dc dz a0 ra rn rc rz ia im ic ss ea g ec es w)(h:MT w nm ta tn tc tz ba R bc bl da dn dc dz a0 ra rn rc rz ia im ic ss ea g ec es)(hs:dL nm tn R bl dn rn im ss g es<=1048576):
 qC 77 #[.agg$ qM nm ta tn tc ba R bc da dn dc a0 ra rn rc ia im ic ea g ec] w (ToM w nm ta tn tc tz ba R bc bl da dn dc dz a0 ra rn rc rz ia im ic ss ea g ec es):=by
 have N:=zh (show ∀i,i<R->(bl.getD i zB).2.1<=1048576 from λi hi=>by
  have:=aCm (λj=>(bl.getD j zB).2.1) R i hi;unfold dL at hs
  omega)
 obtain⟨l1,l2,l3,l4,l5,l6⟩:tn<=1048576/\R<=1048576/\dn<=1048576/\rn<=1048576/\im<=1048576/\g<=1048576:=by unfold dL at hs;omega
 have F:=h;clear h hs
 have I:TM w (((w.alloc$ .cells (qM nm ta tn tc ba R bc da dn dc a0 ra rn rc ia im ic ea g ec) 103).alloc$ .cells #[.string ⟨#[]⟩,qS none 0 0,qS none 0 0,qS none 0 0,qI 0,qS none 0 0,qS none 0 0,qS none 0 0] 128).alloc$ .cells (qM nm none 0 0 none 0 0 none 0 0 0 none 0 0 none 0 0 none 0 0) 128) (qM nm ta tn tc ba R bc da dn dc a0 ra rn rc ia im ic ea g ec) (qM nm none 0 0 none 0 0 none 0 0 0 none 0 0 none 0 0 none 0 0) (λ_=>True):=
  ⟨(
   (Blk.new w _ _).alloc _).alloc _,by have:=(Blk.new (w.alloc$ .cells (qM nm ta tn tc ba R bc da dn dc a0 ra rn rc ia im ic ea g ec) 103) #[.string ⟨#[]⟩,qS none 0 0,qS none 0 0,qS none 0 0,qI 0,qS none 0 0,qS none 0 0,qS none 0 0] 128).alloc$ .cells (qM nm none 0 0 none 0 0 none 0 0 0 none 0 0 none 0 0 none 0 0) 128;simpa using this,by have:=Blk.new ((w.alloc$ .cells (qM nm ta tn tc ba R bc da dn dc a0 ra rn rc ia im ic ea g ec) 103).alloc$ .cells #[.string ⟨#[]⟩,qS none 0 0,qS none 0 0,qS none 0 0,qI 0,qS none 0 0,qS none 0 0,qS none 0 0] 128) (qM nm none 0 0 none 0 0 none 0 0 0 none 0 0 none 0 0 none 0 0) 128;simpa using this,
   (bal.alloc Jb _).alloc Jc _,trivial,λ_ _ _ _=>trivial⟩
 delta qC;go_in
 go_wp2_with fail
 have k:=I.hB;apply(lH ta tn tc tz _ (F.t.bw k) J).mono;rintro e A ⟨rfl,a,b⟩;have u:=(I.bw b).add (S:=λW=>RowI W _ tz) a$ vK (by have:=I.ko.lt;simp at this⊢<;>omega);have Z:=b.size;have y1:w.heap.size+1+1+1<A.heap.size:=by first|(have:=a.lt;simpa using this)|(obtain⟨E,_,⟨a1,hk,_⟩,_⟩:=a;have:=hk.lt;simpa using this)
 simp only[xF,aK]at u Z;clear b a k I;have D:=u.kb.eight;have y:=u.ko.eight;have d:=u.ko.frozen;have f:=u.ko.lt;go_wp2_with fail
 clear D y d f;replace u:=u.set 1$ qS (qP$ w.heap.size+1+1+1) tn tn;simp only[yA,yB,yC]at u;have k:=u.hB;apply(aE0 ba R bc bl _ (F.b.bw k) J N).mono;rintro e C ⟨rfl,a,b⟩;have t:=(u.bw b).add (S:=λW=>∃E,E.length=R/\RowB W _ R E bl) a (aTv (by have:=u.ko.lt;simp only[aK]at this⊢;omega));have z2:=b.size;have y2:A.heap.size<C.heap.size:=by first|(have:=a.lt;simpa using this)|(obtain⟨E,_,⟨a1,hk,_⟩,_⟩:=a;have:=hk.lt;simpa using this)
 simp only[xF,aK]at t z2;clear b a k u;have D:=t.kb.eight;have y:=t.ko.eight;have d:=t.ko.frozen;have f:=t.ko.lt;go_wp2_with fail
 clear D y d f;replace t:=t.set 2$ qS (qp A) R R;simp only[yA,yB,yC]at t;have k:=t.hB;apply(jI da dn dc dz _$ F.d.bw k).mono;rintro e B ⟨rfl,a,b⟩;have l:=(t.bw b).add (S:=λW=>Row8 W _ dz) a (vL (by have:=t.ko.lt;simp only[aK]at this⊢;omega));have V:=b.size;have y3:C.heap.size<B.heap.size:=by first|(have:=a.lt;simpa using this)|(obtain⟨E,_,⟨a1,hk,_⟩,_⟩:=a;have:=hk.lt;simpa using this)
 simp only[xF,aK]at l V;clear b a k t;have D:=l.kb.eight;have y:=l.ko.eight;have d:=l.ko.frozen;have f:=l.ko.lt;go_wp2_with fail
 clear D y d f;replace l:=l.set 3$ qS (qp C) dn dn;replace l:=l.set 4$ qI a0;simp only[yA,yB,yC]at l;have k:=l.hB;apply(lH ra rn rc rz _ (F.r.bw k) J).mono;rintro e w4 ⟨rfl,a,b⟩;have x:=(l.bw b).add (S:=λW=>RowI W _ rz) a (vK (by have:=l.ko.lt;simp only[aK]at this⊢;omega));have z4:=b.size;have y4:B.heap.size<w4.heap.size:=by first|(have:=a.lt;simpa using this)|(obtain⟨E,_,⟨a1,hk,_⟩,_⟩:=a;have:=hk.lt;simpa using this)
 simp only[xF,aK]at x z4;clear b a k l;have D:=x.kb.eight;have y:=x.ko.eight;have d:=x.ko.frozen;have f:=x.ko.lt;go_wp2_with fail
 clear D y d f;replace x:=x.set 5$ qS (qp B) rn rn;simp only[yA,yB,yC]at x;have k:=x.hB;apply(zY ia im ic ss _ (F.i.bw k) J).mono;rintro e q ⟨rfl,a,b⟩;have s:=(x.bw b).add (S:=λW=>RowT W _ ss) a (aNb (by have:=x.ko.lt;simp only[aK]at this⊢;omega));have Y:=b.size;have y5:w4.heap.size<q.heap.size:=by first|(have:=a.lt;simpa using this)|(obtain⟨E,_,⟨a1,hk,_⟩,_⟩:=a;have:=hk.lt;simpa using this)
 simp only[xF,aK]at s Y;clear b a k x;have D:=s.kb.eight;have y:=s.ko.eight;have d:=s.ko.frozen;have f:=s.ko.lt;go_wp2_with fail
 clear D y d f;replace s:=s.set 6$ qS (qp w4) im im;simp only[yA,yB,yC]at s;have k:=s.hB;apply(aAb ea g ec es _ (F.e.bw k) J).mono;rintro e H ⟨rfl,a,b⟩;have M6:=(s.bw b).add (S:=λW=>RowX W _ es) a (aNa (by have:=s.ko.lt;simp only[aK]at this⊢;omega));have z6:=b.size;have y6:q.heap.size<H.heap.size:=by first|(have:=a.lt;simpa using this)|(obtain⟨E,_,⟨a1,hk,_⟩,_⟩:=a;have:=hk.lt;simpa using this)
 simp only[xF,aK]at M6 z6;clear b a k s;have G:=M6.set 7$ qS (qp q) g g;simp only[yA,yB,yC]at G;obtain⟨WF,a2⟩:∃X,X=(((((((((H.setCell ⟨w.heap.size+1+1,7,none⟩$ qS (qp q) g g).setCell ⟨w.heap.size+1,0,none⟩$ .string nm).setCell ⟨w.heap.size+1,1,none⟩$ qS (some ⟨w.heap.size+1+1+1,0,none⟩) tn tn).setCell ⟨w.heap.size+1,2,none⟩$ qS (qp A) R R).setCell ⟨w.heap.size+1,3,none⟩$ qS (qp C) dn dn).setCell ⟨w.heap.size+1,4,none⟩$ qI a0).setCell ⟨w.heap.size+1,5,none⟩$ qS (qp B) rn rn).setCell ⟨w.heap.size+1,6,none⟩$ qS (qp w4) im im).setCell ⟨w.heap.size+1,7,none⟩$ qS (qp q) g g):=⟨_,rfl⟩
 have kF:Blk WF (w.heap.size+1) (qM nm (qP$ w.heap.size+1+1+1) tn tn (qp A) R R (qp C) dn dn a0 (qp B) rn rn (qp w4) im im (qp q) g g) 128:=by
  have:=((((((((G.kr.set 0$ .string nm).set 1$ qS (qP$ w.heap.size+1+1+1) tn tn).set 2$ qS (qp A) R R).set 3$ qS (qp C) dn dn).set 4$ qI a0).set 5$ qS (qp B) rn rn).set 6$ qS (qp w4) im im).set 7$ qS (qp q) g g);simp only[yA,yB,yC]at this;rw[a2];exact this
 have O:Turn (λj=>j<=w.heap.size+1+1) (H.setCell (qR (w.heap.size+1+1) 7)$ qS (qp q) g g) WF:=by
  rw[a2];exact((((((((Turn.refl (λj=>j<=w.heap.size+1+1)$ H.setCell (qR (w.heap.size+1+1) 7)$ qS (qp q) g g).trans$ cJ _ _ (w.heap.size+1) 0$ .string nm).trans$ cJ _ _ (w.heap.size+1) 1$ qS (qP$ w.heap.size+1+1+1) tn tn).trans$ cJ _ _ (w.heap.size+1) 2$ qS (qp A) R R).trans$ cJ _ _ (w.heap.size+1) 3$ qS (qp C) dn dn).trans$ cJ _ _ (w.heap.size+1) 4$ qI a0).trans$ cJ _ _ (w.heap.size+1) 5$ qS (qp B) rn rn).trans$ cJ _ _ (w.heap.size+1) 6$ qS (qp w4) im im).trans (cJ _ _ (w.heap.size+1) 7$ qS (qp q) g g)
 have P:=G.st _ _ O G.rows
 have Q:qY w WF:=by
  rw[a2];exact((((((((G.hB.setCell (p:=(qr w 0)) Jd$ .string nm).setCell (p:=(qr w 1)) Jd$ qS (qP$ w.heap.size+1+1+1) tn tn).setCell (p:=(qr w 2)) Jd$ qS (qp A) R R).setCell (p:=(qr w 3)) Jd$ qS (qp C) dn dn).setCell (p:=(qr w 4)) Jd$ qI a0).setCell (p:=(qr w 5)) Jd$ qS (qp B) rn rn).setCell (p:=(qr w 6)) Jd$ qS (qp w4) im im).setCell (p:=(qr w 7)) Jd$ qS (qp q) g g)
 have U:=zh a2;have K:=zh$ xA P Q;clear a2 O P Q G;have y:=M6.ko.eight;have d:=M6.ko.frozen;have p0:=M6.kr.eight;have M:=M6.kr.frozen;let⟨s0,s1,s2,s3,s4,s5,s6,s7⟩:=kF.eight;have f:=M6.ko.lt;go_wp2_with fail
 rw[<-U.o];clear y d p0 M;refine bodyPost_ret (v:=.agg$ qM nm (qP$ w.heap.size+1+1+1) tn tn (qp A) R R (qp C) dn dn a0 (qp B) rn rn (qp w4) im im (qp q) g g) (by simp[results,Tryz.results77,go_sem,s0,s1,s2,s3,s4,s5,s6,s7]) rfl ?_;obtain⟨⟨⟨⟨⟨⟨⟨_,r1⟩,r2⟩,r3⟩,r5⟩,r6⟩,r7⟩,k⟩:=K;exact⟨w.heap.size+1+1+1,A.heap.size,C.heap.size,B.heap.size,w4.heap.size,q.heap.size,rfl,J,J,J,J,J,J,r1,r2,r3,r5,r6,r7,k⟩
end Go.Proofs.YtdjdcdnjjmjonaaGreat
namespace Go.Proofs.YtdjdcdnjjmjonaaGreat
open Go Go.Maps Go.WideShapes
def fd (f:Nat->List UInt8):Nat->DataW Unit
 | 0=>.map []
 | k+1=>if has (fd f k) (.string$ f k) then fd f k else (fd f k).put (.string$ f k) (.lit$ .int .i64 k)
def mB (f:Nat->List UInt8)(k):fd f (k+1)=if has (fd f k) (.string$ f k) then fd f k else (fd f k).put (.string$ f k) (.lit$ .int .i64 k):=rfl
def aD1 (s):WideAt.IsKeyLit (.string s):=by simp[WideAt.IsKeyLit]
def nX (f:Nat->List UInt8):∀k,Tidy$ fd f k
 | 0=>tidy_empty
 | k+1=>by
   rw[mB];split
   .exact nX f k
   .exact(nX f k).put (aD1 _) _
def aEa (f:Nat->List UInt8)(s):∀k,has (fd f k) (.string s)=(List.range k).any (λj=>f j==s)
 | 0=>rfl
 | k+1=>by
   rw[List.range_succ,List.any_append,<-aEa f s k];rw[mB];by_cases e:f k=s
   .subst e;split
    .rename_i h;rw[h];rfl
    .rw[has_put_same (nX f k).isMap$ aD1 _];simp
   .have a:(Lit.string s)≠.string (f k):=by intro h;injection h with h;exact e h.symm
    split
    .simp[e]
    .rw[has_put_other a];simp[e]
def pH (f:Nat->List UInt8):∀k,size (fd f k)<=k
 | 0=>aO
 | k+1=>by
   have:=pH f k;rw[mB];split
   .omega
   .rename_i h;rw[size_put$ nX f k,if_neg h];omega
def aD9 (f:Nat->List UInt8):∀k,decide (size (fd f k)=k)=(List.range k).all (λi=>(List.range i).all λj=>!(f j==f i))
 | 0=>rfl
 | k+1=>by
   have:=pH f k;rw[List.range_succ,List.all_append,<-aD9 f k];have:=aEa f (f k) k;have e:(List.range k).all (λj=>!(f j==f k))=!(has (fd f k)$ .string$ f k):=by grind
   simp only[List.all_cons,List.all_nil,Bool.and_true,e];rw[mB];cases a:has (fd f k) (.string$ f k)
   .rw[if_neg Jb,size_put$ nX f k,a,if_neg Jb];simp
   .grind
def fst? (f:Nat->List UInt8) (s:List UInt8):Nat->Option Nat
 | 0=>none
 | k+1=>match fst? f s k with|some j=>some j|none=>if f k=s then some k else none
def gK (f:Nat->List UInt8)(s:List UInt8)(k:Nat):fst? f s (k+1)=match fst? f s k with|some j=>some j|none=>if f k=s then some k else none:=rfl
def rJ (f:Nat->List UInt8)(s:List UInt8):∀k,(fst? f s k).isSome=has (fd f k) (.string s)
 | 0=>rfl
 | k+1=>by
   rw[aEa,List.range_succ,List.any_append,<-aEa,<-rJ f s k];rw[gK]
   grind
def aPv (f:Nat->List UInt8)(s:List UInt8)(z:DataW Unit):∀k,(fd f k).atKey (.string s) z=match fst? f s k with|some j=>.lit (.int .i64 j)|none=>z
 | 0=>rfl
 | k+1=>by
   have a:=aPv f s z k;have d:=rJ f s k;rw[gK,mB];by_cases e:f k=s
   .subst e;cases b:fst? f (f k) k with
    | some j=>rw[b]at d a;simp only[Option.isSome_some]at d;rw[if_pos d.symm];simpa using a
    | none=>rw[b]at d;simp only[Option.isSome_none]at d;rw[if_neg (by grind),atKey_put_same (nX f k).isMap$ aD1 _];simp
   .have i:(Lit.string s)≠.string (f k):=by intro h;injection h with h;exact e h.symm
    split<;>(cases b:fst? f s k with
     | some j=>rw[b]at a;simpa[atKey_put_other i]using a
     | none=>rw[b]at a;simpa[atKey_put_other i,e]using a)
end Go.Proofs.YtdjdcdnjjmjonaaGreat
namespace Go.Proofs.YtdjdcdnjjmjonaaGreat
open Go.RowKit Go.Maps
open Go.Proofs.Tryz
set_option maxRecDepth 100000
variable {E es xs:List Ex}{Ix0 ss:List ByteArray}{S:Nat->Prop}{X:Nat->List Int}{a a2 ba da ea ia ra ta:qO}{b base base' bc bn c cap dc dn ec en g ic im k n o rc rn sz tc tn:Nat}{bl:List Bk}{bss:Int}{cs:Array Value}{f:Nat->qO×Nat×Nat}{nm:ByteArray}{row:Option Nat}{v v1 v3 v5 v6 v7:Value}
def aAy:Keyed prog 9:=string_keyed underlying9
def tP (w):(zeroValue 3).run prog w=.ok (qI 0) w:=Je
def yU (s b i w):
 qC 293 #[.agg #[.string s,qI b,qI i]] w (qB w$ .string s):=by
 delta qC;go_in
 go_wp2;go_ret;exact⟨rfl,bal⟩
def kY (x w):(Instr.makeMap 273$ some$ qI x).run prog w=.ok (.map$ some w.heap.size) (w.alloc$ .map #[] 0):=by
 simp[Instr.makeMap,asInt,asIntOf,run_underlying underlying273,Result.andThen]
def gT (es:List Ex)(i:Nat):List UInt8:=(es.getD i zE).1.data.toList
def rM (b n g es w)(h:ES w b n g es)(hn:n<=1048576):
 qC 292 #[qS b n g,.func (.func 293) #[] #[]] w λe w'=>e=.returned (.map$ some w.heap.size)/\w'.ownsMap prog 9 (plainElem prog 3) w.heap.size n (fd (gT es) n)/\qY w w':=by
 have W:=kY
 delta qC;go_in
 go_wp2;go_loopw [16] (λi wr=>∃k:Nat,k<=n/\i=qI k/\wr.ownsMap prog 9 (plainElem prog 3) w.heap.size k (fd (gT es) k)/\qY w wr) (qf n)
 .exact⟨0,xC _,rfl,World.ownsMap_made _ _ _ _,bal⟩
 .obtain⟨k,Z,rfl,p,D⟩:=hrel;by_cases G:k<n
  .have O:(k:Int)<(n:Int):=J
   obtain⟨bb,a0,rfl⟩:=h.addr J;let⟨y1,y2,y3⟩:=(h.bw D).at k G;have C:=h.size k;have y:=zh$ mB (gT es) k;have F:gT es k=(es.getD k zE).1.data.toList:=rfl;rw[F]at y;generalize es.getD k zE=E at *;obtain⟨a,f,R⟩:=E;dsimp only at y1 y2 y3 C y;have A:keyOf prog 9 (.string a)=some (.string a.data.toList):=Go.WideMaps.keyOf_string_mk underlying9 Jf;have l:=zh A;have Q:qY wr (wr.alloc$ .cells #[.string a,qI f,qI R] 209):=bal;go_wp2_with fail
   apply(yU a f R _).mono;rintro e U ⟨rfl,K⟩;have s:=yT Q K;have x:=yT D s
   have d:U.ownsMap prog 9 (plainElem prog 3) w.heap.size k (fd (gT es) k):=by
    obtain⟨X,S,q,r⟩:=p;refine⟨X,S,?_,r⟩
    have V:w.heap.size<wr.heap.size:=by
     rcases Nat.lt_or_ge w.heap.size wr.heap.size with N|N
     .exact N
     .rw[Array.getElem?_eq_none N]at q;cases q
    rw[s.block _ V];exact q
   cases q:has (fd (gT es) k) (.string a.data.toList)
   .rw[q]at y
    go_wp2_with (first
     | (at_lookup;refine wpList_lookup_own_ok_int _ rfl _ _ 273 rfl 9 3 .i64 aAy underlying273 underlying3 (tP _) w.heap.size k _ rfl d _ _ rfl l.o ?_;intro c u I;clear u;rw[q])
     | (at_mapUpdate;refine wpList_mapUpdate_own _ rfl _ _ _ 273 rfl 9 3 aAy underlying273 _ w.heap.size k _ rfl d Jf _ _ _ rfl rfl l _ [] (plainElem_int underlying3$ WalkArith.wf_i64 J) ?_;intro Y t B))
    have M:=zh t;have H:=zh$ x.grown B x.size (λj P=>by cases P;exact aO);go_wp2
    go_roundw
    .exact⟨k+1,J,by go_num,by have:=M.o;rw[y.o,if_neg Jb];exact this,H.o⟩
    .simp[qf,intOf];omega
   .rw[q]at y
    go_wp2_with (first
     | (at_lookup;refine wpList_lookup_own_ok_int _ rfl _ _ 273 rfl 9 3 .i64 aAy underlying273 underlying3 (tP _) w.heap.size k _ rfl d _ _ rfl l.o ?_;intro c u I;clear u;rw[q]))
    have M:=zh d;go_wp2
    go_roundw
    .exact⟨k+1,J,by go_num,by have:=M.o;rw[y.o,if_pos trivial];exact this.mono J,x⟩
    .simp[qf,intOf];omega
  .have e:Zh (k=n):=by show k=n;omega
   go_wp2;go_ret;exact⟨rfl,by rw[e.o]at p;exact p,D⟩
def aPx (es n):(List.range n).all (exn es)=decide (size (fd (gT es) n)=n):=by
 rw[aD9];congr 1;funext i;unfold exn gT;congr 1;funext j;rw[ByteArray.toList_eq,ByteArray.toList_eq]
def aPw (tn b a n es)(h:∀j,j<n->ex1 tn b a (es.getD j zE)=true):(List.range n).all (λi=>ex1 tn b a (es.getD i zE)&&exn es i)=decide (size (fd (gT es) n)=n):=by
 rw[<-aPx,xJ,List.all_eq_true,List.all_eq_true]
 grind
def aA9 (nm ta tn tc ba a bc b v3 v5 v6 a0 ea n R es w)(V:tn<=maxLen)(hb:BKS w ba a bc b)(h:ES w ea n R es):
 qC 289 #[.agg #[.string nm,qS ta tn tc,qS ba a bc,v3,qI a0,v5,v6,qS ea n R]] w (qB w$ .bool$ exo tn a b n es):=by
 obtain⟨W,hW,a1,kb⟩:=nwb w #[.string nm,qS ta tn tc,qS ba a bc,v3,qI a0,v5,v6,qS ea n R] 128;obtain⟨q0,q1,q2,q3,q4,q5,q6,q7⟩:=kb.eight;obtain⟨r,X⟩:=aN$ exo tn a b n es;rw[<-X];unfold exo at X;have Q:=h.2.1;unfold maxLen at Q;have HW:=zh hW;clear hW;by_cases c1:16<n
 .have y:=zh (show r=false by rw[X,xS J];rfl);clear X;have a2:(16:Int)<(n:Int):=J
  go_enter func289,ntmps289
  go_wp2_with (rw[<-HW.o])
  go_ret;exact⟨aA y.o.symm,a1⟩
 .have a2:¬(16:Int)<(n:Int):=J
  have y:=zh (show r=(List.range n).all (λi=>ex1 tn a b (es.getD i zE)&&exn es i)by rw[X,xR J];rfl);clear X;go_enter func289,ntmps289
  go_wp2_with (rw[<-HW.o])
  clear q0 q1 q2 q3 q4 q5 q6 q7;go_loopw [14] (λi wr=>∃k:Nat,k<=n/\i=qI k/\Hid (∀j,j<k->ex1 tn a b (es.getD j zE)=true)/\qY w wr/\Blk wr w.heap.size #[.string nm,qS ta tn tc,qS ba a bc,v3,qI a0,v5,v6,qS ea n R] 128) (qf n)
  .exact⟨0,xC _,rfl,zh λj K=>J,a1,kb⟩
  .obtain⟨k,hk,rfl,HJ,l,F⟩:=hrel;clear kb a1;obtain⟨q0,q1,q2,q3,q4,q5,q6,q7⟩:=F.eight;by_cases D:k<n
   .have a4:(k:Int)<(n:Int):=J
    obtain⟨bb,a3,rfl⟩:=h.addr J;obtain⟨y1,y2,y3⟩:=(h.bw l).at k D;have Y:=zh$ jP (λi=>ex1 tn a b (es.getD i zE)&&exn es i) n k D
    have HG:=zh (show ex1 tn a b (es.getD k zE)=true->∀j,j<k+1->ex1 tn a b (es.getD j zE)=true from λh j K=>by
     by_cases e:j=k
     .subst e;exact h
     .exact HJ.out j J)
    have x:=zh λw=>lX (es.getD k zE).1 w$ h.size k;generalize es.getD k zE=E at *;obtain⟨g,eb,f⟩:=E;dsimp only at y1 y2 y3 x;have a5:=F.lt;have d:=hb.bw$ l.alloc l.size$ .cells #[.string g,qI eb,qI f] 209;have HP:=zh λw h=>jQ nm ta tn tc ba a bc b v3 v5 v6 (qS (some$ qR bb a3) n R) a0 eb w V h;have kE:=Blk.new wr #[.string g,qI eb,qI f] 209;have Z:qY wr (wr.alloc$ .cells #[.string g,qI eb,qI f] 209):=bal;go_wp2_with fail
    apply(HP.o _ d).mono;rintro e w1 ⟨pa,pn,px,ok,rfl,H,A,M,p⟩;have U:=kE.bw p;have O:=(F.bw Z).bw p;have s:=(l.trans$ Z.mono l.size).trans$ p.mono (by have:=l.size;simp;omega);clear kE F Z p d HP q0 q1 q2 q3 q4 q5 q6 q7 y1 y2 y3 l;unfold maxLen at M;have B:=zh$ xA H A;clear H A;obtain⟨z1,z2,z3,z4⟩:=U.three;have q:Zh (ex1 tn a b (g,eb,f)=(nmo g&&decide (0<=f/\f<pcn tn a b eb))):=rfl;have I:=zh λw=>cP f ((pn:Int)-1) w;cases hn:nmo g
    .rw[hn]at x;go_wp2_with (go_at_call 285;refine(x.o _).mono ?_;rintro e G ⟨rfl,rfl⟩)
     go_ret;exact⟨aA (by rw[y.o];exact(Y.o (by rw[q.o,hn];rfl)).symm),s⟩
    .rw[hn]at x;cases ok
     .have N:¬0<=pcn tn a b eb:=by have:=B.o.1;simpa using this.symm
      go_wp2_with (go_at_call 285;refine(x.o _).mono ?_;rintro e G ⟨rfl,rfl⟩)
      go_ret;exact⟨aA (by rw[y.o];exact(Y.o (by rw[q.o,xS J];simp)).symm),s⟩
     .have N:(pn:Int)=pcn tn a b eb:=B.o.2 rfl;have C:=zh N;clear N;by_cases d1:0<=f/\f<=(pn:Int)-1
      .have u:=zh (show ex1 tn a b (g,eb,f)=true by rw[q.o,hn,<-C.o,xR J];rfl);rw[xR d1]at I;go_wp2_with (first|(go_at_call 285;refine(x.o _).mono ?_;rintro e G ⟨rfl,rfl⟩)|(go_at_call 141;refine(I.o _).mono ?_;rintro e G ⟨rfl,rfl⟩))
       go_roundw
       .exact⟨k+1,J,by go_num,zh$ HG.o u.o,s,O⟩
       .simp[qf,intOf];omega
      .rw[xS d1]at I;have u:=zh (show ex1 tn a b (g,eb,f)=false by rw[q.o,hn,<-C.o,xS J];rfl);go_wp2_with (first|(go_at_call 285;refine(x.o _).mono ?_;rintro e G ⟨rfl,rfl⟩)|(go_at_call 141;refine(I.o _).mono ?_;rintro e G ⟨rfl,rfl⟩))
       go_ret;exact⟨aA (by rw[y.o];exact(Y.o (by rw[u.o];rfl)).symm),s⟩
   .have e:k=n:=J
    subst e;have HE:=zh$ aPw tn a b k es λj K=>HJ.out j K;have h':=h.bw l;have HF:=zh λw h=>rM ea k R es w h J;obtain⟨S,hS⟩:=aN$ size$ fd (gT es) k;have HS:=zh hS;clear hS;go_wp2_with fail
    go_region_with (first
     | (go_at_call 292;refine(HF.o _ (by exact h')).mono ?_;rintro e w1 ⟨rfl,t,d⟩;have hl:∀ty,(Builtin.len_ #[273] ty #[.map$ some wr.heap.size]).run prog w1=.ok (qI (S:Int)) w1:=(by intro ty;rw[HS.o];exact t.len underlying273 ty);replace d:=aW d;obtain⟨q0,q1,q2,q3,q4,q5,q6,q7⟩:=(F.bw d).eight;clear t))
    all_goals
     have P:=zh$ l.trans$ d.mono l.size;go_wp2;go_ret;exact⟨aA (by rw[y.o,HE.o,<-HS.o];first|rfl|(rw[xJ];simp;omega)),P.o⟩
def aA4 (g ta tn tc tz R f S X da b dc dz a ra rn rc rz ia E ic ss ea k ec es w)
 (h:MD w g ta tn tc tz R f S X da b dc dz a ra rn rc rz ia E ic ss ea k ec es):
 qC 255 #[.agg$ qM g ta tn tc R f S da b dc a ra rn rc ia E ic ea k ec] w (qB w$ qI$ mdo g tn tz f X b a rn rz E ss k es):=by
 let⟨W,hW,a0,kb⟩:=nwb w (qM g ta tn tc R f S da b dc a ra rn rc ia E ic ea k ec) 128;let⟨r,hr⟩:=aN$ mdo g tn tz f X b a rn rz E ss k es;rw[<-hr];unfold mdo at hr;have d:=zh hr;clear hr;have F:=h.bw a0;have K:=h.d.2.1;have O:=h.t.2.1;have HN:=zh λw=>lX g w h.n;have N:=zh λw ht P=>aJa g ta tn tc tz R f S X (qS da b dc) (qS ra rn rc) (qS ia E ic) (qS ea k ec) a w ht P;have V:=zh λw h=>aDb g (qS ta tn tc) (qS R f S) da b dc a ra rn rc rz (qS ia E ic) (qS ea k ec) w K h;have G:=zh λw h=>aA3 g (qS ta tn tc) (qS R f S) (qS da b dc) (qS ra rn rc) (qS ea k ec) a ia E ic ss w h;have M:=zh λw P h=>aA9 g ta tn tc R f S X (qS da b dc) (qS ra rn rc) (qS ia E ic) a ea k ec es w O P h;have D:=zh λw=>cP a 512 w;have HW:=zh hW;clear hW;generalize nmo g=a1 at *;generalize cdo tn tz f X=a2 at *;generalize rlo rn rz b=a4 at *;generalize imo E ss=Y at *;generalize exo tn f X k es=a6 at *;have y:=kb.eight
 delta qC;go_in
 go_wp2_with (first|(rw[<-HW.o])|(go_at_call 285;refine(HN.o _).mono ?_;rintro e Z ⟨rfl,rfl⟩;cases a1))
 .have e:=zh (show r=1 by rw[d.o];simp);go_ret;exact⟨aJ e.symm,a0⟩
 .apply(N _ F.t F.b).mono;rintro e w2 ⟨rfl,j⟩;have t:=kb.bw j;have I:=F.bw j;have i:=yT a0 j;clear j kb F a0 y;have y:=t.eight;cases a2
  .have e:=zh (show r=2 by rw[d.o];simp);go_wp2;go_ret;exact⟨aJ e.symm,i⟩
  .by_cases c1:512<b
   .have e:=zh (show r=3 by rw[d.o];simp[c1]);have U:(512:Int)<(b:Int):=J
    go_wp2;go_ret;exact⟨aJ e.symm,i⟩
   .have U:¬(512:Int)<(b:Int):=J
    by_cases c2:0<=a/\a<=512
    .have l:=zh (show r=if a4=false then 4 else if Y=false then 5 else if a6=false then 6 else 0 by
      rw[d.o]
      simp only[Bool.true_eq_false,if_false,show ¬(512<b\/a<0\/512<a)from J])
     clear d;rw[xR c2]at D;go_wp2_with (go_at_call 141;refine(D.o _).mono ?_;rintro e Z ⟨rfl,rfl⟩)
     apply(V _ I.r).mono;rintro e w3 ⟨rfl,p⟩;have u:=t.bw p;have Q:=I.bw p;have x:=yT i p;clear p t I i y;have y:=u.eight;cases a4
     .have e:=zh (show r=4 by rw[l.o];simp);go_wp2;go_ret;exact⟨aJ e.symm,x⟩
     .go_wp2_with fail
      apply(G _ Q.i).mono;rintro e w4 ⟨rfl,q⟩;have C:=u.bw q;have H:=Q.bw q;have s:=yT x q;clear q u Q x y;have y:=C.eight;cases Y
      .have e:=zh (show r=5 by rw[l.o];simp);go_wp2;go_ret;exact⟨aJ e.symm,s⟩
      .go_wp2_with fail
       apply(M _ H.b H.e).mono;rintro e w5 ⟨rfl,A⟩;have B:=yT s A;clear A H s C;cases a6
       .have e:=zh (show r=6 by rw[l.o];simp);go_wp2;go_ret;exact⟨aJ e.symm,B⟩
       .have e:=zh (show r=0 by rw[l.o];simp);go_wp2;go_ret;exact⟨aJ e.symm,B⟩
    .rw[xS c2]at D;have e:=zh (show r=3 by rw[d.o];simp only[Bool.true_eq_false,if_false,show(512<b\/a<0\/512<a)from J,if_true]);go_wp2_with (go_at_call 141;refine(D.o _).mono ?_;rintro e Z ⟨rfl,rfl⟩)
     go_ret;exact⟨aJ e.symm,i⟩
def aBa (E ta a6 tn tc a7 tz Q R a S U bl a8 V W b X Y dz k ra a4 rn rc a5 rz ia a2 g ic a3 ss Z a0 f ec a1 es w)(h:MT w E ta tn tc tz Q a S bl V b X dz k ra rn rc rz ia g ic ss Z f ec es)(u:MT w E a6 tn a7 tz R a U a8 W b Y dz k a4 rn a5 rz a2 g a3 ss a0 f a1 es)(hz:∀i,i<a->(a8.getD i zB).2.1=(bl.getD i zB).2.1/\(a8.getD i zB).2.2.2=(bl.getD i zB).2.2.2):
 qC 93 #[.agg$ qM E ta tn tc Q a S V b X k ra rn rc ia g ic Z f ec,.agg$ qM E a6 tn a7 R a U W b Y k a4 rn a5 a2 g a3 a0 f a1] w (qB w$ .bool true):=by
 have l:qY w ((w.alloc$ .cells (qM E ta tn tc Q a S V b X k ra rn rc ia g ic Z f ec) 128).alloc$ .cells (qM E a6 tn a7 R a U W b Y k a4 rn a5 a2 g a3 a0 f a1) 128):=bal.alloc Jb _;have H:=(Blk.new w (qM E ta tn tc Q a S V b X k ra rn rc ia g ic Z f ec) 128).alloc$ .cells (qM E a6 tn a7 R a U W b Y k a4 rn a5 a2 g a3 a0 f a1) 128;have v0:=Blk.new (w.alloc$ .cells (qM E ta tn tc Q a S V b X k ra rn rc ia g ic Z f ec) 128) (qM E a6 tn a7 R a U W b Y k a4 rn a5 a2 g a3 a0 f a1) 128;simp only[xF]at v0
 delta qC;go_in
 go_wp2_with fail
 apply(mC ta a6 tn tc tn a7 tz tz _ (h.t.bw l)$ u.t.bw l).mono;rw[xR rfl];rintro e N ⟨rfl,d⟩;have t:=l.trans$ d.mono (by have:=l.size;simp;omega);have C:=H.bw d;have v1:=v0.bw d;have x:=C.eight;have y:=v1.eight;go_wp2_with fail
 apply(aEd Q R a S U bl a8 _ (h.b.bw t) (u.b.bw t) hz).mono;rintro e P ⟨rfl,d⟩;have q:=t.trans$ d.mono$ jK t.size;have G:=C.bw d;have v2:=v1.bw d;have x:=G.eight;have y:=v2.eight;go_wp2_with fail
 apply(jV V W b X b Y dz dz _ (h.d.bw q)$ u.d.bw q).mono;rw[xR rfl];rintro e O ⟨rfl,d⟩;have s:=q.trans$ d.mono$ jK q.size;have F:=G.bw d;have v3:=v2.bw d;have x:=F.eight;have y:=v3.eight;go_wp2_with fail
 apply(mC ra a4 rn rc rn a5 rz rz _ (h.r.bw s)$ u.r.bw s).mono;rw[xR rfl];rintro e w4 ⟨rfl,d⟩;have p:=s.trans$ d.mono$ jK s.size;have D:=F.bw d;have v4:=v3.bw d;have x:=D.eight;have y:=v4.eight;go_wp2_with fail
 apply(yY ia a2 g ic a3 ss _ (h.i.bw p)$ u.i.bw p).mono;rintro e M ⟨rfl,d⟩;have j:=p.trans$ d.mono$ jK p.size;have B:=D.bw d;have v5:=v4.bw d;have x:=B.eight;have y:=v5.eight;go_wp2_with fail
 apply(zA Z a0 f ec a1 es _ (h.e.bw j)$ u.e.bw j).mono;rintro e K ⟨rfl,d⟩;have A:=j.trans$ d.mono$ jK j.size;have I:=B.bw d;have v6:=v5.bw d;have x:=I.eight;have y:=v6.eight;go_wp2;go_ret;exact⟨rfl,A⟩
def aH0 {j:qi}{p:qi}{rz:qi}{w W:qw}{y x B u q A:Nat}{l:List Nat}(h:MT w nm ta tn tc j ba bn bc bl da dn dc p bss ra rn rc rz ia im ic ss ea en ec es)(D:l.length=bn)
 (K:RowI W y j) (C:RowB W x bn l bl) (I:Row8 W B p) (H:RowI W u rz) (F:RowT W q ss) (G:RowX W A es):MT W nm (qP y) tn tn j (qP x) bn bn (reb l bl) (qP B) dn dn p bss (qP u) rn rn rz (qP q) im im ss (qP A) en en es where
 n:=h.n
 t:=K.is (h.t.1 ▸ h.t.2.1) h.t.2.2.1 _ _ h.t.1
 b:=C.bks h.b D
 d:=I.bs (h.d.1 ▸ h.d.2.1) h.d.2.2.1 _ _ h.d.1
 s:=h.s
 r:=H.is (h.r.1 ▸ h.r.2.1) h.r.2.2.1 _ _ h.r.1
 i:=⟨h.i.1,h.i.2.1,h.i.2.2.1,λ_=>⟨q,0,rfl,λi hi=>by rw[Nat.zero_add];exact F.cell i$ h.i.1 ▸ hi⟩,aO⟩
 e:=G.te h.e
def aOz {j:qi}{l:qi}{rz:qi}{w:qw}(h:MT w nm ta tn tc j ba bn bc bl da dn dc l bss ra rn rc rz ia im ic ss ea en ec es)(hs:dL nm tn bn bl dn rn im ss en es<=1048576):MD w nm ta tn tc j ba bn bc bl da dn dc l bss ra rn rc rz ia im ic ss ea en ec es where
 n:=by unfold dL at hs;omega
 t:=h.t
 b:=h.b
 d:=h.d
 s:=h.s
 r:=h.r
 i:=h.i.ss (by unfold dL at hs;omega)
 e:=h.e.es (by unfold dL at hs;omega)
def aNz (g l tn b a d rn i ss f es)(h:a.length=b):dL l tn b (reb g a) d rn i ss f es=dL l tn b a d rn i ss f es:=by
 have:∀k,k<=b->upS (λj=>((reb g a).getD j zB).2.1) k=upS (λj=>(a.getD j zB).2.1) k:=by
  intro k
  induction k with
  | zero=>intro _;rfl
  | succ k ih=>
    intro e;show upS _ k+_=upS _ k+_;rw[ih J];congr 1;simp only;rw[jZ _ _ _]
 unfold dL
 grind
structure PMod where
 nm:ByteArray
 tz:List Int
 bl:List (List Int)
 dz:List Int
 bss:Int
 rz:List Int
 ss:List ByteArray
 es:List Ex
def oI (bl:List (List Int)):List Bk:=bl.map λl=>(none,l.length,l.length,l)
def gX (P:PMod):Int:=mdo P.nm P.tz.length P.tz P.bl.length (oI P.bl) P.dz.length P.bss P.rz.length P.rz P.ss.length P.ss P.es.length P.es
def aRv {d:qi}{bl':List Bk}{rz:qi}(j:bl.length=bl'.length)(h:∀i,i<bl.length->(bl.getD i zB).2.1=(bl'.getD i zB).2.1/\(bl.getD i zB).2.2.2=(bl'.getD i zB).2.2.2):
 mdo nm tn d bl.length bl dn bss rn rz im ss en es=mdo nm tn d bl.length bl' dn bss rn rz im ss en es:=by
 have e:reb [] bl=reb [] bl':=by
  unfold reb
  grind
 rw[<-aJ2 [] nm tn d bl.length bl dn bss rn rz im ss en es rfl,e,aJ2 [] nm tn d bl.length bl' dn bss rn rz im ss en es j.symm]
def aC (w g i v):Turn (λj=>j=g) w (w.setCell (qR g i) v):=⟨rfl,rfl,rfl,by rw[aK];exact aO,λk _ d=>heap_setCell_other _ _ _ _ d⟩
def OG {α:Type}(t:TypeId)(sz:Nat)(f:α->List Value)(w:qw)(base:Nat)(v:Value)(xs:List α):Prop:=w.ownsRow base t sz v xs.length$ xs.flatMap f
def OG.bw {α:Type}{t:TypeId}{f:α->List Value}{w w':qw}{xs:List α}(h:OG t sz f w base v xs)(d:qY w w'):OG t sz f w' base v xs:=by
 obtain⟨a,i|⟨g,b,e,u,q,s,j,k,l,p⟩⟩:=h
 .exact⟨a,.inl i⟩
 .exact⟨a,.inr ⟨g,b,e,u,q,Blk.bw (w:=w) s d,j,k,l,p⟩⟩
def OG.mono {α:Type}{t:TypeId}{f:α->List Value}{w:qw}{xs:List α}(h:OG t sz f w base v xs)(d:base'<=base):OG t sz f w base' v xs:=by
 obtain⟨a,i|⟨g,b,e,s,u,q,j,k,l,p⟩⟩:=h
 .exact⟨a,.inl i⟩
 .exact⟨a,.inr ⟨g,b,e,s,J,q,j,k,l,p⟩⟩
def OG.turn {α:Type}{t:TypeId}{f:α->List Value}{w w':qw}{xs:List α}(h:OG t sz f w base v xs)(d:Turn S w w')(hS:∀k,S k->¬base<=k):OG t sz f w' base v xs:=by
 obtain⟨b,j|⟨g,e,i,y,a,x,l,p,q,u⟩⟩:=h
 .exact⟨b,.inl j⟩
 .exact⟨b,.inr ⟨g,e,i,y,a,aD (w:=w) d x λs=>hS g s a,l,p,q,u⟩⟩
def OG.lt {α:Type}{t:TypeId}{f:α->List Value}{w:qw}{xs:List α}(h:OG t sz f w base v xs):∀k,v.ownBlock=some k->base<=k/\k<w.heap.size:=World.ownsRow.lt h
def gQ {α:Type}(t sz)(f:α->List Value)(w base):OG t sz f w base (qS none 0 0) []:=⟨Jb,.inl ⟨rfl,rfl⟩⟩
def aZ {α:Type}{t:TypeId}{f:α->List Value}{w:qw}{xs:List α}(h:OG t sz f w base v xs):∃a c,v=qS a xs.length c:=by
 obtain⟨j,⟨e,i⟩|⟨g,b,d,k,_⟩⟩:=h
 .grind
 .grind
def vH {w W W':qw}(h:Turn S w W)(d:W.grownBy W' row)(j:∀k,row=some k->w.heap.size<=k):Turn S w W':=
 ⟨d.os.trans h.os,d.tape.trans h.tape,d.output.trans h.output,xM h.size d.size,λk i hs=>(d.block k (Nat.lt_of_lt_of_le i h.size) (λe=>by grind)).trans$ h.block k i hs⟩
def cA (w:qw)(cs t)(xs:List Value)(h:cs=xs.toArray):∀j u,xs[j]?=some u->(w.alloc$ .cells cs t).cell? (((qR w.heap.size 0):Addr).add j)=some u:=by
 intro j u d;subst h;rw[cI,Nat.zero_add,Blk.cell$ Blk.new w _ _]
 grind
def clI (x:Int):List Value:=[qI x]
def clT (x:ByteArray):List Value:=[.string x]
def clX (x:Ex):List Value:=[.string x.1,qI x.2.1,qI x.2.2]
def kP {w W:qw}(h:Turn S w W)(e:w.heap.size<=k)(i v):Turn S w (W.setCell (qR k i) v):=
 ⟨h.os,h.tape,h.output,by rw[aK];exact h.size,λj d hs=>by rw[heap_setCell_other _ _ _ _ (by grind)];exact h.block j d hs⟩
structure OBk (w:qw)(base:Nat)(v:Value)(bl:List Bk):Prop where
 head:w.ownsRow base 25 1 v bl.length (bl.map fun B=>qS B.1 B.2.1 B.2.2.1)
 rows:∀B∈bl,B.2.1=B.2.2.2.length/\OG 3 1 clI w base (qS B.1 B.2.1 B.2.2.1) B.2.2.2
 apart:bl.Pairwise fun A B=>∀k,(qS A.1 A.2.1 A.2.2.1).ownBlock=some k->(qS B.1 B.2.1 B.2.2.1).ownBlock≠some k
def aE {w:qw}{t:TypeId}{xs:List Value}(h:w.ownsRow base t sz v n xs)(e:v.ownBlock=some k):∃d,Blk w k d t:=by
 obtain⟨j,⟨a,_⟩|⟨g,i,d,f,_,b,_⟩⟩:=h
 .subst a;simp[Value.ownBlock]at e
 .subst f;simp[Value.ownBlock]at e;subst e;exact⟨d,b⟩
def aH {w:qw}{d:Array Value}{t t':TypeId}(h:Blk w k cs t)(e:Blk w k d t'):t=t':=by
 unfold Blk at h e
 grind
def OG.grown {α:Type}{t:TypeId}{f:α->List Value}{w w':qw}{xs:List α}(h:OG t sz f w base v xs)(e:w.grownBy w' row)(d:v.ownBlock=none\/v.ownBlock≠row):OG t sz f w' base v xs:=World.ownsRow.kept h e d
def OBk.turn {w w':qw}(h:OBk w base v bl)(d:Turn S w w')(hS:∀k,S k->¬base<=k):OBk w' base v bl:=by
 refine⟨?_,λB e=>⟨(h.rows B e).1,(h.rows B e).2.turn d hS⟩,h.apart⟩;obtain⟨b,j|⟨g,f,i,x,a,u,l,p,q,t⟩⟩:=h.head
 .exact⟨b,.inl j⟩
 .exact⟨b,.inr ⟨g,f,i,x,a,aD (w:=w) d u λs=>hS g s a,l,p,q,t⟩⟩
def OBk.lt {w:qw}(h:OBk w base v bl):∀k,v.ownBlock=some k->base<=k/\k<w.heap.size:=h.head.lt
def aLx {w:qw}(h:OBk w base v bl):∃a c,v=qS a bl.length c:=by
 obtain⟨i,⟨e,f⟩|⟨g,b,d,j,_⟩⟩:=h.head
 .grind
 .grind
def OBk.push {W p:qw}{i:Nat}{v':Value}{A:qO}{C:Nat}{x:qi}(h:OBk W base (qS a k c) bl)(I:bl.length=k)(hx:OG 3 1 clI W i (qS A x.length C) x)(w:base<=i)(q:∀B∈bl,∀j,(qS B.1 B.2.1 B.2.2.1).ownBlock=some j->j<i)
 (u:p.ownsRow base 25 1 v' (k+1) (bl.map (λB=>qS B.1 B.2.1 B.2.2.1)++[qS A x.length C])) (s:W.grownBy p (qS a k c).ownBlock):OBk p base v' (bl++[(A,x.length,C,x)]):=by
 have l:∀(v:Value)(b:qi)(i:Nat),OG 3 1 clI W i v b->v.ownBlock=none\/v.ownBlock≠(qS a k c).ownBlock:=λv b i F=>by
  cases e:v.ownBlock with
  | none=>exact .inl rfl
  | some j=>
    refine .inr λy=>?_;let⟨E,f⟩:=aE F e;let⟨c2,g⟩:=aE h.head y.symm;exact absurd (aH f g) Ja
 refine⟨?_,?_,?_⟩
 .grind
 .intro B d;rcases List.mem_append.1 d with d|d
  .exact⟨(h.rows B d).1,(h.rows B d).2.grown s$ l _ _ _ (h.rows B d).2⟩
  .simp at d;subst d;exact⟨rfl,(hx.grown s$ l _ _ _ hx).mono w⟩
 .rw[List.pairwise_append];refine⟨h.apart,Jb,λB d X t j D e=>?_⟩;simp at t;subst t;have:=q B d j D;have:=(hx.lt j e).1;omega
def OBk.mono {w:qw}(h:OBk w base v bl)(e:base'<=base):OBk w base' v bl:=by
 refine⟨?_,λB d=>⟨(h.rows B d).1,(h.rows B d).2.mono e⟩,h.apart⟩;obtain⟨a,i|⟨g,b,f,s,t,q,j,k,l,p⟩⟩:=h.head
 .exact⟨a,.inl i⟩
 .exact⟨a,.inr ⟨g,b,f,s,J,q,j,k,l,p⟩⟩
def dS {α:Type}(f:α->Value):∀xs:List α,xs.flatMap (λx=>[f x])=xs.map f
 | []=>rfl
 | x::xs=>by rw[xT,dS f xs];rfl
def aGr (xs:qi):xs.flatMap clI=xs.map (Value.int .i64):=dS _ xs
def yS (xs:List ByteArray):xs.flatMap clT=xs.map Value.string:=dS _ xs
def yR:∀(xs:List Ex)(i:Nat),i<xs.length->(xs.flatMap clX)[i*3]?=some (.string (xs.getD i zE).1)/\(xs.flatMap clX)[i*3+1]?=some (qI (xs.getD i zE).2.1)/\(xs.flatMap clX)[i*3+2]?=some (qI (xs.getD i zE).2.2)
 | [],i,h=>by grind
 | x::xs,0,h=>⟨rfl,rfl,rfl⟩
 | x::xs,i+1,h=>by
   have:=yR xs i (by grind)
   have e:∀d,((x::xs).flatMap clX)[(i+1)*3+d]?=(xs.flatMap clX)[i*3+d]?:=λd=>by
    rw[xT,List.getElem?_append_right (by simp[clX];omega)];congr 1;simp[clX];omega
   have:=e 0
   grind
def aY {α:Type}{t:TypeId}{f:α->List Value}{w:qw}{xs:List α}(h:OG t sz f w base (qS a n c) xs):xs.length=n/\n<=maxLen/\n<=c/\(n≠0->∃g,a=some (qR g 0)/\∀j u,(xs.flatMap f)[j]?=some u->w.cell? (qR g j)=some u):=by
 have hc:=λg d=>World.ownsRow.cells h (g:=g) d;obtain⟨A,⟨p,b⟩|⟨g,k,l,i,d,y,b,q,s,x⟩⟩:=h
 .grind
 .simp at i;obtain⟨rfl,rfl,rfl⟩:=i;refine⟨rfl,J,b,λB=>⟨g,rfl,λj u e=>?_⟩⟩;have:=hc g rfl j u e
  rwa[cI,Nat.zero_add]at this
def aFu {w:qw}{xs:qi}(h:OG 3 1 clI w base (qS a n c) xs)(hx:∀z∈xs,wfi z):IS w a n c xs:=by
 let⟨b,d,e,f⟩:=aY h;refine⟨b,d,hx,λj=>?_,e⟩;obtain⟨g,rfl,hc⟩:=f j;refine⟨g,0,rfl,λi hi=>?_⟩;rw[Nat.zero_add];refine hc i _ ?_;rw[aGr]
 grind
def aVm {w:qw}{xs:List ByteArray}(h:OG 9 1 clT w base (qS a n c) xs)(hx:∀s∈xs,s.size<=1048576):SS w a n c xs:=by
 let⟨b,d,e,f⟩:=aY h;refine⟨b,d,hx,λj=>?_,e⟩;obtain⟨g,rfl,hc⟩:=f j;refine⟨g,0,rfl,λi hi=>?_⟩;rw[Nat.zero_add];refine hc i _ ?_;rw[yS]
 grind
def aVn {w:qw}(h:OG 209 3 clX w base (qS a n c) xs)(hx:∀s∈xs,s.1.size<=1048576):ES w a n c xs:=by
 let⟨b,d,e,f⟩:=aY h;refine⟨b,d,hx,λj=>?_,e⟩;obtain⟨g,rfl,hc⟩:=f j;refine⟨g,0,rfl,λi hi=>?_⟩;rw[Nat.zero_add];let⟨k,l,p⟩:=yR xs i J
 grind
def aRp {w:qw}(h:OBk w base (qS a n c) bl)(hx:∀B∈bl,∀z∈B.2.2.2,wfi z):BKS w a n c bl:=by
 have j:OG 25 1 (λB:Bk=>[qS B.1 B.2.1 B.2.2.1]) w base (qS a n c) bl:=by unfold OG;rw[dS];exact h.head
 let⟨b,f,k,l⟩:=aY j;refine⟨b,f,λp=>?_,λi hi=>?_,k⟩
 .obtain⟨g,rfl,hc⟩:=l p;refine⟨g,0,rfl,λi hi=>?_⟩;rw[Nat.zero_add];refine hc i _ ?_;rw[dS]
  grind
 .have d:bl.getD i zB∈bl:=by simp[xB,show i<bl.length from J]
  let⟨e,o⟩:=h.rows _ d;exact aFu o$ hx _ d
def OG.kept {α:Type}{t:TypeId}{f:α->List Value}{w w':qw}{xs:List α}(h:OG t sz f w base v xs)(d:Turn S w w')(e:∀k,v.ownBlock=some k->¬S k):OG t sz f w' base v xs:=by
 obtain⟨a,l|⟨g,i,j,b,x,y,p,q,s,u⟩⟩:=h
 .exact⟨a,.inl l⟩
 .exact⟨a,.inr ⟨g,i,j,b,x,aD (w:=w) d y (e g (by rw[b];rfl)),p,q,s,u⟩⟩
def gW {α:Type}{t:TypeId}{f:α->List Value}{w:qw}{xs:List α}(h:OG t sz f w base (qS a n c) xs)(hn:n≠0):∃g,a=some (qR g 0):=by
 let⟨_,_,_,b⟩:=aY h
 grind
def aRo {w:qw}(h:OG 9 1 clT w base (qS (qP g) n c) ss)(i)(hi:i<n)(s):OG 9 1 clT (w.setCell (qR g i)$ .string s) base (qS (qP g) n c) (ss.set i s):=by
 unfold OG at *;rw[yS]at *;obtain⟨u,⟨p,_⟩|⟨l,k,b,a,f,j,q,d,t,e⟩⟩:=h
 .grind
 .simp at a;obtain⟨rfl,rfl,rfl⟩:=a;refine⟨Jb,.inr ⟨g,c,b.setIfInBounds i$ .string s,Jb,f,Blk.set (w:=w) j i _,by grind,d,by grind,?_⟩⟩;rw[List.length_set,xW,List.take_set,e,List.map_set]
def gR (k n:Nat):List ByteArray:=(List.range n).map λi=>mtx$ k+i
def iU (zs:List ByteArray)(k m:Nat):List ByteArray:=(List.range zs.length).map λi=>if i<m then mtx (k+i) else zs.getD i zS
def aFz (zs k):iU zs k 0=zs:=by
 apply List.ext_getElem
 .simp[iU]
 .intro i e d;simp[iU,d]
def aH7 (a k):iU a k a.length=gR k a.length:=by
 apply List.ext_getElem
 .simp[iU,gR]
 .intro i e d;simp[gR]at d;simp[iU,gR,d]
def aH6 (a k m)(h:m<a.length):(iU a k m).set m (mtx$ k+m)=iU a k (m+1):=by
 apply List.ext_getElem
 .simp[iU]
 .intro i e d;simp only[iU,List.getElem_set,List.getElem_map,List.getElem_range]
  grind
def sL (g n a base b)(k:Nat)(w)(h:OG 9 1 clT w base (qS (qP g) n a) b)(hn:n<=5000000)(G:0<k)(I:k<=20000000):
 qC 100 #[qS (qP g) n a,qI k] w λe w'=>e=.returned (qI ((k+n:Nat):Int))/\OG 9 1 clT w' base (qS (qP g) n a) (gR k n)/\Turn (λj=>j=g) w w':=by
 have t:=(aY h).1
 delta qC;go_in
 go_wp2;go_loopw [1,5] (λx i wr=>∃m:Nat,m<=n/\i=qI m/\x=qI ((k+m:Nat):Int)/\OG 9 1 clT wr base (qS (qP g) n a) (iU b k m)/\Turn (λj=>j=g) w wr) (λ_ i _=>n-(intOf i).toNat)
 .exact⟨0,xC _,rfl,rfl,by rw[aFz];exact h,Turn.refl _ _⟩
 .obtain⟨m,H,rfl,rfl,O,T⟩:=hrel;by_cases p:m<n
  .have B:(m:Int)<(n:Int):=J
   have F:=zh$ eO (k+m) wr;go_wp2_with fail
   apply F.mono;rintro e y ⟨rfl,s⟩;have A:=O.bw s;have C:=T.trans$ aI s
   have l:Sl (λj=>j=g) y (qP g) n 1:=by
    obtain⟨_,⟨M,_⟩|⟨U,R,S,f,_,Q,N,_,P,_⟩⟩:=A
    .simp at M
    .simp at f;obtain⟨rfl,rfl,rfl⟩:=f;refine Sl.ofBlk (c:=0) Q rfl ?_;simp at N P;omega
   let⟨⟨u,E⟩,K,_⟩:=l.cell J m J;rw[Nat.zero_add]at E K;have q:=aRo A m p$ mtx$ k+m;rw[aH6 b k m J]at q;have D:=C.trans$ aC y g m$ .string$ mtx$ k+m;have d:=zh$ xA q D;go_wp2
   go_roundw
   .exact⟨m+1,J,by go_num,by go_num,d.1,d.2⟩
   .simp[intOf];omega
  .have e:Zh (m=n):=by show m=n;omega
   have d:=zh$ xA O T;go_wp2;go_ret;refine⟨aJ (by rw[e.o]),?_,d.o.2⟩;have:=d.1;rw[e.o,<-t,aH7]at this;rw[t]at this;exact this
def sK (a)(b k:Nat)(w):
 qC 100 #[qS a 0 b,qI k] w λe w'=>e=.returned (qI k)/\w=w':=by
 delta qC;go_in
 go_wp2;go_loop [1,5] (λx i=>i=qI 0/\x=qI k) (λ_ _=>0)
 .exact⟨rfl,rfl⟩
 .obtain⟨rfl,rfl⟩:=hrel;go_wp2;go_ret;exact⟨rfl,rfl⟩
def uG (a n b base f)(k:Nat)(w)(h:OG 9 1 clT w base (qS a n b) f)(hn:n<=5000000)(l:0<k)(q:k<=20000000):
 qC 100 #[qS a n b,qI k] w λe w'=>e=.returned (qI ((k+n:Nat):Int))/\OG 9 1 clT w' base (qS a n b) (gR k n)/\Turn (λj=>(qS a n b).ownBlock=some j) w w':=by
 by_cases i:n=0
 .subst i;refine(sK a b k w).mono λe w' d=>?_;obtain⟨rfl,rfl⟩:=d;have s:f=[]:=xE (aY h).1;subst s;exact⟨rfl,h,Turn.refl _ _⟩
 .obtain⟨g,rfl⟩:=gW h i;refine(sL g n b base f k w h hn l q).mono λe w' d=>⟨d.1,d.2.1,d.2.2.mono ?_⟩;intro j p;subst p;rfl
def aL6 (k n m)(h:m<n):((gR k n).flatMap clT)[m]?=some (.string$ mtx$ k+m):=by
 rw[yS];simp[gR,h]
def aUc {w:qw}{xs:List ByteArray}(h:OG 9 1 clT w base (qS (qP g) n c) xs)(m u)(hu:(xs.flatMap clT)[m]?=some u):∀W,qY w W->W.cell? (qR g m)=some u:=λW d=>by
 have O:=OG.bw h d;let⟨b,_,_,a⟩:=aY O
 grind
def uN (a n b base k w)(h:OG 9 1 clT w base (qS a n b) (gR k n))(hn:n<=5000000)(G:0<k)(F:k<=20000000):
 qC 104 #[qS a n b,qI k] w (qB w$ qI ((k+n:Nat):Int)):=by
 have t:=zh h
 delta qC;go_in
 go_wp2;go_loopw [1,5] (λx i wr=>∃m:Nat,m<=n/\i=qI m/\x=qI ((k+m:Nat):Int)/\qY w wr) (λ_ i _=>n-(intOf i).toNat)
 .exact⟨0,xC _,rfl,rfl,brf⟩
 .obtain⟨m,H,rfl,rfl,B⟩:=hrel;by_cases l:m<n
  .have y:(m:Int)<(n:Int):=J
   obtain⟨g,rfl⟩:=gW t J;have j:=aUc t m _$ aL6 k n m l;have u:=zh λW=>eO (k+m) W;let⟨s,hs⟩:=aN$ mtx$ k+m;rw[<-hs]at j u;have q:=zh j;have:=q wr B;have D:=zh B;go_wp2_with fail
   go_region_held3 (λf=>qN f g m=some (.string s)) (go_keep) (first
    | (go_at_call 97;refine(u _).mono ?_;rintro e C ⟨rfl,d⟩;replace d:=yT D$ aW d;have:=q C d;have p:=zh d;clear d))
   go_wp2
   go_roundw
   .exact⟨m+1,J,by go_num,by go_num,p⟩
   .simp[intOf];omega
  .have e:Zh (m=n):=by show m=n;omega
   have A:=zh B;go_wp2;go_ret;exact⟨aJ (by rw[e.o]),A.o⟩
def tD:∀(xs:List Ex)(i:Nat)(x:Ex),i<xs.length->(((xs.flatMap clX).set (i*3)$ .string x.1).set (i*3+1)$ qI x.2.1).set (i*3+2) (qI x.2.2)=(xs.set i x).flatMap clX
 | [],i,x,h=>by grind
 | y::ys,0,x,h=>by simp[clX]
 | y::ys,i+1,x,h=>by
   have:=tD ys i x (by grind);rw[show(i+1)*3=i*3+1+1+1 from J];simp only[xT,clX,List.cons_append,List.nil_append,List.set_cons_succ]
   grind
def aRn {w:qw}(h:OG 209 3 clX w base (qS (qP g) n c) xs)(i)(hi:i<n)(s p q):OG 209 3 clX (((w.setCell (qR g$ i*3)$ .string s).setCell (qR g$ i*3+1)$ qI p).setCell (qR g$ i*3+2)$ qI q) base (qS (qP g) n c) (xs.set i (s,p,q)):=by
 obtain⟨y,⟨t,_⟩|⟨l,k,b,a,f,j,u,d,x,e⟩⟩:=h
 .grind
 .simp at a;obtain⟨rfl,rfl,rfl⟩:=a;refine⟨?_,.inr ⟨g,c,((b.setIfInBounds (i*3)$ .string s).setIfInBounds (i*3+1)$ qI p).setIfInBounds (i*3+2)$ qI q,Jb,f,Blk.set (Blk.set (Blk.set (w:=w) j _ _) _ _) _ _,by grind,d,by grind,?_⟩⟩
  .rw[<-tD xs i (s,p,q) hi]
   grind
  .rw[List.length_set,xW,xW,xW,List.take_set,List.take_set,List.take_set,e];exact tD xs i (s,p,q) hi
def iW (k n:Nat):List Ex:=(List.range n).map λi=>(mtx$ k+3*i,((k+3*i+1:Nat):Int),((k+3*i+2:Nat):Int))
def fR (zs:List Ex)(k m:Nat):List Ex:=(List.range zs.length).map λi=>if i<m then (mtx$ k+3*i,((k+3*i+1:Nat):Int),((k+3*i+2:Nat):Int)) else zs.getD i zE
def aH4 (a k m):(fR a k m).length=a.length:=by simp[fR]
def aFy (zs k):fR zs k 0=zs:=by
 apply List.ext_getElem
 .simp[fR]
 .intro i e d;simp[fR,d]
def aH5 (a k):fR a k a.length=iW k a.length:=by
 apply List.ext_getElem
 .simp[fR,iW]
 .intro i e d;simp[iW]at d;simp[fR,iW,d]
def aH3 (a k m)(h:m<a.length):(fR a k m).set m (mtx$ k+3*m,((k+3*m+1:Nat):Int),((k+3*m+2:Nat):Int))=fR a k (m+1):=by
 apply List.ext_getElem
 .simp[fR]
 .intro i e d;simp only[fR,List.getElem_set,List.getElem_map,List.getElem_range]
  grind
def sP (g n a base b)(k:Nat)(w)(h:OG 209 3 clX w base (qS (qP g) n a) b)(hn:n<=5000000)(M:0<k)(P:k<=20000000):
 qC 101 #[qS (qP g) n a,qI k] w λe w'=>e=.returned (qI ((k+3*n:Nat):Int))/\OG 209 3 clX w' base (qS (qP g) n a) (iW k n)/\Turn (λj=>j=g) w w':=by
 have G:=(aY h).1
 delta qC;go_in
 go_wp2;go_loopw [1,5] (λx i wr=>∃m:Nat,m<=n/\i=qI m/\x=qI ((k+3*m:Nat):Int)/\OG 209 3 clX wr base (qS (qP g) n a) (fR b k m)/\Turn (λj=>j=g) w wr) (λ_ i _=>n-(intOf i).toNat)
 .exact⟨0,xC _,rfl,rfl,by rw[aFy];exact h,Turn.refl _ _⟩
 .obtain⟨m,N,rfl,rfl,O,T⟩:=hrel;by_cases s:m<n
  .have F:(m:Int)<(n:Int):=J
   have K:=zh$ eO (k+3*m) wr;go_wp2_with fail
   apply K.mono;rintro e D ⟨rfl,C⟩;have y:=O.bw C;have I:=T.trans$ aI C
   have d:Sl (λj=>j=g) D (qP g) n 3:=by
    obtain⟨_,⟨V,_⟩|⟨g',Y,Z,f,_,X,W,_,h3,_⟩⟩:=y
    .simp at V
    .simp at f;obtain⟨rfl,rfl,rfl⟩:=f;refine Sl.ofBlk (c:=0) X rfl ?_;rw[aH4]at W;omega
   let⟨⟨u,E⟩,R,_⟩:=d.cell J (m*3) J;let⟨⟨u1,Q⟩,S,_⟩:=d.cell J (m*3+1) J;let⟨⟨u2,c2⟩,U,_⟩:=d.cell J (m*3+2) J;rw[Nat.zero_add]at E R Q S c2 U
   have l:=zh (λ(p q:Int)(A:p=((k+3*m+1:Nat):Int))(t:q=((k+3*m+2:Nat):Int))=>by
    have B:=aRn y m s (mtx$ k+3*m) p q;rw[A,t,aH3 b k m J,<-A,<-t]at B;have H:=((I.trans$ aC D g (m*3)$ .string$ mtx$ k+3*m).trans$ aC _ g (m*3+1)$ qI p).trans$ aC _ g (m*3+2)$ qI q
    exact xA B H)
   go_wp2
   go_roundw
   .exact⟨m+1,J,by go_num,by go_num,(l _ _ (by go_num) (by go_num)).1,(l _ _ (by go_num) (by go_num)).2⟩
   .simp[intOf];omega
  .have e:Zh (m=n):=by show m=n;omega
   have l:=zh$ xA O T;go_wp2;go_ret;refine⟨aJ (by rw[e.o]),?_,l.o.2⟩;have:=l.1;rw[e.o,<-G,aH5]at this;rw[G]at this;exact this
def sO (a)(b k:Nat)(w):
 qC 101 #[qS a 0 b,qI k] w λe w'=>e=.returned (qI k)/\w=w':=by
 delta qC;go_in
 go_wp2;go_loop [1,5] (λx i=>i=qI 0/\x=qI k) (λ_ _=>0)
 .exact⟨rfl,rfl⟩
 .obtain⟨rfl,rfl⟩:=hrel;go_wp2;go_ret;exact⟨rfl,rfl⟩
def uL (a n b base f)(k:Nat)(w)(h:OG 209 3 clX w base (qS a n b) f)(hn:n<=5000000)(l:0<k)(q:k<=20000000):
 qC 101 #[qS a n b,qI k] w λe w'=>e=.returned (qI ((k+3*n:Nat):Int))/\OG 209 3 clX w' base (qS a n b) (iW k n)/\Turn (λj=>(qS a n b).ownBlock=some j) w w':=by
 by_cases i:n=0
 .subst i;refine(sO a b k w).mono λe w' d=>?_;obtain⟨rfl,rfl⟩:=d;have s:f=[]:=xE (aY h).1;subst s;exact⟨rfl,h,Turn.refl _ _⟩
 .obtain⟨g,rfl⟩:=gW h i;refine(sP g n b base f k w h hn l q).mono λe w' d=>⟨d.1,d.2.1,d.2.2.mono ?_⟩;intro j p;subst p;rfl
def aUb {w:qw}(h:OG 209 3 clX w base (qS (qP g) n c) xs)(m)(e:m<n):∀W,qY w W->W.cell? (qR g$ m*3)=some (.string (xs.getD m zE).1)/\W.cell? (qR g$ m*3+1)=some (qI (xs.getD m zE).2.1)/\W.cell? (qR g$ m*3+2)=some (qI (xs.getD m zE).2.2):=λW d=>by
 have O:=OG.bw h d;let⟨i,_,_,b⟩:=aY O;let⟨f,a,hc⟩:=b J;simp at a;subst a;let⟨e0,e1,e2⟩:=yR xs m J
 grind
def aL5 (k n m)(h:m<n):(iW k n).getD m zE=(mtx$ k+3*m,((k+3*m+1:Nat):Int),((k+3*m+2:Nat):Int)):=by simp[iW,xB,h]
def uQ (a n f base k w)(h:OG 209 3 clX w base (qS a n f) (iW k n))(hn:n<=5000000)(I:0<k)(N:k<=20000000):
 qC 105 #[qS a n f,qI k] w (qB w$ qI ((k+3*n:Nat):Int)):=by
 have y:=zh h;clear h
 delta qC;go_in
 go_wp2;go_loopw [1,5] (λx i wr=>∃m:Nat,m<=n/\i=qI m/\x=qI ((k+3*m:Nat):Int)/\qY w wr) (λ_ i _=>n-(intOf i).toNat)
 .exact⟨0,xC _,rfl,rfl,brf⟩
 .obtain⟨m,M,rfl,rfl,B⟩:=hrel;by_cases j:m<n
  .have A:(m:Int)<(n:Int):=J
   obtain⟨g,rfl⟩:=gW y J;have d:=aUb y m j;rw[aL5 k n m j]at d;have p:=zh λW=>eO (k+3*m) W;obtain⟨K,b⟩:∃K:Nat,K=k+3*m:=⟨_,rfl⟩;have C:=zh b;have:K<=67108000:=J
   rw[<-b]at d p⊢;let⟨s,hs⟩:=aN$ mtx K;rw[<-hs]at d p;have q:=zh d;clear hs d b;have F:=q wr B;have u:=zh B;clear B;go_wp2
   go_region_held3 (λE=>qN E g (m*3)=some (.string s)) (go_keep) (first
    | (go_at_call 97;refine(p _).mono ?_;rintro e D ⟨rfl,l⟩;replace l:=yT u$ aW l;obtain⟨G,O,P⟩:=q D l;have t:=zh l;clear l))
   clear F u q p;go_wp2
   go_roundw
   .exact⟨m+1,J,by go_num,by rw[C.o];go_num,t.o⟩
   .simp[intOf];omega
  .have e:Zh (m=n):=by show m=n;omega
   have H:=zh B;clear B;go_wp2;go_ret;exact⟨aJ (by rw[e.o]),H.o⟩
def Sr (f:Nat->qO×Nat×Nat)(n j:Nat):Prop:=∃i,i<n/\(Value.slice (f i).1 (f i).2.1 (f i).2.2).ownBlock=some j
structure Rr (w:qw)(base:Nat)(a:qO)(n:Nat)(f:Nat->qO×Nat×Nat)(X:Nat->List Int):Prop where
 head:n≠0->∃g cs,a=some (qR g 0)/\¬Sr f n g/\Blk w g cs 25/\∀i,i<n->cs[i]?=some (.slice (f i).1 (f i).2.1 (f i).2.2)
 rows:∀i,i<n->OI w base (.slice (f i).1 (f i).2.1 (f i).2.2) (X i)
 apart:∀i j,i<n->j<n->i≠j->∀k,(Value.slice (f i).1 (f i).2.1 (f i).2.2).ownBlock=some k->(Value.slice (f j).1 (f j).2.1 (f j).2.2).ownBlock≠some k
def mrk (k:Nat)(f:Nat->qO×Nat×Nat)(i:Nat):List Int:=bT (k+cD f i) (f i).2.1
def Rr.kept {w w':qw}(h:Rr w base a n f X)(t:Turn S w w')(hs:∀i,i<n->∀k,(Value.slice (f i).1 (f i).2.1 (f i).2.2).ownBlock=some k->¬S k)(d:n≠0->∀g cs,a=some (qR g 0)->Blk w g cs 25->¬S g):Rr w' base a n f X:=
 ⟨λj=>by obtain⟨g,cs,e,l,b,p⟩:=h.head j;exact⟨g,cs,e,l,aD t b$ d j g cs e b,p⟩,λi hi=>aX t (h.rows i hi)$ hs i hi,h.apart⟩
def aAw (a)(n S k base:Nat)(f:Nat->qO×Nat×Nat)(X:Nat->List Int)(w)(h:Rr w base a n f X)(hn:n<=5000000)(hs:cD f n<=5000000)(Q:k<=10000000):
 qC 99 #[qS a n S,qI k] w λe w'=>e=.returned (qI ((k+cD f n:Nat):Int))/\Rr w' base a n f (mrk k f)/\Turn (Sr f n) w w':=by
 have I:=zh h;clear h
 delta qC;go_in
 go_wp2;go_loopw [1,5] (λx i wr=>∃m:Nat,m<=n/\i=qI m/\x=qI ((k+cD f m:Nat):Int)/\Rr wr base a n f (λi=>if i<m then mrk k f i else X i)/\Turn (Sr f n) w wr) (λ_ i _=>n-(intOf i).toNat)
 .exact⟨0,xC _,rfl,rfl,I,Turn.refl _ _⟩
 .obtain⟨m,P,rfl,rfl,R,T⟩:=hrel;by_cases d:m<n
  .have F:(m:Int)<(n:Int):=J
   obtain⟨g,U,rfl,E,b,hc⟩:=R.head J;have K:=(b.cell m).trans$ hc m d;have M:=uU f n m d;have B:=R.rows m d;simp only[Nat.lt_irrefl,if_false]at B;have u:=zh$ gY (f m).1 (f m).2.1 (f m).2.2 base (X m) (k+cD f m) wr B
   have p:=zh (λ(t:qw)(A:OI t base (.slice (f m).1 (f m).2.1 (f m).2.2) (bT (k+cD f m) (f m).2.1))(s:Turn (λj=>(Value.slice (f m).1 (f m).2.1 (f m).2.2).ownBlock=some j) wr t)=>show Rr t base (qP g) n f (λi=>if i<m+1 then mrk k f i else X i)/\Turn (Sr f n) w t by
    refine⟨⟨λ_=>⟨g,U,rfl,E,aD s b λe=>E ⟨m,d,e⟩,hc⟩,λi hi=>?_,R.apart⟩,T.trans$ s.mono λj G=>⟨m,d,G⟩⟩;by_cases e:i=m
    .subst e;simp only[show i<i+1 from J,if_true];exact A
    .have l:=aX s (R.rows i hi) λq H C=>R.apart i m hi d e q H C;by_cases e2:i<m
     .simp only[e2,if_true,show i<m+1 from J]at l ⊢;exact l
     .simp only[e2,if_false,show ¬i<m+1 from J]at l ⊢
      exact l)
   have D:Zh (cD f (m+1)=cD f m+(f m).2.1):=rfl;clear R T b hc B;generalize cD f m=O at *;generalize f m=N at *;obtain⟨V,Y,W⟩:=N;dsimp only at *;go_wp2_with fail
   apply u.mono;rintro e t ⟨rfl,A,s⟩;have y:=zh$ p t A s;clear A s p u K;go_wp2
   go_roundw
   .exact⟨m+1,J,by go_num,by rw[D.o];go_num,y.o.1,y.o.2⟩
   .simp[intOf];omega
  .have e:Zh (m=n):=by show m=n;omega
   have y:=zh$ xA R T;clear R T;go_wp2;go_ret;refine⟨aJ (by rw[e.o]),?_,y.o.2⟩;have R:=y.1;refine⟨R.head,λi hi=>?_,R.apart⟩;have:=R.rows i hi;rw[e.o]at this;simp only[hi,if_true]at this;exact this
def aA8 (a n b k base)(f:Nat->qO×Nat×Nat)(w)(h:Rr w base a n f (mrk k f))(hn:n<=5000000)(hs:cD f n<=5000000)(u:k<=10000000):
 qC 103 #[qS a n b,qI k] w λe w'=>e=.returned (qI ((k+cD f n:Nat):Int))/\w=w':=by
 have p:=zh h
 delta qC;go_in
 go_wp2;go_loop [1,5] (λx i=>∃m:Nat,m<=n/\i=qI m/\x=qI ((k+cD f m:Nat):Int)) (λ_ i=>n-(intOf i).toNat)
 .exact⟨0,xC _,rfl,rfl⟩
 .obtain⟨m,A,rfl,rfl⟩:=hrel;by_cases d:m<n
  .have q:(m:Int)<(n:Int):=J
   obtain⟨g,D,rfl,E,s,hc⟩:=p.head J;have:=(s.cell m).trans$ hc m d;have:=uU f n m d;have t:=(p.rows m d).is;have j:=zh$ iE (f m).1 (f m).2.1 (f m).2.2 (k+cD f m) w t;have l:Zh (cD f (m+1)=cD f m+(f m).2.1):=rfl;generalize cD f m=B at *;generalize f m=y at *;go_wp2_with fail
   apply j.mono;rintro e C ⟨rfl,rfl⟩;go_wp2
   go_round
   .exact⟨m+1,J,by go_num,by rw[l.o];go_num⟩
   .simp[intOf];omega
  .have e:Zh (m=n):=by show m=n;omega
   go_wp2;go_ret;exact⟨aJ (by rw[e.o]),rfl⟩
def dC (k n:Nat):List Int:=(List.range n).map λi=>((k+i:Nat):Int)%256
def mU (zs:qi)(k m:Nat):List Int:=(List.range zs.length).map λi=>if i<m then ((k+i:Nat):Int)%256 else zs.getD i 0
def aH2 (zs k):mU zs k 0=zs:=by
 apply List.ext_getElem
 .simp[mU]
 .intro i e d;simp[mU,d]
def aL0 (a k):mU a k a.length=dC k a.length:=by
 apply List.ext_getElem
 .simp[mU,dC]
 .intro i e d;simp[dC]at d;simp[mU,dC,d]
def aLz (a k m)(h:m<a.length):(mU a k m).set m (((k+m:Nat):Int)%256)=mU a k (m+1):=by
 apply List.ext_getElem
 .simp[mU]
 .intro i e d;simp only[mU,List.getElem_set,List.getElem_map,List.getElem_range]
  grind
def wS (g n a base b)(k:Nat)(w)(h:OB w base (qS (qP g) n a) b)(hn:n<=5000000)(M:k<=20000000):
 qC 56 #[qS (qP g) n a,qI k] w λe w'=>e=.returned (qI ((k+n:Nat):Int))/\OB w' base (qS (qP g) n a) (dC k n)/\Turn (λj=>j=g) w w':=by
 have s:=h.bs.1
 delta qC;go_in
 go_wp2;go_loopw [1,5] (λx i wr=>∃m:Nat,m<=n/\i=qI m/\x=qI ((k+m:Nat):Int)/\OB wr base (qS (qP g) n a) (mU b k m)/\Turn (λj=>j=g) w wr) (λ_ i _=>n-(intOf i).toNat)
 .exact⟨0,xC _,rfl,rfl,by rw[aH2];exact h,Turn.refl _ _⟩
 .obtain⟨m,I,rfl,rfl,l,A⟩:=hrel;by_cases p:m<n
  .have t:(m:Int)<(n:Int):=J
   let⟨u,hu⟩:=(nS l).cell m p;have:=(nS l).frozen m;have d:=lR l m p (((k+m:Nat):Int)%256) J;rw[aLz b k m J]at d
   have q:Turn (λj=>j=g) w (wr.setCell (qR g m)$ .int .u8$ ((k+m:Nat):Int)%256):=
    A.trans ⟨rfl,rfl,rfl,by rw[aK];exact aO,λj H hs=>heap_setCell_other _ _ _ _ hs⟩
   have y:=zh d;have B:=zh q;obtain⟨K,f⟩:∃K:Int,K=((k+m:Nat):Int):=⟨_,rfl⟩;have:0<=K:=J
   have:K<=67108864:=J
   have F:=zh$ show K+1=((k+(m+1):Nat):Int)from J;rw[<-f]at y B⊢;clear f;go_wp2
   go_roundw
   .exact⟨m+1,J,by go_num,by rw[F.o],y.o,B.o⟩
   .simp[intOf];omega
  .have e:Zh (m=n):=by show m=n;omega
   go_wp2;go_ret;exact⟨aJ (by rw[e.o]),by rw[e.o,<-s,aL0]at l;rw[s]at l;exact l,A⟩
def wR (a)(b k:Nat)(w):
 qC 56 #[qS a 0 b,qI k] w λe w'=>e=.returned (qI k)/\w=w':=by
 delta qC;go_in
 go_wp2;go_loop [1,5] (λx i=>i=qI 0/\x=qI k) (λ_ _=>0)
 .exact⟨rfl,rfl⟩
 .obtain⟨rfl,rfl⟩:=hrel;go_wp2;go_ret;exact⟨rfl,rfl⟩
def fZ (a n b base f)(k:Nat)(w)(h:OB w base (qS a n b) f)(hn:n<=5000000:=by omega)(p:k<=20000000:=by omega):
 qC 56 #[qS a n b,qI k] w λe w'=>e=.returned (qI ((k+n:Nat):Int))/\OB w' base (qS a n b) (dC k n)/\Turn (λj=>(qS a n b).ownBlock=some j) w w':=by
 by_cases i:n=0
 .subst i;refine(wR a b k w).mono λe w' d=>?_;obtain⟨rfl,rfl⟩:=d;have q:f=[]:=xE h.bs.1;subst q;exact⟨rfl,h,Turn.refl _ _⟩
 .obtain⟨g,rfl⟩:∃g,a=some ⟨g,0,none⟩:=by
   obtain⟨x,⟨u,_⟩|⟨g,s,t,y,_⟩⟩:=h.1
   .grind
   .grind
  refine(wS g n b base f k w h hn p).mono λe w' d=>⟨d.1,d.2.1,d.2.2.mono ?_⟩;intro j l;subst l;rfl
def aIa (k n m)(h:m<n):(dC k n).getD m 0=((k+m:Nat):Int)%256:=by simp[dC,xB,h]
def gB (a n f k w)(h:BS w a n f (dC k n))(hn:n<=5000000:=by omega)(s:k<=20000000:=by omega):
 qC 57 #[qS a n f,qI k] w λe w'=>e=.returned (qI ((k+n:Nat):Int))/\w=w':=by
 delta qC;go_in
 go_wp2;go_loop [1,5] (λx i=>∃m:Nat,m<=n/\i=qI m/\x=qI ((k+m:Nat):Int)) (λ_ i=>n-(intOf i).toNat)
 .exact⟨0,xC _,rfl,rfl⟩
 .obtain⟨m,t,rfl,rfl⟩:=hrel;by_cases d:m<n
  .have j:(m:Int)<(n:Int):=J
   obtain⟨b,l,rfl⟩:=h.some J;have hc:=h.at m d;rw[aIa k n m d]at hc;obtain⟨K,g⟩:∃K:Int,K=((k+m:Nat):Int):=⟨_,rfl⟩;have:0<=K:=J
   have:K<=67108864:=J
   have q:=zh$ show K+1=((k+(m+1):Nat):Int)from J;rw[<-g]at hc⊢;clear g;go_wp2
   go_round
   .exact⟨m+1,J,by go_num,by rw[q.o]⟩
   .simp[intOf];omega
  .have e:Zh (m=n):=by show m=n;omega
   go_wp2;go_ret;exact⟨aJ (by rw[e.o]),rfl⟩
def uT (v1 v2 v3:Value)(j:Nat):Prop:=v1.ownBlock=some j\/v2.ownBlock=some j\/v3.ownBlock=some j
def pN (s:Nat)(zs:qi):Option (Int×List Int):=if s<=zs.length then some (low$ zs.take s,zs.drop s) else none
def isB (x:qi)(v:Value)(w:qw):Prop:=∃b k c,v=qS (some$ qR b k) x.length c/\BS w (some$ qR b k) x.length c x
def Byt (zs:qi):Prop:=∀z∈zs,0<=z/\z<=255
structure PmG (P:PMod):Prop where
 n:P.nm.size<=1048576
 t:P.tz.length<=1048576/\∀x∈P.tz,wfi x
 b:P.bl.length<=1048576/\∀l∈P.bl,l.length<=1048576/\∀x∈l,wfi x
 d:P.dz.length<=1048576/\Byt P.dz
 s:wfi P.bss
 r:P.rz.length<=1048576/\∀x∈P.rz,wfi x
 i:P.ss.length<=1048576/\∀s∈P.ss,s.size<=1048576
 e:P.es.length<=1048576/\∀x∈P.es,x.1.size<=1048576
def Blk.eight' {w:qw}{v0 v2 v4:Value}{t:TypeId}(h:Blk w g #[v0,v1,v2,v3,v4,v5,v6,v7] t):w.cell? (qR g 0)=some v0/\w.cell? (qR g 1)=some v1/\w.cell? (qR g 2)=some v2/\w.cell? (qR g 3)=some v3/\w.cell? (qR g 4)=some v4/\w.cell? (qR g 5)=some v5/\w.cell? (qR g 6)=some v6/\w.cell? (qR g 7)=some v7:=
 ⟨h.cell 0,h.cell 1,h.cell 2,h.cell 3,h.cell 4,h.cell 5,h.cell 6,h.cell 7⟩
structure ModO (W:qw)(base:Nat)(P:PMod)(a1:qO)(c1:Nat)(a2:qO)(c2:Nat)(bl:List Bk)(a3:qO)(c3:Nat)(a5:qO)(c5:Nat)(a6:qO)(c6:Nat)(a7:qO)(c7:Nat):Prop where
 t:OG 3 1 clI W base (qS a1 P.tz.length c1) P.tz
 b:OBk W base (qS a2 bl.length c2) bl
 bls:bl.map (fun B=>B.2.2.2)=P.bl
 d:OB W base (qS a3 P.dz.length c3) P.dz
 r:OG 3 1 clI W base (qS a5 P.rz.length c5) P.rz
 i:OG 9 1 clT W base (qS a6 P.ss.length c6) P.ss
 e:OG 209 3 clX W base (qS a7 P.es.length c7) P.es
 tb:∀k,(qS a1 P.tz.length c1).ownBlock=some k->∀B∈bl,(qS B.1 B.2.1 B.2.2.1).ownBlock≠some k
 tr:∀k,(qS a1 P.tz.length c1).ownBlock=some k->(qS a5 P.rz.length c5).ownBlock≠some k
 br:∀k,(qS a5 P.rz.length c5).ownBlock=some k->∀B∈bl,(qS B.1 B.2.1 B.2.2.1).ownBlock≠some k
def xm:ByteArray:=⟨#[88,77]⟩
def ModO.mdG {W:qw}{P:PMod}{a1:qO}{c1:Nat}{c2:Nat}{a3:qO}{c3:Nat}{q:qO}{j:Nat}{u:qO}{p:Nat}{l:qO}{w:Nat}(h:ModO W base P a1 c1 a2 c2 bl a3 c3 q j u p l w)(R:PmG P):
 MD W P.nm a1 P.tz.length c1 P.tz a2 bl.length c2 bl a3 P.dz.length c3 P.dz P.bss q P.rz.length j P.rz u P.ss.length p P.ss l P.es.length w P.es where
 n:=R.n
 t:=aFu h.t R.t.2
 b:=aRp h.b (λB x z a=>by
  have y:B.2.2.2∈P.bl:=by rw[<-h.bls];exact List.mem_map.2 ⟨B,x,rfl⟩
  exact(R.b.2 _ y).2 z a)
 d:=h.d.bs
 s:=R.s
 r:=aFu h.r R.r.2
 i:=aVm h.i R.i.2
 e:=aVn h.e R.e.2
structure M6 (W:qw)(base:Nat)(v1 v3 v5 v6 v7:Value)(a2:qO)(bn:Nat)(f:Nat->qO×Nat×Nat)(T:qi)(X:Nat->List Int)(D R:qi)(Ix0:List ByteArray)(E:List Ex):Prop where
 t:OI W base v1 T
 b:Rr W base a2 bn f X
 d:OB W base v3 D
 r:OI W base v5 R
 i:OG 9 1 clT W base v6 Ix0
 e:OG 209 3 clX W base v7 E
 tr:∀k,v1.ownBlock=some k->v5.ownBlock≠some k
 tb:∀k,v1.ownBlock=some k->¬Sr f bn k
 rb:∀k,v5.ownBlock=some k->¬Sr f bn k
def bJ {w:qw}{t e:TypeId}{xs:List Value}(h:w.ownsRow base t sz v n xs)(j:v.ownBlock=some k)(i:Blk w k cs e)(d:t≠e):False:=by
 let⟨b,a⟩:=aE h j;exact d$ aH a i
def Rr.kind {w:qw}(h:Rr w base a n f X){j:Nat}(d:Sr f n j):∃cs,Blk w j cs 3:=by
 obtain⟨i,hi,e⟩:=d;exact aE (h.rows i hi).1 e
def M6.set_t {W e:qw}{T:qi}{D R:qi}{l:qi}(h:M6 W base v1 v3 v5 v6 v7 a2 bn f T X D R Ix0 E)(O:OI e base v1 l)(t:Turn (λj=>v1.ownBlock=some j) W e):M6 e base v1 v3 v5 v6 v7 a2 bn f l X D R Ix0 E:=
 ⟨O,(h.b.kept t (λi hi k d s=>h.tb k s ⟨i,hi,d⟩) (λq g a b p s=>by obtain⟨c,kb⟩:=(aE h.t.1 s);exact absurd (aH p kb) Ja)),(aT t h.d (λk d s=>by obtain⟨c,kb⟩:=(aE h.t.1 s);exact bJ h.d.1 d kb Ja)),(aX t h.r λk d s=>h.tr k s d),(h.i.kept t (λk d s=>by obtain⟨c,kb⟩:=(aE h.t.1 s);exact bJ h.i d kb Ja)),(h.e.kept t (λk d s=>by obtain⟨c,kb⟩:=(aE h.t.1 s);exact bJ h.e d kb Ja)),h.tr,h.tb,h.rb⟩
def M6.set_b {W e:qw}{T:qi}{D R:qi}{i:Nat->List Int}(h:M6 W base v1 v3 v5 v6 v7 a2 bn f T X D R Ix0 E)(O:Rr e base a2 bn f i)(t:Turn (λj=>Sr f bn j) W e):M6 e base v1 v3 v5 v6 v7 a2 bn f T i D R Ix0 E:=
 ⟨(aX t h.t λk d s=>h.tb k d s),O,(aT t h.d (λk d s=>by obtain⟨c,kb⟩:=(h.b.kind s);exact bJ h.d.1 d kb Ja)),(aX t h.r λk d s=>h.rb k d s),(h.i.kept t (λk d s=>by obtain⟨c,kb⟩:=(h.b.kind s);exact bJ h.i d kb Ja)),(h.e.kept t (λk d s=>by obtain⟨c,kb⟩:=(h.b.kind s);exact bJ h.e d kb Ja)),h.tr,h.tb,h.rb⟩
def M6.set_d {W e:qw}{T:qi}{D R:qi}{l:qi}(h:M6 W base v1 v3 v5 v6 v7 a2 bn f T X D R Ix0 E)(O:OB e base v3 l)(t:Turn (λj=>v3.ownBlock=some j) W e):M6 e base v1 v3 v5 v6 v7 a2 bn f T X l R Ix0 E:=
 ⟨(aX t h.t (λk d s=>by obtain⟨c,kb⟩:=(aE h.d.1 s);exact bJ h.t.1 d kb Ja)),(h.b.kept t (λi hi k d s=>by obtain⟨c,kb⟩:=(aE h.d.1 s);exact bJ (h.b.rows i hi).1 d kb Ja) (λq g a b p s=>by obtain⟨c,kb⟩:=(aE h.d.1 s);exact absurd (aH p kb) Ja)),O,(aX t h.r (λk d s=>by obtain⟨c,kb⟩:=(aE h.d.1 s);exact bJ h.r.1 d kb Ja)),(h.i.kept t (λk d s=>by obtain⟨c,kb⟩:=(aE h.d.1 s);exact bJ h.i d kb Ja)),(h.e.kept t (λk d s=>by obtain⟨c,kb⟩:=(aE h.d.1 s);exact bJ h.e d kb Ja)),h.tr,h.tb,h.rb⟩
def M6.set_r {W e:qw}{T:qi}{D R:qi}{l:qi}(h:M6 W base v1 v3 v5 v6 v7 a2 bn f T X D R Ix0 E)(O:OI e base v5 l)(t:Turn (λj=>v5.ownBlock=some j) W e):M6 e base v1 v3 v5 v6 v7 a2 bn f T X D l Ix0 E:=
 ⟨(aX t h.t λk d s=>h.tr k d s),(h.b.kept t (λi hi k d s=>h.rb k s ⟨i,hi,d⟩) (λq g a b p s=>by obtain⟨c,kb⟩:=(aE h.r.1 s);exact absurd (aH p kb) Ja)),(aT t h.d (λk d s=>by obtain⟨c,kb⟩:=(aE h.r.1 s);exact bJ h.d.1 d kb Ja)),O,(h.i.kept t (λk d s=>by obtain⟨c,kb⟩:=(aE h.r.1 s);exact bJ h.i d kb Ja)),(h.e.kept t (λk d s=>by obtain⟨c,kb⟩:=(aE h.r.1 s);exact bJ h.e d kb Ja)),h.tr,h.tb,h.rb⟩
def M6.set_i {W e:qw}{T:qi}{D R:qi}{l:List ByteArray}(h:M6 W base v1 v3 v5 v6 v7 a2 bn f T X D R Ix0 E)(O:OG 9 1 clT e base v6 l)(t:Turn (λj=>v6.ownBlock=some j) W e):M6 e base v1 v3 v5 v6 v7 a2 bn f T X D R l E:=
 ⟨(aX t h.t (λk d s=>by obtain⟨c,kb⟩:=(aE h.i s);exact bJ h.t.1 d kb Ja)),(h.b.kept t (λi hi k d s=>by obtain⟨c,kb⟩:=(aE h.i s);exact bJ (h.b.rows i hi).1 d kb Ja) (λq g a b p s=>by obtain⟨c,kb⟩:=(aE h.i s);exact absurd (aH p kb) Ja)),(aT t h.d (λk d s=>by obtain⟨c,kb⟩:=(aE h.i s);exact bJ h.d.1 d kb Ja)),(aX t h.r (λk d s=>by obtain⟨c,kb⟩:=(aE h.i s);exact bJ h.r.1 d kb Ja)),O,(h.e.kept t (λk d s=>by obtain⟨c,kb⟩:=(aE h.i s);exact bJ h.e d kb Ja)),h.tr,h.tb,h.rb⟩
def M6.set_e {W e:qw}{T:qi}{D R:qi}{E':List Ex}(h:M6 W base v1 v3 v5 v6 v7 a2 bn f T X D R Ix0 E)(O:OG 209 3 clX e base v7 E')(t:Turn (λj=>v7.ownBlock=some j) W e):M6 e base v1 v3 v5 v6 v7 a2 bn f T X D R Ix0 E':=
 ⟨(aX t h.t (λk d s=>by obtain⟨c,kb⟩:=(aE h.e s);exact bJ h.t.1 d kb Ja)),(h.b.kept t (λi hi k d s=>by obtain⟨c,kb⟩:=(aE h.e s);exact bJ (h.b.rows i hi).1 d kb Ja) (λp g a b l s=>by obtain⟨c,kb⟩:=(aE h.e s);exact absurd (aH l kb) Ja)),(aT t h.d (λk d s=>by obtain⟨c,kb⟩:=(aE h.e s);exact bJ h.d.1 d kb Ja)),(aX t h.r (λk d s=>by obtain⟨c,kb⟩:=(aE h.e s);exact bJ h.r.1 d kb Ja)),(h.i.kept t (λk d s=>by obtain⟨c,kb⟩:=(aE h.e s);exact bJ h.i d kb Ja)),O,h.tr,h.tb,h.rb⟩
def M6.bw {W e:qw}{T:qi}{D R:qi}(h:M6 W base v1 v3 v5 v6 v7 a2 bn f T X D R Ix0 E)(d:qY W e):M6 e base v1 v3 v5 v6 v7 a2 bn f T X D R Ix0 E:=
 ⟨h.t.bw d,h.b.kept (S:=λ_=>False) (aI d) (λ_ _ _ _ s=>s) λ_ _ _ _ _ s=>s,h.d.bw d,h.r.bw d,h.i.bw d,h.e.bw d,h.tr,h.tb,h.rb⟩
def M6.lt {W:qw}{T:qi}{D R:qi}(h:M6 W base v1 v3 v5 v6 v7 a2 bn f T X D R Ix0 E):(∀j,v1.ownBlock=some j->base<=j/\j<W.heap.size)/\(∀j,Sr f bn j->base<=j/\j<W.heap.size)/\(∀j,v3.ownBlock=some j->base<=j/\j<W.heap.size)/\(∀j,v5.ownBlock=some j->base<=j/\j<W.heap.size)/\(∀j,v6.ownBlock=some j->base<=j/\j<W.heap.size)/\(∀j,v7.ownBlock=some j->base<=j/\j<W.heap.size):=
 ⟨h.t.lt,λj d=>by obtain⟨i,hi,e⟩:=d;exact(h.b.rows i hi).lt j e,h.d.lt,h.r.lt,h.i.lt,h.e.lt⟩
structure Md where
 nm:ByteArray
 ta:qO
 tn:Nat
 tc:Nat
 tz:List Int
 ba:qO
 bn:Nat
 bc:Nat
 bl:List Bk
 da:qO
 dn:Nat
 dc:Nat
 dz:List Int
 bss:Int
 ra:qO
 rn:Nat
 rc:Nat
 rz:List Int
 ia:qO
 im:Nat
 ic:Nat
 ss:List ByteArray
 ea:qO
 en:Nat
 ec:Nat
 es:List Ex
def aL:Md:=⟨⟨#[]⟩,none,0,0,[],none,0,0,[],none,0,0,[],0,none,0,0,[],none,0,0,[],none,0,0,[]⟩
def Md.mt (m:Md)(w:qw):Prop:=MT w m.nm m.ta m.tn m.tc m.tz m.ba m.bn m.bc m.bl m.da m.dn m.dc m.dz m.bss m.ra m.rn m.rc m.rz m.ia m.im m.ic m.ss m.ea m.en m.ec m.es
def Md.size (m:Md):Nat:=dL m.nm m.tn m.bn m.bl m.dn m.rn m.im m.ss m.en m.es
def Md.cells (m:Md):Array Value:=(qM m.nm m.ta m.tn m.tc m.ba m.bn m.bc m.da m.dn m.dc m.bss m.ra m.rn m.rc m.ia m.im m.ic m.ea m.en m.ec)
def At8 (w:qw)(b o:Nat)(m:Md):Prop:=
 w.cell? (qR b o)=some (.string m.nm)/\w.cell? (qR b$ o+1)=some (qS m.ta m.tn m.tc)/\w.cell? (qR b$ o+2)=some (qS m.ba m.bn m.bc)/\w.cell? (qR b$ o+3)=some (qS m.da m.dn m.dc)/\w.cell? (qR b$ o+4)=some (qI m.bss)/\w.cell? (qR b$ o+5)=some (qS m.ra m.rn m.rc)/\w.cell? (qR b$ o+6)=some (qS m.ia m.im m.ic)/\w.cell? (qR b$ o+7)=some (qS m.ea m.en m.ec)
def At8.bw {w w':qw}{m:Md}(h:At8 w b o m)(i:qY w w'):At8 w' b o m:=by
 have d:∀o v,qN w b o=some v->qN w' b o=some v:=λo v e=>(i.cell$ xD w _ e).trans e;obtain⟨a,f,g,j,k,l,p,q⟩:=h;exact⟨d _ _ a,d _ _ f,d _ _ g,d _ _ j,d _ _ k,d _ _ l,d _ _ p,d _ _ q⟩
def Md.bw {m:Md}{w w':qw}(h:m.mt w)(d:qY w w'):m.mt w':=MT.bw h d
def MS (w:qw)(a:qO)(n cap:Nat)(ms:List Md):Prop:=
 ms.length=n/\n<=maxLen/\(n≠0->∃b off,a=some (qR b off)/\∀i,i<n->At8 w b (off+i*8) (ms.getD i aL))/\(∀i,i<n->(ms.getD i aL).mt w)/\n<=cap
def MS.bw {w w':qw}{ms:List Md}(h:MS w a n cap ms)(d:qY w w'):MS w' a n cap ms:=by
 obtain⟨f,g,j,k,l⟩:=h;refine⟨f,g,λp=>?_,λi hi=>Md.bw (k i hi) d,l⟩;let⟨b,q,e,hc⟩:=j p;exact⟨b,q,e,λi hi=>(hc i hi).bw d⟩
def MS.at {w:qw}{ms:List Md}(h:MS w a n cap ms)(i)(hi:i<n):∃b d,a=some (qR b d)/\At8 w b (d+i*8) (ms.getD i aL):=by
 let⟨b,d,e,hc⟩:=h.2.2.1 J
 grind
def aAh (a n a1 ms l w)(h:MS w a n a1 ms)(P:0<=l)(O:l<=1048576):
 qC 17 #[qS a n a1,qI l] w λe w'=>e=.returned (qI$ szR l$ n+upS (λj=>(ms.getD j aL).size) n)/\qY w w':=by
 have H:=h.2.1;unfold maxLen at H;let⟨r,R⟩:=aN$ szR l$ n+upS (λj=>(ms.getD j aL).size) n;rw[<-R];unfold szR at R;have y:=zh R;clear R;by_cases c1:l<(n:Int)
 .have e:=zh (show r=-1 by rw[y.o,if_pos J])
  delta qC;go_in
  go_wp2;go_ret;exact⟨aJ e.symm,brf⟩
 .delta qC;go_in
  go_wp2_with fail
  go_loopw [1,5] (λv i wr=>∃(k:Nat) (z:Int),k<=n/\i=qI k/\v=qI z/\0<=z/\z<=1048576/\Hid (z=l-n-(upS (λj=>(ms.getD j aL).size) k:Nat))/\qY w wr) (λ_ i _=>n-(intOf i).toNat)
  .exact⟨0,l-n,xC _,rfl,rfl,J,J,zh (by simp[upS]),brf⟩
  .obtain⟨k,z,U,rfl,rfl,M,K,A,p⟩:=hrel;by_cases s:k<n
   .have C:(k:Int)<(n:Int):=J
    obtain⟨b,a2,rfl,y0,y1,y2,y3,y4,y5,y6,y7⟩:=(h.bw p).at k s;have N:=zh$ (h.bw p).2.2.2.1 k s;have x:Zh (upS (λj=>(ms.getD j aL).size) (k+1)=upS (λj=>(ms.getD j aL).size) k+(ms.getD k aL).size):=rfl;have D:=zh$ gD (λj=>(ms.getD j aL).size) (k+1) n J;generalize ms.getD k aL=m at *;obtain⟨V,ta,X,tc,tz,Y,g,Z,f,da,E,dc,dz,a0,ra,W,rc,rz,ia,S,ic,ss,ea,Q,ec,es⟩:=m;have t:=zh$ aCt V ta X tc tz Y g Z f da E dc dz a0 ra W rc rz ia S ic ss ea Q ec es z wr N M K;have G:Zh (Md.size ⟨V,ta,X,tc,tz,Y,g,Z,f,da,E,dc,dz,a0,ra,W,rc,rz,ia,S,ic,ss,ea,Q,ec,es⟩=dL V X g f E W S ss Q es):=rfl;rw[G.o]at x;generalize dL V X g f E W S ss Q es=q at *;unfold szR at t;by_cases c2:z<(q:Int)
    .rw[if_pos c2]at t
     have e:=zh (show r=-1 by
      have u:=A.out;have F:=x.o;have:=D.o
      rw[y.o,if_pos J])
     go_wp2_with fail
     apply t.mono;rintro e I ⟨rfl,d⟩;go_wp2;go_ret;exact⟨aJ e.symm,yT p d⟩
    .rw[if_neg c2]at t;go_wp2_with fail
     apply t.mono;rintro e I ⟨rfl,d⟩;clear y0 y1 y2 y3 y4 y5 y6 y7;go_wp2
     go_roundw
     .exact⟨k+1,z-q,J,by go_num,rfl,J,J,zh (by have u:=A.out;have F:=x.o;omega),yT p d⟩
     .simp[intOf];omega
   .have e:=zh (show r=z by
     have u:=A.out;have B:k=n:=J
     rw[B]at u;rw[y.o,if_neg J]
     omega)
    go_wp2;go_ret;exact⟨aJ e.symm,p⟩
def aC2 (w:qw)(g o:Nat)(m:Md):World:=((((((((w.setCell (qR g o)$ .string m.nm).setCell (qR g$ o+1)$ qS m.ta m.tn m.tc).setCell (qR g$ o+2)$ qS m.ba m.bn m.bc).setCell (qR g$ o+3)$ qS m.da m.dn m.dc).setCell (qR g$ o+4)$ qI m.bss).setCell (qR g$ o+5)$ qS m.ra m.rn m.rc).setCell (qR g$ o+6)$ qS m.ia m.im m.ic).setCell (qR g$ o+7)$ qS m.ea m.en m.ec)
def dP (w g o b o' m)(h:b≠g\/o'<o\/o+8<=o':=by omega):(aC2 w g o m).cell? (qR b o')=w.cell? (qR b o'):=by
 unfold aC2;rw[aS,aS,aS,aS,aS,aS,aS,aS]
def aJz {w:qw}{q:Md}(h:At8 w g o q)(m):At8 (aC2 w g o m) g o m:=by
 obtain⟨a,b,d,e,f,i,j,k⟩:=h;unfold aC2;refine⟨?_,?_,?_,?_,?_,?_,?_,?_⟩
 .rw[aS,aS,aS,aS,aS,aS,aS];exact nF (u:=_) (by exact a)
 .rw[aS,aS,aS,aS,aS,aS];exact nF (u:=_) (by rw[aS];exact b)
 .rw[aS,aS,aS,aS,aS];exact nF (u:=_) (by rw[aS,aS];exact d)
 .rw[aS,aS,aS,aS];exact nF (u:=_) (by rw[aS,aS,aS];exact e)
 .rw[aS,aS,aS];exact nF (u:=_) (by rw[aS,aS,aS,aS];exact f)
 .rw[aS,aS];exact nF (u:=_) (by rw[aS,aS,aS,aS,aS];exact i)
 .rw[aS];exact nF (u:=_) (by rw[aS,aS,aS,aS,aS,aS];exact j)
 .exact nF (u:=_) (by rw[aS,aS,aS,aS,aS,aS,aS];exact k)
def aE9 {w:qw}{d:Nat}{q:Md}(h:At8 w b d q)(m)(e:b≠g\/d+8<=o\/o+8<=d):At8 (aC2 w g o m) b d q:=by
 unfold At8;rw[dP _ _ _ _ _ _,dP _ _ _ _ _ _,dP _ _ _ _ _ _,dP _ _ _ _ _ _,dP _ _ _ _ _ _,dP _ _ _ _ _ _,dP _ _ _ _ _ _,dP _ _ _ _ _ _];exact h
def aNo {w:qw}{e:Array Value}{t:TypeId}(h:Blk w g e t)(o m):∃d,Blk (aC2 w g o m) g d t/\d.size=e.size:=
 ⟨_,((((((((h.set (o) _).set (o+1) _).set (o+2) _).set (o+3) _).set (o+4) _).set (o+5) _).set (o+6) _).set (o+7) _),Jb⟩
def aHh {B:Nat}{a w:qw}(h:Below B a w)(d:B<=g)(o m):Below B a (aC2 w g o m):=
 ((((((((h.setCell (p:=(qR g o)) d _).setCell (p:=(qR g$ o+1)) d _).setCell (p:=(qR g$ o+2)) d _).setCell (p:=(qR g$ o+3)) d _).setCell (p:=(qR g$ o+4)) d _).setCell (p:=(qR g$ o+5)) d _).setCell (p:=(qR g$ o+6)) d _).setCell (p:=(qR g$ o+7)) d _)
def aLe (c w g o m)(h:g<=c):Turn (λj=>j<=c) w (aC2 w g o m):=
 ((((((((cJ c w g o _ h).trans$ cJ c _ g (o+1) _ h).trans$ cJ c _ g (o+2) _ h).trans$ cJ c _ g (o+3) _ h).trans$ cJ c _ g (o+4) _ h).trans$ cJ c _ g (o+5) _ h).trans$ cJ c _ g (o+6) _ h).trans$ cJ c _ g (o+7) _ h)
def fX (c:Nat)(m m':Md)(W:qw):Prop:=∃g1 g2 g3 g5 g6 g7 gs,m'=⟨m.nm,some$ qR g1 0,m.tn,m.tn,m.tz,some$ qR g2 0,m.bn,m.bn,reb gs m.bl,some$ qR g3 0,m.dn,m.dn,m.dz,m.bss,some$ qR g5 0,m.rn,m.rn,m.rz,some$ qR g6 0,m.im,m.im,m.ss,some$ qR g7 0,m.en,m.en,m.es⟩/\c<g1/\g1<g2/\g2<g3/\g3<g5/\g5<g6/\g6<g7/\gs.length=m.bn/\RowI W g1 m.tz/\RowB W g2 m.bn gs m.bl/\Row8 W g3 m.dz/\RowI W g5 m.rz/\RowT W g6 m.ss/\RowX W g7 m.es
def nY (c m G):Stab c (fX c m G):=λW d t h=>by
 obtain⟨k,a,l,p,q,s,b,e,A,B,C,D,E,F,y,H,I,K,M,N,O⟩:=h
 have j:RowB d a m.bn b m.bl:=by
  obtain⟨⟨g,u,w⟩,f,x⟩:=I;exact⟨⟨g,aD t u (by grind),w⟩,λi hi=>⟨aD t (f i hi).1 (by grind),(f i hi).2⟩,x⟩
 exact⟨k,a,l,p,q,s,b,e,A,B,C,D,E,F,y,vK J W d t H,j,vL J W d t K,vK J W d t M,aNb J W d t N,aNa J W d t O⟩
def aI8 {m d:Md}{W W':qw}(h:fX c m d W)(e:qY W W'):fX c m d W':=nY c m d W W' (aI e) h
def aKs {m d:Md}{w W:qw}(e:m.mt w)(h:fX c m d W):d.mt W:=by
 obtain⟨l,p,q,s,t,u,x,rfl,_,_,_,_,_,_,a,b,f,g,i,j,k⟩:=h;exact aH0 e a b f g i j k
def RowM (W:qw)(c n:Nat)(ms ms':List Md):Prop:=
 (∃cur,Blk W c cur 128/\cur.size=n*8)/\(∀i,i<n->∃q,At8 W c (i*8) q)/\∀i,i<ms'.length->At8 W c (i*8) (ms'.getD i aL)/\fX c (ms.getD i aL) (ms'.getD i aL) W
def RowM.bw {W e:qw}{ms ms':List Md}(h:RowM W c n ms ms')(d:qY W e):RowM e c n ms ms':=by
 obtain⟨⟨b,hc,hs⟩,f,a⟩:=h;exact⟨⟨b,hc.bw d,hs⟩,λi hi=>by obtain⟨q,h⟩:=f i hi;exact⟨q,h.bw d⟩,λi hi=>⟨(a i hi).1.bw d,aI8 (a i hi).2 d⟩⟩
def aSb (ms x i)(h:i<ms.length):(ms++[x]).getD i aL=ms.getD i aL:=by grind
def aMn (ms x):(ms++[x]).getD ms.length aL=x:=by grind
def RowM.push {W:qw}{ms d:List Md}(h:RowM W c n ms d)(j:d.length<n)(x)(hx:fX c (ms.getD d.length aL) x W):RowM (aC2 W c (d.length*8) x) c n ms (d++[x]):=by
 obtain⟨⟨k,hc,hs⟩,a,b⟩:=h;let⟨f,g,l⟩:=aNo hc (d.length*8) x;have T:=aLe c W c (d.length*8) x aO;refine⟨⟨f,g,by grind⟩,λi hi=>?_,λi hi=>?_⟩
 .have⟨q,h⟩:=a i hi;by_cases e:i=d.length
  .subst e;exact⟨x,aJz h x⟩
  .exact⟨q,aE9 h x J⟩
 .simp only[xI,List.length_cons,List.length_nil]at hi;by_cases e:i=d.length
  .subst e;rw[aMn];let⟨q,h⟩:=a _ j;exact⟨aJz h x,nY _ _ _ _ _ T hx⟩
  .rw[aSb _ _ _ J];exact⟨aE9 (b i J).1 x J,nY _ _ _ _ _ T (b i J).2⟩
def aPi:(prog.info? 128).map (λi=>(i.zero,i.size,i.bytes))=some (some$ .agg #[.string ⟨#[]⟩,qS none 0 0,qS none 0 0,qS none 0 0,qI 0,qS none 0 0,qS none 0 0,qS none 0 0],8,168):=Je
def aC8 {w:qw}{ms:List Md}(h:w.ownsRow base 128 8 (qS (qP g) n n) n (madeCells (Value.cells$ .agg #[.string ⟨#[]⟩,qS none 0 0,qS none 0 0,qS none 0 0,qI 0,qS none 0 0,qS none 0 0,qS none 0 0])$ n*8).toList):RowM w g n ms []:=by
 obtain⟨B,h|⟨s,k,a,b,A,f,t,u,x,y⟩⟩:=h
 .grind
 .simp at b;obtain⟨rfl,rfl⟩:=b
  have e:a.toList=(madeCells (Value.cells$ .agg #[.string ⟨#[]⟩,qS none 0 0,qS none 0 0,qS none 0 0,qI 0,qS none 0 0,qS none 0 0,qS none 0 0])$ n*8).toList:=by
   grind
  have e2:a=madeCells (Value.cells$ .agg #[.string ⟨#[]⟩,qS none 0 0,qS none 0 0,qS none 0 0,qI 0,qS none 0 0,qS none 0 0,qS none 0 0]) (n*8):=Array.toList_inj.1 e;have l:Blk w g a 128:=f;refine⟨⟨a,l,by grind⟩,λi hi=>⟨aL,?_⟩,λi hi=>by grind⟩
  have d:∀j,j<8->w.cell? (qR g$ i*8+j)=#[Value.string ⟨#[]⟩,qS none 0 0,qS none 0 0,qS none 0 0,qI 0,qS none 0 0,qS none 0 0,qS none 0 0][j]?:=by
   intro j q;rw[l.cell,e2];have p:(i*8+j)%8=j:=J
   simp[madeCells,Value.cells,show i*8+j<n*8 from J,p]
   match j,q with
   | 0,_=>rfl
   | 1,_=>rfl
   | 2,_=>rfl
   | 3,_=>rfl
   | 4,_=>rfl
   | 5,_=>rfl
   | 6,_=>rfl
   | 7,_=>rfl
  exact⟨d 0 J,d 1 J,d 2 J,d 3 J,d 4 J,d 5 J,d 6 J,d 7 J⟩
def zZ (a n a1 ms w)(h:MS w a n a1 ms)(hn:n<=1048576)(hs:∀i,i<n->(ms.getD i aL).size<=1048576):
 qC 25 #[qS a n a1] w λe w'=>e=.returned (qS (qP w.heap.size) n n)/\(∃d,d.length=n/\RowM w' w.heap.size n ms d)/\qY w w':=by
 let⟨i0,hi,a3,a4,a5⟩:=info_parts aPi
 delta qC;go_in
 go_wp2_with (at_make;refine wpList_make_full _ rfl _ _ 36 rfl w.heap.size 128 i0 (.agg #[.string ⟨#[]⟩,qS none 0 0,qS none 0 0,qS none 0 0,qI 0,qS none 0 0,qS none 0 0,qS none 0 0]) 8 underlying36 hi a3 a4 .i64 .i64 _ _ n rfl rfl rfl rfl (by rw[a5];omega) Jf aO ?_;intro w1 p K)
 have t:RowM w1 w.heap.size n ms []:=aC8 p;have u:=bI K;go_loopw [4] (λi wr=>∃k:Nat,k<=n/\i=qI k/\(∃d,d.length=k/\RowM wr w.heap.size n ms d)/\qY w wr) (qf n)
 .exact⟨0,xC _,rfl,⟨[],rfl,t⟩,u⟩
 .obtain⟨k,hk,rfl,⟨d,A,s⟩,y⟩:=hrel;by_cases j:k<n
  .have U:(k:Int)<(n:Int):=J
   obtain⟨b,a7,rfl,y0,y1,y2,y3,y4,y5,y6,y7⟩:=(h.bw y).at k j;have HT:=zh$ (h.bw y).2.2.2.1 k j;have G:=hs k j
   have HP:=zh (λ(W:qw)(x:Md)(B:qY wr W)(hx:fX w.heap.size (ms.getD k aL) x W)=>by
    have P:=(s.bw B).push J x (by rw[A];exact hx);rw[A]at P
    exact P)
   have HF:=zb wr λW B=>show(∃q,At8 W w.heap.size (k*8) q)/\∀i,W.frozen? (qh w i)=false from⟨(s.bw B).2.1 k j,by obtain⟨⟨a2,hc,_⟩,_⟩:=s.bw B;exact hc.frozen⟩;have:w.heap.size<wr.heap.size:=by obtain⟨⟨a2,hc,_⟩,_⟩:=s;exact hc.lt
   generalize ms.getD k aL=m at *;obtain⟨nm,ta,X,tc,tz,ba,f,bc,bl,da,g,dc,dz,a0,ra,S,rc,rz,ia,R,ic,ss,ea,E,ec,es⟩:=m;have HS:=zh$ aCo nm ta X tc tz ba f bc bl da g dc dz a0 ra S rc rz ia R ic ss ea E ec es wr HT G;go_wp2_with fail
   apply HS.mono;rintro e Q ⟨C,H,N,F,D,M,rfl,l1,l2,l3,V,l5,l6,r1,⟨O,Z,Y⟩,r3,r5,r6,r7,l⟩;have HX:=zh$ HP Q ⟨nm,qP C,X,X,tz,qP H,f,f,reb O bl,qP N,g,g,dz,a0,qP F,S,S,rz,qP D,R,R,ss,qP M,E,E,es⟩ l ⟨C,H,N,F,D,M,O,rfl,J,l2,l3,V,l5,l6,Z,r1,Y,r3,r5,r6,r7⟩;let⟨⟨q,p0,p1,p2,p3,p4,p5,p6,p7⟩,a6⟩:=HF Q l;have I:=zh$ aHh (yT y l) (Nat.le_refl$ qs w) (k*8) ⟨nm,qP C,X,X,tz,qP H,f,f,reb O bl,qP N,g,g,dz,a0,qP F,S,S,rz,qP D,R,R,ss,qP M,E,E,es⟩;go_wp2
   go_roundw
   .exact⟨k+1,J,by go_num,⟨_,by rw[xI,A];rfl,HX.o⟩,I.o⟩
   .simp[qf,intOf];omega
  .have e:Zh (k=n):=by show k=n;omega
   go_wp2;go_ret;exact⟨rfl,⟨d,by rw[A,e.o],s⟩,y⟩
end Go.Proofs.YtdjdcdnjjmjonaaGreat
namespace Go.Proofs.YtdjdcdnjjmjonaaGreat
open Go.RowKit Go.Maps
open Go.Proofs.Tryz
set_option maxRecDepth 100000
def aQh (m m':Md):Prop:=m.nm=m'.nm/\m.tn=m'.tn/\m.tz=m'.tz/\m.bn=m'.bn/\(∀i,i<m.bn->(m'.bl.getD i zB).2.1=(m.bl.getD i zB).2.1/\(m'.bl.getD i zB).2.2.2=(m.bl.getD i zB).2.2.2)/\m.dn=m'.dn/\m.dz=m'.dz/\m.bss=m'.bss/\m.rn=m'.rn/\m.rz=m'.rz/\m.im=m'.im/\m.ss=m'.ss/\m.en=m'.en/\m.es=m'.es
def aFa {c c':Nat}{m x y:Md}{W d:qw}(j:m.bl.length=m.bn)(h:fX c m x W)(e:fX c' m y d):aQh x y:=by
 obtain⟨_,_,_,_,_,_,a,rfl,_⟩:=h;obtain⟨_,_,_,_,_,_,b,rfl,_⟩:=e;exact⟨rfl,rfl,rfl,rfl,λi hi=>by dsimp only at hi⊢;rw[jZ _ _ _,jZ _ _ _];exact⟨rfl,rfl⟩,rfl,rfl,rfl,rfl,rfl,rfl,rfl,rfl,rfl⟩
def yZ (a Q n W X ms M w)(h:MS w a n W ms)(p:MS w Q n X M)(hz:∀i,i<n->aQh (ms.getD i aL) (M.getD i aL)):
 qC 35 #[qS a n W,qS Q n X] w (qB w$ .bool true):=by
 have q:=h.2.1;unfold maxLen at q
 delta qC;go_in
 go_wp2;go_loopw [5] (λi wr=>∃k:Nat,k<=n/\i=qI k/\qY w wr) (qf n)
 .exact⟨0,xC _,rfl,brf⟩
 .obtain⟨k,D,rfl,l⟩:=hrel;by_cases d:k<n
  .have u:(k:Int)<(n:Int):=J
   obtain⟨b,t,rfl,q0,q1,q2,q3,q4,q5,q6,q7⟩:=(h.bw l).at k d;obtain⟨g,y,rfl,p0,p1,p2,p3,p4,p5,p6,p7⟩:=(p.bw l).at k d;have x:=(h.bw l).2.2.2.1 k d;have B:=(p.bw l).2.2.2.1 k d;have hs:=hz k d;generalize ms.getD k aL=m at *;generalize M.getD k aL=A at *;obtain⟨N,ta,P,tc,tz,R,E,U,bl,Y,H,dc,dz,G,ra,O,rc,rz,ia,K,ic,ss,ea,I,ec,es⟩:=m;obtain⟨ak,a7,ap,a8,aq,S,ab,V,a9,Z,ad,a0,ae,ac,a5,am,a6,an,a3,aj,a4,ao,a1,af,a2,ag⟩:=A;obtain⟨e1,e2,e3,e4,aa,e5,e6,e7,e8,e9,e10,e11,e12,e13⟩:=hs;subst e1 e2 e3 e4 e5 e6 e7 e8 e9 e10 e11 e12 e13;have C:=zh λw h p=>aBa N ta a7 P tc a8 tz R S E U V bl a9 Y Z H dc a0 dz G ra a5 O rc a6 rz ia a3 K ic a4 ss ea a1 I ec a2 es w h p aa;have s:=zh$ xA x B;go_wp2
   go_region_held3 (λf=>qN f b (t+k*8)=some (.string N)/\qN f b (t+k*8+1)=qk ta P tc/\qN f b (t+k*8+2)=qk R E U/\qN f b (t+k*8+3)=qk Y H dc/\qN f b (t+k*8+4)=qj G/\qN f b (t+k*8+5)=qk ra O rc/\qN f b (t+k*8+6)=qk ia K ic/\qN f b (t+k*8+7)=qk ea I ec/\qN f g (y+k*8)=some (.string N)/\qN f g (y+k*8+1)=qk a7 P a8/\qN f g (y+k*8+2)=qk S E V/\qN f g (y+k*8+3)=qk Z H a0/\qN f g (y+k*8+4)=qj G/\qN f g (y+k*8+5)=qk a5 O a6/\qN f g (y+k*8+6)=qk a3 K a4/\qN f g (y+k*8+7)=qk a1 I a2) (go_keep)
    (first
      | (go_at_call 93;refine(C _ (MT.bw s.1 brf.drew)$ MT.bw s.2 brf.drew).mono ?_;rintro e F ⟨rfl,j⟩;replace j:=aW j;obtain⟨ah,ai⟩:=aQa j;have:=xD _ _ q0;have:=xD _ _ p0))
   go_wp2
   go_roundw
   .exact⟨k+1,J,by go_num,yT l j⟩
   .simp[qf,intOf];omega
  .go_wp2;go_ret;exact⟨rfl,l⟩
def wI (m:Md)(w):qC 257 #[.agg m.cells] w (qB w$ .string m.nm):=by
 unfold Md.cells
 delta qC;go_in
 go_wp2;go_ret;exact⟨rfl,bal⟩
def dM (ms:List Md)(i:Nat):List UInt8:=(ms.getD i aL).nm.data.toList
def rK (a n S ms w)(h:MS w a n S ms)(hn:n<=1048576):
 qC 256 #[qS a n S,.func (.func 257) #[] #[]] w λe w'=>e=.returned (.map$ some w.heap.size)/\w'.ownsMap prog 9 (plainElem prog 3) w.heap.size n (fd (dM ms) n)/\qY w w':=by
 have W:=kY
 delta qC;go_in
 go_wp2;go_loopw [16] (λi wr=>∃k:Nat,k<=n/\i=qI k/\wr.ownsMap prog 9 (plainElem prog 3) w.heap.size k (fd (dM ms) k)/\qY w wr) (qf n)
 .exact⟨0,xC _,rfl,World.ownsMap_made _ _ _ _,bal⟩
 .obtain⟨k,Z,rfl,p,D⟩:=hrel;by_cases y:k<n
  .have O:(k:Int)<(n:Int):=J
   obtain⟨bb,a1,rfl,q0,q1,q2,q3,q4,q5,q6,q7⟩:=(h.bw D).at k y;have C:=(h.2.2.2.1 k y).n;have A:=zh$ mB (dM ms) k;have F:dM ms k=(ms.getD k aL).nm.data.toList:=rfl;rw[F]at A;generalize ms.getD k aL=m at *;obtain⟨b,ta,tn,tc,tz,f,E,g,bl,X,dn,dc,dz,R,ra,rn,rc,rz,ia,im,ic,ss,ea,en,ec,es⟩:=m;have l:Zh (keyOf prog 9 (.string b)=some (.string b.data.toList)):=Go.WideMaps.keyOf_string_mk underlying9 C;have G:=zh λw=>wI ⟨b,ta,tn,tc,tz,f,E,g,bl,X,dn,dc,dz,R,ra,rn,rc,rz,ia,im,ic,ss,ea,en,ec,es⟩ w;have Q:qY wr (wr.alloc$ .cells (qM b ta tn tc f E g X dn dc R ra rn rc ia im ic ea en ec) 128):=bal;go_wp2_with fail
   apply(G _).mono;rintro e U ⟨rfl,K⟩;have s:=yT Q K;have x:=yT D s
   have d:U.ownsMap prog 9 (plainElem prog 3) w.heap.size k (fd (dM ms) k):=by
    obtain⟨a0,cl,q,r⟩:=p;refine⟨a0,cl,?_,r⟩
    have V:w.heap.size<wr.heap.size:=by
     rcases Nat.lt_or_ge w.heap.size wr.heap.size with N|N
     .exact N
     .rw[Array.getElem?_eq_none N]at q;cases q
    rw[s.block _ V];exact q
   cases q:has (fd (dM ms) k) (.string b.data.toList)
   .rw[q]at A
    go_wp2_with (first
     | (at_lookup;refine wpList_lookup_own_ok_int _ rfl _ _ 273 rfl 9 3 .i64 aAy underlying273 underlying3 (tP _) w.heap.size k _ rfl d _ _ rfl l.o ?_;intro c u I;clear u;rw[q])
     | (at_mapUpdate;refine wpList_mapUpdate_own _ rfl _ _ _ 273 rfl 9 3 aAy underlying273 _ w.heap.size k _ rfl d Jf _ _ _ rfl rfl l _ [] (plainElem_int underlying3$ WalkArith.wf_i64 J) ?_;intro Y t B))
    have M:=zh t;have H:=zh$ x.grown B x.size (λj P=>by cases P;exact aO);go_wp2
    go_roundw
    .exact⟨k+1,J,by go_num,by have:=M.o;rw[A.o,if_neg Jb];exact this,H.o⟩
    .simp[qf,intOf];omega
   .rw[q]at A
    go_wp2_with (first
     | (at_lookup;refine wpList_lookup_own_ok_int _ rfl _ _ 273 rfl 9 3 .i64 aAy underlying273 underlying3 (tP _) w.heap.size k _ rfl d _ _ rfl l.o ?_;intro c u I;clear u;rw[q]))
    have M:=zh d;go_wp2
    go_roundw
    .exact⟨k+1,J,by go_num,by have:=M.o;rw[A.o,if_pos trivial];exact this.mono J,x⟩
    .simp[qf,intOf];omega
  .have e:Zh (k=n):=by show k=n;omega
   go_wp2;go_ret;exact⟨rfl,by rw[e.o]at p;exact p,D⟩
