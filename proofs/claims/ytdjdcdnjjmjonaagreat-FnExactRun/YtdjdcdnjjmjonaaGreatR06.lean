import Derived.Test.YtdjdcdnjjmjonaaGreatR05
set_option linter.all false
set_option maxHeartbeats 4000000
namespace Go.Proofs.YtdjdcdnjjmjonaaGreat
open Go.RowKit
set_option maxRecDepth 100000
variable {R S:World->Prop}{arg cs:Array Value}{b c g n o o':Nat}{es:List Ex}{q:Ex}
theorem aR {w:qw}{v:Value}(h:b≠g\/o'≠o:=by omega):(w.setCell (qR g o) v).cell? (qR b o')=w.cell? (qR b o'):=
 World.cell?_setCell_other _ _ _ _ (by grind)
def nJ {w:qw}{u v:Value}(h:w.cell? (qR g o)=some u):(w.setCell (qR g o) v).cell? (qR g o)=some v:=World.cell?_setCell_same _ _ _ h
def At3 (w:qw)(g o:Nat)(x:Ex):Prop:=w.cell? (qR g o)=some (.string x.1)/\w.cell? (qR g$ o+1)=some (qI x.2.1)/\w.cell? (qR g$ o+2)=some (qI x.2.2)
def aDv (w:qw)(g o:Nat)(x:Ex):World:=((w.setCell (qR g o)$ .string x.1).setCell (qR g$ o+1)$ qI x.2.1).setCell (qR g$ o+2)$ qI x.2.2
def oY (w g o b a r)(h:b≠g\/a<o\/o+3<=a):(aDv w g o r).cell? (qR b a)=w.cell? (qR b a):=by
 unfold aDv;rw[aR,aR,aR]
def aRo {w:qw}(h:At3 w g o q)(r):At3 (aDv w g o r) g o r:=by
 obtain⟨a,b,d⟩:=h;unfold aDv;refine⟨?_,?_,?_⟩
 .rw[aR,aR];exact nJ a
 .rw[aR];exact nJ (by rw[aR];exact b)
 .exact nJ (by rw[aR,aR];exact d)
def aOi {w:qw}(h:At3 w b o' q)(r)(a:b≠g\/o'+3<=o\/o+3<=o'):At3 (aDv w g o r) b o' q:=by
 unfold At3;rw[oY _ _ _ _ _ _ J,oY _ _ _ _ _ _ J,oY _ _ _ _ _ _ J];exact h
def aOj {w:qw}{d:Array Value}{t:TypeId}(h:Blk w g d t)(o r):∃a,Blk (aDv w g o r) g a t/\a.size=d.size:=
 ⟨_,(((h.set o _).set (o+1) _).set (o+2) _),Jb⟩
def aId {B:Nat}{a w:qw}(h:Below B a w)(d:B<=g)(o r):Below B a (aDv w g o r):=
 ((h.setCell (p:=(qR g o)) d _).setCell (p:=(qR g$ o+1)) d _).setCell (p:=(qR g$ o+2)) d _
def At3.bw {w w':qw}{x:Ex}(h:At3 w g o x)(e:qY w w'):At3 w' g o x:=by
 have a:∀o v,qN w g o=some v->qN w' g o=some v:=λo v d=>(e.cell$ xD w _ d).trans d;exact⟨a _ _ h.1,a _ _ h.2.1,a _ _ h.2.2⟩
def RowX (w:qw)(g:Nat)(es:List Ex):Prop:=
 (∃cur,Blk w g cur 209/\cur.size=es.length*3)/\∀i,i<es.length->At3 w g (i*3) (es.getD i zE)
def RowX.lt {w:qw}(h:RowX w g es):g<w.heap.size:=by obtain⟨⟨b,a,_⟩,_⟩:=h;exact a.lt
def RowX.bw {w w':qw}(h:RowX w g es)(a:qY w w'):RowX w' g es:=by
 obtain⟨⟨b,hc,hs⟩,d⟩:=h;exact⟨⟨b,hc.bw a,hs⟩,λi hi=>(d i hi).bw a⟩
def RowX.frozen {w:qw}(h:RowX w g es)(i):w.frozen? (qR g i)=false:=by obtain⟨⟨b,a,_⟩,_⟩:=h;exact a.frozen i
theorem RowX.set {w:qw}(h:RowX w g es)(i)(hi:i<es.length)(r):RowX (aDv w g (i*3) r) g (es.set i r):=by
 obtain⟨⟨k,hc,hs⟩,b⟩:=h;let⟨d,f,l⟩:=aOj hc (i*3) r;refine⟨⟨d,f,by grind⟩,λj a=>?_⟩;rw[List.length_set]at a;by_cases e:i=j
 .subst e;have:(es.set i r).getD i zE=r:=by grind
  rw[this];exact aRo (b i hi) r
 .have:(es.set i r).getD j zE=es.getD j zE:=by simp[xB,e]
  rw[this];exact aOi (b j a) r J
def RowX.te {w e:qw}{d:Nat}{a:qO}(h:RowX w g es)(k:TE e a n d es):TE w (qP g) n n es:=by
 obtain⟨b,f,j,l,p⟩:=k;exact⟨b,f,j,λ_=>⟨g,0,rfl,λi hi=>by rw[Nat.zero_add];exact h.2 i J⟩,aQ⟩
def aP9:(Tryz.prog.info? 209).map (λi=>(i.zero,i.size,i.bytes))=some (some$ .agg #[.string ⟨#[]⟩,qI 0,qI 0],3,32):=Je
theorem aDz {w:qw}{base:Nat}(h:w.ownsRow base 209 3 (qS (qP g) n n) n (madeCells (Value.cells$ .agg #[.string ⟨#[]⟩,qI 0,qI 0])$ n*3).toList):RowX w g (List.replicate n zE):=by
 obtain⟨C,h|⟨t,s,b,l,B,p,u,x,y,A⟩⟩:=h
 .grind
 .simp at l;obtain⟨rfl,rfl⟩:=l
  have e:b.toList=(madeCells (Value.cells$ .agg #[.string ⟨#[]⟩,qI 0,qI 0])$ n*3).toList:=by
   grind
  have e2:b=madeCells (Value.cells$ .agg #[.string ⟨#[]⟩,qI 0,qI 0]) (n*3):=Array.toList_inj.1 e;have d:Blk w g b 209:=p;refine⟨⟨b,d,by grind⟩,λi hi=>?_⟩;simp at hi
  have a:∀j,j<3->w.cell? (qR g$ i*3+j)=#[Value.string ⟨#[]⟩,qI 0,qI 0][j]?:=by
   intro j k;rw[d.cell,e2];have f:(i*3+j)%3=j:=J
   simp[madeCells,Value.cells,show i*3+j<n*3 from J,f]
   match j,k with
   | 0,_=>rfl
   | 1,_=>rfl
   | 2,_=>rfl
  have q:(List.replicate n zE).getD i zE=zE:=by grind
  rw[q];exact⟨a 0 J,a 1 J,a 2 J⟩
def pI (es:List Ex)(k:Nat):List Ex:=(List.range es.length).map λi=>if i<k then es.getD i zE else zE
def aGx (es k):(pI es k).length=es.length:=by simp[pI]
def aMu (es):pI es 0=List.replicate es.length zE:=by
 apply List.ext_getElem
 .simp[pI]
 .intro i a d;simp[pI]
def aPp (es):pI es es.length=es:=by
 apply List.ext_getElem
 .simp[pI]
 .intro i d a;simp[pI,a]
theorem aPo (es k)(h:k<es.length):(pI es k).set k (es.getD k zE)=pI es (k+1):=by
 apply List.ext_getElem
 .simp[pI]
 .intro i a d;simp only[pI,List.getElem_set,List.getElem_map,List.getElem_range]
  grind
def aAx (x n g es w)(h:TE w x n g es)(hn:n<=1048576):
 qC 138 #[qS x n g] w λe w'=>e=.returned (qS (qP w.heap.size) n n)/\RowX w' w.heap.size es/\qY w w':=by
 let⟨Z,hi,U,V,X⟩:=info_parts aP9;have E:=h.1
 delta qC;go_in
 go_wp2_with (at_make;refine wpList_make_full _ rfl _ _ 126 rfl w.heap.size 209 Z (.agg #[.string ⟨#[]⟩,qI 0,qI 0]) 3 Tryz.underlying126 hi U V .i64 .i64 _ _ n rfl rfl rfl rfl (by rw[X];omega) Jf aQ ?_;intro P l t)
 have f:=aDz l;have d:=bH t;clear l t hi U V X;go_loopw [4] (λi wr=>∃k:Nat,k<=n/\i=qI k/\RowX wr (qs w) (pI es k)/\qY w wr) (qf n)
 .exact⟨0,xC _,rfl,by rw[aMu,E];exact f,d⟩
 .obtain⟨k,O,rfl,s,B⟩:=hrel;clear f d;by_cases A:k<n
  .have G:(k:Int)<(n:Int):=J
   obtain⟨b,off,rfl,Y⟩:=(h.bw B).at k A
   have p:∀W,qY wr W->RowX (aDv W (qs w) (k*3)$ es.getD k zE) (qs w) (pI es$ k+1):=by
    intro W H;have:=(s.bw H).set k (by rw[aGx];omega)$ es.getD k zE;rw[aPo es k J]at this;exact this
   have j:=zh p;clear p;have I:=s.2 k (by rw[aGx];omega);generalize es.getD k zE=r at *;generalize (pI es k).getD k zE=N at *;obtain⟨q,Q,S⟩:=r;obtain⟨q1,q2,q3⟩:=Y;go_wp2_with fail
   apply(aDg q Q S _).mono;rintro e K ⟨rfl,a⟩;have y:=yT B a;have D:=I.bw a;have M:∀i,K.frozen? (qh w i)=false:=(s.bw a).frozen;have u:=zh$ j _ a;have C:=zh$ aId y aQ (k*3) (q,Q,S);clear j s q1 q2 q3;obtain⟨p1,p2,p3⟩:=D;go_wp2
   go_roundw
   .exact⟨k+1,J,by go_num,u,C⟩
   .simp[qf,intOf];omega
  .have e:Zh (k=n):=by show k=n;omega
   go_wp2;go_ret;exact⟨rfl,by rw[e.o,<-E,aPp]at s;exact s,B⟩
def aAc (x E n C D es w)(h:TE w x n C es)(t:TE w E n D es):
 qC 160 #[qS x n C,qS E n D] w (qB w$ .bool true):=by
 have j:=h.2.1;unfold maxLen at j
 delta qC;go_in
 go_wp2;go_loopw [5] (λi wr=>∃k:Nat,k<=n/\i=qI k/\qY w wr) (qf n)
 .exact⟨0,xC _,rfl,brf⟩
 .obtain⟨k,y,rfl,f⟩:=hrel;by_cases d:k<n
  .have l:(k:Int)<(n:Int):=J
   obtain⟨b,off,rfl,H,O,P⟩:=(h.bw f).at k d;obtain⟨p,B,rfl,G,M,N⟩:=(t.bw f).at k d;generalize es.getD k zE=r at *;obtain⟨q,s,A⟩:=r;go_wp2
   go_region_held3 (λg=>qN g b (off+k*3)=some (.string q)/\qN g b (off+k*3+1)=qj s/\qN g b (off+k*3+2)=qj A /\
    qN g p (B+k*3)=some (.string q)/\qN g p (B+k*3+1)=qj s/\qN g p (B+k*3+2)=qj A) (go_keep)
    (first
      | (go_at_call 240;refine(aBy q s A _).mono ?_;rintro e u ⟨rfl,a⟩;replace a:=aU a;obtain⟨I,K⟩:=aQ5 a;have:=xD _ _ H;have:=xD _ _ G))
   go_wp2
   go_roundw
   .exact⟨k+1,J,by go_num,yT f a⟩
   .simp[qf,intOf];omega
  .go_wp2;go_ret;exact⟨rfl,f⟩
theorem cI (c w r i v)(h:r<=c:=by omega):Turn (λj=>j<=c) w (w.setCell (qR r i) v):=⟨rfl,rfl,rfl,by rw[aL];exact aQ,λj a b=>heap_setCell_other _ _ _ _ λe=>b (by grind)⟩
def Stab (c:Nat)(R:World->Prop):Prop:=∀W W',Turn (λj=>j<=c) W W'->R W->R W'
def wA {a:qi}(h:c<g):Stab c (λW=>RowI W g a):=λW d t r=>aC t r (by show ¬g<=c;omega)
def wB {a:qi}(h:c<g):Stab c (λW=>Row8 W g a):=λW d t r=>aC t r (by show ¬g<=c;omega)
def aN5 {a:List ByteArray}(h:c<g):Stab c (λW=>RowT W g a):=λW d t r=>aC t r (by show ¬g<=c;omega)
theorem aUw {d:List Bk}(h:c<g):Stab c (λW=>∃a,a.length=n/\RowB W g n a d):=λW e t r=>by
 obtain⟨a,j,⟨f,k,l⟩,b,p⟩:=r;exact⟨a,j,⟨f,aC t k (by grind),l⟩,λi hi=>⟨aC t (b i hi).1 (by grind),(b i hi).2⟩,p⟩
theorem aN4 (h:c<g):Stab c (λW=>RowX W g es):=λW d t r=>by
 obtain⟨⟨f,b,j⟩,k⟩:=r;have e:d.heap[g]?=W.heap[g]?:=t.block g b.lt (by grind);have a:∀o,qN d g o=qN W g o:=λo=>World.cell?_of_block (w:=W) e;refine⟨⟨f,aC t b (by grind),j⟩,λi hi=>?_⟩;let⟨l,p,q⟩:=k i hi;exact⟨(a _).trans l,(a _).trans p,(a _).trans q⟩
def Stab.and (h:Stab c R)(k:Stab c S):Stab c (λW=>R W/\S W):=λW a t r=>⟨h W a t r.1,k W a t r.2⟩
structure TM (w W:qw)(arg cs:Array Value)(R:World->Prop):Prop where
 kb:Blk W w.heap.size arg 103
 kr:Blk W (w.heap.size+1) #[.string ⟨#[]⟩,qS none 0 0,qS none 0 0,qS none 0 0,qI 0,qS none 0 0,qS none 0 0,qS none 0 0] 128
 ko:Blk W (w.heap.size+1+1) cs 128
 hB:qY w W
 rows:R W
 st:Stab (w.heap.size+1+1) R
def TM.bw {w W d:qw}(h:TM w W arg cs R)(a:qY W d):TM w d arg cs R:=
 ⟨h.kb.bw a,h.kr.bw a,h.ko.bw a,yT h.hB a,h.st _ _ (aG a) h.rows,h.st⟩
def TM.set {w W:qw}(h:TM w W arg cs R)(i v):TM w (W.setCell (qR (w.heap.size+1+1) i) v) arg (cs.setIfInBounds i v) R:=
 ⟨h.kb.other _ _ Jd,h.kr.other _ _ Jd,h.ko.set i v,h.hB.setCell Jd _,h.st _ _ (cI _ _ _ _ _ aQ) h.rows,h.st⟩
def TM.add {w W:qw}(h:TM w W arg cs R)(r:S W)(s:Stab (w.heap.size+1+1) S):TM w W arg cs (λW=>R W/\S W):=
 ⟨h.kb,h.kr,h.ko,h.hB,⟨h.rows,r⟩,h.st.and s⟩
def aDb (f:Nat->Nat)(n i)(hi:i<n):f i<=upS f n:=by
 have:=gM f (i+1) n J;have:upS f (i+1)=upS f i+f i:=rfl;omega
def ToM (w:qw)(nm:ByteArray)(ta:qO)(tn tc:Nat)(tz:qi)(ba:qO)(bn bc:Nat)(bl:List Bk)(da:qO)(dn dc:Nat)(dz:qi)(bss:Int)(ra:qO)(rn rc:Nat)(rz:qi)(ia:qO)(im ic:Nat)(ss:List ByteArray)(ea:qO)(en ec:Nat)(es:List Ex)(e:Ending)(w':qw):Prop:=
 ∃g1 g2 g3 g5 g6 g7,e=.returned (.agg$ qM nm (qP g1) tn tn (qP g2) bn bn (qP g3) dn dn bss (qP g5) rn rn (qP g6) im im (qP g7) en en) /\
  w.heap.size<=g1/\g1<g2/\g2<g3/\g3<g5/\g5<g6/\g6<g7/\RowI w' g1 tz/\(∃gs,gs.length=bn/\RowB w' g2 bn gs bl)/\Row8 w' g3 dz/\RowI w' g5 rz/\RowT w' g6 ss/\RowX w' g7 es/\qY w w'
def aDe (nm ta tn tc tz ba g bc bl da q dc dz a0 ra rn rc rz ia im ic ss ea b ec es w)(h:MT w nm ta tn tc tz ba g bc bl da q dc dz a0 ra rn rc rz ia im ic ss ea b ec es)(hs:dF nm tn g bl q rn im ss b es<=1048576):
 qC 77 #[.agg$ qM nm ta tn tc ba g bc da q dc a0 ra rn rc ia im ic ea b ec] w (ToM w nm ta tn tc tz ba g bc bl da q dc dz a0 ra rn rc rz ia im ic ss ea b ec es):=by
 have O:=zh (show ∀i,i<g->(bl.getD i zB).2.1<=1048576 from λi hi=>by
  have:=aDb (λj=>(bl.getD j zB).2.1) g i hi;unfold dF at hs
  omega)
 obtain⟨l1,l2,l3,l4,l5,l6⟩:tn<=1048576/\g<=1048576/\q<=1048576/\rn<=1048576/\im<=1048576/\b<=1048576:=by unfold dF at hs;omega
 have K:=h;clear h hs
 have M0:TM w (((w.alloc$ .cells (qM nm ta tn tc ba g bc da q dc a0 ra rn rc ia im ic ea b ec) 103).alloc$ .cells #[.string ⟨#[]⟩,qS none 0 0,qS none 0 0,qS none 0 0,qI 0,qS none 0 0,qS none 0 0,qS none 0 0] 128).alloc$ .cells (qM nm none 0 0 none 0 0 none 0 0 0 none 0 0 none 0 0 none 0 0) 128) (qM nm ta tn tc ba g bc da q dc a0 ra rn rc ia im ic ea b ec) (qM nm none 0 0 none 0 0 none 0 0 0 none 0 0 none 0 0 none 0 0) (λ_=>True):=
  ⟨(
   (Blk.new w _ _).alloc _).alloc _,by have:=(Blk.new (w.alloc$ .cells (qM nm ta tn tc ba g bc da q dc a0 ra rn rc ia im ic ea b ec) 103) #[.string ⟨#[]⟩,qS none 0 0,qS none 0 0,qS none 0 0,qI 0,qS none 0 0,qS none 0 0,qS none 0 0] 128).alloc$ .cells (qM nm none 0 0 none 0 0 none 0 0 0 none 0 0 none 0 0 none 0 0) 128;simpa using this,by have:=Blk.new ((w.alloc$ .cells (qM nm ta tn tc ba g bc da q dc a0 ra rn rc ia im ic ea b ec) 103).alloc$ .cells #[.string ⟨#[]⟩,qS none 0 0,qS none 0 0,qS none 0 0,qI 0,qS none 0 0,qS none 0 0,qS none 0 0] 128) (qM nm none 0 0 none 0 0 none 0 0 0 none 0 0 none 0 0 none 0 0) 128;simpa using this,
   (bal.alloc Jb _).alloc Jc _,trivial,λ_ _ _ _=>trivial⟩
 delta qC;go_in
 go_wp2_with fail
 have l:=M0.hB;apply(lF ta tn tc tz _ (K.t.bw l) J).mono;rintro e D ⟨rfl,a,d⟩;have u:=(M0.bw d).add (S:=λW=>RowI W _ tz) a$ wA (by have:=M0.ko.lt;simp at this⊢<;>omega);have Z:=d.size;have y1:w.heap.size+1+1+1<D.heap.size:=by first|(have:=a.lt;simpa using this)|(obtain⟨H,_,⟨a1,hk,_⟩,_⟩:=a;have:=hk.lt;simpa using this)
 simp only[xF,aL]at u Z;clear d a l M0;have G:=u.kb.eight;have B:=u.ko.eight;have f:=u.ko.frozen;have k:=u.ko.lt;go_wp2_with fail
 clear G B f k;replace u:=u.set 1$ qS (qP$ w.heap.size+1+1+1) tn tn;simp only[yA,yB,yC]at u;have l:=u.hB;apply(aFt ba g bc bl _ (K.b.bw l) J O).mono;rintro e E ⟨rfl,a,d⟩;have x:=(u.bw d).add (S:=λW=>∃H,H.length=g/\RowB W _ g H bl) a (aUw (by have:=u.ko.lt;simp only[aL]at this⊢;omega));have z2:=d.size;have y2:D.heap.size<E.heap.size:=by first|(have:=a.lt;simpa using this)|(obtain⟨H,_,⟨a1,hk,_⟩,_⟩:=a;have:=hk.lt;simpa using this)
 simp only[xF,aL]at x z2;clear d a l u;have G:=x.kb.eight;have B:=x.ko.eight;have f:=x.ko.frozen;have k:=x.ko.lt;go_wp2_with fail
 clear G B f k;replace x:=x.set 2$ qS (qp D) g g;simp only[yA,yB,yC]at x;have l:=x.hB;apply(jI da q dc dz _$ K.d.bw l).mono;rintro e C ⟨rfl,a,d⟩;have s:=(x.bw d).add (S:=λW=>Row8 W _ dz) a (wB (by have:=x.ko.lt;simp only[aL]at this⊢;omega));have z3:=d.size;have y3:E.heap.size<C.heap.size:=by first|(have:=a.lt;simpa using this)|(obtain⟨H,_,⟨a1,hk,_⟩,_⟩:=a;have:=hk.lt;simpa using this)
 simp only[xF,aL]at s z3;clear d a l x;have G:=s.kb.eight;have B:=s.ko.eight;have f:=s.ko.frozen;have k:=s.ko.lt;go_wp2_with fail
 clear G B f k;replace s:=s.set 3$ qS (qp E) q q;replace s:=s.set 4$ qI a0;simp only[yA,yB,yC]at s;have l:=s.hB;apply(lF ra rn rc rz _ (K.r.bw l) J).mono;rintro e w4 ⟨rfl,a,d⟩;have y:=(s.bw d).add (S:=λW=>RowI W _ rz) a (wA (by have:=s.ko.lt;simp only[aL]at this⊢;omega));have z4:=d.size;have y4:C.heap.size<w4.heap.size:=by first|(have:=a.lt;simpa using this)|(obtain⟨H,_,⟨a1,hk,_⟩,_⟩:=a;have:=hk.lt;simpa using this)
 simp only[xF,aL]at y z4;clear d a l s;have G:=y.kb.eight;have B:=y.ko.eight;have f:=y.ko.frozen;have k:=y.ko.lt;go_wp2_with fail
 clear G B f k;replace y:=y.set 5$ qS (qp C) rn rn;simp only[yA,yB,yC]at y;have l:=y.hB;apply(aAu ia im ic ss _ (K.i.bw l) J).mono;rintro e t ⟨rfl,a,d⟩;have A:=(y.bw d).add (S:=λW=>RowT W _ ss) a (aN5 (by have:=y.ko.lt;simp only[aL]at this⊢;omega));have z5:=d.size;have y5:w4.heap.size<t.heap.size:=by first|(have:=a.lt;simpa using this)|(obtain⟨H,_,⟨a1,hk,_⟩,_⟩:=a;have:=hk.lt;simpa using this)
 simp only[xF,aL]at A z5;clear d a l y;have G:=A.kb.eight;have B:=A.ko.eight;have f:=A.ko.frozen;have k:=A.ko.lt;go_wp2_with fail
 clear G B f k;replace A:=A.set 6$ qS (qp w4) im im;simp only[yA,yB,yC]at A;have l:=A.hB;apply(aAx ea b ec es _ (K.e.bw l) J).mono;rintro e M ⟨rfl,a,d⟩;have M6:=(A.bw d).add (S:=λW=>RowX W _ es) a (aN4 (by have:=A.ko.lt;simp only[aL]at this⊢;omega));have z6:=d.size;have y6:t.heap.size<M.heap.size:=by first|(have:=a.lt;simpa using this)|(obtain⟨H,_,⟨a1,hk,_⟩,_⟩:=a;have:=hk.lt;simpa using this)
 simp only[xF,aL]at M6 z6;clear d a l A;have I:=M6.set 7$ qS (qp t) b b;simp only[yA,yB,yC]at I;obtain⟨WF,a2⟩:∃X,X=(((((((((M.setCell ⟨w.heap.size+1+1,7,none⟩$ qS (qp t) b b).setCell ⟨w.heap.size+1,0,none⟩$ .string nm).setCell ⟨w.heap.size+1,1,none⟩$ qS (some ⟨w.heap.size+1+1+1,0,none⟩) tn tn).setCell ⟨w.heap.size+1,2,none⟩$ qS (qp D) g g).setCell ⟨w.heap.size+1,3,none⟩$ qS (qp E) q q).setCell ⟨w.heap.size+1,4,none⟩$ qI a0).setCell ⟨w.heap.size+1,5,none⟩$ qS (qp C) rn rn).setCell ⟨w.heap.size+1,6,none⟩$ qS (qp w4) im im).setCell ⟨w.heap.size+1,7,none⟩$ qS (qp t) b b):=⟨_,rfl⟩
 have kF:Blk WF (w.heap.size+1) (qM nm (qP$ w.heap.size+1+1+1) tn tn (qp D) g g (qp E) q q a0 (qp C) rn rn (qp w4) im im (qp t) b b) 128:=by
  have:=((((((((I.kr.set 0$ .string nm).set 1$ qS (qP$ w.heap.size+1+1+1) tn tn).set 2$ qS (qp D) g g).set 3$ qS (qp E) q q).set 4$ qI a0).set 5$ qS (qp C) rn rn).set 6$ qS (qp w4) im im).set 7$ qS (qp t) b b);simp only[yA,yB,yC]at this;rw[a2];exact this
 have U:Turn (λj=>j<=w.heap.size+1+1) (M.setCell (qR (w.heap.size+1+1) 7)$ qS (qp t) b b) WF:=by
  rw[a2];exact((((((((Turn.refl (λj=>j<=w.heap.size+1+1)$ M.setCell (qR (w.heap.size+1+1) 7)$ qS (qp t) b b).trans$ cI _ _ (w.heap.size+1) 0$ .string nm).trans$ cI _ _ (w.heap.size+1) 1$ qS (qP$ w.heap.size+1+1+1) tn tn).trans$ cI _ _ (w.heap.size+1) 2$ qS (qp D) g g).trans$ cI _ _ (w.heap.size+1) 3$ qS (qp E) q q).trans$ cI _ _ (w.heap.size+1) 4$ qI a0).trans$ cI _ _ (w.heap.size+1) 5$ qS (qp C) rn rn).trans$ cI _ _ (w.heap.size+1) 6$ qS (qp w4) im im).trans (cI _ _ (w.heap.size+1) 7$ qS (qp t) b b)
 have V:=I.st _ _ U I.rows
 have Q:qY w WF:=by
  rw[a2];exact((((((((I.hB.setCell (p:=(qr w 0)) Jd$ .string nm).setCell (p:=(qr w 1)) Jd$ qS (qP$ w.heap.size+1+1+1) tn tn).setCell (p:=(qr w 2)) Jd$ qS (qp D) g g).setCell (p:=(qr w 3)) Jd$ qS (qp E) q q).setCell (p:=(qr w 4)) Jd$ qI a0).setCell (p:=(qr w 5)) Jd$ qS (qp C) rn rn).setCell (p:=(qr w 6)) Jd$ qS (qp w4) im im).setCell (p:=(qr w 7)) Jd$ qS (qp t) b b)
 have Y:=zh a2;have N:=zh$ xA V Q;clear a2 U V Q I;have B:=M6.ko.eight;have f:=M6.ko.frozen;have p0:=M6.kr.eight;have P:=M6.kr.frozen;let⟨s0,s1,s2,s3,s4,s5,s6,s7⟩:=kF.eight;have k:=M6.ko.lt;go_wp2_with fail
 rw[<-Y.o];clear B f p0 P;refine bodyPost_ret (v:=.agg$ qM nm (qP$ w.heap.size+1+1+1) tn tn (qp D) g g (qp E) q q a0 (qp C) rn rn (qp w4) im im (qp t) b b) (by simp[results,Tryz.results77,go_sem,s0,s1,s2,s3,s4,s5,s6,s7]) rfl ?_;obtain⟨⟨⟨⟨⟨⟨⟨_,r1⟩,r2⟩,r3⟩,r5⟩,r6⟩,r7⟩,l⟩:=N;exact⟨w.heap.size+1+1+1,D.heap.size,E.heap.size,C.heap.size,w4.heap.size,t.heap.size,rfl,J,J,J,J,J,J,r1,r2,r3,r5,r6,r7,l⟩
end Go.Proofs.YtdjdcdnjjmjonaaGreat
namespace Go.Proofs.YtdjdcdnjjmjonaaGreat
open Go.RowKit Go.Maps
open Go.Proofs.Tryz
set_option maxRecDepth 100000
variable {a ba da ea ia ra ta:qO}{bc bn cap dc dn ec en ic im n rc rn tc tn:Nat}{bl:List Bk}{bss:Int}{es:List Ex}{nm:ByteArray}{ss:List ByteArray}
def aBj:Keyed prog 9:=string_keyed underlying9
def tX (w):(zeroValue 3).run prog w=.ok (qI 0) w:=Je
def zX (s b i w):
 qC 293 #[.agg #[.string s,qI b,qI i]] w (qB w$ .string s):=by
 delta qC;go_in
 go_wp2;go_ret;exact⟨rfl,bal⟩
def kJ (x w):(Instr.makeMap 273$ some$ qI x).run prog w=.ok (.map$ some w.heap.size) (w.alloc$ .map #[] 0):=by
 simp[Instr.makeMap,asInt,asIntOf,run_underlying underlying273,Result.andThen]
def gX (es:List Ex)(i:Nat):List UInt8:=(es.getD i zE).1.data.toList
def rW (b n q es w)(h:ES w b n q es)(hn:n<=1048576):
 qC 292 #[qS b n q,.func (.func 293) #[] #[]] w λe w'=>e=.returned (.map$ some w.heap.size)/\w'.ownsMap prog 9 (plainElem prog 3) w.heap.size n (fd (gX es) n)/\qY w w':=by
 have U:=kJ
 delta qC;go_in
 go_wp2;go_loopw [16] (λi wr=>∃k:Nat,k<=n/\i=qI k/\wr.ownsMap prog 9 (plainElem prog 3) w.heap.size k (fd (gX es) k)/\qY w wr) (qf n)
 .exact⟨0,xC _,rfl,World.ownsMap_made _ _ _ _,bal⟩
 .obtain⟨k,Y,rfl,f,M⟩:=hrel;by_cases D:k<n
  .have P:(k:Int)<(n:Int):=J
   obtain⟨bb,off,rfl⟩:=h.addr J;let⟨y1,y2,y3⟩:=(h.bw M).at k D;have K:=h.size k;have y:=zh$ lY (gX es) k;have H:gX es k=(es.getD k zE).1.data.toList:=rfl;rw[H]at y;generalize es.getD k zE=E at *;obtain⟨a,g,S⟩:=E;dsimp only at y1 y2 y3 K y;have B:keyOf prog 9 (.string a)=some (.string a.data.toList):=Go.WideMaps.keyOf_string_mk underlying9 Jf;have l:=zh B;have X:qY wr (wr.alloc$ .cells #[.string a,qI g,qI S] 209):=bal;go_wp2_with fail
   apply(zX a g S _).mono;rintro e V ⟨rfl,G⟩;have p:=yT X G;have u:=yT M p
   have d:V.ownsMap prog 9 (plainElem prog 3) w.heap.size k (fd (gX es) k):=by
    obtain⟨a0,cl,s,r⟩:=f;refine⟨a0,cl,?_,r⟩
    have Q:w.heap.size<wr.heap.size:=by
     rcases Nat.lt_or_ge w.heap.size wr.heap.size with C|C
     .exact C
     .rw[Array.getElem?_eq_none C]at s;cases s
    rw[p.block _ Q];exact s
   cases s:has (fd (gX es) k) (.string a.data.toList)
   .rw[s]at y
    go_wp2_with (first
     | (at_lookup;refine wpList_lookup_own_ok_int _ rfl _ _ 273 rfl 9 3 .i64 aBj underlying273 underlying3 (tX _) w.heap.size k _ rfl d _ _ rfl l.o ?_;intro c x I;clear x;rw[s])
     | (at_mapUpdate;refine wpList_mapUpdate_own _ rfl _ _ _ 273 rfl 9 3 aBj underlying273 _ w.heap.size k _ rfl d Jf _ _ _ rfl rfl l _ [] (plainElem_int underlying3$ WalkArith.wf_i64 J) ?_;intro Z t A))
    have N:=zh t;have O:=zh$ u.grown A u.size (λj W=>by cases W;exact aQ);go_wp2
    go_roundw
    .exact⟨k+1,J,by go_num,by have:=N.o;rw[y.o,if_neg Jb];exact this,O.o⟩
    .simp[qf,intOf];omega
   .rw[s]at y
    go_wp2_with (first
     | (at_lookup;refine wpList_lookup_own_ok_int _ rfl _ _ 273 rfl 9 3 .i64 aBj underlying273 underlying3 (tX _) w.heap.size k _ rfl d _ _ rfl l.o ?_;intro c x I;clear x;rw[s]))
    have N:=zh d;go_wp2
    go_roundw
    .exact⟨k+1,J,by go_num,by have:=N.o;rw[y.o,if_pos trivial];exact this.mono J,u⟩
    .simp[qf,intOf];omega
  .have e:Zh (k=n):=by show k=n;omega
   go_wp2;go_ret;exact⟨rfl,by rw[e.o]at f;exact f,M⟩
def aQt (es n):(List.range n).all (exn es)=decide (size (fd (gX es) n)=n):=by
 rw[aE4];congr 1;funext i;unfold exn gX;congr 1;funext j;rw[ByteArray.toList_eq,ByteArray.toList_eq]
theorem aQs (tn b a n es)(h:∀j,j<n->ex1 tn b a (es.getD j zE)=true):(List.range n).all (λi=>ex1 tn b a (es.getD i zE)&&exn es i)=decide (size (fd (gX es) n)=n):=by
 rw[<-aQt,xJ,List.all_eq_true,List.all_eq_true]
 grind
def aBu (nm ta tn tc ba a bc b v3 v5 v6 a0 ea n ec es w)(Q:tn<=maxLen)(hb:BKS w ba a bc b)(h:ES w ea n ec es):
 qC 289 #[.agg #[.string nm,qS ta tn tc,qS ba a bc,v3,qI a0,v5,v6,qS ea n ec]] w (qB w$ .bool$ exo tn a b n es):=by
 obtain⟨W,hW,a1,kb⟩:=nwb w #[.string nm,qS ta tn tc,qS ba a bc,v3,qI a0,v5,v6,qS ea n ec] 128;obtain⟨q0,q1,q2,q3,q4,q5,q6,q7⟩:=kb.eight;obtain⟨r,hr⟩:=aO$ exo tn a b n es;rw[<-hr];unfold exo at hr;have a2:=h.2.1;unfold maxLen at a2;have HW:=zh hW;clear hW;by_cases c1:16<n
 .have y:=zh (show r=false by rw[hr,xS J];rfl);clear hr;have Z:(16:Int)<(n:Int):=J
  go_enter func289,ntmps289
  go_wp2_with (rw[<-HW.o])
  go_ret;exact⟨aA y.o.symm,a1⟩
 .have Z:¬(16:Int)<(n:Int):=J
  have y:=zh (show r=(List.range n).all (λi=>ex1 tn a b (es.getD i zE)&&exn es i)by rw[hr,xR J];rfl);clear hr;go_enter func289,ntmps289
  go_wp2_with (rw[<-HW.o])
  clear q0 q1 q2 q3 q4 q5 q6 q7;go_loopw [14] (λi wr=>∃k:Nat,k<=n/\i=qI k/\Hid (∀j,j<k->ex1 tn a b (es.getD j zE)=true)/\qY w wr/\Blk wr w.heap.size #[.string nm,qS ta tn tc,qS ba a bc,v3,qI a0,v5,v6,qS ea n ec] 128) (qf n)
  .exact⟨0,xC _,rfl,zh λj U=>J,a1,kb⟩
  .obtain⟨k,hk,rfl,HJ,f,G⟩:=hrel;clear kb a1;obtain⟨q0,q1,q2,q3,q4,q5,q6,q7⟩:=G.eight;by_cases A:k<n
   .have a4:(k:Int)<(n:Int):=J
    obtain⟨bb,off,rfl⟩:=h.addr J;obtain⟨y1,y2,y3⟩:=(h.bw f).at k A;have M:=zh$ lL (λi=>ex1 tn a b (es.getD i zE)&&exn es i) n k A
    have HG:=zh (show ex1 tn a b (es.getD k zE)=true->∀j,j<k+1->ex1 tn a b (es.getD j zE)=true from λh j U=>by
     by_cases e:j=k
     .subst e;exact h
     .exact HJ.out j J)
    have u:=zh λw=>lV (es.getD k zE).1 w$ h.size k;generalize es.getD k zE=E at *;obtain⟨q,eb,g⟩:=E;dsimp only at y1 y2 y3 u;have a5:=G.lt;have d:=hb.bw$ f.alloc f.size$ .cells #[.string q,qI eb,qI g] 209;have HP:=zh λw h=>mT nm ta tn tc ba a bc b v3 v5 v6 (qS (some$ qR bb off) n ec) a0 eb w Q h;have kE:=Blk.new wr #[.string q,qI eb,qI g] 209;have Y:qY wr (wr.alloc$ .cells #[.string q,qI eb,qI g] 209):=bal;go_wp2_with fail
    apply(HP.o _ d).mono;rintro e w1 ⟨pa,pn,px,ok,rfl,C,H,O,p⟩;have P:=kE.bw p;have a3:=(G.bw Y).bw p;have l:=(f.trans$ Y.mono f.size).trans$ p.mono (by have:=f.size;simp;omega);clear kE G Y p d HP q0 q1 q2 q3 q4 q5 q6 q7 y1 y2 y3 f;unfold maxLen at O;have I:=zh$ xA C H;clear C H;obtain⟨z1,z2,z3,z4⟩:=P.three;have s:Zh (ex1 tn a b (q,eb,g)=(nmo q&&decide (0<=g/\g<pcn tn a b eb))):=rfl;have K:=zh λw=>cM g ((pn:Int)-1) w;cases hn:nmo q
    .rw[hn]at u;go_wp2_with (go_at_call 285;refine(u.o _).mono ?_;rintro e D ⟨rfl,rfl⟩)
     go_ret;exact⟨aA (by rw[y.o];exact(M.o (by rw[s.o,hn];rfl)).symm),l⟩
    .rw[hn]at u;cases ok
     .have X:¬0<=pcn tn a b eb:=by have:=I.o.1;simpa using this.symm
      go_wp2_with (go_at_call 285;refine(u.o _).mono ?_;rintro e D ⟨rfl,rfl⟩)
      go_ret;exact⟨aA (by rw[y.o];exact(M.o (by rw[s.o,xS J];simp)).symm),l⟩
     .have X:(pn:Int)=pcn tn a b eb:=I.o.2 rfl;have B:=zh X;clear X;by_cases d1:0<=g/\g<=(pn:Int)-1
      .have x:=zh (show ex1 tn a b (q,eb,g)=true by rw[s.o,hn,<-B.o,xR J];rfl);rw[xR d1]at K;go_wp2_with (first|(go_at_call 285;refine(u.o _).mono ?_;rintro e D ⟨rfl,rfl⟩)|(go_at_call 141;refine(K.o _).mono ?_;rintro e D ⟨rfl,rfl⟩))
       go_roundw
       .exact⟨k+1,J,by go_num,zh$ HG.o x.o,l,a3⟩
       .simp[qf,intOf];omega
      .rw[xS d1]at K;have x:=zh (show ex1 tn a b (q,eb,g)=false by rw[s.o,hn,<-B.o,xS J];rfl);go_wp2_with (first|(go_at_call 285;refine(u.o _).mono ?_;rintro e D ⟨rfl,rfl⟩)|(go_at_call 141;refine(K.o _).mono ?_;rintro e D ⟨rfl,rfl⟩))
       go_ret;exact⟨aA (by rw[y.o];exact(M.o (by rw[x.o];rfl)).symm),l⟩
   .have e:k=n:=J
    subst e;have HE:=zh$ aQs tn a b k es λj U=>HJ.out j U;have h':=h.bw f;have HF:=zh λw h=>rW ea k ec es w h J;obtain⟨S,hS⟩:=aO$ size$ fd (gX es) k;have HS:=zh hS;clear hS;go_wp2_with fail
    go_region_with (first
     | (go_at_call 292;refine(HF.o _ (by exact h')).mono ?_;rintro e w1 ⟨rfl,t,d⟩;have hl:∀V,(Builtin.len_ #[273] V #[.map$ some wr.heap.size]).run prog w1=.ok (qI (S:Int)) w1:=(by intro V;rw[HS.o];exact t.len underlying273 V);replace d:=aU d;obtain⟨q0,q1,q2,q3,q4,q5,q6,q7⟩:=(G.bw d).eight;clear t))
    all_goals
     have N:=zh$ f.trans$ d.mono f.size;go_wp2;go_ret;exact⟨aA (by rw[y.o,HE.o,<-HS.o];first|rfl|(rw[xJ];simp;omega)),N.o⟩
def aBp (q ta tn tc tz ba g bc bl da b dc dz a ra rn rc rz ia im ic ss ea S ec es w)
 (h:MD w q ta tn tc tz ba g bc bl da b dc dz a ra rn rc rz ia im ic ss ea S ec es):
 qC 255 #[.agg$ qM q ta tn tc ba g bc da b dc a ra rn rc ia im ic ea S ec] w (qB w$ qI$ mdo q tn tz g bl b a rn rz im ss S es):=by
 let⟨W,hW,a0,kb⟩:=nwb w (qM q ta tn tc ba g bc da b dc a ra rn rc ia im ic ea S ec) 128;let⟨r,hr⟩:=aO$ mdo q tn tz g bl b a rn rz im ss S es;rw[<-hr];unfold mdo at hr;have d:=zh hr;clear hr;have C:=h.bw a0;have I:=h.d.2.1;have N:=h.t.2.1;have HN:=zh λw=>lV q w h.n;have U:=zh λw ht G=>aJ3 q ta tn tc tz ba g bc bl (qS da b dc) (qS ra rn rc) (qS ia im ic) (qS ea S ec) a w ht G;have M:=zh λw h=>aD3 q (qS ta tn tc) (qS ba g bc) da b dc a ra rn rc rz (qS ia im ic) (qS ea S ec) w I h;have K:=zh λw h=>aBo q (qS ta tn tc) (qS ba g bc) (qS da b dc) (qS ra rn rc) (qS ea S ec) a ia im ic ss w h;have E:=zh λw G h=>aBu q ta tn tc ba g bc bl (qS da b dc) (qS ra rn rc) (qS ia im ic) a ea S ec es w N G h;have D:=zh λw=>cM a 512 w;have HW:=zh hW;clear hW;generalize nmo q=a1 at *;generalize cdo tn tz g bl=a2 at *;generalize rlo rn rz b=X at *;generalize imo im ss=Y at *;generalize exo tn g bl S es=Z at *;have x:=kb.eight
 delta qC;go_in
 go_wp2_with (first|(rw[<-HW.o])|(go_at_call 285;refine(HN.o _).mono ?_;rintro e V ⟨rfl,rfl⟩;cases a1))
 .have e:=zh (show r=1 by rw[d.o];simp);go_ret;exact⟨aJ e.symm,a0⟩
 .apply(U _ C.t C.b).mono;rintro e w2 ⟨rfl,j⟩;have t:=kb.bw j;have O:=C.bw j;have f:=yT a0 j;clear j kb C a0 x;have x:=t.eight;cases a2
  .have e:=zh (show r=2 by rw[d.o];simp);go_wp2;go_ret;exact⟨aJ e.symm,f⟩
  .by_cases c1:512<b
   .have e:=zh (show r=3 by rw[d.o];simp[c1]);have P:(512:Int)<(b:Int):=J
    go_wp2;go_ret;exact⟨aJ e.symm,f⟩
   .have P:¬(512:Int)<(b:Int):=J
    by_cases c2:0<=a/\a<=512
    .have i:=zh (show r=if X=false then 4 else if Y=false then 5 else if Z=false then 6 else 0 by
      rw[d.o]
      simp only[Bool.true_eq_false,if_false,show ¬(512<b\/a<0\/512<a)from J])
     clear d;rw[xR c2]at D;go_wp2_with (go_at_call 141;refine(D.o _).mono ?_;rintro e V ⟨rfl,rfl⟩)
     apply(M _ O.r).mono;rintro e w3 ⟨rfl,l⟩;have s:=t.bw l;have Q:=O.bw l;have p:=yT f l;clear l t O f x;have x:=s.eight;cases X
     .have e:=zh (show r=4 by rw[i.o];simp);go_wp2;go_ret;exact⟨aJ e.symm,p⟩
     .go_wp2_with fail
      apply(K _ Q.i).mono;rintro e w4 ⟨rfl,k⟩;have A:=s.bw k;have H:=Q.bw k;have u:=yT p k;clear k s Q p x;have x:=A.eight;cases Y
      .have e:=zh (show r=5 by rw[i.o];simp);go_wp2;go_ret;exact⟨aJ e.symm,u⟩
      .go_wp2_with fail
       apply(E _ H.b H.e).mono;rintro e w5 ⟨rfl,y⟩;have B:=yT u y;clear y H u A;cases Z
       .have e:=zh (show r=6 by rw[i.o];simp);go_wp2;go_ret;exact⟨aJ e.symm,B⟩
       .have e:=zh (show r=0 by rw[i.o];simp);go_wp2;go_ret;exact⟨aJ e.symm,B⟩
    .rw[xS c2]at D;have e:=zh (show r=3 by rw[d.o];simp only[Bool.true_eq_false,if_false,show(512<b\/a<0\/512<a)from J,if_true]);go_wp2_with (go_at_call 141;refine(D.o _).mono ?_;rintro e V ⟨rfl,rfl⟩)
     go_ret;exact⟨aJ e.symm,f⟩
def aBw (U ta a8 tn tc a9 tz V W a X Y bl aa Z a0 b dc a1 dz S ra a6 rn rc a7 rz ia a4 q ic a5 ss ea a2 g ec a3 es w)(h:MT w U ta tn tc tz V a X bl Z b dc dz S ra rn rc rz ia q ic ss ea g ec es)(t:MT w U a8 tn a9 tz W a Y aa a0 b a1 dz S a6 rn a7 rz a4 q a5 ss a2 g a3 es)(hz:∀i,i<a->(aa.getD i zB).2.1=(bl.getD i zB).2.1/\(aa.getD i zB).2.2.2=(bl.getD i zB).2.2.2):
 qC 93 #[.agg$ qM U ta tn tc V a X Z b dc S ra rn rc ia q ic ea g ec,.agg$ qM U a8 tn a9 W a Y a0 b a1 S a6 rn a7 a4 q a5 a2 g a3] w (qB w$ .bool true):=by
 have f:qY w ((w.alloc$ .cells (qM U ta tn tc V a X Z b dc S ra rn rc ia q ic ea g ec) 128).alloc$ .cells (qM U a8 tn a9 W a Y a0 b a1 S a6 rn a7 a4 q a5 a2 g a3) 128):=bal.alloc Jb _;have I:=(Blk.new w (qM U ta tn tc V a X Z b dc S ra rn rc ia q ic ea g ec) 128).alloc$ .cells (qM U a8 tn a9 W a Y a0 b a1 S a6 rn a7 a4 q a5 a2 g a3) 128;have v0:=Blk.new (w.alloc$ .cells (qM U ta tn tc V a X Z b dc S ra rn rc ia q ic ea g ec) 128) (qM U a8 tn a9 W a Y a0 b a1 S a6 rn a7 a4 q a5 a2 g a3) 128;simp only[xF]at v0
 delta qC;go_in
 go_wp2_with fail
 apply(lZ ta a8 tn tc tn a9 tz tz _ (h.t.bw f)$ t.t.bw f).mono;rw[xR rfl];rintro e P ⟨rfl,d⟩;have k:=f.trans$ d.mono (by have:=f.size;simp;omega);have D:=I.bw d;have v1:=v0.bw d;have x:=D.eight;have u:=v1.eight;go_wp2_with fail
 apply(aE8 V W a X Y bl aa _ (h.b.bw k) (t.b.bw k) hz).mono;rintro e Q ⟨rfl,d⟩;have j:=k.trans$ d.mono$ jK k.size;have G:=D.bw d;have v2:=v1.bw d;have x:=G.eight;have u:=v2.eight;go_wp2_with fail
 apply(gQ Z a0 b dc b a1 dz dz _ (h.d.bw j)$ t.d.bw j).mono;rw[xR rfl];rintro e O ⟨rfl,d⟩;have l:=j.trans$ d.mono$ jK j.size;have C:=G.bw d;have v3:=v2.bw d;have x:=C.eight;have u:=v3.eight;go_wp2_with fail
 apply(lZ ra a6 rn rc rn a7 rz rz _ (h.r.bw l)$ t.r.bw l).mono;rw[xR rfl];rintro e w4 ⟨rfl,d⟩;have s:=l.trans$ d.mono$ jK l.size;have B:=C.bw d;have v4:=v3.bw d;have x:=B.eight;have u:=v4.eight;go_wp2_with fail
 apply(aAa ia a4 q ic a5 ss _ (h.i.bw s)$ t.i.bw s).mono;rintro e M ⟨rfl,d⟩;have p:=s.trans$ d.mono$ jK s.size;have E:=B.bw d;have A:=v4.bw d;have x:=E.eight;have u:=A.eight;go_wp2_with fail
 apply(aAc ea a2 g ec a3 es _ (h.e.bw p)$ t.e.bw p).mono;rintro e N ⟨rfl,d⟩;have y:=p.trans$ d.mono$ jK p.size;have K:=E.bw d;have H:=A.bw d;have x:=K.eight;have u:=H.eight;go_wp2;go_ret;exact⟨rfl,y⟩
def aIv {j:qi}{f:qi}{rz:qi}{w W:qw}{x p A u l y:Nat}{k:List Nat}(h:MT w nm ta tn tc j ba bn bc bl da dn dc f bss ra rn rc rz ia im ic ss ea en ec es)(I:k.length=bn)
 (D:RowI W x j) (H:RowB W p bn k bl) (B:Row8 W A f) (E:RowI W u rz) (G:RowT W l ss) (C:RowX W y es):MT W nm (qP x) tn tn j (qP p) bn bn (reb k bl) (qP A) dn dn f bss (qP u) rn rn rz (qP l) im im ss (qP y) en en es where
 n:=h.n
 t:=D.is (h.t.1 ▸ h.t.2.1) h.t.2.2.1 _ _ h.t.1
 b:=H.bks h.b I
 d:=B.bs (h.d.1 ▸ h.d.2.1) h.d.2.2.1 _ _ h.d.1
 s:=h.s
 r:=E.is (h.r.1 ▸ h.r.2.1) h.r.2.2.1 _ _ h.r.1
 i:=⟨h.i.1,h.i.2.1,h.i.2.2.1,λ_=>⟨l,0,rfl,λi hi=>by rw[Nat.zero_add];exact G.cell i$ h.i.1 ▸ hi⟩,aQ⟩
 e:=C.te h.e
def aPu {f:qi}{j:qi}{rz:qi}{w:qw}(h:MT w nm ta tn tc f ba bn bc bl da dn dc j bss ra rn rc rz ia im ic ss ea en ec es)(hs:dF nm tn bn bl dn rn im ss en es<=1048576):MD w nm ta tn tc f ba bn bc bl da dn dc j bss ra rn rc rz ia im ic ss ea en ec es where
 n:=by unfold dF at hs;omega
 t:=h.t
 b:=h.b
 d:=h.d
 s:=h.s
 r:=h.r
 i:=h.i.ss (by unfold dF at hs;omega)
 e:=h.e.es (by unfold dF at hs;omega)
theorem aOx (g l tn b a d rn i ss f es)(h:a.length=b):dF l tn b (reb g a) d rn i ss f es=dF l tn b a d rn i ss f es:=by
 have:∀k,k<=b->upS (λj=>((reb g a).getD j zB).2.1) k=upS (λj=>(a.getD j zB).2.1) k:=by
  intro k
  induction k with
  | zero=>intro _;rfl
  | succ k ih=>
    intro e;show upS _ k+_=upS _ k+_;rw[ih J];congr 1;simp only;rw[jU _ _ _]
 unfold dF
 grind
structure PMod where
 nm:ByteArray
 tz:List Int
 bl:List (List Int)
 dz:List Int
 bss:Int
 rz:List Int
 ss:List ByteArray
 es:List Ex
def nM (bl:List (List Int)):List Bk:=bl.map λl=>(none,l.length,l.length,l)
def fY (P:PMod):Int:=mdo P.nm P.tz.length P.tz P.bl.length (nM P.bl) P.dz.length P.bss P.rz.length P.rz P.ss.length P.ss P.es.length P.es
theorem aSr {d:qi}{bl':List Bk}{rz:qi}(f:bl.length=bl'.length)(h:∀i,i<bl.length->(bl.getD i zB).2.1=(bl'.getD i zB).2.1/\(bl.getD i zB).2.2.2=(bl'.getD i zB).2.2.2):
 mdo nm tn d bl.length bl dn bss rn rz im ss en es=mdo nm tn d bl.length bl' dn bss rn rz im ss en es:=by
 have e:reb [] bl=reb [] bl':=by
  unfold reb
  grind
 rw[<-aKu [] nm tn d bl.length bl dn bss rn rz im ss en es rfl,e,aKu [] nm tn d bl.length bl' dn bss rn rz im ss en es f.symm]
structure Md where
 nm:ByteArray
 ta:qO
 tn:Nat
 tc:Nat
 tz:List Int
 ba:qO
 bn:Nat
 bc:Nat
 bl:List Bk
 da:qO
 dn:Nat
 dc:Nat
 dz:List Int
 bss:Int
 ra:qO
 rn:Nat
 rc:Nat
 rz:List Int
 ia:qO
 im:Nat
 ic:Nat
 ss:List ByteArray
 ea:qO
 en:Nat
 ec:Nat
 es:List Ex
def aM:Md:=⟨⟨#[]⟩,none,0,0,[],none,0,0,[],none,0,0,[],0,none,0,0,[],none,0,0,[],none,0,0,[]⟩
def Md.mt (m:Md)(w:qw):Prop:=MT w m.nm m.ta m.tn m.tc m.tz m.ba m.bn m.bc m.bl m.da m.dn m.dc m.dz m.bss m.ra m.rn m.rc m.rz m.ia m.im m.ic m.ss m.ea m.en m.ec m.es
def Md.size (m:Md):Nat:=dF m.nm m.tn m.bn m.bl m.dn m.rn m.im m.ss m.en m.es
def Md.cells (m:Md):Array Value:=(qM m.nm m.ta m.tn m.tc m.ba m.bn m.bc m.da m.dn m.dc m.bss m.ra m.rn m.rc m.ia m.im m.ic m.ea m.en m.ec)
def At8 (w:qw)(b o:Nat)(m:Md):Prop:=
 w.cell? (qR b o)=some (.string m.nm)/\w.cell? (qR b$ o+1)=some (qS m.ta m.tn m.tc)/\w.cell? (qR b$ o+2)=some (qS m.ba m.bn m.bc)/\w.cell? (qR b$ o+3)=some (qS m.da m.dn m.dc)/\w.cell? (qR b$ o+4)=some (qI m.bss)/\w.cell? (qR b$ o+5)=some (qS m.ra m.rn m.rc)/\w.cell? (qR b$ o+6)=some (qS m.ia m.im m.ic)/\w.cell? (qR b$ o+7)=some (qS m.ea m.en m.ec)
def At8.bw {w w':qw}{b o:Nat}{m:Md}(h:At8 w b o m)(f:qY w w'):At8 w' b o m:=by
 have d:∀o v,qN w b o=some v->qN w' b o=some v:=λo v e=>(f.cell$ xD w _ e).trans e;obtain⟨a,g,i,j,k,l,p,q⟩:=h;exact⟨d _ _ a,d _ _ g,d _ _ i,d _ _ j,d _ _ k,d _ _ l,d _ _ p,d _ _ q⟩
def Md.bw {m:Md}{w w':qw}(h:m.mt w)(d:qY w w'):m.mt w':=MT.bw h d
def MS (w:qw)(a:qO)(n cap:Nat)(ms:List Md):Prop:=
 ms.length=n/\n<=maxLen/\(n≠0->∃b off,a=some (qR b off)/\∀i,i<n->At8 w b (off+i*8) (ms.getD i aM))/\(∀i,i<n->(ms.getD i aM).mt w)/\n<=cap
def MS.bw {w w':qw}{ms:List Md}(h:MS w a n cap ms)(d:qY w w'):MS w' a n cap ms:=by
 obtain⟨f,g,j,k,l⟩:=h;refine⟨f,g,λp=>?_,λi hi=>Md.bw (k i hi) d,l⟩;let⟨b,off,e,hc⟩:=j p;exact⟨b,off,e,λi hi=>(hc i hi).bw d⟩
theorem MS.at {w:qw}{ms:List Md}(h:MS w a n cap ms)(i)(hi:i<n):∃b off,a=some (qR b off)/\At8 w b (off+i*8) (ms.getD i aM):=by
 let⟨b,off,e,hc⟩:=h.2.2.1 J
 grind
def aA2 (a n a1 ms l w)(h:MS w a n a1 ms)(Q:0<=l)(N:l<=1048576):
 qC 17 #[qS a n a1,qI l] w λe w'=>e=.returned (qI$ szR l$ n+upS (λj=>(ms.getD j aM).size) n)/\qY w w':=by
 have I:=h.2.1;unfold maxLen at I;let⟨r,V⟩:=aO$ szR l$ n+upS (λj=>(ms.getD j aM).size) n;rw[<-V];unfold szR at V;have A:=zh V;clear V;by_cases c1:l<(n:Int)
 .have e:=zh (show r=-1 by rw[A.o,if_pos J])
  delta qC;go_in
  go_wp2;go_ret;exact⟨aJ e.symm,brf⟩
 .delta qC;go_in
  go_wp2_with fail
  go_loopw [1,5] (λv i wr=>∃(k:Nat) (z:Int),k<=n/\i=qI k/\v=qI z/\0<=z/\z<=1048576/\Hid (z=l-n-(upS (λj=>(ms.getD j aM).size) k:Nat))/\qY w wr) (λ_ i _=>n-(intOf i).toNat)
  .exact⟨0,l-n,xC _,rfl,rfl,J,J,zh (by simp[upS]),brf⟩
  .obtain⟨k,z,O,rfl,rfl,M,C,t,s⟩:=hrel;by_cases f:k<n
   .have B:(k:Int)<(n:Int):=J
    obtain⟨b,off,rfl,y0,y1,y2,y3,y4,y5,y6,y7⟩:=(h.bw s).at k f;have K:=zh$ (h.bw s).2.2.2.1 k f;have x:Zh (upS (λj=>(ms.getD j aM).size) (k+1)=upS (λj=>(ms.getD j aM).size) k+(ms.getD k aM).size):=rfl;have D:=zh$ gM (λj=>(ms.getD j aM).size) (k+1) n J;generalize ms.getD k aM=m at *;obtain⟨X,ta,Z,tc,tz,ba,P,bc,g,da,S,dc,dz,a0,ra,Y,rc,rz,ia,W,ic,ss,ea,U,ec,es⟩:=m;have p:=zh$ aDj X ta Z tc tz ba P bc g da S dc dz a0 ra Y rc rz ia W ic ss ea U ec es z wr K M C;have G:Zh (Md.size ⟨X,ta,Z,tc,tz,ba,P,bc,g,da,S,dc,dz,a0,ra,Y,rc,rz,ia,W,ic,ss,ea,U,ec,es⟩=dF X Z P g S Y W ss U es):=rfl;rw[G.o]at x;generalize dF X Z P g S Y W ss U es=q at *;unfold szR at p;by_cases c2:z<(q:Int)
    .rw[if_pos c2]at p
     have e:=zh (show r=-1 by
      have y:=t.out;have H:=x.o;have:=D.o
      rw[A.o,if_pos J])
     go_wp2_with fail
     apply p.mono;rintro e E ⟨rfl,d⟩;go_wp2;go_ret;exact⟨aJ e.symm,yT s d⟩
    .rw[if_neg c2]at p;go_wp2_with fail
     apply p.mono;rintro e E ⟨rfl,d⟩;clear y0 y1 y2 y3 y4 y5 y6 y7;go_wp2
     go_roundw
     .exact⟨k+1,z-q,J,by go_num,rfl,J,J,zh (by have y:=t.out;have H:=x.o;omega),yT s d⟩
     .simp[intOf];omega
   .have e:=zh (show r=z by
     have y:=t.out;have u:k=n:=J
     rw[u]at y;rw[A.o,if_neg J]
     omega)
    go_wp2;go_ret;exact⟨aJ e.symm,s⟩
