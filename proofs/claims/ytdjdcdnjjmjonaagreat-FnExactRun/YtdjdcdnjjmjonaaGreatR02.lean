import Derived.OrdersHeld
import Derived.Laws.IdiomStrings
import Derived.Lib.Bytealg
import Derived.WideShapes
import Derived.Laws.BitsLemmas
import Derived.Test.YtdjdcdnjjmjonaaGreatR01
set_option linter.all false
set_option maxHeartbeats 4000000
namespace Go.Proofs.YtdjdcdnjjmjonaaGreat
open Go.RowKit
open Go.Proofs.Tryz
set_option maxRecDepth 100000
variable {P:Program}{Q:Exit->Act->World->Prop}{S:Nat->Prop}{a:qO}{b base cap fuel g i n off sz:Nat}{listed:Array Bool}{md:Region.Mode}{oi:Oper}{ops:Array Oper}{v:Value}{w:World}
structure Cov (g:Rg)(a c:Int):Prop where
 ok:gok g=true
 bits:g.2.2.2=(false,false,false)
 pos:32<=c
 c32:c%32=0
 a32:a%32=0
 has:∀x,zM g x=decide (a<=x/\x<a+c)
def aLu:List Rg->Int->Int->Prop
 | [],a,e=>a=e
 | g::r,a,e=>∃c,Cov g a c/\aLu r (a+c) e
def aKs:∀d,d<8->∀j,j<9->d+j<=8->∀p,p<8->((255-bT d j)/2^p%2=0 ↔ (d<=p/\p<d+j)):=by decide +kernel
theorem aS8 (a u b l q)(ha:0<=a)(X:a<u)(Y:u<=262144)(y:a%32=0)(K:5<=l)(B:l<=14)(hq:q<256)(hc:32<=cnt l q)(t:cnt l q%32=0)(U:b=bE a l)(d:q=qOf a u l):
 Cov (b,l,255-(q:Int),false,false,false) a (cnt l q):=by
 obtain⟨P,i⟩:∃P,(2:Int)^(l-3).toNat=P:=⟨_,rfl⟩;obtain⟨N,g⟩:∃N,(2:Int)^l.toNat=N:=⟨_,rfl⟩;let⟨g1,g2,g3,g4,w,g6,g7⟩:=qU a l P N K B i g ha J;let⟨b0,b1,b2,b3,b4⟩:=mG a l N K B g ha J;have E:b=a-a%N:=by rw[U];unfold bE;rw[g]
 rw[<-E]at b0 b1 b2;by_cases O:l<8
 .have A:a%N=0/\a+N<=u/\q=255:=by
   unfold qOf at d;rw[if_pos O,g]at d;split at d
   .next h=>exact⟨h.1,h.2,d⟩
   .subst d;rw[nI]at hc;omega
  obtain⟨h1,h2,rfl⟩:=A;have e2:cnt l 255=N:=by unfold cnt;rw[i,show uM 255=8 from rfl,g1];rfl
  have I:b=a:=J
  refine⟨?_,rfl,hc,t,y,?_⟩
  .show rok b l (255-((255:Nat):Int))=true;unfold rok
   grind
  .intro x;show hs b l (255-((255:Nat):Int)) x=_;unfold hs;rw[g,e2,I];simp
 .have D:a%P=0/\q=bT (cR a l) (jOf a u l):=by
   unfold qOf at d;rw[if_neg O,i]at d;split at d
   .next h=>exact⟨h,d⟩
   .subst d;rw[nI]at hc;omega
  obtain⟨hm,S⟩:=D;have H:cR a l+jOf a u l<=8:=by unfold jOf;omega
  have e2:cnt l q=(jOf a u l:Int)*P:=by rw[S];exact oD l P i _ _ w H
  refine⟨?_,rfl,hc,t,y,?_⟩
  .show rok b l (255-(q:Int))=true;unfold rok
   grind
  .intro x;show hs b l (255-(q:Int)) x=_;unfold hs;rw[g];rw[e2];generalize cR a l=f at *;generalize jOf a u l=j at *;rw[Bool.eq_iff_iff];simp only[decide_eq_true_eq];have C:N/8=P:=J
   rw[C];have s:0<P:=J
   constructor
   .rintro⟨x1,x2,x3⟩;have p0:0<=(x-b)/P:=Int.ediv_nonneg J J;have W:(x-b)/P<8:=Int.ediv_lt_of_lt_mul s J;let⟨p,Q⟩:=Int.eq_ofNat_of_zero_le p0;rw[Q]at x3 W
    have k:(255-q)/2^p%2=0:=by
     grind
    rw[S]at k;let⟨y1,Z⟩:=(aKs f w j J H p J).1 k;have M:(f:Int)*P<=x-b:=Int.le_trans (Int.mul_le_mul_of_nonneg_right (show(f:Int)<=(x-b)/P from J) J)$ Int.ediv_mul_le _ J
    have G:x-b<((f:Int)+j)*P:=by
     have h1:(x-b)<((x-b)/P+1)*P:=Int.lt_ediv_add_one_mul_self _ s;have h2:((x-b)/P+1)*P<=((f:Int)+j)*P:=Int.mul_le_mul_of_nonneg_right J J;omega
    rw[Int.add_mul]at G;omega
   .rintro⟨x1,x2⟩;have M:(f:Int)*P<=x-b:=J
    have G:x-b<((f:Int)+j)*P:=by rw[Int.add_mul];omega
    have y1:(f:Int)<=(x-b)/P:=Int.le_ediv_of_mul_le s M;have Z:(x-b)/P<(f:Int)+j:=Int.ediv_lt_of_lt_mul s G;let⟨p,Q⟩:=Int.eq_ofNat_of_zero_le$ show 0<=(x-b)/P from J;have z3:((f:Int)+j)*P<=8*P:=Int.mul_le_mul_of_nonneg_right J J;have V:0<=(f:Int)*P:=Int.mul_nonneg J J;refine⟨J,J,?_⟩;rw[Q];have k:=(aKs f w j J H p J).2 ⟨J,J⟩;rw[<-S]at k;have e:(255-(q:Int))=((255-q:Nat):Int):=J
    rw[e];have:(((255-q)/2^p%2:Nat):Int)=0:=J
    rw[<-this];simp
def sA (g)(f:g<=262144)(e:g%32=0):∀(n:Nat)(a:Int),0<=a->a<=g->a%32=0->g-a<=32*(n:Int)->aLu (gA g n a) a g
 | 0,a,h0,h1,h2,h3=>by
   show a=g;omega
 | n+1,a,h0,h1,h2,h3=>by
   by_cases d:a<g
   .have⟨b,l,q,i,t,u,w,k,p,s,j,x⟩:=aKa a g h0 d f h2 e;rw[nH g n a b l q d i];refine⟨cnt l q,aS8 a g b l q h0 d f h2 t u w k s j x,?_⟩;exact sA g f e n (a+cnt l q) J p J J
   .rw[pQ g (n+1) a d];show a=g;omega
def aHu:∀(L:List Rg)(a e:Int),aLu L a e->a<=e
 | [],a,e,h=>by rw[show a=e from h];exact Int.le_refl _
 | g::r,a,e,h=>by
   obtain⟨c,hc,b⟩:=h;have:=aHu r _ _ b;have:=hc.pos;omega
theorem aC2:∀(L:List Rg)(a e:Int),aLu L a e->∀x,((∃g∈L,zM g x=true) ↔ (a<=x/\x<e))
 | [],a,e,h,x=>by
   have:a=e:=h
   grind
 | g::r,a,e,h,x=>by
   obtain⟨c,hc,b⟩:=h;have:=aC2 r _ _ b x;have:=aHu r _ _ b;have:=hc.pos;have:=hc.has x;constructor
   .grind
   .grind
def tkv {S:World->Prop}{a:Act}(hi:ops[i]?=some oi)(hc:(Region.noSelect ops&&Region.free md ops listed i&&(Region.ready md ops listed).contains i)=true)(d:∀c a w,Q (.panic c) (a.put oi.dst v) w->Q (.panic c) a w)(f:Region.wanted oi (yielded ops a.tmps)=true)(e:∀w,S w->(execOp a.eval oi).run P w=.ok (.value v) w)(hS:S w)(h:wpAnyH P md ops Q S fuel (listed.setIfInBounds i true) (a.put oi.dst v) w):wpAnyH P md ops Q S (fuel+1) listed a w:=by
 simp only[Bool.and_eq_true]at hc;exact wpAnyH_take hi hc.1.1 hc.1.2 hc.2 d (Or.inl ⟨f,e⟩) hS h
def tks {S:World->Prop}{a:Act}(hi:ops[i]?=some oi)(hc:(Region.noSelect ops&&Region.free md ops listed i&&(Region.ready md ops listed).contains i)=true)(d:∀c a w,Q (.panic c) (a.put oi.dst undef) w->Q (.panic c) a w)(e:Region.wanted oi (yielded ops a.tmps)=false)(hS:S w)(h:wpAnyH P md ops Q S fuel (listed.setIfInBounds i true) (a.put oi.dst undef) w):wpAnyH P md ops Q S (fuel+1) listed a w:=by
 simp only[Bool.and_eq_true]at hc;exact wpAnyH_take hi hc.1.1 hc.1.2 hc.2 d (Or.inr ⟨e,rfl⟩) hS h
def tkV {S:World->Prop}(i)(v){a:Act}(hi:ops[i]?=some oi)(e:∀w,S w->(execOp a.eval oi).run P w=.ok (.value v) w)(h:wpAnyH P md ops Q S fuel (listed.setIfInBounds i true) (a.put oi.dst v) w)(hc:(Region.noSelect ops&&Region.free md ops listed i&&(Region.ready md ops listed).contains i)=true:=by kernel_rfl)(d:∀c a w,Q (.panic c) (a.put oi.dst v) w->Q (.panic c) a w:=by exact λ_ _ _ h=>h)(f:Region.wanted oi (yielded ops a.tmps)=true:=by rfl)(hS:S w:=by assumption):wpAnyH P md ops Q S (fuel+1) listed a w:=tkv hi hc d f e hS h
def tkS {S:World->Prop}(i){a:Act}(hi:ops[i]?=some oi)(h:wpAnyH P md ops Q S fuel (listed.setIfInBounds i true) (a.put oi.dst undef) w)(hc:(Region.noSelect ops&&Region.free md ops listed i&&(Region.ready md ops listed).contains i)=true:=by kernel_rfl)(d:∀c a w,Q (.panic c) (a.put oi.dst undef) w->Q (.panic c) a w:=by exact λ_ _ _ h=>h)(e:Region.wanted oi (yielded ops a.tmps)=false:=by rfl)(hS:S w:=by assumption):wpAnyH P md ops Q S (fuel+1) listed a w:=tks hi hc d e hS h
def tkW {S:World->Prop}(i){a:Act}(hi:ops[i]?=some oi)(h:wpAnyH P md ops Q S fuel (listed.setIfInBounds i true) (a.put oi.dst v) w)(e:∀w,S w->(execOp a.eval oi).run P w=.ok (.value v) w:=by(intro w hSw;(try dsimp only at hSw);go_simp;try with_reducible rfl))(hc:(Region.noSelect ops&&Region.free md ops listed i&&(Region.ready md ops listed).contains i)=true:=by kernel_rfl)(d:∀c a w,Q (.panic c) (a.put oi.dst v) w->Q (.panic c) a w:=by exact λ_ _ _ h=>h)(f:Region.wanted oi (yielded ops a.tmps)=true:=by rfl)(hS:S w:=by assumption):wpAnyH P md ops Q S (fuel+1) listed a w:=tkv hi hc d f e hS h
def IS (w:qw)(a:qO)(n cap:Nat)(zs:qi):Prop:=
 zs.length=n/\n<=maxLen/\(∀z∈zs,wfi z)/\(n≠0->∃b off,a=some (qR b off)/\∀i,i<n->w.cell? (qR b$ off+i)=some (qI$ zs.getD i 0))/\n<=cap
theorem IS.bw {w w':qw}{zs:qi}(h:IS w a n cap zs)(d:qY w w'):IS w' a n cap zs:=by
 obtain⟨e,f,g,j,k⟩:=h;refine⟨e,f,g,λq=>?_,k⟩;let⟨b,off,l,hc⟩:=j q;refine⟨b,off,l,λi hi=>?_⟩;have:=hc i hi;rw[d.cell (p:=(qR b$ off+i))$ xD w _ this]
 grind
theorem IS.range {w:qw}{d:qi}(h:IS w a n cap d)(i):wfi (d.getD i 0):=by
 by_cases hi:i<d.length
 .have:=h.2.2.1 d[i] (List.getElem_mem hi)
  grind
 .simp[xB,Nat.le_of_not_lt hi,wfi]
def RowI (w:qw)(g:Nat)(zs:qi):Prop:=w.heap[g]?=some (.cells (zs.map$ Value.int .i64).toArray 3 (0,0))
def RowI.cell {w:qw}{d:qi}(h:RowI w g d)(i)(hi:i<d.length):w.cell? (qR g i)=some (qI$ d.getD i 0):=by
 rw[cell_of_row w g i _ _ _ h];simp[xB,hi]
def RowI.frozen {w:qw}{d:qi}(h:RowI w g d)(i):w.frozen? (qR g i)=false:=frozen_of_row w g i _ _ h
def RowI.set {w:qw}{d:qi}(h:RowI w g d)(i z):RowI (w.setCell (qR g i)$ qI z) g (d.set i z):=by
 unfold RowI at *;rw[heap_setCell_same w g i _ _ _ h];simp[List.map_set]
theorem RowI.lt {w:qw}{d:qi}(h:RowI w g d):g<w.heap.size:=by
 unfold RowI at h
 grind
theorem RowI.bw {w w':qw}{zs:qi}(h:RowI w g zs)(d:qY w w'):RowI w' g zs:=by
 have:=d.block g h.lt;unfold RowI at *
 grind
def RowI.is {w:qw}{zs:qi}(h:RowI w g zs)(d:zs.length<=maxLen)(hz:∀z∈zs,wfi z)(n cap)(hn:zs.length=n)(hc:n<=cap:=by exact aQ):IS w (qP g) n cap zs:=by
 subst hn;exact⟨rfl,d,hz,λ_=>⟨g,0,rfl,λi hi=>by rw[Nat.zero_add];exact h.cell i hi⟩,hc⟩
def rO:(prog.info? 3).map (λi=>(i.zero,i.size,i.bytes))=some (some$ qI 0,1,8):=Je
def aW3 (n):(madeCells (Value.cells$ qI 0)$ n*1)=((List.replicate n (0:Int)).map$ Value.int .i64).toArray:=by
 apply Array.ext
 .simp[size_madeCells]
 .intro i d e;simp[madeCells,Value.cells,Nat.mod_one]
theorem lK {w:qw}(h:w.ownsRow base 3 1 (qS (qP g) n n) n (madeCells (Value.cells$ qI 0)$ n*1).toList):RowI w g (List.replicate n 0):=by
 obtain⟨s,h|⟨i,f,a,b,q,d,j,k,l,p⟩⟩:=h
 .grind
 .simp at b;obtain⟨rfl,rfl⟩:=b;unfold RowI;rw[d]
  have e:a.toList=(madeCells (Value.cells$ qI 0)$ n*1).toList:=by
   grind
  have e2:a=madeCells (Value.cells$ qI 0) (n*1):=Array.toList_inj.1 e;rw[e2,aW3]
def iR (a n b l w)(f:0<=l)(d:l<=1048576)(hn:n<=maxLen):
 qC 59 #[qS a n b,qI l] w λe g=>e=.returned (qI$ if l<n then -1 else l-n)/\g=w:=by
 unfold maxLen at hn;by_cases h:l<n
 .delta qC;go_in
  go_wp2;go_ret;exact⟨rfl,rfl⟩
 .delta qC;go_in
  go_wp2;go_ret;exact⟨rfl,rfl⟩
def lF (a n K g w)(h:IS w a n K g)(hn:n<=1048576):
 qC 78 #[qS a n K] w λe w'=>e=.returned (qS (qP w.heap.size) n n)/\RowI w' w.heap.size g/\qY w w':=by
 let⟨N,hi,A,E,M⟩:=info_parts rO;obtain⟨y,O,P,hc,_⟩:=h;by_cases s:n=0
 .subst s;obtain rfl:g=[]:=xE y;clear hc
  delta qC;go_in
  go_wp2_with (at_make;refine wpList_make_full _ rfl _ _ 25 rfl (qs w) 3 N (qI 0) 1 underlying25 hi A E .i64 .i64 _ _ 0 rfl rfl rfl rfl J Jf aQ ?_;intro C d l)
  have j:=lK d;have f:=bH l;clear d l;go_loop [4] (λi=>i=qI 0) (λ_=>0)
  .rfl
  .obtain rfl:=hrel;go_wp2;go_ret;exact⟨rfl,j,f⟩
 .obtain⟨b,off,rfl,hd⟩:=hc s;clear hc
  delta qC;go_in
  go_wp2_with (at_make;refine wpList_make_full _ rfl _ _ 25 rfl w.heap.size 3 N (qI 0) 1 underlying25 hi A E .i64 .i64 _ _ n rfl rfl rfl rfl (by rw[M];omega) Jf aQ ?_;intro C d l)
  have j:=lK d;have f:=bH l;clear d l hi A E M;go_loopw [4] (λi wr=>∃k:Nat,k<=n/\i=qI k/\RowI wr (qs w) (aN g k)/\qY w wr) (qf n)
  .exact⟨0,xC _,rfl,by rw[kY,y];exact j,f⟩
  .obtain⟨k,H,rfl,p,t⟩:=hrel;clear j f;by_cases q:k<n
   .have x:(k:Int)<(n:Int):=J
    have:qN wr b (off+k)=qj (g.getD k 0):=(t.cell$ xD w _$ hd k q).trans$ hd k q;have:qn wr w k=qj ((aN g k).getD k 0):=p.cell k (by rw[rG];omega);have:wr.frozen? (qh w k)=false:=p.frozen k;have u:=p.set k$ g.getD k 0;rw[rE g k J]at u;have B:qY w (wr.setCell (qh w k)$ qI$ g.getD k 0):=t.setCell aQ _;have G:=u;have D:=B;generalize g.getD k 0=z at *;generalize (aN g k).getD k 0=I at *;clear hd p t;go_wp2
    go_roundw
    .exact⟨k+1,J,by go_num,G,D⟩
    .simp[qf,intOf];omega
   .have e:Zh (k=n):=by show k=n;omega
    go_wp2;go_ret;exact⟨rfl,by rw[e.o,<-y,rH]at p;exact p,t⟩
theorem oM (xs d:qi)(k)(h:xs.take k=d.take k)(hx:k<xs.length)(e:k<d.length)(f:xs.getD k 0=d.getD k 0):xs.take (k+1)=d.take (k+1):=by
 rw[List.take_succ_eq_append_getElem hx,List.take_succ_eq_append_getElem e,h]
 grind
def lZ (a x n E q G xs g w)(h:IS w a n E xs)(B:IS w x q G g):
 qC 94 #[qS a n E,qS x q G] w (qB w$ .bool$ decide$ xs=g):=by
 obtain⟨I,O,V,hc,_⟩:=h;obtain⟨N,P,W,M,_⟩:=B;unfold maxLen at O P;by_cases Q:n=q
 .subst Q;have s:((n:Int) !=(n:Int))=false:=Jb
  by_cases f:n=0
  .subst f;obtain rfl:xs=[]:=xE I;obtain rfl:g=[]:=xE N
   delta qC;go_in
   go_wp2;go_loop [5] (λi=>i=qI 0) (λ_=>0)
   .rfl
   .obtain rfl:=hrel;go_wp2;go_ret;exact⟨rfl,brf⟩
  .obtain⟨b,off,rfl,hd⟩:=hc f;obtain⟨K,U,rfl,H⟩:=M f
   delta qC;go_in
   go_wp2;go_loopw [5] (λi wr=>∃k:Nat,k<=n/\i=qI k/\xs.take k=g.take k/\qY w wr) (qf n)
   .exact⟨0,xC _,rfl,Jb,brf⟩
   .obtain⟨k,C,rfl,u,j⟩:=hrel;by_cases d:k<n
    .have y:(k:Int)<(n:Int):=J
     have t:qN wr b (off+k)=qj (xs.getD k 0):=(j.cell$ xD w _$ hd k d).trans$ hd k d;have:qN wr K (U+k)=qj (g.getD k 0):=(j.cell$ xD w _$ H k d).trans$ H k d;by_cases p:xs.getD k 0=g.getD k 0
     .have hS:=oM xs g k u J J p;have A:Zh (xs.take (k+1)=g.take (k+1)):=hS;rw[p]at t;generalize g.getD k 0=z at *;have S:(z !=z)=false:=Jb
      go_wp2
      go_quiet (fail)
      go_wp2
      go_roundw
      .exact⟨k+1,J,by go_num,A,below_drewN j _⟩
      .simp[qf,intOf];omega
     .have l:Zh (decide (xs=g)=false):=by
       show _=_;simp;intro e;exact p (by rw[e])
      have S:(xs.getD k 0 !=g.getD k 0)=true:=by simpa using p
      generalize g.getD k 0=z at *;generalize xs.getD k 0=D at *;go_wp2
      go_quiet (fail)
      go_wp2;go_ret;exact⟨aA l.symm,below_drewN j _⟩
    .have l:Zh (decide (xs=g)=true):=by
      show _=_;simp;rw[xG J,xG J]at u;exact u
     go_wp2;go_ret;exact⟨aA l.symm,j⟩
 .have l:Zh (decide (xs=g)=false):=by
   show _=_;simp;intro e;rw[e]at I;omega
  have s:((n:Int) !=(q:Int))=true:=Jc
  delta qC;go_in
  go_wp2;go_ret;exact⟨aA l.symm,brf⟩
theorem aCd (w:qw)(d)(l:0<=d)(f:d<=255):(convert 28 9$ qS (qP w.heap.size) 1 1).run prog (w.alloc$ .cells #[.int .u8 d] 5)=.ok (.string ⟨#[UInt8.ofNat d.toNat]⟩) (w.alloc$ .cells #[.int .u8 d] 5):=by
 have:((UInt8.ofNat d.toNat).toNat:Int)=d:=by
  have:(UInt8.ofNat d.toNat).toNat=d.toNat%256:=UInt8.toNat_ofNat';omega
 refine run_convert_bytes_back (P:=prog) (w.alloc$ .cells #[.int .u8 d] 5) 28 9 5 (qh w 0) 1 [UInt8.ofNat d.toNat] underlying28 underlying5 underlying9 ?_;intro j k;obtain rfl:j=0:=by grind
 rw[cE,Blk.cell$ Blk.new w _ _]
 grind
def lQ (k:Nat)(w)(y:k<=8388608):qC 97 #[qI k] w λe w'=>∃s,e=.returned (.string s)/\s.size<=8388610/\qY w w':=by
 by_cases p:k=0
 .subst p
  delta qC;go_in
  go_wp2;go_ret;exact⟨_,rfl,Ja,brf⟩
 delta qC;go_in
 go_wp2_with fail
 go_loopw [0,3] (λx o wr=>∃(m:Nat) (s:ByteArray),x=qI m/\o=.string s/\s.size+m<=8388608/\qY w wr) (λx _ _=>(intOf x).toNat)
 .exact⟨k,⟨#[]⟩,rfl,rfl,by show 0+k<=_;omega,brf⟩
 .obtain⟨m,s,rfl,rfl,u,d⟩:=hrel;by_cases q:0<m
  .have j:0<(m:Int):=J
   have:=λ(W:qw)=>aCd W (48+(m:Int)%10) J J;have t:=zh d;have f:=d.size;go_wp2
   go_roundw
   .refine⟨m/10,_,by go_num,rfl,?_,t.alloc f _⟩;simp[ByteArray.size_append];have e1:(⟨#[48+UInt8.ofNat (m%10)]⟩:ByteArray).size=1:=rfl;omega
   .simp[intOf];omega
  .obtain rfl:m=0:=J
   go_wp2;go_ret;exact⟨_,rfl,by have e1:(⟨#[109]⟩:ByteArray).size=1:=rfl;simp only[ByteArray.size_append];omega,d⟩
def mtf:Nat->Nat->ByteArray->ByteArray
 | 0,_,s=>s
 | f+1,k,s=>if k=0 then s else mtf f (k/10) (⟨#[UInt8.ofNat$ (48+(k:Int)%10).toNat]⟩++s)
def aGr:∀(f d k:Nat)(s:ByteArray),k<=f->k<=d->mtf f k s=mtf d k s
 | 0,0,_,_,_,_=>rfl
 | 0,d+1,k,s,h,_=>by rw[show k=0 from J];rfl
 | f+1,0,k,s,_,h=>by rw[show k=0 from J];rfl
 | f+1,d+1,k,s,h,h'=>by
   unfold mtf;split
   .rfl
   .exact aGr f d _ _ J J
def mtd (k:Nat)(s:ByteArray):ByteArray:=mtf k k s
def aPk (s):mtd 0 s=s:=rfl
def aPl (k s)(h:0<k):mtd k s=mtd (k/10) (⟨#[UInt8.ofNat$ (48+(k:Int)%10).toNat]⟩++s):=by
 obtain⟨j,rfl⟩:∃j,k=j+1:=⟨k-1,J⟩;show mtf (j+1) (j+1) s=_;unfold mtf;rw[if_neg J];exact aGr _ _ _ _ J J
def mtx (k:Nat):ByteArray:=⟨#[109]⟩++mtd k ⟨#[]⟩
def eW (k:Nat)(w)(y:0<k:=by omega)(A:k<=67108864:=by omega):qC 97 #[qI k] w (qB w$ .string$ mtx k):=by
 go_enter func97,ntmps97
 go_wp2;go_loopw [0,3] (λx o wr=>∃(m:Nat) (s:ByteArray),x=qI m/\o=.string s/\s.size+m<=67108864/\Hid (mtd m s=mtd k ⟨#[]⟩)/\qY w wr) (λx _ _=>(intOf x).toNat)
 .exact⟨k,⟨#[]⟩,rfl,rfl,by show 0+k<=_;omega,zh rfl,brf⟩
 .obtain⟨m,s,rfl,rfl,C,p,e⟩:=hrel;clear A y;by_cases j:0<m
  .have q:0<(m:Int):=J
   have:=λ(W:qw)=>aCd W (48+(m:Int)%10) J J;have B:=zh e;have l:=e.size;have u:=zh$ aPl m s j;generalize hd:UInt8.ofNat ((48+(m:Int)%10).toNat)=d at *;clear e hd;go_wp2
   go_roundw
   .refine⟨m/10,⟨#[d]⟩++s,by go_num,rfl,?_,zh (by rw[<-p.out,u.o]),B.o.alloc l _⟩;rw[ByteArray.size_append];have:(⟨#[d]⟩:ByteArray).size=1:=rfl;omega
   .simp[intOf];omega
  .obtain rfl:m=0:=J
   have f:=zh (show mtx k=⟨#[109]⟩++s by unfold mtx;rw[<-p.out,aPk]);go_wp2;go_ret;exact⟨by rw[f.o];rfl,e⟩
def Shp (w w':qw):Prop:=∀g cs t,Blk w g cs t->∃cs':Array Value,Blk w' g cs' t/\cs'.size=cs.size
def Shp.refl (w):Shp w w:=λg a t h=>⟨a,h,rfl⟩
theorem Shp.trans {a b c:qw}(h:Shp a b)(k:Shp b c):Shp a c:=λg f t d=>by
 let⟨e,i,e1⟩:=h g f t d;let⟨c2,j,e2⟩:=k g e t i
 grind
def Shp.bw {w w':qw}(h:qY w w'):Shp w w':=λg a t d=>⟨a,d.bw h,rfl⟩
def Shp.set (w k i v):Shp w (w.setCell (qR k i) v):=λg a t d=>by
 by_cases e:g=k
 .subst e;exact⟨_,d.set i v,Jb⟩
 .exact⟨a,d.other _ _ e,rfl⟩
structure Mkd (S:Nat->Prop)(w w':qw):Prop where
 turn:Turn S w w'
 shp:Shp w w'
def Mkd.refl (S:Nat->Prop)(w):Mkd S w w:=⟨Turn.refl _ _,Shp.refl _⟩
def Mkd.trans {a b c:qw}(h:Mkd S a b)(k:Mkd S b c):Mkd S a c:=⟨h.turn.trans k.turn,h.shp.trans k.shp⟩
def Mkd.bw {w w':qw}(h:qY w w'):Mkd S w w':=⟨aG h,Shp.bw h⟩
def Mkd.set {w w':qw}(h:Mkd S w w')(k i v)(d:S k):Mkd S w (w'.setCell (qR k i) v):=
 h.trans ⟨⟨rfl,rfl,rfl,by rw[aL];exact aQ,λj _ f=>heap_setCell_other _ _ _ _ (λe=>f (by rw[e];exact d))⟩,Shp.set _ _ _ _⟩
def Mkd.mono {d:Nat->Prop}{w w':qw}(h:Mkd S w w')(hs:∀k,S k->d k):Mkd d w w':=⟨h.turn.mono hs,h.shp⟩
def Sl (S:Nat->Prop)(w:qw)(a:qO)(n sz:Nat):Prop:=n≠0->∃g o cs t,a=some (qR g o)/\S g/\Blk w g cs t/\o+n*sz<=cs.size
def Sl.shp {w w':qw}(h:Sl S w a n sz)(m:Shp w w'):Sl S w' a n sz:=λk=>by
 let⟨g,o,b,t,f,hs,i,l⟩:=h k;let⟨d,j,e⟩:=m g b t i;exact⟨g,o,d,t,f,hs,j,J⟩
def Sl.ofBlk {w:qw}{c:Nat}{cs:Array Value}{t:TypeId}(d:Blk w g cs t)(hS:S g)(hs:n*sz<=cs.size):Sl S w (qP g) n sz:=λ_=>⟨g,0,cs,t,rfl,hS,d,J⟩
def Sl.cell {w:qw}{o:Nat}(h:Sl S w (some$ qR g o) n sz)(hn:n≠0)(i)(hi:i<n*sz):(∃u,w.cell? (qR g$ o+i)=some u)/\w.frozen? (qR g$ o+i)=false/\S g:=by
 let⟨e,j,a,t,b,hs,d,f⟩:=h hn;simp at b;obtain⟨rfl,rfl⟩:=b;exact⟨⟨a[o+i]'J,by rw[d.cell];simp[show o+i<a.size from J]⟩,d.frozen _,hs⟩
theorem Sl.addr {w:qw}(h:Sl S w a n sz)(hn:n≠0):∃g o,a=some (qR g o):=by
 let⟨g,o,_,_,b,_⟩:=h hn
 grind
def mZ (S:Nat->Prop)(a)(n b k:Nat)(w)(h:Sl S w a n 1)(hn:n<=1048576)(p:k<=6291456):
 qC 98 #[qS a n b,qI k] w λe w'=>e=.returned (qI ((k+n:Nat):Int))/\Mkd S w w':=by
 delta qC;go_in
 go_wp2;go_loopw [1,5] (λx i wr=>∃m:Nat,m<=n/\i=qI m/\x=qI ((k+m:Nat):Int)/\Mkd S w wr) (λ_ i _=>n-(intOf i).toNat)
 .exact⟨0,xC _,rfl,rfl,Mkd.refl _ _⟩
 .obtain⟨m,l,rfl,rfl,M⟩:=hrel;by_cases j:m<n
  .have d:(m:Int)<(n:Int):=J
   obtain⟨g,o,rfl⟩:=h.addr J;let⟨⟨u,q⟩,s,hS⟩:=(h.shp M.shp).cell J m J;have f:=zh λv=>M.set g (o+m) v hS;go_wp2
   go_roundw
   .exact⟨m+1,J,by go_num,by go_num,f _⟩
   .simp[intOf];omega
  .obtain rfl:m=n:=J
   go_wp2;go_ret;exact⟨by go_num,M⟩
def aEr (S:Nat->Prop)(a)(n b k:Nat)(w)(h:Sl S w a n 1)(hn:n<=1048576)(p:k<=6291456):
 qC 56 #[qS a n b,qI k] w λe w'=>e=.returned (qI ((k+n:Nat):Int))/\Mkd S w w':=by
 delta qC;go_in
 go_wp2;go_loopw [1,5] (λx i wr=>∃m:Nat,m<=n/\i=qI m/\x=qI ((k+m:Nat):Int)/\Mkd S w wr) (λ_ i _=>n-(intOf i).toNat)
 .exact⟨0,xC _,rfl,rfl,Mkd.refl _ _⟩
 .obtain⟨m,l,rfl,rfl,M⟩:=hrel;by_cases j:m<n
  .have d:(m:Int)<(n:Int):=J
   obtain⟨g,o,rfl⟩:=h.addr J;let⟨⟨u,q⟩,s,hS⟩:=(h.shp M.shp).cell J m J;have f:=zh λv=>M.set g (o+m) v hS;go_wp2
   go_roundw
   .exact⟨m+1,J,by go_num,by go_num,f _⟩
   .simp[intOf];omega
  .obtain rfl:m=n:=J
   go_wp2;go_ret;exact⟨by go_num,M⟩
def yI (S:Nat->Prop)(a)(n b k:Nat)(w)(h:Sl S w a n 1)(hn:n<=1048576)(y:k<=6291456):
 qC 100 #[qS a n b,qI k] w λe w'=>e=.returned (qI ((k+n:Nat):Int))/\Mkd S w w':=by
 delta qC;go_in
 go_wp2;go_loopw [1,5] (λx i wr=>∃m:Nat,m<=n/\i=qI m/\x=qI ((k+m:Nat):Int)/\Mkd S w wr) (λ_ i _=>n-(intOf i).toNat)
 .exact⟨0,xC _,rfl,rfl,Mkd.refl _ _⟩
 .obtain⟨m,t,rfl,rfl,M⟩:=hrel;by_cases p:m<n
  .have f:(m:Int)<(n:Int):=J
   obtain⟨g,o,rfl⟩:=h.addr J;have q:=zh$ lQ (k+m) wr J;go_wp2_with fail
   apply q.mono;rintro e w1 ⟨s,rfl,hs,l⟩;have d:Mkd S w w1:=M.trans$ Mkd.bw l;let⟨⟨u,A⟩,B,hS⟩:=(h.shp d.shp).cell J m J;have j:=zh λv=>d.set g (o+m) v hS;go_wp2
   go_roundw
   .exact⟨m+1,J,by go_num,by go_num,j _⟩
   .simp[intOf];omega
  .obtain rfl:m=n:=J
   go_wp2;go_ret;exact⟨by go_num,M⟩
def yN (S:Nat->Prop)(a)(n A k:Nat)(w)(h:Sl S w a n 3)(hn:n<=1048576)(y:k<=4194304):
 qC 101 #[qS a n A,qI k] w λe w'=>e=.returned (qI ((k+3*n:Nat):Int))/\Mkd S w w':=by
 delta qC;go_in
 go_wp2;go_loopw [1,5] (λx i wr=>∃m:Nat,m<=n/\i=qI m/\x=qI ((k+3*m:Nat):Int)/\Mkd S w wr) (λ_ i _=>n-(intOf i).toNat)
 .exact⟨0,xC _,rfl,rfl,Mkd.refl _ _⟩
 .obtain⟨m,t,rfl,rfl,M⟩:=hrel;by_cases p:m<n
  .have f:(m:Int)<(n:Int):=J
   obtain⟨g,o,rfl⟩:=h.addr J;have q:=zh$ lQ (k+3*m) wr J;go_wp2_with fail
   apply q.mono;rintro e w1 ⟨s,rfl,hs,l⟩;have d:Mkd S w w1:=M.trans$ Mkd.bw l;let⟨⟨u,D⟩,E,hS⟩:=(h.shp d.shp).cell J (m*3) J;let⟨⟨G,b⟩,B,_⟩:=(h.shp d.shp).cell J (m*3+1) J;let⟨⟨H,c2⟩,C,_⟩:=(h.shp d.shp).cell J (m*3+2) J;rw[<-Nat.add_assoc]at b B c2 C;have j:=zh λv v1 v2=>((d.set g (o+m*3) v hS).set g (o+m*3+1) v1 hS).set g (o+m*3+2) v2 hS;go_wp2
   go_roundw
   .exact⟨m+1,J,by go_num,by go_num,j _ _ _⟩
   .simp[intOf];omega
  .obtain rfl:m=n:=J
   go_wp2;go_ret;exact⟨by go_num,M⟩
structure SlB (S:Nat->Prop)(w:qw)(a:qO)(n:Nat)(f:Nat->qO×Nat×Nat):Prop where
 head:n≠0->∃g o cs t,a=some (qR g o)/\¬S g/\Blk w g cs t/\∀i,i<n->cs[o+i]?=some (.slice (f i).1 (f i).2.1 (f i).2.2)
 rows:∀i,i<n->Sl S w (f i).1 (f i).2.1 1
def SlB.kept {w w':qw}{f:Nat->qO×Nat×Nat}(h:SlB S w a n f)(m:Mkd S w w'):SlB S w' a n f:=
 ⟨λk=>by obtain⟨g,o,b,t,d,hs,e,j⟩:=h.head k;exact⟨g,o,b,t,d,hs,aC m.turn e hs,j⟩,λi hi=>(h.rows i hi).shp m.shp⟩
def cC (f:Nat->qO×Nat×Nat):Nat->Nat
 | 0=>0
 | n+1=>cC f n+(f n).2.1
theorem vH (f:Nat->qO×Nat×Nat):∀n i,i<n->(f i).2.1+cC f i<=cC f n
 | 0,i,h=>J
 | n+1,i,h=>by
   show _<=cC f n+(f n).2.1;by_cases e:i=n
   .grind
   .have:=vH f n i J;omega
def aEq (S:Nat->Prop)(a)(n b k:Nat)(f:Nat->qO×Nat×Nat)(w)(h:SlB S w a n f)(hn:n<=1048576)(hs:cC f n<=1048576)(q:k<=4194304):
 qC 99 #[qS a n b,qI k] w λe w'=>e=.returned (qI ((k+cC f n:Nat):Int))/\Mkd S w w':=by
 delta qC;go_in
 go_wp2;go_loopw [1,5] (λx i wr=>∃m:Nat,m<=n/\i=qI m/\x=qI ((k+cC f m:Nat):Int)/\Mkd S w wr) (λ_ i _=>n-(intOf i).toNat)
 .exact⟨0,xC _,rfl,rfl,Mkd.refl _ _⟩
 .obtain⟨m,C,rfl,rfl,M⟩:=hrel;by_cases d:m<n
  .have p:(m:Int)<(n:Int):=J
   have l:=h.kept M;obtain⟨g,o,G,t,rfl,_,y,hc⟩:=l.head J;have:=(y.cell$ o+m).trans$ hc m d;have:=vH f n m d;have j:Zh (cC f (m+1)=cC f m+(f m).2.1):=rfl;have A:=zh λk q=>mZ S (f m).1 (f m).2.1 (f m).2.2 k wr (l.rows m d) J q;generalize cC f m=B at *;generalize f m=D at *;go_wp2_with fail
   apply(A (k+B) J).mono;rintro e E ⟨rfl,s⟩;have u:=zh$ M.trans s;go_wp2
   go_roundw
   .exact⟨m+1,J,by go_num,by rw[j.o];go_num,u.o⟩
   .simp[intOf];omega
  .obtain rfl:m=n:=J
   go_wp2;go_ret;exact⟨by go_num,M⟩
def byt (s:ByteArray)(k:Nat):Int:=((s.get! k).toNat:Int)
def aNn (s k):0<=byt s k/\byt s k<=255:=by
 unfold byt;have:=(s.get! k).toNat_lt;omega
def aHg (s:ByteArray)(k)(h:k<s.size):s.get! k=s[k]'h:=by
 simp only[ByteArray.get!,getElem!_def];have:s.data[k]?=some (s.data[k]'h):=Array.getElem?_eq_getElem h;rw[this];rfl
def sG (s:ByteArray)(k)(h:k<s.size)(w):(Instr.index 9 (.string s)$ qI (k:Int)).run prog w=.ok (.int .u8$ byt s k) w:=by
 rw[run_index_string w 9 s .i64 (k:Int) underlying9,dif_pos J];simp only[byt,xY,aHg s k h]
def nmo (s:ByteArray):Bool:=decide (1<=s.size/\s.size<=12)&&(List.range s.size).all λk=>decide$ 97<=byt s k/\byt s k<=122
theorem aK4 (s k)(d:k<s.size)(h:¬(97<=byt s k/\byt s k<=122)):nmo s=false:=by
 unfold nmo
 grind
theorem aGq (s)(h:∀j,j<s.size->97<=byt s j/\byt s j<=122):nmo s=decide (1<=s.size/\s.size<=12):=by
 unfold nmo
 grind
def iC (s w)(hs:s.size<=1048576):
 qC 241 #[.string s] w λe w'=>e=.returned (.bool$ nmo s)/\w=w':=by
 delta qC;go_in
 go_wp2;go_loop [3] (λi=>∃k:Nat,k<=s.size/\i=qI k/\Hid (∀j,j<k->97<=byt s j/\byt s j<=122)) (λi=>s.size-(intOf i).toNat)
 .exact⟨0,xC _,rfl,zh λj l=>J⟩
 .obtain⟨k,B,rfl,t⟩:=hrel;by_cases d:k<s.size
  .have p:(k:Int)<(s.size:Int):=J
   have:=sG s k d;have:=aNn s k;have q:=zh$ aK4 s k d
   have x:=zh (show 97<=byt s k/\byt s k<=122->∀j,j<k+1->97<=byt s j/\byt s j<=122 from λh j l=>by
    by_cases e:j=k
    .subst e;exact h
    .exact t.out j J)
   generalize byt s k=z at *;by_cases a:z<97
   .have u:(z<97)=True:=by simp[a]
    go_wp2;go_ret;exact⟨aA (q J).symm,rfl⟩
   .by_cases c2:122<z
    .go_wp2;go_ret;exact⟨aA (q J).symm,rfl⟩
    .go_wp2
     go_round
     .exact⟨k+1,J,by go_num,zh$ x J⟩
     .simp[intOf];omega
  .have e:Zh (k=s.size):=by show k=s.size;omega
   have f:=zh$ aGq s λj l=>t.out j$ e.o ▸ l;by_cases a:1<=s.size
   .by_cases c2:s.size<=12
    .go_wp2;go_ret;exact⟨aA (by have:=e.o;rw[f.o,xJ];simp;omega),rfl⟩
    .go_wp2;go_ret;exact⟨aA (by have:=e.o;rw[f.o,xJ];simp;omega),rfl⟩
   .go_wp2;go_ret;exact⟨aA (by have:=e.o;rw[f.o,xJ];simp;omega),rfl⟩
def lV (s w)(hs:s.size<=1048576):
 qC 285 #[.string s] w λe w'=>e=.returned (.bool$ nmo s)/\w=w':=by
 by_cases a:s.size<1
 .have p:Zh (nmo s=false):=by show _=_;unfold nmo;rw[Bool.and_eq_false_iff];left;simp;omega
  have d:(s.size:Int)<1:=J
  delta qC;go_in
  go_wp2;go_ret;exact⟨aA p.symm,rfl⟩
 .by_cases c2:12<s.size
  .have p:Zh (nmo s=false):=by show _=_;unfold nmo;rw[Bool.and_eq_false_iff];left;simp;omega
   have d:¬(s.size:Int)<1:=J
   have l:(12:Int)<(s.size:Int):=J
   delta qC;go_in
   go_wp2;go_ret;exact⟨aA p.symm,rfl⟩
  .have d:¬(s.size:Int)<1:=J
   have l:¬(12:Int)<(s.size:Int):=J
   delta qC;go_in
   go_wp2;go_loop [14] (λi=>∃k:Nat,k<=s.size/\i=qI k/\Hid (∀j,j<k->97<=byt s j/\byt s j<=122)) (λi=>s.size-(intOf i).toNat)
   .exact⟨0,xC _,rfl,zh λj q=>J⟩
   .obtain⟨k,E,rfl,x⟩:=hrel;by_cases f:k<s.size
    .have t:(k:Int)<(s.size:Int):=J
     have:=sG s k f;have u:=zh$ aK4 s k f
     have y:=zh (show 97<=byt s k/\byt s k<=122->∀j,j<k+1->97<=byt s j/\byt s j<=122 from λh j q=>by
      by_cases e:j=k
      .subst e;exact h
      .exact x.out j J)
     generalize byt s k=z at *;by_cases C:z<97
     .go_wp2;go_ret;exact⟨aA (u J).symm,rfl⟩
     .by_cases D:122<z
      .go_wp2;go_ret;exact⟨aA (u J).symm,rfl⟩
      .go_wp2
       go_round
       .exact⟨k+1,J,by go_num,zh$ y J⟩
       .simp[intOf];omega
    .have e:Zh (k=s.size):=by show k=s.size;omega
     have B:=zh$ aGq s λj q=>x.out j$ e.o ▸ q;go_wp2;go_ret;exact⟨aA (by have:=e.o;rw[B.o,xJ];simp;omega),rfl⟩
def eO (s:ByteArray):Nat->Nat->Int
 | 0,_=>-1
 | f+1,k=>if byt s k=46 then (k:Int) else eO s f (k+1)
def dot (s:ByteArray):Int:=eO s s.size 0
def aCq (s w)(hs:s.size<=1048576):
 qC 246 #[.string s] w λe w'=>e=.returned (qI$ dot s)/\w=w':=by
 delta qC;go_in
 go_wp2_with fail
 go_loop [3] (λi=>∃k:Nat,k<=s.size/\i=qI k/\Hid (dot s=eO s (s.size-k) k)) (λi=>s.size-(intOf i).toNat)
 .exact⟨0,xC _,rfl,zh rfl⟩
 .obtain⟨k,t,rfl,p⟩:=hrel;by_cases d:k<s.size
  .have j:(k:Int)<(s.size:Int):=J
   have:=sG s k d
   have l:=zh (show dot s=if byt s k=46 then (k:Int) else eO s (s.size-(k+1)) (k+1)by
    rw[p.out,show s.size-k=(s.size-(k+1))+1 from J];rfl)
   generalize byt s k=z at *;by_cases a:z=46
   .have f:=zh (show dot s=(k:Int)by rw[l.o,if_pos a]);subst a;go_wp2;go_ret;exact⟨aJ f.symm,rfl⟩
   .have f:=zh (show dot s=eO s (s.size-(k+1)) (k+1)by rw[l.o,if_neg a]);go_wp2
    go_round
    .exact⟨k+1,J,by go_num,f⟩
    .simp[intOf];omega
  .have e:Zh (dot s=-1):=by
    show dot s=-1;rw[p.out,show s.size-k=0 from J];rfl
   go_wp2;go_ret;exact⟨aJ e.symm,rfl⟩
theorem jY (s:ByteArray):∀(f k:Nat),eO s f k=-1\/((k:Int)<=eO s f k/\eO s f k<k+f)
 | 0,k=>Or.inl rfl
 | f+1,k=>by
   unfold eO;split
   .grind
   .rcases jY s f (k+1)with h|h
    .grind
    .grind
def tO (s):dot s=-1\/(0<=dot s/\dot s<s.size):=by
 have:=jY s s.size 0;unfold dot;omega
def eK (s:ByteArray):ByteArray:=s.extract 0 (dot s).toNat
def gB (s:ByteArray):ByteArray:=s.extract (dot s+1).toNat s.size
def tS (s)(hs:s.size<=1048576):(eK s).size<=1048576:=by
 unfold eK;rw[ByteArray.size_extract];omega
def tR (s)(hs:s.size<=1048576):(gB s).size<=1048576:=by
 unfold gB;rw[ByteArray.size_extract];omega
def gO (s:ByteArray):Bool:=decide (0<=dot s)&&(nmo (eK s)&&nmo (gB s))
def rM (s w)(hs:s.size<=1048576):
 qC 244 #[.string s] w λe w'=>e=.returned (.bool$ gO s)/\w=w':=by
 have f:=zh λw=>aCq s w hs;have k:=zh λw=>iC (eK s) w$ tS s hs;have l:=zh λw=>iC (gB s) w$ tR s hs;let⟨r,a⟩:=aO$ gO s;rw[<-a];unfold gO at a;unfold eK gB at *;rcases tO s with h|⟨q,t⟩
 .rw[h]at f a;have j:=zh (show r=false by rw[a];rfl);clear k l a h
  delta qC;go_in
  go_wp2_with (go_at_call 246;refine(f.o _).mono ?_;rintro e d ⟨rfl,rfl⟩)
  go_ret;exact⟨aA j.symm,rfl⟩
 .generalize dot s=p at *;generalize nmo (s.extract 0 p.toNat)=A at *;generalize nmo (s.extract (p+1).toNat s.size)=B at *;have j:=zh (show r=(A&&B)by rw[a];simp[q]);clear a;cases A
  .delta qC;go_in
   go_wp2_with (first
    | (go_at_call 246;refine(f _).mono ?_;rintro e d ⟨rfl,rfl⟩)
    | (go_at_call 241;refine(k _).mono ?_;rintro e d ⟨rfl,rfl⟩))
   go_ret;exact⟨aA j.symm,rfl⟩
  .delta qC;go_in
   go_wp2_with fail
   apply(f _).mono;rintro e d ⟨rfl,rfl⟩;go_wp2_with fail
   apply(k _).mono;rintro e d ⟨rfl,rfl⟩;go_wp2_with fail
   apply(l _).mono;rintro e d ⟨rfl,rfl⟩;go_wp2;go_ret;exact⟨aA j.symm,rfl⟩
theorem aS6 (l):∀(s:ByteArray)(k:Nat),s.data.toList.drop k=l->Lib.indexByte l (46:Int).toNat.toUInt8=(let d:=eO s l.length k;if d=-1 then -1 else d-k):=by
 induction l with
 | nil=>intro s k h;rfl
 | cons b l ih=>
   intro s k h
   have u:k<s.data.toList.length:=by
    by_cases e:k<s.data.toList.length
    .exact e
    .rw[List.drop_eq_nil_of_le J]at h;cases h
   have p:k<s.size:=by simpa using u
   have x:s.data.toList[k]'u=b:=by
    have y:s.data.toList[k]?=some b:=by
     have:=congrArg (λt=>t[0]?) h
     grind
    grind
   have hd:s.data.toList.drop (k+1)=l:=by
    have:=congrArg List.tail h;simpa using this
   have f:byt s k=(b.toNat:Int):=by
    unfold byt;rw[aHg s k p,<-x];rfl
   have j:=ih s (k+1) hd;simp only[Lib.indexByte,List.length_cons,eO,f];rw[j];have q:(46:Int).toNat.toUInt8=46:=rfl;rw[q];by_cases c:b=46
   .subst c;simp
   .have a:(b==46)=false:=by simpa using c
    have c2:¬((b.toNat:Int)=46):=λe=>c (UInt8.toNat_inj.1 (by simpa using(by omega:b.toNat=46)));rw[a,if_neg c2];rcases jY s l.length (k+1)with e|e
    .simp[e]
    .have g:¬eO s l.length (k+1)=-1:=J
     simp only[g,if_false,Bool.false_eq_true];split
     .next h=>simp at h;omega
     .omega
theorem aQe (s):Lib.indexByte s.data.toList (46:Int).toNat.toUInt8=dot s:=by
 have:=aS6 s.data.toList s 0 Jb;rw[this];have e:s.data.toList.length=s.size:=Array.length_toList;unfold dot
 grind
def aBn (s w):
 qC 325 #[.string s,.int .u8 46] w λe w'=>e=.returned (qI$ dot s)/\w=w':=by
 have d:=zh$ aQe s
 delta qC;go_in
 go_wp2;rw[run_callFunc_extern func329 Je Je Je (e:=Extern.BytealgIndexByte.indexByte) Je,Lib.run_indexByteString];simp only[Result.andThen];rw[Oper.upon_value];go_wp2;go_ret;exact⟨aJ d,rfl⟩
def aNd (s w)(hs:s.size<=1048576):
 qC 322 #[.string s,.string ⟨#[46]⟩] w λe w'=>e=.returned (qI$ dot s)/\w=w':=by
 have l:=zh λw=>aBn s w;by_cases f:(⟨#[46]⟩:ByteArray)=s
 .subst f;have j:Zh (dot ⟨#[46]⟩=0):=by show _=_;rfl
  delta qC;go_in
  go_wp2;go_ret;exact⟨aJ j.symm,rfl⟩
 .have d:¬([46]:List UInt8)=s.toList:=λe=>f (Go.WideShapes.bytes_inj (by rw[ByteArray.toList_eq]at e;exact e));have:(([46]:List UInt8)==s.toList)=false:=by simpa using d
  delta qC;go_in
  go_wp2_with (go_at_call 325;refine(l.o _).mono ?_;rintro e p ⟨rfl,rfl⟩)
  go_ret;exact⟨rfl,rfl⟩
def aL5 (s w)(hs:s.size<=1048576):
 qC 318 #[.string s,.string ⟨#[46]⟩] w (qB w$ .tuple #[.string$ if 0<=dot s then eK s else s,.string$ if 0<=dot s then gB s else ⟨#[]⟩,.bool$ decide$ 0<=dot s]):=by
 have j:=zh λw=>aNd s w hs;have d:=zh$ Below.refl (qs w) w;rcases tO s with h|⟨f,l⟩
 .have a:¬(0<=dot s):=J
  rw[if_neg a,if_neg a,xS a];rw[h]at j
  delta qC;go_in
  go_wp2_with (go_at_call 322;refine(j.o _).mono ?_;rintro e k ⟨rfl,rfl⟩)
  all_goals(try go_region)
  all_goals(try go_wp2)
  all_goals go_ret3
  all_goals exact⟨rfl,by first|exact d|exact d.drew⟩
 .rw[if_pos f,if_pos f,xR f];unfold eK gB;generalize dot s=p at *
  delta qC;go_in
  go_wp2_with (go_at_call 322;refine(j.o _).mono ?_;rintro e k ⟨rfl,rfl⟩)
  all_goals(try go_region)
  all_goals(try go_wp2)
  all_goals go_ret3
  all_goals exact⟨rfl,by first|exact d|exact d.drew⟩
def aTd (s w)(hs:s.size<=1048576):
 qC 306 #[.string s,.string ⟨#[46]⟩] w (qB w$ .tuple #[.string$ if 0<=dot s then eK s else s,.string$ if 0<=dot s then gB s else ⟨#[]⟩,.bool$ decide$ 0<=dot s]):=by
 have f:=zh λw=>aL5 s w hs;generalize (if 0<=dot s then eK s else s)=A at *;generalize (if 0<=dot s then gB s else ⟨#[]⟩)=B at *;generalize decide (0<=dot s)=C at *
 delta qC;go_in
 go_wp2_with (go_at_call 318;refine(f.o _).mono ?_;rintro e j ⟨rfl,d⟩)
 go_ret3
 exact⟨rfl,d⟩
def aPh:nmo ⟨#[]⟩=false:=rfl
def aJy (s:ByteArray):Value:=if gO s then .tuple #[.string$ eK s,.string$ gB s,.bool true] else .tuple #[.string ⟨#[]⟩,.string ⟨#[]⟩,.bool false]
def oV (s w)(hs:s.size<=1048576):
 qC 290 #[.string s] w (qB w$ aJy s):=by
 have l:=zh λw=>aTd s w hs;let⟨V,g⟩:=aO$ aJy s;rw[<-g];unfold aJy gO at g;have q:(if 0<=dot s then eK s else s).size<=1048576:=by split;exact tS s hs;exact hs
 have t:(if 0<=dot s then gB s else ⟨#[]⟩).size<=1048576:=by split;exact tR s hs;exact Ja
 have k:=zh λw=>lV _ w q;have x:=zh λw=>lV _ w t
 have f:V=if nmo (if 0<=dot s then eK s else s)&&nmo (if 0<=dot s then gB s else ⟨#[]⟩) then .tuple #[.string$ if 0<=dot s then eK s else s,.string$ if 0<=dot s then gB s else ⟨#[]⟩,.bool true] else .tuple #[.string ⟨#[]⟩,.string ⟨#[]⟩,.bool false]:=by
  by_cases h:0<=dot s
  .simp only[h,if_true,decide_true,Bool.true_and]at g⊢;exact g
  .simp only[h,if_false,decide_false,Bool.false_and,aPh,Bool.and_false]at g⊢;exact g
 clear g q t;generalize (if 0<=dot s then eK s else s)=A at *;generalize (if 0<=dot s then gB s else ⟨#[]⟩)=B at *;generalize decide (0<=dot s)=C at *;generalize nmo A=a at *;generalize nmo B=b at *;have p:=zh f;clear f;cases a
 .obtain rfl:V=.tuple #[.string ⟨#[]⟩,.string ⟨#[]⟩,.bool false]:=p
  delta qC;go_in
  go_wp2_with fail
  apply(l _).mono;rintro e u ⟨rfl,d⟩;go_wp2_with fail
  apply(k _).mono;rintro e j ⟨rfl,rfl⟩;go_wp2
  go_ret3
  exact⟨rfl,d⟩
 .cases b
  .obtain rfl:V=.tuple #[.string ⟨#[]⟩,.string ⟨#[]⟩,.bool false]:=p
   delta qC;go_in
   go_wp2_with fail
   apply(l _).mono;rintro e u ⟨rfl,d⟩;go_wp2_with fail
   apply(k _).mono;rintro e j ⟨rfl,rfl⟩;go_wp2_with fail
   apply(x _).mono;rintro e j ⟨rfl,rfl⟩;go_wp2
   go_ret3
   exact⟨rfl,d⟩
  .obtain rfl:V=.tuple #[.string A,.string B,.bool true]:=p
   delta qC;go_in
   go_wp2_with fail
   apply(l _).mono;rintro e u ⟨rfl,d⟩;go_wp2_with fail
   apply(k _).mono;rintro e j ⟨rfl,rfl⟩;go_wp2_with fail
   apply(x _).mono;rintro e j ⟨rfl,rfl⟩;go_wp2
   go_ret3
   exact⟨rfl,d⟩
def BS.drop {w:qw}{d:qi}(h:BS w (some$ qR b off) n cap d)(k:Nat)(f:k<=n):BS w (some$ qR b$ off+k) (n-k) (cap-k) (d.drop k):=by
 have e:=h.1;refine⟨Jc,jK h.2.1,λz a=>h.2.2.1 z$ List.mem_of_mem_drop a,λg=>⟨b,off+k,rfl,λi hi=>?_⟩,jK h.2.2.2.2⟩;have:=h.at (k+i) J;rw[Nat.add_assoc,this];simp[xB]
def BS.take {w:qw}{d:qi}(h:BS w (some$ qR b off) n cap d)(s:Nat)(hs:s<=n):BS w (some$ qR b off) s cap (d.take s):=by
 have e:=h.1;refine⟨Jc,jK h.2.1,λz a=>h.2.2.1 z$ List.mem_of_mem_take a,λf=>⟨b,off,rfl,λi hi=>?_⟩,jK h.2.2.2.2⟩;have:=h.at i J;rw[this];simp[xB,hi]
def wd4:wd 4=true:=Ja
def uO {n1 n2 n3:Nat}(h:mok n1 n2 n3=true):n1<=16384/\n2<=16384/\n3<=5000:=by simpa[mok]using h
def rd (n1 n2 n3:Nat)(x1 x2:qi)(p s:Int):Int×Int:=
 if mok n1 n2 n3=true/\wd s=true then
  if (p.tmod s !=0)=true then (0,1)
  else if p=131072 then (0,4)
   else if ins p s 0 n1=true then (low$ (x1.drop p.toNat).take s.toNat,0)
   else if ins p s 65536 n2=true then (low$ (x2.drop (p-65536).toNat).take s.toNat,0) else (0,2)
 else (0,2)
def eD {s:Int}(h:wd s=true):s=4\/s=2\/s=1:=by simp[wd]at h;omega
theorem BS.some {w:qw}{d:qi}(h:BS w a n cap d)(hn:n≠0):∃b off,a=Option.some (qR b off):=by
 let⟨b,off,e,_⟩:=h.2.2.2.1 hn
 grind
def sRd (a1 a2 a3 n1 c1 n2 c2 n3 c3 x1 x2 p s w)(D:BS w a1 n1 c1 x1)(E:BS w a2 n2 c2 x2)(K:0<=p)(Y:p<=4294967295):
 qC 126 #[.agg$ qV a1 n1 c1 a2 n2 c2 a3 n3 c3,qI p,qI s] w (qB w$ .tuple #[qI (rd n1 n2 n3 x1 x2 p s).1,qI (rd n1 n2 n3 x1 x2 p s).2]):=by
 have q:qY w (w.alloc$ .cells (qV a1 n1 c1 a2 n2 c2 a3 n3 c3) 39):=bal;have I:=Blk.new w (qV a1 n1 c1 a2 n2 c2 a3 n3 c3) 39;let⟨r,g⟩:=aO$ rd n1 n2 n3 x1 x2 p s;rw[<-g];unfold rd at g;have j:=zh g;have G:=zh λw=>lJ a1 a2 a3 n1 c1 n2 c2 n3 c3 w;have H:Zh (mok n1 n2 n3=true->n1<=16384/\n2<=16384/\n3<=5000):=uO;generalize mok n1 n2 n3=A at *;clear g
 delta qC;go_in
 go_wp2_with fail
 apply(G _).mono;rintro e X ⟨rfl,B⟩;have l:=q.trans$ B.mono Jb;have:=(I.bw B).three;clear B I q G;cases A
 .obtain rfl:r=(0,2):=j.o.trans$ if_neg Jb;clear j;go_wp2
  go_ret2
  exact⟨rfl,l⟩
 have:=H rfl;go_wp2_with fail
 apply(fZ _ _).mono;rintro e wx ⟨rfl,rfl⟩;let⟨A,f⟩:=aO$ wd s;have d:=j;rw[<-f]at d⊢;clear j H;cases A
 .obtain rfl:r=(0,2):=d.trans$ if_neg Jb;clear d f;go_wp2
  go_ret2
  exact⟨rfl,l⟩
 rw[if_pos Jb,xL K]at d;have u:=D.bw l;have t:=E.bw l;have:=D.2.2.2.2;have:=E.2.2.2.2;have y:=zh$ xA u t;clear D E u t;obtain⟨s0,N⟩:1<=s/\s<=4:=by rcases eD f.symm with rfl|rfl|rfl<;>decide
 obtain⟨m,rfl⟩:=xV$ show 0<=s from J;have:((m:Int)==0)=false:=Jc
 clear f;by_cases a:(p%(m:Int) !=0)=true
 .rw[if_pos a]at d;subst d;go_wp2
  go_ret2
  exact⟨rfl,l⟩
 rw[if_neg a]at d;replace a:(p%(m:Int) !=0)=false:=by simpa using a
 by_cases x:p=131072
 .subst x;obtain rfl:r=(0,4):=d;go_wp2
  go_ret2
  exact⟨rfl,l⟩
 rw[if_neg x]at d;have:(p==131072)=false:=by simpa using x
 clear x;have j:=zh d;clear d;go_wp2_with fail
 apply(iD p m 0 n1 _).mono;rintro e wx ⟨rfl,rfl⟩;have d:=j;clear j;let⟨A,f⟩:=aO$ ins p m 0 n1;rw[<-f]at d⊢;cases A
 .clear f;have j:=zh d;clear d;go_wp2_with fail
  apply(iD p m 65536 n2 _).mono;rintro e wx ⟨rfl,rfl⟩;have d:=j;clear j;let⟨A,f⟩:=aO$ ins p m 65536 n2;rw[<-f]at d⊢;cases A
  .obtain rfl:r=(0,2):=d;clear f;go_wp2
   go_ret2
   exact⟨rfl,l⟩
  .have C:=f.symm;simp[ins]at C;let⟨k,i⟩:=xV$ show 0<=p-65536 from J;obtain rfl:r=(low$ (x2.drop k).take m,0):=by rw[i]at d;exact d
   obtain⟨b,off,rfl⟩:=y.2.some J;clear f d;go_wp2_with fail
   apply(tD b (off+k) m (c2-k) _ _$ (y.2.drop k J).take m J).mono;rintro e M ⟨rfl,rfl⟩;go_wp2
   go_ret2
   exact⟨rfl,l⟩
 .have C:=f.symm;simp[ins]at C;obtain⟨k,rfl⟩:=xV K;obtain rfl:r=(low$ (x1.drop k).take m,0):=d;obtain⟨b,off,rfl⟩:=y.1.some J;clear f;go_wp2_with fail
  apply(tD b (off+k) m (c1-k) _ _$ (y.1.drop k J).take m J).mono;rintro e M ⟨rfl,rfl⟩;go_wp2
  go_ret2
  exact⟨rfl,l⟩
def OB (w:qw)(base:Nat)(v:Value)(zs:qi):Prop:=w.ownsRow base 5 1 v zs.length (zs.map$ Value.int .u8)/\∀z∈zs,0<=z/\z<=255
theorem aLn {w:qw}{e:qi}(h:BS w (some$ qR b off) n cap e):∀j u,(e.map$ Value.int .u8)[j]?=some u->w.cell? (((qR b off):Addr).add j)=some u:=by
 intro j u k;have:=h.1
 have d:j<n:=by
  grind
 rw[cE,h.at j d]
 grind
def aCi (w:qw):(w.alloc$ .cells #[] 5).ownsRow w.heap.size 5 1 (qS (qP w.heap.size) 0 0) 0 []:=
 ⟨rfl,.inr ⟨w.heap.size,0,#[],rfl,aQ,heap_alloc_new w _,aQ,xC _,rfl,rfl⟩⟩
theorem sM {w:qw}{t:TypeId}{xs:List Value}(h:w.ownsRow base t 1 v n xs):∃a cap,v=qS a n cap:=by
 obtain⟨_,⟨rfl,rfl⟩|⟨g,cap,b,rfl,_⟩⟩:=h
 .grind
 .grind
theorem aFg {B:Nat}{a w w':qw}{k:Nat}(h:Below B a w)(e:w.grownBy w' (some k))(d:B<=w.heap.size)(f:B<=k):Below B a w':=h.grown e d (λj l=>by grind)
def aAo {t:Nat}(y:t=54\/t=51)(b off n i g w)(h:BS w (some$ qR b off) n i g)(hn:n<=1048576):
 qC t #[qS (some$ qR b off) n i] w λe w'=>∃a f,e=.returned (qS a n f)/\OB w' w.heap.size (qS a n f) g/\qY w w':=by
 rcases y with rfl|rfl
 all_goals
  let⟨H,hi,D,E,G⟩:=info_parts uG;have x:=h.1;have A:=h.bw$ (Below.refl w.heap.size w).alloc aQ$ .cells #[] 5;have j:=zh$ aLn A;have l:=zh$ ints_oneCell .u8 g;have k:=zh$ aCi w;have p:=zh$ show(g.map$ Value.int .u8).length=n*1 from Jc;have:=λ(w:qw)=>Lib.run_eql_slice_nil (P:=prog) w 28 5 (qe b off) n i 0 0 underlying28
  delta qC;go_in
  go_wp2_with (at_builtin;refine wpList_append_own _ rfl _ _ 28 rfl w.heap.size 5 H (.int .u8 0) 1 1 underlying28 hi D E G rfl Ja _ 0 [] rfl k.o (qR b off) n i (g.map$ Value.int .u8) rfl p.o j.o l.o Jf J Jb ?_;intro I B d q _)
  simp only[Nat.zero_add,List.nil_append]at d;have s:=sM d;go_ret;obtain⟨C,f,u⟩:=s;refine⟨C,f,by rw[<-u];rfl,⟨?_,h.2.2.1⟩,?_⟩
  .rw[x,<-u];exact d
  .exact aFg ((Below.refl w.heap.size w).alloc aQ _) q Jb aQ
def aNm:=@aAo _$ .inl rfl
def aG8:=@aAo _$ .inr rfl
def cB (w:qw)(base:Nat)(v1 v2 v3:Value)(x1 x2 x3:qi):Prop:=
 OB w base v1 x1/\OB w base v2 x2/\OB w base v3 x3/\(∀k j,v1.ownBlock=some k->v2.ownBlock=some j->k<j)/\(∀k j,v1.ownBlock=some k->v3.ownBlock=some j->k<j)/\∀k j,v2.ownBlock=some k->v3.ownBlock=some j->k<j
def OB.bw {w w':qw}{zs:qi}(h:OB w base v zs)(d:qY w w'):OB w' base v zs:=by
 refine⟨?_,h.2⟩;obtain⟨a,f|⟨g,b,e,s,p,q,i,j,k,l⟩⟩:=h.1
 .exact⟨a,.inl f⟩
 .refine⟨a,.inr ⟨g,b,e,s,p,?_,i,j,k,l⟩⟩;exact Blk.bw (w:=w) q d
def OB.mono {w:qw}{base':Nat}{zs:qi}(h:OB w base v zs)(d:base'<=base):OB w base' v zs:=by
 refine⟨?_,h.2⟩;obtain⟨a,f|⟨g,b,e,q,s,p,i,j,k,l⟩⟩:=h.1
 .exact⟨a,.inl f⟩
 .exact⟨a,.inr ⟨g,b,e,q,J,p,i,j,k,l⟩⟩
def OB.other {w:qw}{zs:qi}(h:OB w base v zs)(a u)(ha:a.block<base):OB (w.setCell a u) base v zs:=by
 refine⟨?_,h.2⟩;obtain⟨b,f|⟨g,d,e,s,p,q,i,j,k,l⟩⟩:=h.1
 .exact⟨b,.inl f⟩
 .exact⟨b,.inr ⟨g,d,e,s,p,Blk.other (w:=w) q a u J,i,j,k,l⟩⟩
def OB.lt {w:qw}{d:qi}(h:OB w base v d):∀k,v.ownBlock=some k->base<=k/\k<w.heap.size:=h.1.lt
theorem OB.bs {w:qw}{zs:qi}(h:OB w base (qS a n cap) zs):BS w a n cap zs:=by
 obtain⟨x,⟨b,j⟩|⟨g,p,f,e,u,l,k,q,s,t⟩⟩:=h.1
 .simp at b;obtain⟨rfl,rfl,rfl⟩:=b;exact⟨j,xC _,h.2,λd=>absurd rfl d,aQ⟩
 .simp at e;obtain⟨rfl,rfl,rfl⟩:=e;refine⟨rfl,J,h.2,λd=>⟨g,0,rfl,λi hi=>?_⟩,k⟩;rw[Nat.zero_add,Blk.cell (w:=w) l]
  have:f.toList[i]?=(zs.map$ Value.int .u8)[i]?:=by
   grind
  grind
def us (op:Int):Int:=
 if op=1\/op=25 then 0 else if op=2\/op=3\/op=21\/op=22 then 5 else if op=6\/(14<=op/\op<=19) then 7
 else if op=20\/op=23\/op=24 then 4 else if 4<=op/\op<=13 then 3 else -1
def aC7 (op)(h:op<=0\/26<=op):us op=-1:=by
 unfold us;rw[if_neg J,if_neg J,if_neg J,if_neg J,if_neg J]
theorem aWb (op):us op=-1\/us op=0\/us op=3\/us op=4\/us op=5\/us op=7:=by
 unfold us;split
 .simp
 .split
  .simp
  .grind
def wR (op:Int):op<=0\/26<=op\/op=1\/op=2\/op=3\/op=4\/op=5\/op=6\/op=7\/op=8\/op=9\/op=10\/op=11\/op=12\/op=13\/op=14\/op=15\/op=16\/op=17\/op=18\/op=19\/op=20\/op=21\/op=22\/op=23\/op=24\/op=25:=J
def mD (u:Int):Int:=if u%2=1 then 7 else 0
def mA (u:Int):Int:=if u/2%2=1 then 7 else 0
def mI (u:Int):Int:=if u/4=1 then 65535 else 0
def okU (u d a i:Int):Bool:=decide$ 0<=u/\0<=d/\d<=mD u/\0<=a/\a<=mA u/\0<=i/\i<=mI u
def okI (op d a i:Int):Bool:=okU (us op) d a i
def aJd (op w):
 qC 252 #[qI op] w λe w'=>e=.returned (qI$ us op)/\w=w':=by
 rcases wR op with h|h|rfl|rfl|rfl|rfl|rfl|rfl|rfl|rfl|rfl|rfl|rfl|rfl|rfl|rfl|rfl|rfl|rfl|rfl|rfl|rfl|rfl|rfl|rfl|rfl|rfl
 .have p:=zh$ aC7 op$ Or.inl h;have e1:(op==1)=false:=Jc
  have k:(op==25)=false:=Jc
  have e2:(op==2)=false:=Jc
  have e3:(op==3)=false:=Jc
  have q:(op==21)=false:=Jc
  have f:(op==22)=false:=Jc
  have e6:(op==6)=false:=Jc
  have j:(op==20)=false:=Jc
  have l:(op==23)=false:=Jc
  have d:(op==24)=false:=Jc
  go_enter func252,ntmps252
  go_wp2;go_ret;exact⟨aJ p.o.symm,rfl⟩
 .have p:=zh$ aC7 op$ Or.inr h;have e1:(op==1)=false:=Jc
  have k:(op==25)=false:=Jc
  have e2:(op==2)=false:=Jc
  have e3:(op==3)=false:=Jc
  have q:(op==21)=false:=Jc
  have f:(op==22)=false:=Jc
  have e6:(op==6)=false:=Jc
  have j:(op==20)=false:=Jc
  have l:(op==23)=false:=Jc
  have d:(op==24)=false:=Jc
  go_enter func252,ntmps252
  go_wp2;go_ret;exact⟨aJ p.o.symm,rfl⟩
 all_goals
  go_enter func252,ntmps252
  go_wp2;go_ret;exact⟨aJ Ja,rfl⟩
def aG4 (op d a i w):
 qC 172 #[.agg$ qW op d a i] w (qB w$ .bool$ okI op d a i):=by
 have f:=zh$ aJd op;unfold okI;have hu:=aWb op;generalize us op=u at *;rcases hu with rfl|rfl|rfl|rfl|rfl|rfl
 all_goals
  go_enter func172,ntmps172
  go_wp2_with (go_at_call 252;refine(f.o _).mono ?_;rintro e b ⟨rfl,rfl⟩)
  all_goals
   go_ret;refine⟨aA ?_,bal⟩;rw[xJ];simp[okU,mD,mA,mI];try omega
