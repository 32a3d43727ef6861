import Derived.Deep.RegionWith
import Derived.Test.YtdjdcdnjjmjonaaGreatR00
set_option linter.all false
set_option maxHeartbeats 2000000
namespace Go.Proofs.YtdjdcdnjjmjonaaGreat
open Go.RowKit
open Go.Proofs.Tryz
set_option maxRecDepth 100000
variable {a k:Int}{b c:Value}{g j m n:Nat}{rs:List Rg}
def aVb (l:Int)(e:8<=l)(d:l<=14):(32:Int) ∣ (2:Int)^(l-3).toNat:=by
 have:l=8\/l=9\/l=10\/l=11\/l=12\/l=13\/l=14:=J
 rcases this with rfl|rfl|rfl|rfl|rfl|rfl|rfl<;>decide
def aR2 (l:Int)(e:5<=l)(d:l<=14):(32:Int) ∣ (2:Int)^l.toNat:=by
 have:l=5\/l=6\/l=7\/l=8\/l=9\/l=10\/l=11\/l=12\/l=13\/l=14:=J
 rcases this with rfl|rfl|rfl|rfl|rfl|rfl|rfl|rfl|rfl|rfl<;>decide
theorem aD4 (a d l)(p:5<=l)(f:l<=14)(ha:0<=a)(t:a<d)(u:d<=262144):a+cnt l (qOf a d l)<=d/\(32:Int) ∣ cnt l (qOf a d l):=by
 obtain⟨P,b⟩:∃P,(2:Int)^(l-3).toNat=P:=⟨_,rfl⟩;obtain⟨N,g⟩:∃N,(2:Int)^l.toNat=N:=⟨_,rfl⟩;let⟨j,w,x,y,k,A,B⟩:=qU a l P N p f b g ha J;have:a+cnt l 0<=d/\(32:Int) ∣ cnt l 0:=by rw[nI];exact⟨J,Int.dvd_zero _⟩
 by_cases i:l<8
 .by_cases hc:a%N=0/\a+N<=d
  .have e:qOf a d l=255:=by unfold qOf;rw[if_pos i,g,if_pos hc]
   have e2:cnt l 255=N:=by unfold cnt;rw[b,show uM 255=8 from rfl,j];rfl
   rw[e,e2];refine⟨hc.2,?_⟩;rw[<-g];exact aR2 l p f
  .have e:qOf a d l=0:=by unfold qOf;rw[if_pos i,g,if_neg hc]
   grind
 .by_cases q:a%P=0
  .have e:qOf a d l=bT (cR a l) (jOf a d l):=by unfold qOf;rw[if_neg i,b,if_pos q]
   have s:((jOf a d l:Nat):Int)<=(d-a)/P/\cR a l+jOf a d l<=8:=by
    have:0<=(d-a)/P:=Int.ediv_nonneg J J;unfold jOf
    grind
   rw[e,oD l P b _ _ k s.2];have:=Int.mul_le_of_le_ediv J s.1;refine⟨J,?_⟩;rw[<-b];exact Int.dvd_mul_of_dvd_right$ aVb l J f
  .have e:qOf a d l=0:=by unfold qOf;rw[if_neg i,b,if_neg q]
   grind
theorem mB (a f)(ha:0<=a)(d:a<f)(e:f<=262144):∀n:Nat,n<=10->∀b l q,bZ a f n=some (b,l,q)->5<=l/\l<=14/\b=bE a l/\q=qOf a f l
 | 0,_=>λb l q h=>by rw[fE]at h;cases h
 | n+1,hn=>by
   have:=mB a f ha d e n J;intro b l q h;rw[fD]at h;unfold keep at h;split at h
   .grind
   .grind
theorem uH (a b)(ha:0<=a)(f:a+32<=b)(d:a%32=0):∀n:Nat,∃x,bZ a b (n+1)=some x
 | 0=>by
   have e:qOf a b 5=255:=by
    unfold qOf
    grind
   refine⟨(bE a 5,5,255),?_⟩;rw[fD,fE];show keep none (bE a 5) 5 (qOf a b 5)=_;rw[e];rfl
 | n+1=>by
   let⟨x,hx⟩:=uH a b ha f d n;rw[fD];unfold keep
   grind
theorem aKa (a g)(ha:0<=a)(d:a<g)(e:g<=262144)(f:a%32=0)(i:g%32=0):
 ∃b l q,bZ a g 10=some (b,l,q)/\5<=l/\l<=14/\q<256/\32<=cnt l q/\a+cnt l q<=g/\cnt l q%32=0/\b=bE a l/\q=qOf a g l:=by
 let⟨⟨b,l,q⟩,hx⟩:=uH a g ha J f 9;let⟨j,k,s,t⟩:=mB a g ha d e 10 aQ b l q hx;let⟨u,w,x,y⟩:=tQ a g ha J 10 aQ b l q hx;let⟨p,c2⟩:=aD4 a g l j k ha d e
 grind
def aJx (s:CSt)(next:Int->List Rg)(a:Int):List Rg:=
 match s with
 | some (b,l,q)=>(b,l,255-(q:Int),false,false,false)::next (a+cnt l q)
 | none=>[]
def gA (en:Int):Nat->Int->List Rg
 | 0,_=>[]
 | n+1,a=>if a<en then aJx (bZ a en 10) (gA en n) a else []
def pQ (b n a)(h:¬a<b):gA b n a=[]:=by
 cases n with
 | zero=>rfl
 | succ n=>exact if_neg h
def nH (f n a b l q)(h:a<f)(d:bZ a f 10=some (b,l,q)):gA f (n+1) a=(b,l,255-(q:Int),false,false,false)::gA f n (a+cnt l q):=by
 have e:gA f (n+1) a=aJx (bZ a f 10) (gA f n) a:=if_pos h;rw[e,d];rfl
def grn (x:Int):Bool:=decide$ 0<=x/\x%32=0
def gK (x w):
 qC 284 #[qI x] w λe w'=>e=.returned (.bool$ grn x)/\w=w':=by
 by_cases h:0<=x
 .have d:=zh (show grn x=decide (x%32=0)by unfold grn;simp[h])
  delta qC;go_in
  go_wp2;go_ret;refine⟨aA ?_,rfl⟩;rw[d.o];rw[xJ];simp
 .have d:=zh (show grn x=false by unfold grn;simp;omega)
  delta qC;go_in
  go_wp2;go_ret;exact⟨aA d.symm,rfl⟩
def pS (w:qw)(ok:Bool)(L:List Rg)(e:Ending)(w':qw):Prop:=
 ∃(x:qO) (m cap:Nat),e=.returned (.tuple #[qS x m cap,.bool ok])/\ORg w' w.heap.size (qS x m cap) L/\qY w w'
def vK (w base):ORg w base (qS none 0 0) []:=⟨⟨rfl,.inl ⟨rfl,rfl⟩⟩,λ_ h=>by cases h⟩
def vC (f s:Int):Bool:=grn f&&grn s&&decide (s<=262144-f)
def aAe (f s:Int):List Rg:=gA (f+s) (s/32).toNat f
set_option maxRecDepth 100000 in
def aHc (f s w)(hf:0<=f)(V:f%32=0)(hs:0<=s)(ak:s%32=0)(am:s<=262144-f):
 qC 297 #[qI f,qI s] w (pS w true$ aAe f s):=by
 let⟨i0,hi,ah,ai,aj⟩:=info_parts aLa;have G1:=zh$ gK f;have G2:=zh$ gK s;have e1:grn f=true:=by unfold grn;simp;omega
 have e2:grn s=true:=by unfold grn;simp;omega
 rw[e1]at G1;rw[e2]at G2;clear e1 e2;let⟨L,hL⟩:=aO$ aAe f s;rw[<-hL];have HL:=zh hL;clear hL
 delta qC;go_in
 go_wp2_with fail
 apply(G1 w).mono;rintro e w1 ⟨rfl,rfl⟩;go_wp2_with fail
 apply(G2 w).mono;rintro e w1 ⟨rfl,rfl⟩;go_wp2_with fail
 go_loopw [6,8] (λr x wr=>∃(A:qO) (m d:Nat) (rs:List Rg) (n:Nat) (a:Int),r=qS A m d/\x=qI a/\f<=a/\a<=f+s/\a%32=0/\f+s-a<=32*(n:Int)/\m+n<=8192/\ORg wr w.heap.size (qS A m d) rs/\L=rs++gA (f+s) n a/\qY w wr) (λ_ x _=>(f+s-intOf x).toNat)
 .exact⟨none,0,0,[],(s/32).toNat,f,rfl,rfl,J,J,V,J,J,vK _ _,by rw[HL.o];rfl,brf⟩
 .obtain⟨A,m,d,rs,n,a,rfl,rfl,ha,an,a3,hn,ao,U,u,k⟩:=hrel;have H:=(eV U).1;by_cases B:a<f+s
  .have⟨b,l,q,hF,hl,a1,hq,ae,af,ag,hb,_⟩:=aKa a (f+s) J B J a3 J;obtain⟨n,rfl⟩:∃n',n=n'+1:=⟨n-1,J⟩;rw[nH (f+s) n a b l q B hF]at u
   have:0<=b/\b<=262144:=by
    have:=mG a l _ hl a1 rfl;have:=pow_pos l.toNat;rw[hb];unfold bE;omega
   clear hb;have HW:=zh$ aH3 a (f+s) wr J B J b l q hF;have N:=zh u;have HO:=zh U;have HB:=zh k;have HC:=zh$ gF b l q false false false;have p:=zh H;have ab:=k.size;let⟨c,a0⟩:=aO$ cnt l q;rw[<-a0]at ae af ag HC N;have:=zh a0;have X:=zh$ show wfi b/\wfi l/\wfi (255-(q:Int))from Jh;have HQ:=zh hq;clear u U k hF H a0;go_wp2_with fail
   apply HW.mono;rintro e Y ⟨rfl,C⟩;have ac:=zh$ HB.trans$ C.mono ab;let⟨o,ho⟩:=aO$ 255-(q:Int);rw[<-ho]at HC N X⊢;have D:=aDc (S:=λ_=>False) (aG C) HO λ_ _=>id;have y:=D.1.alloc$ .cells #[qI b,qI l,qI o,.bool false,.bool false,.bool false] 231;have E:=zh$ y.alloc$ .cells #[qI b,qI l,qI o,.bool false,.bool false,.bool false] 231;rw[p.o]at E;have Q:Zh ((dS (b,l,o,false,false,false)).length=1*6):=rfl;have t:=zh$ aPi (Y.alloc$ .cells #[qI b,qI l,qI o,.bool false,.bool false,.bool false] 231) (b,l,o,false,false,false);have a2:=zh$ aSf (b,l,o,false,false,false);have a7:=zh D.2;have Z:=zh D.1.lt;have KB:=zh$ (Blk.new Y #[qI b,qI l,qI o,.bool false,.bool false,.bool false] 231).alloc$ .cells #[qI b,qI l,qI o,.bool false,.bool false,.bool false] 231;have:=C.size;have aa:=zh$ (ac.o.alloc J$ .cells #[qI b,qI l,qI o,.bool false,.bool false,.bool false] 231).alloc Jc$ .cells #[qI b,qI l,qI o,.bool false,.bool false,.bool false] 231;try unfold qY at *
   simp only[xF]at t;clear D y C ho;go_wp2_with (at_builtin;refine wpList_append_own _ rfl _ _ 118 rfl w.heap.size 231 i0 (.agg #[qI 0,qI 0,qI 0,.bool false,.bool false,.bool false]) 6 32 underlying118 hi ah ai aj rfl Ja (qS A m d) m (fM rs) rfl E.o (qr Y 0) 1 1 (dS (b,l,o,false,false,false)) rfl Q.o t.o a2.o Jf J Jc ?_;intro v' w3 i I _;obtain⟨A',ad,he⟩:=mU i;subst he;have y:=aEh (W:=Y) (v:=qS A m d) (g:=(b,l,o,false,false,false)) a7.o X.o (by rw[p.o];exact i);have t3:=lX I;have G:∀j,(qS A m d).ownBlock=some j->w.heap.size<=j:=λj hj=>(Z.o j hj).1;have K:∀j,(qS A m d).ownBlock=some j->j<Y.heap.size:=λj hj=>(Z.o j hj).2;have M:=aC t3 KB.o λe=>jK$ K _ e;have P:=t3.size;simp only[xF]at P;have a8:=zh$ aF aa.o t3 G Jc;have a9:=zh y;have:=zh M;obtain⟨q1,q2,q3,q4,q5,q6,q7⟩:=M.six';clear y t3 G K i I M)
   apply(HC w3 HQ hl a1).mono;rintro e w4 ⟨rfl,O⟩;have a5:=zh$ a8.trans$ O.mono J;have a6:=zh$ aDc (S:=λ_=>False) (aG O) a9 λ_ _=>id;clear O;go_wp2_with fail
   go_roundw
   .exact⟨A',m+1,ad,rs++[(b,l,o,false,false,false)],n,a+c,rfl,by go_num,J,J,J,J,J,a6.o,by rw[N.o];simp,a5.o⟩
   .simp[intOf];omega
  .have a4:L=rs:=by rw[u,pQ _ _ _ B,List.append_nil]
   subst a4;have HO:=zh U;have HB:=zh k;clear u U k;go_wp2
   go_ret2
   exact⟨A,m,d,rfl,HO,HB⟩
def aJm (f s w)(q:-9223372036854775808<=f/\f<=9223372036854775807)(h:vC f s=false):
 qC 297 #[qI f,qI s] w (pS w false []):=by
 have d:=zh$ gK f;have i:=zh$ gK s;have p:=zh$ vK w w.heap.size;unfold vC at h;cases e1:grn f
 .rw[e1]at d
  delta qC;go_in
  go_wp2_with fail
  apply(d w).mono;rintro e l ⟨rfl,rfl⟩;go_wp2_with fail
  go_ret2
  exact⟨none,0,0,rfl,p,brf⟩
 .rw[e1]at d h;have:0<=f:=by unfold grn at e1;simp at e1;omega
  cases e2:grn s
  .rw[e2]at i
   delta qC;go_in
   go_wp2_with fail
   apply(d w).mono;rintro e l ⟨rfl,rfl⟩;go_wp2_with fail
   apply(i w).mono;rintro e l ⟨rfl,rfl⟩;go_wp2_with fail
   go_ret2
   exact⟨none,0,0,rfl,p,brf⟩
  .rw[e2]at i h;have:262144-f<s:=by simp at h;omega
   delta qC;go_in
   go_wp2_with fail
   apply(d w).mono;rintro e l ⟨rfl,rfl⟩;go_wp2_with fail
   apply(i w).mono;rintro e l ⟨rfl,rfl⟩;go_wp2_with fail
   go_ret2
   exact⟨none,0,0,rfl,p,brf⟩
def cvL (f s:Int):List Rg:=if vC f s then aAe f s else []
def aJn (f s w)(d:-9223372036854775808<=f/\f<=9223372036854775807):
 qC 297 #[qI f,qI s] w (pS w (vC f s)$ cvL f s):=by
 unfold cvL;cases e:vC f s
 .exact aJm f s w d e
 .unfold vC grn at e;simp at e;exact aHc f s w J J J J J
def ci (i0 j i:Nat):Nat:=min (i-i0) j
def aVx:∀(d:Fin 8)(j:Fin 9)(i:Fin 8),(d.val<=i.val/\i.val<d.val+j.val)->(ci d j (i.val+1)=ci d j i+1/\2^i.val-1-bT d (ci d j i)=2^(i.val+1)-1-bT d (ci d j$ i.val+1)):=by decide +kernel
def aTh:∀(d:Fin 8)(j:Fin 9)(i:Fin 8),((i.val<d.val\/d.val+j.val<=i.val)/\d.val+j.val<=8)->(ci d j (i.val+1)=ci d j i/\2^i.val-1-bT d (ci d j i)+2^i.val=2^(i.val+1)-1-bT d (ci d j$ i.val+1)):=by decide +kernel
def aXi (a)(e:a<8)(j)(d:j<9)(i)(hi:i<8)(h:a<=i/\i<a+j):ci a j (i+1)=ci a j i+1/\2^i-1-bT a (ci a j i)=2^(i+1)-1-bT a (ci a j$ i+1):=aVx ⟨a,e⟩ ⟨j,d⟩ ⟨i,hi⟩ h
def aVw (a)(e:a<8)(j)(d:j<9)(i)(hi:i<8)(h:(i<a\/a+j<=i)/\a+j<=8):ci a j (i+1)=ci a j i/\2^i-1-bT a (ci a j i)+2^i=2^(i+1)-1-bT a (ci a j$ i+1):=aTh ⟨a,e⟩ ⟨j,d⟩ ⟨i,hi⟩ h
def aQz:∀d,d<8->∀j,j<9->d+j<=8->ci d j 8=j:=by decide +kernel
def jj (a en l:Int):Nat:=if a%(2:Int)^(l-3).toNat=0 then jOf a en l else 0
def aO0 (a b l)(h:8<=l):qOf a b l=bT (cR a l) (jj a b l):=by
 unfold qOf jj;rw[if_neg J];split
 .rfl
 .rw[aCc]
def aXa (a b l)(hi:cR a l<8):cR a l+jj a b l<=8:=by
 unfold jj;split
 .unfold jOf;omega
 .omega
theorem aR6 (a g l P N)(t:5<=l)(f:l<=14)(e:(2:Int)^(l-3).toNat=P)(s:(2:Int)^l.toNat=N)(ha:0<=a)(u:a<g)(w:g<=262144)(i:Nat)(hi:i<8):
 (a<=bE a l+(i:Int)*P/\bE a l+(i:Int)*P+P<=g/\a%P=0) ↔ (cR a l<=i/\i<cR a l+jj a g l):=by
 let⟨k,x,y,A,B,j,C⟩:=qU a l P N t f e s ha J;unfold jj;rw[e];by_cases q:a%P=0
 .rw[if_pos q];have p:bE a l=a-a%N:=by unfold bE;rw[s]
  have d:=j q
  have e1:(a<=bE a l+(i:Int)*P) ↔ cR a l<=i:=by
   rw[p,d];constructor
   .intro h;have:(cR a l:Int)*P<=(i:Int)*P:=J
    have:=Int.le_of_mul_le_mul_right this J;omega
   .intro h;have:(cR a l:Int)*P<=(i:Int)*P:=Int.mul_le_mul_of_nonneg_right J J;omega
  have e2:cR a l<=i->((bE a l+(i:Int)*P+P<=g) ↔ ((i-cR a l:Nat):Int)<(g-a)/P):=by
   intro h;rw[p,d];have e3:((i-cR a l:Nat):Int)=(i:Int)-(cR a l:Int):=J
   have e4:(((i:Int)-(cR a l:Int))+1)*P=(i:Int)*P-(cR a l:Int)*P+P:=by grind
   rw[e3];constructor
   .intro h;have:=Int.le_ediv_of_mul_le (c:=P) (a:=(i:Int)-(cR a l:Int)+1) (b:=g-a) J J;omega
   .intro h;have:(i:Int)-(cR a l:Int)+1<=(g-a)/P:=J
    have:=Int.mul_le_of_le_ediv J this;omega
  have e5:jOf a g l=min (8-cR a l) ((g-a)/P).toNat:=by unfold jOf;rw[e]
  grind
 .grind
theorem rX (a N:Int)(d:0<=a)(e:0<N):a/N*N=a-a%N:=by
 have:=Int.mul_ediv_add_emod a N
 grind
def uG:(prog.info? 5).map (λi=>(i.zero,i.size,i.bytes))=some (some$ .int .u8 0,1,1):=Je
def aT5 (n):(madeCells (Value.cells$ .int .u8 0)$ n*1)=((List.replicate n (0:Int)).map$ Value.int .u8).toArray:=by
 apply Array.ext
 .simp[size_madeCells]
 .intro i d e;simp[madeCells,Value.cells,Nat.mod_one]
theorem tZ {w:qw}{base:Nat}(h:w.ownsRow base 5 1 (qS (qP g) n n) n (madeCells (Value.cells$ .int .u8 0)$ n*1).toList):Row8 w g (List.replicate n 0):=by
 obtain⟨s,h|⟨i,f,a,b,q,d,j,k,l,p⟩⟩:=h
 .grind
 .simp at b;obtain⟨rfl,rfl⟩:=b;unfold Row8;rw[d]
  have e:a.toList=(madeCells (Value.cells$ .int .u8 0)$ n*1).toList:=by
   grind
  have e2:a=madeCells (Value.cells$ .int .u8 0) (n*1):=Array.toList_inj.1 e;rw[e2,aT5]
def bH {w w':qw}(h:w.grownBy w' none):qY w w':=brf.grown h aQ (λk d=>by cases d)
def mok (n1 n2 n3:Nat):Bool:=decide$ n1<=16384/\n2<=16384/\n3<=5000
def lJ (a1 a2 a3 n1 c1 n2 c2 n3 c3 w):
 qC 64 #[.agg$ qV a1 n1 c1 a2 n2 c2 a3 n3 c3] w (qB w$ .bool$ mok n1 n2 n3):=by
 by_cases f:(n1:Int)<=16384
 all_goals by_cases e:(n2:Int)<=16384
 all_goals by_cases i:(n3:Int)<=5000
 all_goals
  let⟨r,a⟩:=aO$ mok n1 n2 n3;have d:Zh (r=mok n1 n2 n3):=a;rw[<-a];clear a
  delta qC;go_in
  go_wp2;go_ret;refine⟨aA ?_,bal⟩;rw[d.o];unfold mok;simp;try omega
def zH (a1 a2 a3 n1 c1 n2 c2 n3 c3 w):
 qC 185 #[.agg$ qV a1 n1 c1 a2 n2 c2 a3 n3 c3] w (qB w$ .bool$ mok n1 n2 n3):=by
 by_cases f:(n1:Int)<=16384
 all_goals by_cases e:(n2:Int)<=16384
 all_goals by_cases i:(n3:Int)<=5000
 all_goals
  let⟨r,a⟩:=aO$ mok n1 n2 n3;have d:Zh (r=mok n1 n2 n3):=a;rw[<-a];clear a
  delta qC;go_in
  go_wp2;go_ret;refine⟨aA ?_,bal⟩;rw[d.o];unfold mok;simp;try omega
def Blk.three {w:qw}{a:Value}{t:TypeId}(h:Blk w g #[a,b,c] t):
 w.cell? (qR g 0)=some a/\w.cell? (qR g 1)=some b/\w.cell? (qR g 2)=some c/\∀i,w.frozen? (qR g i)=false:=
 ⟨by rw[h.cell];rfl,by rw[h.cell];rfl,by rw[h.cell];rfl,λi=>h.frozen i⟩
def mL (a n b l w)(f:0<=l)(d:l<=1048576)(hn:n<=maxLen):
 qC 60 #[qS a n b,qI l] w λe g=>e=.returned (qI$ if l<n then -1 else l-n)/\g=w:=by
 unfold maxLen at hn;by_cases h:l<n
 .delta qC;go_in
  go_wp2;go_ret;exact⟨rfl,rfl⟩
 .delta qC;go_in
  go_wp2;go_ret;exact⟨rfl,rfl⟩
def jI (a n A g w)(h:BS w a n A g)(hn:n<=1048576:=by omega):
 qC 79 #[qS a n A] w λe w'=>e=.returned (qS (qP w.heap.size) n n)/\Row8 w' w.heap.size g/\qY w w':=by
 let⟨M,hi,B,G,N⟩:=info_parts uG;obtain⟨j,O,P,hc,_⟩:=h;by_cases t:n=0
 .subst t;obtain rfl:g=[]:=xE j;go_enter func79,ntmps79
  go_wp2_with (at_make;refine wpList_make_full _ rfl _ _ 28 rfl (qs w) 5 M (.int .u8 0) 1 underlying28 hi B G .i64 .i64 _ _ 0 rfl rfl rfl rfl J Jf aQ ?_;intro D l p)
  have f:=tZ l;have d:=bH p;go_loop [4] (λi=>i=qI 0) (λ_=>0)
  .rfl
  .obtain rfl:=hrel;go_wp2;go_ret;exact⟨rfl,f,d⟩
 .obtain⟨b,off,rfl,hd⟩:=hc t;go_enter func79,ntmps79
  go_wp2_with (at_make;refine wpList_make_full _ rfl _ _ 28 rfl w.heap.size 5 M (.int .u8 0) 1 underlying28 hi B G .i64 .i64 _ _ n rfl rfl rfl rfl (by rw[N];omega) Jf aQ ?_;intro D l p)
  have f:=tZ l;have d:=bH p;go_loopw [4] (λi wr=>∃k:Nat,k<=n/\i=qI k/\Row8 wr (qs w) (aN g k)/\qY w wr) (qf n)
  .exact⟨0,xC _,rfl,by rw[kY,j];exact f,d⟩
  .obtain⟨k,I,rfl,q,u⟩:=hrel;by_cases s:k<n
   .have y:(k:Int)<(n:Int):=J
    have:qN wr b (off+k)=some (.int .u8$ g.getD k 0):=(u.cell$ xD w _$ hd k s).trans$ hd k s;have:qn wr w k=some (.int .u8$ (aN g k).getD k 0):=q.cell k (by rw[rG];omega);have:wr.frozen? (qh w k)=false:=q.frozen k;have x:=q.set k$ g.getD k 0;rw[rE g k J]at x;have C:qY w (wr.setCell (qh w k)$ .int .u8$ g.getD k 0):=u.setCell aQ _;have H:=x;have E:=C;generalize g.getD k 0=z at *;generalize (aN g k).getD k 0=K at *;go_wp2
    go_roundw
    .exact⟨k+1,J,by go_num,H,E⟩
    .simp[qf,intOf];omega
   .have e:Zh (k=n):=by show k=n;omega
    go_wp2;go_ret;exact⟨rfl,by rw[e.o,<-j,rH]at q;exact q,u⟩
theorem aDi (xs d:qi)(k)(h:xs.take k=d.take k)(hx:k<xs.length)(e:k<d.length)(f:xs.getD k 0=d.getD k 0):xs.take (k+1)=d.take (k+1):=by
 rw[List.take_succ_eq_append_getElem hx,List.take_succ_eq_append_getElem e,h]
 grind
def aCa {y:Nat}(D:y=55\/y=66)(a j n A s I xs g w)(h:BS w a n A xs)(E:BS w j s I g):
 qC y #[qS a n A,qS j s I] w (qB w$ .bool$ decide$ xs=g):=by
 rcases D with rfl|rfl
 all_goals
  obtain⟨M,Q,X,hc,_⟩:=h;obtain⟨P,S,Y,O,_⟩:=E;unfold maxLen at Q S;by_cases U:n=s
  .subst U;have t:((n:Int) !=(n:Int))=false:=Jb
   by_cases f:n=0
   .subst f;obtain rfl:xs=[]:=xE M;obtain rfl:g=[]:=xE P
    delta qC;go_in
    go_wp2;go_loop [5] (λi=>i=qI 0) (λ_=>0)
    .rfl
    .obtain rfl:=hrel;go_wp2;go_ret;exact⟨rfl,brf⟩
   .obtain⟨b,off,rfl,hd⟩:=hc f;obtain⟨N,W,rfl,K⟩:=O f
    delta qC;go_in
    go_wp2;go_loopw [5] (λi wr=>∃k:Nat,k<=n/\i=qI k/\xs.take k=g.take k/\qY w wr) (qf n)
    .exact⟨0,xC _,rfl,Jb,brf⟩
    .obtain⟨k,G,rfl,x,l⟩:=hrel;by_cases d:k<n
     .have B:(k:Int)<(n:Int):=J
      have u:qN wr b (off+k)=some (.int .u8$ xs.getD k 0):=(l.cell$ xD w _$ hd k d).trans$ hd k d;have:qN wr N (W+k)=some (.int .u8$ g.getD k 0):=(l.cell$ xD w _$ K k d).trans$ K k d;by_cases q:xs.getD k 0=g.getD k 0
      .have hS:=aDi xs g k x J J q;have C:Zh (xs.take (k+1)=g.take (k+1)):=hS;rw[q]at u;generalize g.getD k 0=z at *;have V:(z !=z)=false:=Jb
       go_wp2
       go_quiet (fail)
       go_wp2
       go_roundw
       .exact⟨k+1,J,by go_num,C,below_drewN l _⟩
       .simp[qf,intOf];omega
      .have p:Zh (decide (xs=g)=false):=by
        show _=_;simp;intro e;exact q (by rw[e])
       have V:(xs.getD k 0 !=g.getD k 0)=true:=by simpa using q
       generalize g.getD k 0=z at *;generalize xs.getD k 0=H at *;go_wp2
       go_quiet (fail)
       go_wp2;go_ret;exact⟨aA p.symm,below_drewN l _⟩
     .have p:Zh (decide (xs=g)=true):=by
       show _=_;simp;rw[xG J,xG J]at x;exact x
      go_wp2;go_ret;exact⟨aA p.symm,l⟩
  .have p:Zh (decide (xs=g)=false):=by
    show _=_;simp;intro e;rw[e]at M;omega
   have t:((n:Int) !=(s:Int))=true:=Jc
   delta qC;go_in
   go_wp2;go_ret;exact⟨aA p.symm,brf⟩
def gQ:=@aCa _$ .inl rfl
def oW (a n b)(l:Int)(w)(f:0<=l)(i:l<=1048576)(hn:n<=maxLen)(h:l<n):
 qC 60 #[qS a n b,qI l] w λe w'=>e=.returned (qI (-1))/\w=w':=
 (mL a n b l w f i hn).mono λe w' d=>⟨by rw[d.1,if_pos h],d.2.symm⟩
theorem fR (a n b)(l:Int)(w)(f:0<=l)(i:l<=1048576)(hn:n<=maxLen)(h:n<=l:=by omega):
 qC 60 #[qS a n b,qI l] w λe w'=>e=.returned (qI$ l-n)/\w=w':=
 (mL a n b l w f i hn).mono λe w' d=>⟨by grind,d.2.symm⟩
def aN2 (a1 a2 a3 n1 c1 n2 c2 n3 c3 l w)(p:0<=l)(q:l<=1048576)(d:n1<=maxLen)(f:n2<=maxLen)(i:n3<=maxLen)(h:(n1:Int)+n2+n3<=l):
 qC 19 #[.agg$ qV a1 n1 c1 a2 n2 c2 a3 n3 c3,qI l] w (qB w$ qI$ l-n1-n2-n3):=by
 delta qC;go_in
 go_wp2_with fail
 apply(fR a1 n1 c1 l _ J J d).mono;rintro e a ⟨rfl,rfl⟩;go_wp2_with fail
 apply(fR a2 n2 c2 _ _ J J f).mono;rintro e a ⟨rfl,rfl⟩;go_wp2_with fail
 apply(fR a3 n3 c3 _ _ J J i).mono;rintro e a ⟨rfl,rfl⟩;go_wp2;go_ret;exact⟨rfl,bal⟩
def aN1 (a1 a2 a3 n1 c1 n2 c2 n3 c3 l w)(p:0<=l)(t:l<=1048576)(d:n1<=maxLen)(f:n2<=maxLen)(i:n3<=maxLen)(h:l<(n1:Int)+n2+n3):
 qC 19 #[.agg$ qV a1 n1 c1 a2 n2 c2 a3 n3 c3,qI l] w (qB w$ qI (-1)):=by
 by_cases s:l<(n1:Int)
 .delta qC;go_in
  go_wp2_with fail
  apply(oW a1 n1 c1 l _ J J d J).mono;rintro e a ⟨rfl,rfl⟩;go_wp2;go_ret;exact⟨rfl,bal⟩
 .by_cases q:l<(n1:Int)+n2
  .delta qC;go_in
   go_wp2_with fail
   apply(fR a1 n1 c1 l _ J J d).mono;rintro e a ⟨rfl,rfl⟩;go_wp2_with fail
   apply(oW a2 n2 c2 _ _ J J f J).mono;rintro e a ⟨rfl,rfl⟩;go_wp2;go_ret;exact⟨rfl,bal⟩
  .delta qC;go_in
   go_wp2_with fail
   apply(fR a1 n1 c1 l _ J J d).mono;rintro e a ⟨rfl,rfl⟩;go_wp2_with fail
   apply(fR a2 n2 c2 _ _ J J f).mono;rintro e a ⟨rfl,rfl⟩;go_wp2_with fail
   apply(oW a3 n3 c3 _ _ J J i J).mono;rintro e a ⟨rfl,rfl⟩;go_wp2;go_ret;exact⟨rfl,bal⟩
def aL0 (a1 a2 a3 n1 c1 n2 c2 n3 c3 x1 x2 x3 w)(k:BS w a1 n1 c1 x1)(h2:BS w a2 n2 c2 x2)(Z:BS w a3 n3 c3 x3)(hn:n1+n2+n3<=1048576):
 qC 28 #[.agg$ qV a1 n1 c1 a2 n2 c2 a3 n3 c3] w λe w'=>∃G H N,e=.returned (.agg$ qV (qP G) n1 n1 (qP H) n2 n2 (qP N) n3 n3) /\
  w.heap.size<=G/\G<H/\H<N/\Row8 w' G x1/\Row8 w' H x2/\Row8 w' N x3/\qY w w':=by
 delta qC;go_in
 go_wp2_with fail
 have A:qY w (((w.alloc$ .cells (qV a1 n1 c1 a2 n2 c2 a3 n3 c3) 30).alloc$ .cells (qV none 0 0 none 0 0 none 0 0) 39).alloc$ .cells (qV none 0 0 none 0 0 none 0 0) 39):=
  bal.alloc Jb _ |>.alloc Jc _
 apply(jI a1 n1 c1 x1 _$ k.bw A).mono;rintro e u ⟨rfl,d,q⟩;have y:=(((Blk.new w (qV a1 n1 c1 a2 n2 c2 a3 n3 c3) 30).alloc$ .cells (qV none 0 0 none 0 0 none 0 0) 39).alloc$ .cells (qV none 0 0 none 0 0 none 0 0) 39).bw q;have E:=((Blk.new (w.alloc$ .cells (qV a1 n1 c1 a2 n2 c2 a3 n3 c3) 30) (qV none 0 0 none 0 0 none 0 0) 39).alloc$ .cells (qV none 0 0 none 0 0 none 0 0) 39).bw q;have x:=(Blk.new ((w.alloc$ .cells (qV a1 n1 c1 a2 n2 c2 a3 n3 c3) 30).alloc$ .cells (qV none 0 0 none 0 0 none 0 0) 39) (qV none 0 0 none 0 0 none 0 0) 39).bw q;have O:=A.trans$ q.mono Jc;try unfold qY at *
 simp only[xF]at y E x d;let⟨a,b,g,j⟩:=y.three;have Y:=x.three;go_wp2_with fail
 have s:=O.setCell (p:=(qR (w.heap.size+1+1) 0)) Jc$ qS (qP$ w.heap.size+1+1+1) n1 n1;apply(jI a2 n2 c2 x2 _$ h2.bw s).mono;rintro e U ⟨rfl,l,i⟩;have W:=(y.other (qR (w.heap.size+1+1) 0) (qS (qP$ w.heap.size+1+1+1) n1 n1) Jd).bw i;have Q:=(E.other (qR (w.heap.size+1+1) 0) (qS (qP$ w.heap.size+1+1+1) n1 n1) Jd).bw i;have C:=(x.set 0$ qS (qP$ w.heap.size+1+1+1) n1 n1).bw i;have V:=d;have d:=(d.other (qR (w.heap.size+1+1) 0) (qS (qP$ w.heap.size+1+1+1) n1 n1) Jd).bw i;try unfold qY at *
 rw[aL]at l i;have S:=(V.lt);have D:u.heap.size<U.heap.size:=l.lt;have M:=s.trans$ i.mono J;let⟨a,b,g,j⟩:=W.three;have Y:=C.three;go_wp2_with fail
 have t:=M.setCell (p:=(qR (w.heap.size+1+1) 1)) Jc$ qS (qp u) n2 n2;apply(jI a3 n3 c3 x3 _$ Z.bw t).mono;rintro e w3 ⟨rfl,B,f⟩;have K:=(Q.other (qR (w.heap.size+1+1) 1) (qS (qp u) n2 n2) Jd).bw f;have X:=(C.set 1$ qS (qp u) n2 n2).bw f;have d:=(d.other (qR (w.heap.size+1+1) 1) (qS (qp u) n2 n2) Jd).bw f;have l:=(l.other (qR (w.heap.size+1+1) 1) (qS (qp u) n2 n2) Jd).bw f;try unfold qY at *
 rw[aL]at B f;have I:=f.size;try unfold qY at *
 rw[aL]at I;have P:=t.trans$ f.mono J;have Y:=X.three;let⟨a,b,g,j⟩:=K.three;go_wp2
 refine bodyPost_ret (v:=.agg$ qV (qP$ w.heap.size+1+1+1) n1 n1 (qp u) n2 n2 (qp U) n3 n3)
  (by simp[results,results28,go_sem,a,b,g]) rfl ⟨w.heap.size+1+1+1,u.heap.size,U.heap.size,rfl,J,S,D,?_,?_,?_,?_⟩
 .exact(((d.other _ _ Jd).other _ _ Jd).other _ _ Jd).other _ _ Jd
 .exact(((l.other _ _ Jd).other _ _ Jd).other _ _ Jd).other _ _ Jd
 .exact(((B.other _ _ Jd).other _ _ Jd).other _ _ Jd).other _ _ Jd
 .exact(((P.setCell Jd _).setCell Jd _).setCell Jd _).setCell Jd _
def aNj (a1 a2 a3 a b g n1 c1 n2 c2 n3 c3 Q j S k U P x1 x2 x3 V W X w)(H:BS w a1 n1 c1 x1)(I:BS w a2 n2 c2 x2)(C:BS w a3 n3 c3 x3)
 (B:BS w a Q j V) (G:BS w b S k W) (D:BS w g U P X):
 qC 38 #[.agg$ qV a1 n1 c1 a2 n2 c2 a3 n3 c3,.agg$ qV a Q j b S k g U P] w λe w'=>e=.returned (.bool$ decide (x1=V)&&(decide (x2=W)&&decide (x3=X)))/\qY w w':=by
 have i:qY w ((w.alloc$ .cells (qV a1 n1 c1 a2 n2 c2 a3 n3 c3) 39).alloc$ .cells (qV a Q j b S k g U P) 39):=
  bal.alloc Jb _
 delta qC;go_in
 go_wp2_with fail
 apply(gQ a1 a n1 c1 Q j x1 V _ (H.bw i)$ B.bw i).mono;rintro e N ⟨rfl,p⟩;have f:=i.trans$ p.mono Jc;have y:=((Blk.new w (qV a1 n1 c1 a2 n2 c2 a3 n3 c3) 39).alloc$ .cells (qV a Q j b S k g U P) 39).bw p;have v1:=(Blk.new (w.alloc$ .cells (qV a1 n1 c1 a2 n2 c2 a3 n3 c3) 39) (qV a Q j b S k g U P) 39).bw p;simp only[xF]at v1;by_cases e1:x1=V
 .simp only[xR e1];have E:=y.three;have A:=v1.three;have u:=zh e1;go_wp2_with fail
  apply(gQ a2 b n2 c2 S k x2 W _ (I.bw f)$ G.bw f).mono;rintro e O ⟨rfl,l⟩;have d:=yT f l;have K:=y.bw l;have v2:=v1.bw l;by_cases e2:x2=W
  .simp only[xR e2];have E:=K.three;have A:=v2.three;have t:=zh e2;go_wp2_with fail
   apply(gQ a3 g n3 c3 U P x3 X _ (C.bw d)$ D.bw d).mono;rintro e M ⟨rfl,x⟩;have q:=yT d x;by_cases e3:x3=X
   .simp only[xR e3];have s:=zh e3;go_wp2;go_ret;exact⟨aA (by simp[sF u,sF t,sF s]),q⟩
   .simp only[xS e3];have s:=zh e3;go_wp2;go_ret;exact⟨aA (by simp[sF s]),q⟩
  .simp only[xS e2];have t:=zh e2;go_wp2;go_ret;exact⟨aA (by simp[sF t]),d⟩
 .simp only[xS e1];have u:=zh e1;go_wp2;go_ret;exact⟨aA (by simp[sF u]),f⟩
def aJv (a1 a2 a3 a b g n1 c1 n2 c2 n3 c3 t j u k x s x1 x2 x3 w)(l:BS w a1 n1 c1 x1)(d:BS w a2 n2 c2 x2)(p:BS w a3 n3 c3 x3)
 (i:BS w a t j x1) (f:BS w b u k x2) (q:BS w g x s x3):
 qC 38 #[.agg$ qV a1 n1 c1 a2 n2 c2 a3 n3 c3,.agg$ qV a t j b u k g x s] w λe w'=>e=.returned (.bool true)/\qY w w':=
 (aNj a1 a2 a3 a b g n1 c1 n2 c2 n3 c3 t j u k x s x1 x2 x3 x1 x2 x3 w l d p i f q).mono λe w' h=>⟨by rw[h.1];simp,h.2⟩
def hs (b l o a:Int):Bool:=decide$ b<=a/\a<b+(2:Int)^l.toNat/\(o/(2:Int)^((a-b)/((2:Int)^l.toNat/8)).toNat)%2=0
def aCf {b l o:Int}(h:rok b l o=true):5<=l/\l<=14/\0<=o/\o<=255/\(8<=l\/o=0)/\0<=b/\b<=262144-(2:Int)^l.toNat:=by
 simp[rok]at h;omega
theorem aWq (l:Int)(h:3<=l):(2:Int)^l.toNat=8*(2:Int)^(l-3).toNat:=by
 let⟨k,a⟩:=xV$ show 0<=l-3 from J;have:l.toNat=k+3:=J
 grind
def aHp (d q:Int)(f:0<q)(e:0<=d)(h:d<8*q):0<=d/q/\d/q<=7:=by
 refine⟨Int.ediv_nonneg e J,?_⟩;have:=Int.ediv_lt_of_lt_mul f h;omega
def aNb (b l o a r x y w)(h:rok b l o=true):
 qC 250 #[.agg #[qI b,qI l,qI o,.bool r,.bool x,.bool y],qI a] w (qB w$ .bool$ hs b l o a):=by
 let⟨q,s,k,u,g,A,C⟩:=aCf h;have:=pow_pos l.toNat;have d:=aWq l J;have i:=pow_pos (l-3).toNat;have p:(2:Int)^l.toNat/8=(2:Int)^(l-3).toNat:=J
 by_cases G:a<b
 .have f:Zh (hs b l o a=false):=by show _=_;unfold hs;simp;omega
  clear h g d p
  delta qC;go_in
  go_wp2_with (go_at_call 174;refine(cD _ J J _).mono ?_;rintro e j ⟨rfl,rfl⟩)
  go_ret;exact⟨aA f.symm,bal⟩
 .by_cases kb:b+(2:Int)^l.toNat<=a
  .have f:Zh (hs b l o a=false):=by show _=_;unfold hs;simp;omega
   clear h g d p
   delta qC;go_in
   go_wp2_with (go_at_call 174;refine(cD _ J J _).mono ?_;rintro e j ⟨rfl,rfl⟩)
   go_ret;exact⟨aA f.symm,bal⟩
  .by_cases B:l<8
   .have f:Zh (hs b l o a=true):=by
     have t:o=0:=J
     subst t;show _=_;unfold hs;simp;omega
    clear h g d p
    delta qC;go_in
    go_wp2_with (go_at_call 174;refine(cD _ J J _).mono ?_;rintro e j ⟨rfl,rfl⟩)
    go_ret;exact⟨aA f.symm,bal⟩
   .have hd:=aHp (a-b) ((2:Int)^(l-3).toNat) i J J
    have f:Zh (hs b l o a=((o/(2:Int)^((a-b)/((2:Int)^l.toNat/8)).toNat)%2==0)):=by
     show _=_;unfold hs;rw[xJ];simp;omega
    rw[<-p]at hd;have:0<(2:Int)^l.toNat/8:=J
    have:=pow_pos ((a-b)/((2:Int)^l.toNat/8)).toNat;have:=wJ ((a-b)/((2:Int)^l.toNat/8)).toNat;clear h g d p i;obtain⟨D,E⟩:=hd
    delta qC;go_in
    go_wp2_with (go_at_call 174;refine(cD _ J J _).mono ?_;rintro e j ⟨rfl,rfl⟩)
    go_quiet ((go_at_call 174;exact Calls.quiet_of_same$ cD _ J J _))
    go_wp2;go_ret;rw[xL$ Int.ediv_nonneg k J];exact⟨aA f.symm,below_drewN bal _⟩
def aUp:∀o:Fin 256,(255 ^^^ o.val)=255-o.val:=by decide +kernel
theorem aUo (o)(e:0<=o)(f:o<=255):bits BinOp.xor IntKind.u8 IntKind.u8.max o=255-o:=by
 have d:IntKind.u8.max=255:=Ja
 rw[d,u8_xor 255 o J J e J];have:=aUp ⟨o.toNat,J⟩
 grind
theorem aTr (t)(d:0<=t)(e:t<=255):bits BinOp.and IntKind.u8 t 1=t%2:=by
 rw[u8_and t 1 d J J J]
 grind
def aGi (b l o r x y w)(e:0<=o)(d:o<=255):
 qC 314 #[.agg #[qI b,qI l,qI o,.bool r,.bool x,.bool y]] w (qB w$ .int .u8$ 255-o):=by
 have hx:=zh$ aUo o e d
 delta qC;go_in
 go_wp2;go_ret;exact⟨aJ hx,bal⟩
def aS9 (s i w)(d:0<=s)(l:s<=255)(q:0<=i)(t:i<=7):
 qC 315 #[.int .u8 s,qI i] w λe w'=>e=.returned (.bool$ (s/(2:Int)^i.toNat)%2==1)/\w=w':=by
 have f:0<=s/(2:Int)^i.toNat/\s/(2:Int)^i.toNat<=255:=by
  have:=pow_pos i.toNat;exact⟨Int.ediv_nonneg d J,Int.le_trans (Int.ediv_le_self _ d) l⟩
 have hx:=zh$ aTr (s/(2:Int)^i.toNat) f.1 f.2
 delta qC;go_in
 go_wp2;go_ret;exact⟨aA (by rw[hx.o]),rfl⟩
def aQ4:∀(o:Fin 256)(i:Fin 8),((255-o.val)/2^i.val%2==1)=(o.val/2^i.val%2==0):=by decide +kernel
theorem aQm (o i:Int)(d:0<=o)(f:o<=255)(e:0<=i)(l:i<=7):((255-o)/(2:Int)^i.toNat%2==1)=(o/(2:Int)^i.toNat%2==0):=by
 obtain⟨a,rfl⟩:=xV d;obtain⟨k,rfl⟩:=xV e;have:=aQ4 ⟨a,J⟩ ⟨k,J⟩;have:(255-(a:Int))=((255-a:Nat):Int):=J
 have:(2:Int)^((k:Int).toNat)=((2^k:Nat):Int):=Jb
 grind
def Blk.six {w:qw}{a d e f:Value}{t:TypeId}(h:Blk w g #[a,b,c,d,e,f] t):
 w.cell? (qR g 0)=some a/\w.cell? (qR g 1)=some b/\w.cell? (qR g 2)=some c/\w.cell? (qR g 3)=some d/\w.cell? (qR g 4)=some e/\w.cell? (qR g 5)=some f/\∀i,w.frozen? (qR g i)=false:=
 ⟨by rw[h.cell];rfl,by rw[h.cell];rfl,by rw[h.cell];rfl,by rw[h.cell];rfl,by rw[h.cell];rfl,by rw[h.cell];rfl,λi=>h.frozen i⟩
theorem wrap_i64 {n:Int}(e:-9223372036854775808<=n)(d:n<=9223372036854775807):IntKind.i64.wrap n=n:=by
 simp only[IntKind.wrap,IntKind.bits,IntKind.signed]
 grind
def aBc (b l o a r x y w)(h:rok b l o=true)(ha:-9223372036854775808<=a/\a<=9223372036854775807):
 qC 299 #[.agg #[qI b,qI l,qI o,.bool r,.bool x,.bool y],qI a] w (qB w$ .bool$ hs b l o a):=by
 let⟨B,C,k,u,j,G,H⟩:=aCf h;have:=pow_pos l.toNat;have f:=aWq l J;have t:=pow_pos (l-3).toNat;have q:(2:Int)^l.toNat/8=(2:Int)^(l-3).toNat:=J
 by_cases A:a<b
 .have i:Zh (hs b l o a=false):=by show _=_;unfold hs;simp;omega
  clear h j f q;have hd:decide (a<b)=true:=by simpa using A
  delta qC;go_in
  go_wp2
  go_quiet (fail)
  go_wp2;go_ret;exact⟨aA i.symm,below_drewN bal _⟩
 .have hd:decide (a<b)=false:=by simpa using A
  by_cases kb:(2:Int)^l.toNat<=a-b
  .have i:Zh (hs b l o a=false):=by show _=_;unfold hs;simp;omega
   clear h j f q
   delta qC;go_in
   go_wp2
   go_quiet (fail)
   go_wp2;go_ret;exact⟨aA i.symm,below_drewN bal _⟩
  .have d:=aHp (a-b) ((2:Int)^(l-3).toNat) t J J
   have i:Zh (hs b l o a=(((255-o)/(2:Int)^((a-b)/((2:Int)^(l-3).toNat)).toNat)%2==1)):=by
    show _=_;rw[aQm o _ k u d.1 d.2,<-q];unfold hs;rw[xJ];simp;omega
   clear h j f q;obtain⟨I,K⟩:=d
   delta qC;go_in
   go_wp2
   go_quiet (fail)
   go_wp2_with fail
   have kb:=Blk.new w #[qI b,qI l,qI o,.bool r,.bool x,.bool y] 231;have s:qY w (w.alloc$ .cells #[qI b,qI l,qI o,.bool r,.bool x,.bool y] 231):=bal;have:IntKind.i64.wrap (a-b)=a-b:=wrap_i64 J J;have:IntKind.i64.wrap (l-3)=l-3:=wrap_i64 J J
   have:Op.shift .shr .i64 (a-b) .i64 (l-3)=pure (qI$ (a-b)/(2:Int)^(l-3).toNat):=by
    rw[shift_shr_any _ _ _ _ J,Nat.min_eq_left (by simp[IntKind.bits];omega)]
   go_region_held3 (λg=>qn g w 0=qj b/\qn g w 1=qj l/\qn g w 2=qj o/\qn g w 3=some (.bool r)/\qn g w 4=some (.bool x)/\qn g w 5=some (.bool y)) (go_keep)
    (first
      | (go_at_call 314;refine(aGi b l o r x y _ k u).mono ?_;rintro e D ⟨rfl,p⟩;obtain⟨M,N,O,P,Q,S,U⟩:=(Blk.bw (by exact kb) p).six)
      | (go_at_call 315;refine(aS9 _ _ _ ?_ ?_ ?_ ?_).mono ?_;omega;omega;omega;omega;rintro e E ⟨rfl,rfl⟩))
   go_wp2;go_ret;exact⟨aA i.o.symm,(below_drewN s _).trans$ p.mono Jb⟩
def aM2 (r x y:Bool)(k:Int):Bool:=if k=1 then r else if k=2 then x else if k=3 then y else false
def aJf (b l o k r x y w)(d:k=1\/k=2\/k=3):
 qC 251 #[.agg #[qI b,qI l,qI o,.bool r,.bool x,.bool y],qI k] w (qB w$ .bool$ aM2 r x y k):=by
 rcases d with rfl|rfl|rfl
 all_goals
  delta qC;go_in
  go_wp2;go_ret;exact⟨rfl,bal⟩
def sK (b l o k r x y w):
 qC 300 #[.agg #[qI b,qI l,qI o,.bool r,.bool x,.bool y],qI k] w (qB w$ .bool$ aM2 r x y k):=by
 by_cases e:k=1
 .subst e
  delta qC;go_in
  go_wp2;go_ret;exact⟨rfl,bal⟩
 .by_cases d:k=2
  .subst d
   delta qC;go_in
   go_wp2;go_ret;exact⟨rfl,bal⟩
  .by_cases f:k=3
   .subst f
    delta qC;go_in
    go_wp2;go_ret;exact⟨rfl,bal⟩
   .have i:Zh (aM2 r x y k=false):=by show _=_;simp[aM2,e,d,f]
    have:(k==1)=false:=by simpa using e
    have:(k==2)=false:=by simpa using d
    have:(k==3)=false:=by simpa using f
    clear e d f
    delta qC;go_in
    go_wp2;go_ret;exact⟨aA i.symm,bal⟩
def gok (g:Rg):Bool:=rok g.1 g.2.1 g.2.2.1
def zM (g:Rg)(a:Int):Bool:=hs g.1 g.2.1 g.2.2.1 a
def aCt (g:Rg)(k:Int):Bool:=aM2 g.2.2.2.1 g.2.2.2.2.1 g.2.2.2.2.2 k
def dC (rs:List Rg)(a k:Int):Nat->Bool
 | 0=>false
 | j+1=>if zM (rs.getD j z6) a then aCt (rs.getD j z6) k else dC rs a k j
def aM9 (x b a k w):
 qC 170 #[qS x 0 b,qI a,qI k] w (qB w$ .bool false):=by
 delta qC;go_in
 go_wp2;go_loop [7] (λi=>i=qI (-1)) (λ_=>0)
 .rfl
 .obtain rfl:=hrel;go_wp2;go_ret;exact⟨rfl,brf⟩
def aGk {H:Nat}{b off y:Nat}{rs a k w}(O:(H=170/\(k=1\/k=2\/k=3))\/(H=271/\wfi a))(h:RS w (some$ qR b off) n y rs)(E:∀g∈rs,gok g=true)(hn:n<=8):
 qC H #[qS (some$ qR b off) n y,qI a,qI k] w (qB w$ .bool$ dC rs a k n):=by
 rcases O with⟨rfl,A⟩|⟨rfl,A⟩
 all_goals
  have:=h.1
  delta qC;go_in
  go_wp2;go_loopw [7] (λi wr=>∃(j:Nat) (p:Int),j<=n/\p+1=j/\i=qI p/\dC rs a k j=dC rs a k n/\qY w wr) (λi _=>(intOf i+1).toNat)
  .exact⟨n,(n:Int)-1,aQ,J,rfl,rfl,brf⟩
  .obtain⟨j,p,hj,hp,rfl,q,G⟩:=hrel;by_cases M:j=0
   .have s:p=-1:=J
    subst s M;have X:=zh q;have B:=zh A;go_wp2;go_ret;exact⟨aA (by rw[<-X.o];rfl),G⟩
   .obtain⟨i,rfl⟩:∃i,j=i+1:=⟨j-1,J⟩;have s:p=(i:Int):=J
    subst s;have f:=(h.bw G).at i J;have Q:=E (rs.getD i z6) (by simp[xB,show i<rs.length from J]);have l:dC rs a k (i+1)=if zM (rs.getD i z6) a then aCt (rs.getD i z6) k else dC rs a k i:=rfl
    rw[q]at l;have B:=zh A;generalize rs.getD i z6=g at *;obtain⟨Y,g2,g3,g4,g5,g6⟩:=g;have K:=zh l;have x:rok Y g2 g3=true:=Q;have U:=f.1;have W:=f.2.1;have V:=f.2.2.1;have P:=f.2.2.2.1;have N:=f.2.2.2.2.1;have S:=f.2.2.2.2.2;go_wp2_with fail
    first|apply(aNb Y g2 g3 a g4 g5 g6 _ x).mono|apply(aBc Y g2 g3 a g4 g5 g6 _ x B).mono
    rintro e Z ⟨rfl,u⟩;have t:=yT G u;cases I:hs Y g2 g3 a
    .have D:=zh I;go_wp2
     go_roundw
     .exact⟨i,(i:Int)-1,J,J,by go_num,by rw[K.o];rw[show zM (Y,g2,g3,g4,g5,g6) a=false from D.o];rfl,t⟩
     .simp[intOf]
    .have D:=zh I;have d:=f.bw u;have U:=d.1;have W:=d.2.1;have V:=d.2.2.1;have P:=d.2.2.2.1;have N:=d.2.2.2.2.1;have S:=d.2.2.2.2.2;go_wp2_with fail
     first|apply(aJf Y g2 g3 k g4 g5 g6 _ B).mono|apply(sK Y g2 g3 k g4 g5 g6 _).mono
     rintro e w2 ⟨rfl,C⟩;go_wp2;go_ret;exact⟨aA (by rw[K.o];rw[show zM (Y,g2,g3,g4,g5,g6) a=true from D.o];rfl),yT t C⟩
def aNa (x n i rs a k w)(h:RS w x n i rs)(d:∀g∈rs,gok g=true)(f:k=1\/k=2\/k=3)(hn:n<=8):
 qC 170 #[qS x n i,qI a,qI k] w (qB w$ .bool$ dC rs a k n):=by
 by_cases e:n=0
 .subst e;exact aM9 x i a k w
 .obtain⟨b,off,rfl⟩:=h.some e;exact aGk (.inl ⟨rfl,f⟩) h d hn
def aRb (x b a k w):
 qC 271 #[qS x 0 b,qI a,qI k] w (qB w$ .bool false):=by
 delta qC;go_in
 go_wp2;go_loop [7] (λi=>i=qI (-1)) (λ_=>0)
 .rfl
 .obtain rfl:=hrel;go_wp2;go_ret;exact⟨rfl,brf⟩
def aRc (x n i rs a k w)(h:RS w x n i rs)(d:∀g∈rs,gok g=true)(f:wfi a)(hn:n<=8):
 qC 271 #[qS x n i,qI a,qI k] w (qB w$ .bool$ dC rs a k n):=by
 by_cases e:n=0
 .subst e;exact aRb x i a k w
 .obtain⟨b,off,rfl⟩:=h.some e;exact aGk (.inr ⟨rfl,f⟩) h d hn
def wd (s:Int):Bool:=decide$ s=1\/s=2\/s=4
def fZ (s w):
 qC 168 #[qI s] w λe w'=>e=.returned (.bool$ wd s)/\w=w':=by
 by_cases f:s=1
 .subst f
  delta qC;go_in
  go_wp2;go_ret;exact⟨rfl,rfl⟩
 .by_cases d:s=2
  .subst d
   delta qC;go_in
   go_wp2;go_ret;exact⟨rfl,rfl⟩
  .have i:Zh (wd s=(s==4)):=by show _=_;unfold wd;rw[xJ];simp;omega
   have:(s==1)=false:=by simpa using f
   have:(s==2)=false:=by simpa using d
   delta qC;go_in
   go_wp2;go_ret;exact⟨aA i.symm,rfl⟩
def jR (s w):
 qC 269 #[qI s] w λe w'=>e=.returned (.bool$ wd s)/\w=w':=by
 by_cases f:s=1
 .subst f
  delta qC;go_in
  go_wp2;go_ret;exact⟨rfl,rfl⟩
 .by_cases d:s=2
  .subst d
   delta qC;go_in
   go_wp2;go_ret;exact⟨rfl,rfl⟩
  .have i:Zh (wd s=(s==4)):=by show _=_;unfold wd;rw[xJ];simp;omega
   have:(s==1)=false:=by simpa using f
   have:(s==2)=false:=by simpa using d
   delta qC;go_in
   go_wp2;go_ret;exact⟨aA i.symm,rfl⟩
def ins (p s f:Int)(n:Nat):Bool:=decide$ f<=p/\p<=f+n-s
def iD (p s f)(n:Nat)(w)(l:1<=s:=by omega)(hs:s<=4:=by omega)(i:0<=f:=by omega)(d:f<=65536:=by omega)(hn:n<=16384:=by omega):
 qC 171 (qW p s f n) w λe w'=>e=.returned (.bool$ ins p s f n)/\w=w':=by
 by_cases q:f<=p
 .have d:Zh (ins p s f n=decide (p<=f+n-s)):=by show _=_;unfold ins;rw[xJ];simp;omega
  delta qC;go_in
  go_wp2;go_ret;exact⟨aA d.symm,rfl⟩
 .have d:Zh (ins p s f n=false):=by show _=_;unfold ins;simp;omega
  delta qC;go_in
  go_wp2;go_ret;exact⟨aA d.symm,rfl⟩
def nY (a n b p s f w)(q:p<=9223372036854775807:=by omega)(i:1<=s:=by omega)(hs:s<=4:=by omega)(l:0<=f:=by omega)(d:f<=65536:=by omega)(hn:n<=16384:=by omega):
 qC 273 #[qS a n b,qI f,qI p,qI s] w λe w'=>e=.returned (.bool$ ins p s f n)/\w=w':=by
 by_cases t:f<=p
 .have d:Zh (ins p s f n=decide (p-f<=n-s)):=by show _=_;unfold ins;rw[xJ];simp;omega
  delta qC;go_in
  go_wp2;go_ret;exact⟨aA d.symm,rfl⟩
 .have d:Zh (ins p s f n=false):=by show _=_;unfold ins;simp;omega
  delta qC;go_in
  go_wp2;go_ret;exact⟨aA d.symm,rfl⟩
def low:List Int->Int
 | []=>0
 | z::zs=>low zs*256+z
theorem aCo:∀(d:qi),(∀z∈d,0<=z/\z<=255)->0<=low d/\low d+1<=(256:Int)^d.length
 | [],_=>by simp[low]
 | z::d,h=>by
   have:=aCo d λx hx=>h x (by grind);have:=h z Jb;simp only[low,List.length_cons,Int.pow_succ];omega
theorem nW (d)(h:∀z∈d,0<=z/\z<=255)(e:d.length<=4):0<=low d/\low d<=4294967295:=by
 have:=aCo d h;have:(256:Nat)^d.length<=256^4:=Nat.pow_le_pow_right J e
 grind
def aPz (d:qi)(j)(h:j<d.length):low (d.drop j)=low (d.drop$ j+1)*256+d.getD j 0:=by
 rw[List.drop_eq_getElem_cons h];simp[low,xB,h]
def tD (b off n g a w)(h:BS w (some$ qR b off) n g a)(hn:n<=4:=by omega):
 qC 117 #[qS (some$ qR b off) n g] w λe w'=>e=.returned (qI$ low a)/\w=w':=by
 obtain⟨E,G,B,hc,_⟩:=h
 have hd:∀i,i<n->qN w b (off+i)=some (.int .u8$ a.getD i 0):=by
  intro i hi;let⟨D,H,e,hd⟩:=hc J;simp at e;obtain⟨rfl,rfl⟩:=e;exact hd i hi
 delta qC;go_in
 go_wp2;go_loop [3,4] (λv i=>∃(k:Nat) (p:Int),k<=n/\p+1=k/\i=qI p/\v=qI (low$ a.drop k)) (λ_ i=>(intOf i+1).toNat)
 .exact⟨n,(n:Int)-1,aQ,J,rfl,by rw[List.drop_of_length_le J];rfl⟩
 .obtain⟨k,p,A,x,rfl,rfl⟩:=hrel;by_cases s:k=0
  .have d:p=-1:=J
   subst d s;have f:Zh (low (List.drop 0 a)=low a):=by show _=_;rw[List.drop_zero]
   generalize low (List.drop 0 a)=L at *;go_wp2;go_ret;exact⟨aJ f,rfl⟩
  .obtain⟨j,rfl⟩:∃j,k=j+1:=⟨k-1,J⟩;have d:p=(j:Int):=J
   subst d;have l:=aPz a j J;have y:=nW (a.drop$ j+1) (λz C=>B z$ List.mem_of_mem_drop C) Jc;have u:=hd j J
   have t:0<=a.getD j 0/\a.getD j 0<=255:=by
    have:=B a[j] (List.getElem_mem J);simpa[xB,show j<a.length from J]using this
   have q:=zh l;generalize low (a.drop$ j+1)=L at *;generalize a.getD j 0=z at *;go_wp2
   go_round
   .exact⟨j,(j:Int)-1,J,J,by go_num,by rw[q.o]⟩
   .simp[intOf]
def upB (rs:List Rg)(a k:Int)(n m:Nat):Bool:=(List.range m).all λi=>dC rs (wrap64$ a+i) k n
def okB (rs:List Rg)(m:Nat):Bool:=(List.range m).all λi=>gok$ rs.getD i z6
def aFq (rs:List Rg)(a k:Int)(n m:Nat):Prop:=∀i,i<m->dC rs (wrap64$ a+i) k n=true
def aBd (rs:List Rg)(m:Nat):Prop:=∀i,i<m->gok (rs.getD i z6)=true
def nT:okB rs m=true ↔ aBd rs m:=by simp[okB,aBd]
def pV:upB rs a k n m=true ↔ aFq rs a k n m:=by simp[upB,aFq]
def aCl (d:j<n)(h:gok (rs.getD j z6)=false):okB rs n=false:=by
 cases e:okB rs n
 .rfl
 .have:=nT.1 e j d;rw[h]at this;simp at this
def sE (d:j<m)(h:dC rs (wrap64$ a+j) k n=false):upB rs a k n m=false:=by
 cases e:upB rs a k n m
 .rfl
 .have:=pV.1 e j d;rw[h]at this;simp at this
theorem aGn (e:rs.length=n)(h:aBd rs n):∀g∈rs,gok g=true:=by
 intro g d;obtain⟨i,hi,rfl⟩:=List.getElem_of_mem d;have:=h i J
 grind
theorem aCk (h:aBd rs j)(d:gok (rs.getD j z6)=true):aBd rs (j+1):=by
 intro i hi;by_cases e:i=j
 .grind
 .exact h i J
theorem aB1 (h:aFq rs a k n j)(d:dC rs (wrap64$ a+j) k n=true):aFq rs a k n (j+1):=by
 intro i hi;by_cases e:i=j
 .grind
 .exact h i J
def wfl {z:Int}(h:wfi z):(Lit.int .i64 z).wf=true:=by
 obtain⟨a,b⟩:=h;simp[Lit.wf,IntKind.min,IntKind.max,IntKind.signed,IntKind.bits];omega
def aNo (z):wfi (wrap64 z):=by
 unfold wfi wrap64;omega
theorem aGl (rs a k)(h:k<1\/3<k):∀n,dC rs a k n=false
 | 0=>rfl
 | n+1=>by
   have d:∀g:Rg,aCt g k=false:=by
    intro g;unfold aCt aM2
    grind
   rw[dC,d,aGl rs a k h n];simp
def alw (rs:List Rg)(n:Nat)(a s k:Int):Bool:=decide (n<=8)&&(wd s&&(okB rs n&&upB rs a k n s.toNat))
def aDy (x n b a s k w)(h:8<n\/wd s=false\/k<1\/3<k)(i:n<=maxLen):
 qC 125 #[qS x n b,qI a,qI s,qI k] w (qB w$ .bool false):=by
 by_cases p:8<(n:Int)
 .clear h
  delta qC;go_in
  go_wp2;go_ret;exact⟨rfl,brf⟩
 .cases hs:wd s
  .clear h
   delta qC;go_in
   go_wp2_with fail
   apply(fZ s _).mono;rw[hs];rintro e d ⟨rfl,rfl⟩;go_wp2;go_ret;exact⟨rfl,brf⟩
  .by_cases l:k<1
   .clear h
    delta qC;go_in
    go_wp2_with fail
    apply(fZ s _).mono;rw[hs];rintro e d ⟨rfl,rfl⟩;go_wp2;go_ret;exact⟨rfl,brf⟩
   .have f:3<k:=by
     rcases h with h|h|h|h
     .omega
     .rw[hs]at h;simp at h
     .omega
     .exact h
    delta qC;go_in
    go_wp2_with fail
    apply(fZ s _).mono;rw[hs];rintro e d ⟨rfl,rfl⟩;go_wp2;go_ret;exact⟨rfl,brf⟩
def aBa (x n a0 rs a s k w)(h:RS w x n a0 rs)(hn:n<=8)(hs:wd s=true)(V:1<=k)(Y:k<=3)(ha:wfi a)(F)(Q:F=(okB rs n&&upB rs a k n s.toNat)):
 qC 125 #[qS x n a0,qI a,qI s,qI k] w (qB w$ .bool F):=by
 have U:=h.1;have D:1<=s/\s<=4:=by have:=hs;simp[wd]at this;omega
 obtain⟨a1,D⟩:=D;have Z:=zh hs;have I:=zh Q;clear hs Q
 delta qC;go_in
 go_wp2_with fail
 apply(fZ s _).mono;rw[Z.o];rintro e w2 ⟨rfl,rfl⟩;go_wp2;go_loopw [9] (λi wr=>∃j:Nat,j<=n/\i=qI j/\aBd rs j/\qY w wr) (qf n)
 .exact⟨0,xC _,rfl,λi hi=>absurd hi J,brf⟩
 .obtain⟨j,hj,rfl,E,C⟩:=hrel;by_cases A:j<n
  .obtain⟨b,off,rfl⟩:=h.some J;have t:=(h.bw C).at j A;have y:=zh E;have O:=h.2.2.1 (rs.getD j z6) (by simp[xB,show j<rs.length from J]);have p:gok (rs.getD j z6)=false->okB rs n=false:=aCl A;have f:gok (rs.getD j z6)=true->aBd rs (j+1):=aCk y;have l:=zh p;have d:=zh f;generalize rs.getD j z6=g at *;obtain⟨g1,g2,g3,g4,g5,g6⟩:=g;have W:=wfl O.1;have q1:=t.1;have q2:=t.2.1;have q3:=t.2.2.1;have q4:=t.2.2.2.1;have q5:=t.2.2.2.2.1;have q6:=t.2.2.2.2.2;go_wp2_with fail
   apply(jT g1 g2 g3 g4 g5 g6 _ W).mono;rintro e X ⟨rfl,B⟩;have u:=yT C B;cases H:rok g1 g2 g3
   .have P:=zh H;clear H;go_wp2;go_ret;exact⟨aA (by rw[I.o,l.o P.o];rfl),u⟩
   .have P:=zh H;clear H;go_wp2
    go_roundw
    .exact⟨j+1,J,by go_num,d P,u⟩
    .simp[qf,intOf];omega
  .have K:j=n:=J
   subst K;have y:=zh E;go_wp2;go_loopw [10] (λi wr=>∃m:Nat,(m:Int)<=s/\i=qI m/\aFq rs a k j m/\qY w wr) (qf s.toNat)
   .exact⟨0,J,rfl,λi hi=>absurd hi J,C⟩
   .obtain⟨m,hm,rfl,q,C⟩:=hrel;by_cases A:(m:Int)<s
    .have p:dC rs (wrap64$ a+m) k j=false->upB rs a k j s.toNat=false:=sE J;have f:dC rs (wrap64$ a+m) k j=true->aFq rs a k j (m+1):=aB1 q;have l:=zh p;have d:=zh f;have M:=zh q;clear p f q;go_wp2_with fail
     apply(aNa x j a0 rs _ k _ (h.bw C) (aGn U y) J hn).mono;generalize dC rs (wrap64$ a+m) k j=r at *;rintro e X ⟨rfl,B⟩;have u:=yT C B;cases r
     .have N:=zh$ l rfl;clear l d;go_wp2;go_ret;exact⟨aA (by rw[I.o,N.o];simp),u⟩
     .have N:=zh$ d rfl;clear l d;go_wp2
      go_roundw
      .exact⟨m+1,J,by go_num,N,u⟩
      .simp[qf,intOf];omega
    .have G:s.toNat=m:=J
     have S:=zh$ pV.2 q;rw[<-G]at S;have M:=zh q;clear q G;go_wp2;go_ret;exact⟨aA (by rw[I.o,S.o];rw[nT.2 y.o];rfl),C⟩
theorem qE (x n b rs a s k w)(h:RS w x n b rs)(ha:wfi a):
 qC 125 #[qS x n b,qI a,qI s,qI k] w (qB w$ .bool$ alw rs n a s k):=by
 by_cases d:8<n\/wd s=false\/k<1\/3<k
 .have f:alw rs n a s k=false:=by
   unfold alw;rcases d with d|d|d
   .grind
   .grind
   .cases hs:wd s
    .simp
    .have e:0<s.toNat:=by simp[wd]at hs;omega
     rw[sE e$ aGl rs _ k d n];simp
  rw[f];exact aDy x n b a s k w d h.2.1
 .have hs:wd s=true:=by
   grind
  exact aBa x n b rs a s k w h J hs J J ha _ (by simp[alw,hs,show n<=8 from J])
theorem aLy (n)(d:0<=n)(e:n<2^62):IntKind.i64.wrap n=n:=by
 have:(2:Int)^62=4611686018427387904:=rfl;simp only[IntKind.wrap,IntKind.bits,IntKind.signed]
 grind
def lO (i x y)(d:0<=x:=by omega)(hx:x%2^i=0:=by omega)(e:x<2^62:=by omega)(l:0<=y:=by omega)(p:y<2^i:=by omega)(f:y<2^62:=by omega):bits .or .i64 x y=x+y:=
 bits_join .i64 62 Ja aLy i x y d hx e l p f
def BS.at {w:qw}{b off n d:Nat}{f:qi}(h:BS w (some$ qR b off) n d f)(i:Nat)(hi:i<n):w.cell? (qR b$ off+i)=some (.int .u8$ f.getD i 0):=by
 obtain⟨a,g,e,hd⟩:=h.2.2.2.1 J;simp at e;obtain⟨rfl,rfl⟩:=e;exact hd i hi
def or4 (j g a b)(l:0<=j)(d:j<=255)(q:0<=g)(f:g<=255)(p:0<=a)(e:a<=255)(s:0<=b)(i:b<=255):
 bits BinOp.or IntKind.i64 (bits BinOp.or IntKind.i64 (bits BinOp.or IntKind.i64 0$ bits BinOp.or IntKind.i64 (b*16777216)$ a*65536)$ g*256) j=low [j,g,a,b]:=by
 rw[lO 24 (b*16777216)$ a*65536];rw[lO 40 0$ b*16777216+a*65536];rw[lO 16 (0+(b*16777216+a*65536))$ g*256];rw[lO 8 (0+(b*16777216+a*65536)+g*256) j];simp only[low];omega
def or2 (b a)(f:0<=b)(d:b<=255)(i:0<=a)(e:a<=255):
 bits BinOp.or IntKind.i64 (bits BinOp.or IntKind.i64 0$ a*256) b=low [b,a]:=by
 rw[lO 16 0$ a*256];rw[lO 8 (0+a*256) b];simp only[low];omega
def or1 (a)(e:0<=a)(d:a<=255):bits BinOp.or IntKind.i64 0 a=low [a]:=by
 rw[lO 8 0 a];simp only[low];omega
def aWk (e:qi)(h:4<=e.length):e.take 4=[e.getD 0 0,e.getD 1 0,e.getD 2 0,e.getD 3 0]:=by
 match e,h with
 | a::b::c::d::_,_=>rfl
def aWl (d:qi)(h:2<=d.length):d.take 2=[d.getD 0 0,d.getD 1 0]:=by
 match d,h with
 | a::b::_,_=>rfl
def aWm (d:qi)(h:1<=d.length):d.take 1=[d.getD 0 0]:=by
 match d,h with
 | a::_,_=>rfl
def zN (b off n g a w)(h:BS w (some$ qR b off) n g a)(hn:4<=n):
 qC 274 #[qS (some$ qR b off) n g,qI 4] w (qB w$ qI$ low$ a.take 4):=by
 have t:=h.range 0;have q:=h.range 1;have s:=h.range 2;have l:=h.range 3;have u:=h.at 0 J;have:=h.at 1 J;have:=h.at 2 J;have:=h.at 3 J;simp only[Nat.add_zero]at u;rw[aWk a (by rw[h.1];omega)];generalize a.getD 0 0=f at *;generalize a.getD 1 0=d at *;generalize a.getD 2 0=i at *;generalize a.getD 3 0=e at *;obtain⟨j,k⟩:=t;obtain⟨x,y⟩:=q;obtain⟨A,B⟩:=s;obtain⟨C,D⟩:=l;have p:=zh$ or4 f d i e j k x y A B C D;generalize low [f,d,i,e]=L at *
 delta qC;go_in
 go_wp2
 go_quiet (fail)
 go_wp2;go_ret;exact⟨aJ p,below_drewN brf _⟩
def aJs (b off n g a w)(h:BS w (some$ qR b off) n g a)(hn:2<=n):
 qC 274 #[qS (some$ qR b off) n g,qI 2] w (qB w$ qI$ low$ a.take 2):=by
 have l:=h.range 0;have i:=h.range 1;have p:=h.at 0 J;have:=h.at 1 J;simp only[Nat.add_zero]at p;rw[aWl a (by rw[h.1];omega)];generalize a.getD 0 0=e at *;generalize a.getD 1 0=d at *;obtain⟨j,k⟩:=l;obtain⟨q,s⟩:=i;have f:=zh$ or2 e d j k q s;generalize low [e,d]=L at *
 delta qC;go_in
 go_wp2;go_ret;exact⟨aJ f,brf⟩
def aJt (b off n g a w)(h:BS w (some$ qR b off) n g a)(hn:1<=n):
 qC 274 #[qS (some$ qR b off) n g,qI 1] w (qB w$ qI$ low$ a.take 1):=by
 have f:=h.range 0;have i:=h.at 0 J;simp only[Nat.add_zero]at i;rw[aWm a (by rw[h.1];omega)];generalize a.getD 0 0=d at *;obtain⟨j,k⟩:=f;have e:=zh$ or1 d j k;generalize low [d]=L at *
 delta qC;go_in
 go_wp2;go_ret;exact⟨aJ e,brf⟩
