import Derived.Maps.AppendAt
import Derived.Test.YtncccmeomcaabaaGreatP09
import Derived.Test.YtncccmeomcaabaaGreatP14
set_option maxHeartbeats 2000000
namespace Go.Proofs.YtncccmeomcaabaaGreat
open Go.RowKit Classical
open Go.Proofs.Tryz
set_option linter.all false
set_option maxRecDepth 100000
variable {base g:Nat}{rs:List Rg}{v:Value}
theorem aO1 (l:Int)(hl:8<=l)(hl2:l<=14):(32:Int) ∣ (2:Int)^(l-3).toNat:=by
 have:l=8\/l=9\/l=10\/l=11\/l=12\/l=13\/l=14:=by omega
 rcases this with rfl|rfl|rfl|rfl|rfl|rfl|rfl<;>decide
theorem aMh (l:Int)(hl:5<=l)(hl2:l<=14):(32:Int) ∣ (2:Int)^l.toNat:=by
 have:l=5\/l=6\/l=7\/l=8\/l=9\/l=10\/l=11\/l=12\/l=13\/l=14:=by omega
 rcases this with rfl|rfl|rfl|rfl|rfl|rfl|rfl|rfl|rfl|rfl<;>decide
theorem aAg (a en l:Int)(hl:5<=l)(hl2:l<=14)(ha:0<=a)(hae:a<en)(hen:en<=262144):a+cnt l (qOf a en l)<=en/\(32:Int) ∣ cnt l (qOf a en l):=by
 obtain ⟨P,hP⟩:∃ P,(2:Int)^(l-3).toNat=P:=⟨_,rfl⟩;obtain ⟨N,hN⟩:∃ N,(2:Int)^l.toNat=N:=⟨_,rfl⟩;obtain ⟨g1,g2,g3,g4,g5,g6,g7⟩:=pD a l P N hl hl2 hP hN ha (by omega);have h0:a+cnt l 0<=en/\(32:Int) ∣ cnt l 0:=by rw [uO];exact ⟨by omega,Int.dvd_zero _⟩
 by_cases h8:l<8
 .by_cases hc:a%N=0/\a+N<=en
  .have e:qOf a en l=255:=by unfold qOf;rw [if_pos h8,hN,if_pos hc]
   have e2:cnt l 255=N:=by unfold cnt;rw [hP,show sF 255=8 from rfl,g1];rfl
   rw [e,e2];refine ⟨hc.2,?_⟩;rw [<- hN];exact aMh l hl hl2
  .have e:qOf a en l=0:=by unfold qOf;rw [if_pos h8,hN,if_neg hc]
   rw [e];exact h0
 .by_cases hm:a%P=0
  .have e:qOf a en l=bK (cJ a l) (jOf a en l):=by unfold qOf;rw [if_neg h8,hP,if_pos hm]
   have hj:((jOf a en l:Nat):Int)<=(en-a)/P/\cJ a l+jOf a en l<=8:=by
    have:0<=(en-a)/P:=Int.ediv_nonneg (by omega) (by omega);unfold jOf;rw [hP];omega
   rw [e,nO l P hP _ _ g5 hj.2];have:=Int.mul_le_of_le_ediv (by omega) hj.1;refine ⟨by omega,?_⟩;rw [<- hP];exact Int.dvd_mul_of_dvd_right (aO1 l (by omega) hl2)
  .have e:qOf a en l=0:=by unfold qOf;rw [if_neg h8,hP,if_neg hm]
   rw [e];exact h0
theorem jJ (a en:Int)(ha:0<=a)(hae:a<en)(hen:en<=262144):∀ n:Nat,n<=10->∀ b l q,bH a en n=some (b,l,q)->5<=l/\l<=14/\b=bC a l/\q=qOf a en l
 | 0,_=>fun b l q h=>by rw [dO] at h;cases h
 | n+1,hn=>by
   have ih:=jJ a en ha hae hen n (by omega);intro b l q h;rw [dN] at h;unfold keep at h;split at h
   .simp at h;obtain ⟨rfl,rfl,rfl⟩:=h;exact ⟨by omega,by omega,rfl,rfl⟩
   .exact ih b l q h
theorem pK (a en:Int)(ha:0<=a)(hae:a+32<=en)(ha32:a%32=0):∀ n:Nat,∃ x,bH a en (n+1)=some x
 | 0=>by
   have e:qOf a en 5=255:=by
    unfold qOf;rw [if_pos (by omega),if_pos];exact ⟨ha32,hae⟩
   refine ⟨(bC a 5,5,255),?_⟩;rw [dN,dO];show keep none (bC a 5) 5 (qOf a en 5)=_;rw [e];rfl
 | n+1=>by
   obtain ⟨x,hx⟩:=pK a en ha hae ha32 n;rw [dN];unfold keep;split
   .exact ⟨_,rfl⟩
   .exact ⟨x,hx⟩
theorem aLj (a en:Int)(ha:0<=a)(hae:a<en)(hen:en<=262144)(ha32:a%32=0)(he32:en%32=0):
 ∃ b l q,bH a en 10=some (b,l,q)/\5<=l/\l<=14/\q<256/\32<=cnt l q/\a+cnt l q<=en/\cnt l q%32=0/\b=bC a l/\q=qOf a en l:=by
 obtain ⟨⟨b,l,q⟩,hx⟩:=pK a en ha (by omega) ha32 9;obtain ⟨k1,k2,k3,k4⟩:=jJ a en ha hae hen 10 aN b l q hx;obtain ⟨m1,m2,m3,m4⟩:=oT a en ha (by omega) 10 aN b l q hx;obtain ⟨c1,c2⟩:=aAg a en l k1 k2 ha hae hen;rw [<- k4] at c1 c2;exact ⟨b,l,q,hx,k1,k2,m3,by omega,c1,by omega,k3,k4⟩
def aFg (s:CSt)(next:Int->List Rg)(a:Int):List Rg:=
 match s with
 | some (b,l,q)=>(b,l,255-(q:Int),false,false,false)::next (a+cnt l q)
 | none=>[]
def fN (en:Int):Nat->Int->List Rg
 | 0,_=>[]
 | n+1,a=>if a<en then aFg (bH a en 10) (fN en n) a else []
theorem uJ (en:Int)(n:Nat)(a:Int)(h:¬ a<en):fN en n a=[]:=by
 cases n with
 | zero=>rfl
 | succ n=>exact if_neg h
theorem pJ (en:Int)(n:Nat)(a b l:Int)(q:Nat)(h:a<en)(hF:bH a en 10=some (b,l,q)):fN en (n+1) a=(b,l,255-(q:Int),false,false,false)::fN en n (a+cnt l q):=by
 have e:fN en (n+1) a=aFg (bH a en 10) (fN en n) a:=if_pos h;rw [e,hF];rfl
def grn (x:Int):Bool:=decide (0<=x/\x%32=0)
theorem eQ (x:Int)(w:qw):
 qC 226 #[qI x] w fun e w'=>e=.returned (.bool (grn x))/\w=w':=by
 by_cases h:0<=x
 .have HG:=zh (show grn x=decide (x%32=0) from by unfold grn;simp [h]);go_enter func226,ntmps226
  go_wp2;go_ret;refine ⟨aA ?_,rfl⟩;rw [HG.o];rw [xJ];simp
 .have HG:=zh (show grn x=false from by unfold grn;simp;omega);go_enter func226,ntmps226
  go_wp2;go_ret;exact ⟨aA HG.o.symm,rfl⟩
def mN (w:qw)(ok:Bool)(L:List Rg)(e:Ending)(w':qw):Prop:=
 ∃ (x:qO) (m cap:Nat),e=.returned (.tuple #[qS x m cap,.bool ok])/\ORg w' w.heap.size (qS x m cap) L/\qY w w'
theorem rC (w:qw)(base:Nat):ORg w base (qS none 0 0) []:=⟨⟨rfl,.inl ⟨rfl,rfl⟩⟩,fun _ h=>by cases h⟩
def qH (f s:Int):Bool:=grn f&&grn s&&decide (s<=262144-f)
def pL (f s:Int):List Rg:=fN (f+s) (s/32).toNat f
set_option maxRecDepth 100000 in
theorem aC7 (f s:Int)(w:qw)(hf:0<=f)(hf32:f%32=0)(hs:0<=s)(hs32:s%32=0)(hfs:s<=262144-f):
 qC 235 #[qI f,qI s] w (mN w true (pL f s)):=by
 obtain ⟨i0,hi,hz0,hz1,hz2⟩:=info_parts aGn;have G1:=zh (eQ f);have G2:=zh (eQ s);have e1:grn f=true:=by unfold grn;simp;omega
 have e2:grn s=true:=by unfold grn;simp;omega
 rw [e1] at G1;rw [e2] at G2;clear e1 e2;obtain ⟨L,hL⟩:=eqx (pL f s);rw [<- hL];unfold pL at hL;have HL:=zh hL;clear hL;go_enter func235,ntmps235
 go_wp2_with fail
 refine (G1.o w).mono ?_;rintro e w1 ⟨rfl,rfl⟩;go_wp2_with fail
 refine (G2.o w).mono ?_;rintro e w1 ⟨rfl,rfl⟩;go_wp2_with fail
 go_loopw [6,8] (fun r x wr=>∃ (A:qO) (m cap:Nat) (rs:List Rg) (n:Nat) (a:Int),r=qS A m cap/\x=qI a/\f<=a/\a<=f+s/\a%32=0/\f+s-a<=32*(n:Int)/\m+n<=8192/\ORg wr w.heap.size (qS A m cap) rs/\L=rs++fN (f+s) n a/\qY w wr) (fun _ x _=>(f+s-intOf x).toNat)
 .exact ⟨none,0,0,[],(s/32).toNat,f,rfl,rfl,by omega,by omega,hf32,by omega,by omega,rC _ _,by rw [HL.o];rfl,brf⟩
 .obtain ⟨A,m,cap,rs,n,a,rfl,rfl,ha,ha2,ha32,hn,hmn,hO,hLL,hB⟩:=hrel;have hlen:=(fA hO).1;by_cases hlt:a<f+s
  .obtain ⟨b,l,q,hF,hl,hl2,hq,hc1,hc2,hc3,hb,_⟩:=aLj a (f+s) (by omega) hlt (by omega) ha32 (by omega);obtain ⟨n,rfl⟩:∃ n',n=n'+1:=⟨n-1,by omega⟩;rw [pJ (f+s) n a b l q hlt hF] at hLL
   have hbw:0<=b/\b<=262144:=by
    have:=lK a l _ hl hl2 rfl;have:=pow_pos l.toNat;rw [hb];unfold bC;omega
   clear hb;have HW:=zh (aDt a (f+s) wr (by omega) hlt (by omega) b l q hF);have HLL:=zh hLL;have HO:=zh hO;have HB:=zh hB;have HC:=zh (eN b l q false false false);have HLEN0:=zh hlen;have hsz:=hB.size;obtain ⟨c,hcc⟩:=eqx (cnt l q);rw [<- hcc] at hc1 hc2 hc3 HC HLL;have HCC:=zh hcc;have HWF:=zh (show wfi b/\wfi l/\wfi (255-(q:Int)) from by unfold wfi;omega);have HQ:=zh hq;clear hLL hO hB hF hlen hcc;go_wp2_with fail
   refine HW.o.mono ?_;rintro e w2 ⟨rfl,hb2⟩;have HB2:=zh (HB.o.trans (hb2.mono hsz));obtain ⟨o,ho⟩:=eqx (255-(q:Int));rw [<- ho] at HC HLL HWF ⊢;have hO2:=zF (S:=fun _=>False) (aJ hb2) HO.o (fun _ _=>id);have hO3:=hO2.1.alloc (.cells #[qI b,qI l,qI o,.bool false,.bool false,.bool false] 214);have HOWN:=zh (hO3.alloc (.cells #[qI b,qI l,qI o,.bool false,.bool false,.bool false] 214));rw [HLEN0.o] at HOWN;have HLEN:Zh ((dB (b,l,o,false,false,false)).length=1*6):=rfl;have HNEWS:=zh (aJ8 (w2.alloc (.cells #[qI b,qI l,qI o,.bool false,.bool false,.bool false] 214)) (b,l,o,false,false,false));have HONE:=zh (aMn (b,l,o,false,false,false));have HRS:=zh hO2.2;have HLT:=zh hO2.1.lt;have KB:=zh ((Blk.new w2 #[qI b,qI l,qI o,.bool false,.bool false,.bool false] 214).alloc (.cells #[qI b,qI l,qI o,.bool false,.bool false,.bool false] 214));have hsz2:=hb2.size;have HB3:=zh ((HB2.o.alloc (by omega) (.cells #[qI b,qI l,qI o,.bool false,.bool false,.bool false] 214)).alloc (by simp;omega) (.cells #[qI b,qI l,qI o,.bool false,.bool false,.bool false] 214));try unfold qY at *
   simp only [xF] at HNEWS;clear hO2 hO3 hb2 ho;go_wp2_with (at_builtin;refine wpList_append_own _ rfl _ _ 108 rfl w.heap.size 214 i0 (.agg #[qI 0,qI 0,qI 0,.bool false,.bool false,.bool false]) 6 32 underlying108 hi hz0 hz1 hz2 rfl (by decide) (qS A m cap) m (dQ rs) rfl HOWN.o (qR (w2.heap.size+1) 0) 1 1 (dB (b,l,o,false,false,false)) rfl HLEN.o HNEWS.o HONE.o (by unfold maxLen;omega) (by omega) (by simp;omega) ?_;intro v' w3 hown3 hgr3 _;obtain ⟨A',cap',he⟩:=mY hown3;subst he;have hO3:=aAo (W:=w2) (v:=qS A m cap) (g:=(b,l,o,false,false,false)) HRS.o HWF.o (by rw [HLEN0.o];exact hown3);have t3:=jG hgr3;have hfar:∀ j,(qS A m cap).ownBlock=some j->w.heap.size<=j:=fun j hj=>(HLT.o j hj).1;have hnot:∀ j,(qS A m cap).ownBlock=some j->j<w2.heap.size:=fun j hj=>(HLT.o j hj).2;have hK3:=aF t3 KB.o (fun e=>by have:=hnot _ e;omega);have hsz3:=t3.size;simp only [xF] at hsz3;have HB4:=zh (aG HB3.o t3 hfar (by simp;omega));have HO3:=zh hO3;have HK3:=zh hK3;obtain ⟨q1,q2,q3,q4,q5,q6,q7⟩:=hK3.six';clear hO3 t3 hfar hnot hown3 hgr3 hK3)
   refine (HC.o w3 HQ.o hl hl2).mono ?_;rintro e w4 ⟨rfl,hb4⟩;have HB5:=zh (HB4.o.trans (hb4.mono (by omega)));have HO5:=zh (zF (S:=fun _=>False) (aJ hb4) HO3.o (fun _ _=>id));clear hb4;go_wp2_with fail
   go_roundw
   .exact ⟨A',m+1,cap',rs++[(b,l,o,false,false,false)],n,a+c,rfl,by go_num,by omega,by omega,by omega,by omega,by omega,HO5.o,by rw [HLL.o];simp,HB5.o⟩
   .simp [intOf];omega
  .have hLe:L=rs:=by rw [hLL,uJ _ _ _ hlt,List.append_nil]
   subst hLe;have HO:=zh hO;have HB:=zh hB;clear hLL hO hB;go_wp2
   go_ret2
   exact ⟨A,m,cap,rfl,HO.o,HB.o⟩
theorem aE8 (f s:Int)(w:qw)(hs0:-9223372036854775808<=f/\f<=9223372036854775807)(h:qH f s=false):
 qC 235 #[qI f,qI s] w (mN w false []):=by
 have G1:=zh (eQ f);have G2:=zh (eQ s);have HN:=zh (rC w w.heap.size);unfold qH at h;cases e1:grn f
 .rw [e1] at G1;clear h e1;go_enter func235,ntmps235
  go_wp2_with fail
  refine (G1.o w).mono ?_;rintro e w1 ⟨rfl,rfl⟩;go_wp2_with fail
  go_ret2
  exact ⟨none,0,0,rfl,HN.o,brf⟩
 .rw [e1] at G1 h;have hf:0<=f:=by unfold grn at e1;simp at e1;omega
  cases e2:grn s
  .rw [e2] at G2;clear h e1 e2;go_enter func235,ntmps235
   go_wp2_with fail
   refine (G1.o w).mono ?_;rintro e w1 ⟨rfl,rfl⟩;go_wp2_with fail
   refine (G2.o w).mono ?_;rintro e w1 ⟨rfl,rfl⟩;go_wp2_with fail
   go_ret2
   exact ⟨none,0,0,rfl,HN.o,brf⟩
  .rw [e2] at G2 h;have hlt:262144-f<s:=by simp at h;omega
   clear h e1 e2;go_enter func235,ntmps235
   go_wp2_with fail
   refine (G1.o w).mono ?_;rintro e w1 ⟨rfl,rfl⟩;go_wp2_with fail
   refine (G2.o w).mono ?_;rintro e w1 ⟨rfl,rfl⟩;go_wp2_with fail
   go_ret2
   exact ⟨none,0,0,rfl,HN.o,brf⟩
def cvL (f s:Int):List Rg:=if qH f s then pL f s else []
theorem aE9 (f s:Int)(w:qw)(hs0:-9223372036854775808<=f/\f<=9223372036854775807):
 qC 235 #[qI f,qI s] w (mN w (qH f s) (cvL f s)):=by
 unfold cvL;cases e:qH f s
 .exact aE8 f s w hs0 e
 .unfold qH grn at e;simp at e;exact aC7 f s w (by omega) (by omega) (by omega) (by omega) (by omega)
def ci (i0 j i:Nat):Nat:=min (i-i0) j
theorem aPl:∀ (i0:Fin 8) (j:Fin 9) (i:Fin 8),(i0.val<=i.val/\i.val<i0.val+j.val)->(ci i0 j (i.val+1)=ci i0 j i+1/\2^i.val-1-bK i0 (ci i0 j i)=2^(i.val+1)-1-bK i0 (ci i0 j (i.val+1))):=by decide +kernel
theorem aNj:∀ (i0:Fin 8) (j:Fin 9) (i:Fin 8),((i.val<i0.val\/i0.val+j.val<=i.val)/\i0.val+j.val<=8)->(ci i0 j (i.val+1)=ci i0 j i/\2^i.val-1-bK i0 (ci i0 j i)+2^i.val=2^(i.val+1)-1-bK i0 (ci i0 j (i.val+1))):=by decide +kernel
theorem aQe (i0:Nat)(h0:i0<8)(j:Nat)(hj:j<9)(i:Nat)(hi:i<8)(h:i0<=i/\i<i0+j):ci i0 j (i+1)=ci i0 j i+1/\2^i-1-bK i0 (ci i0 j i)=2^(i+1)-1-bK i0 (ci i0 j (i+1)):=aPl ⟨i0,h0⟩ ⟨j,hj⟩ ⟨i,hi⟩ h
theorem aPk (i0:Nat)(h0:i0<8)(j:Nat)(hj:j<9)(i:Nat)(hi:i<8)(h:(i<i0\/i0+j<=i)/\i0+j<=8):ci i0 j (i+1)=ci i0 j i/\2^i-1-bK i0 (ci i0 j i)+2^i=2^(i+1)-1-bK i0 (ci i0 j (i+1)):=aNj ⟨i0,h0⟩ ⟨j,hj⟩ ⟨i,hi⟩ h
theorem aLi:∀ i0,i0<8->∀ j,j<9->i0+j<=8->ci i0 j 8=j:=by decide +kernel
def jj (a en l:Int):Nat:=if a%(2:Int)^(l-3).toNat=0 then jOf a en l else 0
theorem aJu (a en l:Int)(h:8<=l):qOf a en l=bK (cJ a l) (jj a en l):=by
 unfold qOf jj;rw [if_neg (by omega)];split
 .rfl
 .rw [wR]
theorem aQb (a en l:Int)(hi:cJ a l<8):cJ a l+jj a en l<=8:=by
 unfold jj;split
 .unfold jOf;omega
 .omega
theorem aMj (a en l P N:Int)(hl:5<=l)(hl2:l<=14)(hP:(2:Int)^(l-3).toNat=P)(hN:(2:Int)^l.toNat=N)(ha:0<=a)(hae:a<en)(hen:en<=262144)(i:Nat)(hi:i<8):
 (a<=bC a l+(i:Int)*P/\bC a l+(i:Int)*P+P<=en/\a%P=0) ↔ (cJ a l<=i/\i<cJ a l+jj a en l):=by
 obtain ⟨g1,g2,g3,g4,g5,g6,g7⟩:=pD a l P N hl hl2 hP hN ha (by omega);unfold jj;rw [hP];by_cases hm:a%P=0
 .rw [if_pos hm];have hb:bC a l=a-a%N:=by unfold bC;rw [hN]
  have g6':=g6 hm;have hd0:0<=(en-a)/P:=Int.ediv_nonneg (by omega) (by omega)
  have e1:(a<=bC a l+(i:Int)*P) ↔ cJ a l<=i:=by
   rw [hb,g6'];constructor
   .intro h;have:(cJ a l:Int)*P<=(i:Int)*P:=by omega
    have:=Int.le_of_mul_le_mul_right this (by omega);omega
   .intro h;have:(cJ a l:Int)*P<=(i:Int)*P:=Int.mul_le_mul_of_nonneg_right (by omega) (by omega);omega
  have e2:cJ a l<=i->((bC a l+(i:Int)*P+P<=en) ↔ ((i-cJ a l:Nat):Int)<(en-a)/P):=by
   intro h;rw [hb,g6'];have e3:((i-cJ a l:Nat):Int)=(i:Int)-(cJ a l:Int):=by omega
   have e4:(((i:Int)-(cJ a l:Int))+1)*P=(i:Int)*P-(cJ a l:Int)*P+P:=by rw [Int.add_mul,Int.sub_mul];omega
   rw [e3];constructor
   .intro h;have:=Int.le_ediv_of_mul_le (c:=P) (a:=(i:Int)-(cJ a l:Int)+1) (b:=en-a) (by omega) (by omega);omega
   .intro h;have:(i:Int)-(cJ a l:Int)+1<=(en-a)/P:=by omega
    have:=Int.mul_le_of_le_ediv (by omega) this;omega
  have e5:jOf a en l=min (8-cJ a l) ((en-a)/P).toNat:=by unfold jOf;rw [hP]
  rw [e5,e1];constructor
  .rintro ⟨h1,h2,_⟩;have:=(e2 h1).1 h2;omega
  .rintro ⟨h1,h2⟩;exact ⟨h1,(e2 h1).2 (by omega),hm⟩
 .rw [if_neg hm];constructor
  .rintro ⟨_,_,h⟩;exact absurd h hm
  .intro h;omega
theorem nM (a N:Int)(h0:0<=a)(hN:0<N):a/N*N=a-a%N:=by
 have:=Int.mul_ediv_add_emod a N;rw [Int.mul_comm];omega
def aBt (w:qw)(b l c:Int)(q:Nat)(e:Ending)(w':qw):Prop:=
 ∃ o:Int,e=.returned (.tuple #[.agg #[qI b,qI l,qI o,.bool false,.bool false,.bool false],qI c])/\(0<c->o=255-(q:Int))/\qY w w'
theorem aBo (w W:qw)(tmps:Array Value)(b l o c:Int)(q:Nat)(h6:tmps[6]?=some (.pointer (qP w.heap.size)))(h7:tmps[7]?=some (qI c))
 (hz:Blk W w.heap.size #[qI b,qI l,qI o,.bool false,.bool false,.bool false] 214) (hB:qY w W) (ho:0<c->o=255-(q:Int)):
 bodyPost prog f225 (aBt w b l c q) Exit.ret ⟨tmps,[]⟩ W:=by
 refine bodyPost_ret (v:=.tuple #[.agg #[qI b,qI l,qI o,.bool false,.bool false,.bool false],qI c]) ?_ rfl ⟨o,rfl,ho,hB⟩;obtain ⟨p1,p2,p3,p4,p5,p6,p7⟩:=hz.six';simp [results,results225,go_sem,h6,h7,p1,p2,p3,p4,p5,p6]
theorem aBn {w2:qw}(hz:Blk w2 g #[qI 0,qI 0,qI 0,.bool false,.bool false,.bool false] 214)(b l o:Int):
 Blk ((((((w2.setCell (qR g 0) (qI b)).setCell (qR g 1) (qI l)).setCell (qR g 2) (qI o)).setCell (qR g 3) (.bool false)).setCell (qR g 4) (.bool false)).setCell (qR g 5) (.bool false)) g #[qI b,qI l,qI o,.bool false,.bool false,.bool false] 214:=
 Blk.set (Blk.set (Blk.set (Blk.set (Blk.set (Blk.set hz 0 _) 1 _) 2 _) 3 _) 4 _) 5 _
theorem kZ {B:Nat}{w w2:qw}(hg:B<=g)(h:Below B w w2)(b l o:Int):
 Below B w ((((((w2.setCell (qR g 0) (qI b)).setCell (qR g 1) (qI l)).setCell (qR g 2) (qI o)).setCell (qR g 3) (.bool false)).setCell (qR g 4) (.bool false)).setCell (qR g 5) (.bool false)):=
 (((((h.setCell hg _).setCell hg _).setCell hg _).setCell hg _).setCell hg _).setCell hg _
theorem vW (a s l:Int)(w:qw)(hl:5<=l)(hl2:l<8)(ha:0<=a)(hs:0<s)(has:a+s<=262144):
 qC 225 (qT l a s) w (aBt w (bC a l) l (cnt l (qOf a (a+s) l)) (qOf a (a+s) l)):=by
 obtain ⟨P,hP⟩:∃ P,(2:Int)^(l-3).toNat=P:=⟨_,rfl⟩;obtain ⟨N,hN⟩:∃ N,(2:Int)^l.toNat=N:=⟨_,rfl⟩;obtain ⟨g1,g2,g3,g4,g5,g6,g7⟩:=pD a l P N hl (by omega) hP hN ha (by omega);obtain ⟨b0,b1,b2,b3,b4⟩:=lK a l N hl (by omega) hN ha;have hdm:=nM a N ha (by omega);obtain ⟨b,hb⟩:=eqx (a-a%N);have hbo:bC a l=b:=by unfold bC;rw [hN,hb]
 rw [<- hb] at b0 b1 b2 hdm;have HP2:=zh (fun w=>fC l (by omega) (by omega) w);rw [hN] at HP2;have hwf:(Lit.int .i64 b).wf=true:=by simp [Lit.wf,IntKind.min,IntKind.max,IntKind.bits,IntKind.signed];omega
 have HR:=zh (fun w=>lP b l 0 false false false w hwf);have hrok:rok b l 0=true:=by unfold rok;rw [hN];simp;omega
 rw [hrok] at HR;rw [hbo]
 have h8:8*P<=1024:=by
  have:l=5\/l=6\/l=7:=by omega
  rcases this with rfl|rfl|rfl<;>(simp at hP;omega)
 have HE:=zh (show ∀ c:Bool,(c=true ↔ (a=b/\N<=s))->qOf a (a+s) l=(if c then 255 else 0)/\cnt l (qOf a (a+s) l)=(if c then N else 0) from by
  intro c hc
  have e:qOf a (a+s) l=(if c then 255 else 0):=by
   unfold qOf;rw [if_pos hl2,hN];cases c
   .rw [if_neg (by simp at hc;omega)];rfl
   .have:=hc.1 rfl;rw [if_pos (by omega)];rfl
  refine ⟨e,?_⟩;rw [e];cases c
  .exact uO l
  .show cnt l 255=N;unfold cnt;rw [hP,show sF 255=8 from rfl,g1]
   rfl)
 have hN1:N<=1024:=by omega
 have hN0:0<N:=by omega
 clear hP hN g1 g2 g3 g4 g5 g6 g7 hrok hbo h8 b2 b3 b4 hb hwf;go_enter func225,ntmps225
 go_wp2_with fail
 refine (HP2.o _).mono ?_;rintro e w1 ⟨rfl,rfl⟩;go_wp2_with fail
 refine (HR.o _).mono ?_;rintro e w2 ⟨rfl,hb2⟩;have kz:=((Blk.new w #[qI 0,qI 0,qI 0,.bool false,.bool false,.bool false] 214).alloc (.cells #[qI b,qI l,qI 0,.bool false,.bool false,.bool false] 214)).bw hb2;have kr:=(Blk.new (w.alloc (.cells #[qI 0,qI 0,qI 0,.bool false,.bool false,.bool false] 214)) #[qI b,qI l,qI 0,.bool false,.bool false,.bool false] 214).bw hb2;try unfold qY at *
 simp only [xF] at kr;have HB2:=zh ((((Below.refl w.heap.size w).alloc aN (.cells #[qI 0,qI 0,qI 0,.bool false,.bool false,.bool false] 214)).alloc (by simp) (.cells #[qI b,qI l,qI 0,.bool false,.bool false,.bool false] 214)).trans (hb2.mono (by simp;omega)));obtain ⟨q1,q2,q3,q4,q5,q6,q7⟩:=kz.six';obtain ⟨p1,p2,p3,p4,p5,p6,p7⟩:=kr.six';have KZ:=zh kz;clear kz kr hb2;by_cases hba:b=a
 .subst hba;by_cases hNs:s<N
  .obtain ⟨x1,x2⟩:=HE.o false (by simp;omega);have X:=zh (xA x1 x2);clear x1 x2 HE;go_wp2_with fail
   rw [X.o.2,X.o.1];exact aBo w _ _ b l 0 0 0 rfl rfl (aBn KZ.o b l 0) (kZ aN HB2.o b l 0) (fun h=>absurd h (by omega))
  .obtain ⟨x1,x2⟩:=HE.o true (by simp;omega);have X:=zh (xA x1 x2);clear x1 x2 HE;go_wp2_with fail
   rw [X.o.2,X.o.1];exact aBo w _ _ b l 0 N 255 rfl rfl (aBn KZ.o b l 0) (kZ aN HB2.o b l 0) (fun _=>rfl)
 .obtain ⟨x1,x2⟩:=HE.o false (by simp;omega);have X:=zh (xA x1 x2);have hba':(b !=a)=true:=by simpa using hba
  clear x1 x2 HE hba;go_wp2_with fail
  rw [X.o.2,X.o.1];exact aBo w _ _ b l 0 0 0 rfl rfl (aBn KZ.o b l 0) (kZ aN HB2.o b l 0) (fun h=>absurd h (by omega))
def rgt (r x y:Bool)(g:Rg):Rg:=(g.1,g.2.1,g.2.2.1,r,x,y)
def rts (r x y:Bool)(L:List Rg):List Rg:=L.map (rgt r x y)
theorem fR (r x y:Bool)(L:List Rg):(rts r x y L).length=L.length:=by simp [rts]
theorem aJl (r x y:Bool)(L:List Rg)(k:Nat)(h:k<L.length):(rts r x y L).take (k+1)=(rts r x y L).take k++[rgt r x y (L.getD k z6)]:=by
 rw [List.take_add_one];congr 1;simp [rts,xB,h]
theorem uI:∀ (n:Nat) (en a:Int),(fN en n a).length<=n
 | 0,en,a=>by simp [fN]
 | n+1,en,a=>by
   unfold fN;split
   .unfold aFg;split
    .have:=uI n en;simp only [List.length_cons];exact Nat.succ_le_succ (this _)
    .simp
   .simp
theorem rM (f s:Int):(cvL f s).length<=8192:=by
 unfold cvL;split
 .rename_i h;unfold pL;unfold qH grn at h;simp at h;have:=uI (s/32).toNat (f+s) f;omega
 .simp
def RowW (w:qw)(g:Nat)(rs:List Rg):Prop:=
 (∃ cur,Blk w g cur 214)/\∀ i,i<rs.length->At6 w g (i*6) (rs.getD i z6)
theorem RowW.frozen {w:qw}(h:RowW w g rs)(i:Nat):w.frozen? (qR g i)=false:=by obtain ⟨⟨cur,hb⟩,_⟩:=h;exact hb.frozen i
theorem aMm {w:qw}{n cap:Nat}(h:ORg w base (qS (qP g) n cap) rs)(hn:n≠0):RowW w g rs:=by
 have hr:=fA h;have hl:=hr.1;obtain ⟨_,⟨h0,h0'⟩|⟨g',cap',cur,hv,hg,hh,h1,h2,h3,h4⟩⟩:=h.1
 .simp at h0
 .simp at hv;obtain ⟨rfl,_⟩:=hv;exact ⟨⟨cur,hh⟩,fun i hi=>by have:=hr.at i (by omega);rw [Nat.zero_add] at this;exact this⟩
theorem eX {S:Nat->Prop}{w w':qw}(t:Turn S w w')(h:ORg w base v rs)(hk:∀ k,v.ownBlock=some k->¬ S k):ORg w' base v rs:=by
 refine ⟨?_,h.2⟩;obtain ⟨hl,h0|⟨g',cap,cur,rfl,hg,hh,h1,h2,h3,h4⟩⟩:=h.1
 .exact ⟨hl,.inl h0⟩
 .exact ⟨hl,.inr ⟨g',cap,cur,rfl,hg,aF t hh (hk g' rfl),h1,h2,h3,h4⟩⟩
theorem aGe {w:qw}(h:ORg w base v rs)(k:Nat)(hk:v.ownBlock=some k):k<w.heap.size:=by
 obtain ⟨hl,⟨rfl,h0⟩|⟨g',cap,cur,rfl,hg,hh,h1,h2,h3,h4⟩⟩:=h.1
 .cases hk
 .have e:some g'=some k:=hk;injection e with e
  subst e;exact Blk.lt (w:=w) hh
