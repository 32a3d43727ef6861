import Derived.Maps.AppendAt
import Derived.Test.YtncccmeomcaabaaGreatC04
import Derived.Test.YtncccmeomcaabaaGreatC05
set_option linter.all false
set_option maxHeartbeats 2000000
namespace Go.Proofs.YtncccmeomcaabaaGreat
open Go.RowKit Classical
open Go.Proofs.Tryz
set_option maxRecDepth 100000
variable {B b cap g j m n o:Nat}{S:Nat->Prop}{a k:Int}{q:Rg}{rs:List Rg}
theorem uD {w w':qw}{s:CSt}(t:Turn S w w')(h:gV w B s)(hk:¬ S B):gV w' B s:=by
 match s,h with
 | none,h=>exact aF t h hk
 | some (b,l,q),h=>exact aF t h hk
theorem lY (a l N:Int)(hl:5<=l)(hl2:l<=14)(hN:(2:Int)^l.toNat=N)(h0:0<=a:=by omega)(h1:a<262144:=by omega):0<=a-a%N/\a-a%N<=262144-N/\(a-a%N)%N=0/\0<=a%N/\a%N<N:=by
 have:l=5\/l=6\/l=7\/l=8\/l=9\/l=10\/l=11\/l=12\/l=13\/l=14:=by omega
 rcases this with rfl|rfl|rfl|rfl|rfl|rfl|rfl|rfl|rfl|rfl<;>(subst hN;simp;omega)
theorem yN (l:Int)(hl:5<=l):(2:Int)^l.toNat=8*(2:Int)^(l-3).toNat:=by
 have:l.toNat=(l-3).toNat+3:=by omega
 rw [this,Int.pow_add];omega
theorem aCw (l:Int)(hl:5<=l)(hl2:l<=14):4<=(2:Int)^(l-3).toNat/\(2:Int)^(l-3).toNat<=2048:=by
 have:l=5\/l=6\/l=7\/l=8\/l=9\/l=10\/l=11\/l=12\/l=13\/l=14:=by omega
 rcases this with rfl|rfl|rfl|rfl|rfl|rfl|rfl|rfl|rfl|rfl<;>simp
theorem aNe (q:Nat)(h:q<256):bits BinOp.xor IntKind.u8 IntKind.u8.max (q:Int)=255-(q:Int):=by
 have:=aLv (255-q) (by omega);have e:(255-((255-q:Nat):Int))=(q:Int):=by omega
 rw [e] at this;rw [this];omega
def aHm (s:CSt)(a en l P b:Int)(i0:Nat)(s':CSt):Prop:=
 (a%P≠0/\s'=s) \/
 (a%P=0/\∃ j:Nat,i0+j<=8/\(b+((i0+j:Nat):Int)*P<=en\/j=0)/\(i0+j=8\/en<b+(((i0+j:Nat):Int)+1)*P)/\s'=stJ s b l i0 j)
theorem aOy {a w w':qw}(h:Turn S a w)(hb:qY w w'):Turn S a w':=h.trans (aJ hb)
theorem wA (B:Nat)(s:CSt)(a en l P N b:Int)(i0:Nat)(w:qw)(hl:5<=l)(hl2:l<=14)(ha:0<=a)(hae:a<en)(hen:en<=262144)(hs:aP7 s l)(hs0:0<=mP s)(hP:(2:Int)^(l-3).toNat=P)(hN:(2:Int)^l.toNat=N)(hb:a-a%N=b)(hi:(a-b)/P=(i0:Int))(h:gV w B s):
 qC 263 #[.pointer (qP B),qI a,qI en,qI l] w fun e w'=>e=.returned (.tuple #[])/\(∃ s',gV w' B s'/\aHm s a en l P b i0 s')/\Turn (fun j=>j=B) w w':=by
 obtain ⟨p4,p5⟩:=aCw l hl hl2;obtain ⟨b0,b1,b2,b3,b4⟩:=lY a l N hl hl2 hN ha;have hNP:=yN l hl;rw [hP,hN] at hNP;have hN1:N<=16384:=by rw [hP] at p5;omega
 have hN0:0<N:=by rw [hP] at p4;omega
 rw [hb] at b0 b1 b2;rw [hP] at p4 p5;have hP':=zh hP;have hN':=zh hN;have hab:a-b=a%N:=by omega
 have hi8:i0<8:=by
  have:(a-b)/P<8:=by
   apply Int.ediv_lt_of_lt_mul (by omega);omega
  omega
 by_cases hm:a%P=0
 .have hab2:a=b+(i0:Int)*P:=by
   have e1:(a%N)%P=0:=by
    rw [hNP,Int.emod_emod_of_dvd a (Int.dvd_mul_left 8 P)];exact hm
   have e2:=Int.mul_ediv_add_emod (a-b) P;rw [hi,hab,e1,Int.mul_comm] at e2;omega
  have HK:=zh (aJk s b l P hP i0 hi8 hs0);have HS:=zh hs;have HNP:=zh hNP;have HAB:=zh hab2;have HAB1:=zh hab;have HH:=zh h;have HB2:=zh b2;have HM:=zh hm;clear hNP hs hab2 hab h b2;go_enter func263,ntmps263
  go_wp2;go_loopw [10,11] (fun r i wr=>∃ j:Nat,i0+j<=8/\r=.int .u8 (bM i0 j:Nat)/\i=qI ((i0+j:Nat):Int)/\(b+((i0+j:Nat):Int)*P<=en\/j=0)/\gV wr B (stJ s b l i0 j)/\Turn (fun j=>j=B) w wr) (fun _ i _=>8-(intOf i).toNat)
  .exact ⟨0,by omega,by rw [yK];rfl,by rw [hi];rfl,Or.inr rfl,by rw [HK.o];exact HH.o,Turn.refl _ _⟩
  .obtain ⟨j,hj,rfl,rfl,hq,hH,hT⟩:=hrel;obtain ⟨k,hk⟩:∃ k:Nat,k=i0+j:=⟨_,rfl⟩;have hkP:((k:Int)+1)*P=(k:Int)*P+P:=by rw [Int.add_mul];simp
   have hkP0:0<=(k:Int)*P:=Int.mul_nonneg (by omega) (by omega);have hkP1:(k:Int)*P<=8*P:=Int.mul_le_mul_of_nonneg_right (by omega) (by omega);have hm0:0<=((k:Int)+1)*P:=by omega
   have hm1:((k:Int)+1)*P<=18432:=by omega
   rw [<- hk] at hj hq ⊢;have HKP:=zh hkP;have HQ:=zh hq;have HHH:=zh hH;have HT:=zh hT;have HKK:=zh hk;have HI:=zh hi;have HBB:=zh hb;clear hkP hkP0 hkP1 hq hH hT hk hi hb hP hN b3 b4 hm;by_cases h8:k<8
   .by_cases hle:b+((k:Int)+1)*P<=en
    .have HLE:=zh hle;have hq0:=lQ i0 hi8 j (by have:=HKK.o;omega) (by have:=HKK.o;omega);have hq1:=lQ i0 hi8 (j+1) (by have:=HKK.o;omega) (by have:=HKK.o;omega);have HST:=zh (aH2 i0 hi8 j (by have:=HKK.o;omega) (by have:=HKK.o;omega));rw [<- HKK.o] at HST;have HNR:=zh (aNe (bM i0 (j+1)) hq1)
     have HROK:=zh (show rok b l (255-(bM i0 (j+1):Int))=decide (8<=l\/j+1=8) from by
      have hf:=aH3 i0 hi8 (j+1) (by have:=HKK.o;omega) (by have:=HKK.o;omega);unfold rok;rw [hN'.o];have:=HB2.o;rw [xJ];simp only [decide_eq_true_eq];constructor
      .rintro ⟨_,_,_,_,h|h,_⟩
       .exact Or.inl h
       .exact Or.inr (hf.1 (by omega))
      .intro h;refine ⟨hl,hl2,by omega,by omega,?_,by omega,by omega,HB2.o⟩;rcases h with h|h
       .exact Or.inl h
       .exact Or.inr (by have:=hf.2 h;omega))
     go_wp2_with fail
     refine (aJa (bM i0 j) k _ hq0 h8).mono ?_;rintro e w1 ⟨rfl,rfl⟩;rw [HST.o];obtain ⟨q,hq⟩:=eqx (bM i0 (j+1));rw [<- hq] at HNR HROK hq1 ⊢;have HQQ:=zh hq;clear hq;have hwf:(Lit.int .i64 b).wf=true:=by simp [Lit.wf,IntKind.min,IntKind.max,IntKind.bits,IntKind.signed];omega
     go_wp2_with fail
     rw [HNR.o];rw [show wrap64 (255-(q:Int))=255-(q:Int) from by unfold wrap64;omega];refine (mI b l (255-(q:Int)) false false false _ hwf).mono ?_;rintro e w2 ⟨rfl,hb2⟩;obtain ⟨q1,q2,q3,q4,q5,q6,q7⟩:=(Blk.bw (Blk.new wr #[qI b,qI l,qI (255-(q:Int)),.bool false,.bool false,.bool false] 214) hb2).six';have HT2:=zh (aOy (aOy HT.o (brf.alloc aN (.cells #[qI b,qI l,qI (255-(q:Int)),.bool false,.bool false,.bool false] 214))) hb2);have HH2:=zh (uD (S:=fun _=>False) (aJ hb2) (uD (S:=fun _=>False) (iW wr (.cells #[qI b,qI l,qI (255-(q:Int)),.bool false,.bool false,.bool false] 214)) HHH.o id) id);rw [HROK.o];clear hb2;by_cases hc:8<=l\/j+1=8
     .simp only [hc,decide_true];have HOF:=zh (aEp B s b l P hP'.o (by omega) i0 j w2 hi8 (by have:=HKK.o;omega) hl hl2 HS.o hs0 hc HH2.o);rw [<- HQQ.o] at HOF;go_wp2_with fail
      refine HOF.o.mono ?_;rintro e w3 ⟨rfl,hH3,hT3⟩;have HH3:=zh hH3;have HT3:=zh (HT2.o.trans hT3);clear hH3 hT3;go_wp2_with fail
      go_roundw
      .exact ⟨j+1,by have:=HKK.o;omega,by rw [HQQ.o],by rw [HKK.o];go_num,Or.inl (by have:=HLE.o;have e:=HKK.o;rw [show ((i0+(j+1):Nat):Int)=(k:Int)+1 by omega];exact this),HH3.o,HT3.o⟩
      .simp [intOf];omega
     .simp only [hc,decide_false]
      have HH3:=zh (show gV w2 B (stJ s b l i0 (j+1)) from by
       have e1:stJ s b l i0 (j+1)=s:=by unfold stJ;rw [if_neg hc]
       have e2:stJ s b l i0 j=s:=by unfold stJ;rw [if_neg (by have:=HKK.o;omega)]
       rw [e1,<- e2]
       exact HH2.o)
      go_wp2_with fail
      go_roundw
      .exact ⟨j+1,by have:=HKK.o;omega,by rw [HQQ.o],by rw [HKK.o];go_num,Or.inl (by have:=HLE.o;have e:=HKK.o;rw [show ((i0+(j+1):Nat):Int)=(k:Int)+1 by omega];exact this),HH3.o,HT2.o⟩
      .simp [intOf];omega
    .have HLE:=zh hle;go_wp2
     go_end0
     exact ⟨rfl,⟨_,HHH.o,Or.inr ⟨HM.o,j,by have:=HKK.o;omega,by rw [<- HKK.o];exact HQ.o,by rw [<- HKK.o];exact Or.inr (by have:=HLE.o;omega),rfl⟩⟩,HT.o⟩
   .go_wp2
    go_end0
    exact ⟨rfl,⟨_,HHH.o,Or.inr ⟨HM.o,j,by have:=HKK.o;omega,by rw [<- HKK.o];exact HQ.o,Or.inl (by have:=HKK.o;omega),rfl⟩⟩,HT.o⟩
 .have hm':(a%P !=0)=true:=by simpa using hm
  have HN:=zh hm;clear hm;go_enter func263,ntmps263
  go_wp2
  (try simp only [Exit.inBlock,Exit.then]);refine bodyPost_ret (results_none rfl _ _ _) rfl ?_
  exact ⟨rfl,⟨s,h,Or.inl ⟨HN.o,rfl⟩⟩,Turn.refl _ _⟩
def aZ (a l:Int):Int:=a-a%(2:Int)^l.toNat
def cK (a l:Int):Nat:=((a%(2:Int)^l.toNat)/(2:Int)^(l-3).toNat).toNat
def jOf (a en l:Int):Nat:=min (8-cK a l) ((en-a)/(2:Int)^(l-3).toNat).toNat
def qOf (a en l:Int):Nat:=
 if l<8 then (if a%(2:Int)^l.toNat=0/\a+(2:Int)^l.toNat<=en then 255 else 0)
 else if a%(2:Int)^(l-3).toNat=0 then bM (cK a l) (jOf a en l) else 0
theorem uY (l:Int):cnt l 0=0:=by simp [cnt,sP]
theorem zA (s:CSt)(b l:Int)(h:0<=mP s):keep s b l 0=s:=by
 unfold keep;rw [uY,if_neg (by omega)]
theorem pQ (a l P N:Int)(hl:5<=l)(hl2:l<=14)(hP:(2:Int)^(l-3).toNat=P)(hN:(2:Int)^l.toNat=N)(ha:0<=a)(ha2:a<262144):
 N=8*P/\4<=P/\P<=2048/\(a%N)%P=a%P/\cK a l<8/\(a%P=0->a%N=(cK a l:Int)*P)/\(a-aZ a l)/P=(cK a l:Int):=by
 obtain ⟨p4,p5⟩:=aCw l hl hl2;have hNP:=yN l hl;rw [hP,hN] at hNP;rw [hP] at p4 p5;obtain ⟨b0,b1,b2,b3,b4⟩:=lY a l N hl hl2 hN ha ha2;have hd:(a%N)%P=a%P:=by rw [hNP,Int.emod_emod_of_dvd a (Int.dvd_mul_left 8 P)]
 have h0:0<=(a%N)/P:=Int.ediv_nonneg b3 (by omega);have h8:(a%N)/P<8:=Int.ediv_lt_of_lt_mul (by omega) (by omega);have hi:((cK a l:Nat):Int)=(a%N)/P:=by unfold cK;rw [hP,hN];omega
 refine ⟨hNP,p4,p5,hd,by omega,fun hm=>?_,?_⟩
 .have e2:=Int.mul_ediv_add_emod (a%N) P;rw [hd,hm,<- hi,Int.mul_comm] at e2;omega
 .unfold aZ;rw [hN,hi];congr 1;omega
theorem aQ9 (a en l P N:Int)(hl:5<=l)(hl2:l<=14)(hP:(2:Int)^(l-3).toNat=P)(hN:(2:Int)^l.toNat=N)(ha:0<=a)(hae:a<en)(hen:en<=262144)(hm:a%P=0)(j:Nat)(h1:cK a l+j<=8)
 (h2:aZ a l+((cK a l+j:Nat):Int)*P<=en\/j=0) (h3:cK a l+j=8\/en<aZ a l+(((cK a l+j:Nat):Int)+1)*P):j=jOf a en l/\a+(j:Int)*P<=en:=by
 obtain ⟨g1,g2,g3,g4,g5,g6,g7⟩:=pQ a l P N hl hl2 hP hN ha (by omega);have hb:aZ a l=a-a%N:=by unfold aZ;rw [hN]
 have e1:((cK a l+j:Nat):Int)*P=(cK a l:Int)*P+(j:Int)*P:=by rw [Int.natCast_add,Int.add_mul]
 have e2:(((cK a l+j:Nat):Int)+1)*P=(cK a l:Int)*P+(j:Int)*P+P:=by rw [Int.add_mul,e1];omega
 rw [hb,g6 hm,e1] at h2;rw [hb,g6 hm,e2] at h3
 have hjP:a+(j:Int)*P<=en:=by
  rcases h2 with h|h
  .omega
  .subst h;simp;omega
 have hd:(j:Int)<=(en-a)/P:=Int.le_ediv_of_mul_le (by omega) (by omega);refine ⟨?_,hjP⟩;unfold jOf;rw [hP];rcases h3 with h|h
 .omega
 .have:(en-a)/P<(j:Int)+1:=Int.ediv_lt_of_lt_mul (by omega) (by rw [Int.add_mul];omega);omega
theorem aD1 (s s':CSt)(a en l P N:Int)(hl:5<=l)(hl2:l<=14)(hP:(2:Int)^(l-3).toNat=P)(hN:(2:Int)^l.toNat=N)(ha:0<=a)(hae:a<en)(hen:en<=262144)(hs:0<=mP s)
 (h:aHm s a en l P (aZ a l) (cK a l) s'):s'=keep s (aZ a l) l (qOf a en l):=by
 obtain ⟨g1,g2,g3,g4,g5,g6,g7⟩:=pQ a l P N hl hl2 hP hN ha (by omega);rcases h with ⟨hm,rfl⟩|⟨hm,j,h1,h2,h3,rfl⟩
 .have hq:qOf a en l=0:=by
   unfold qOf;rw [hP,hN];by_cases h8:l<8
   .rw [if_pos h8,if_neg];rintro ⟨h,_⟩;rw [h] at g4;simp at g4;exact hm g4.symm
   .rw [if_neg h8,if_neg hm]
  rw [hq,zA _ _ _ hs]
 .obtain ⟨hj,hjP⟩:=aQ9 a en l P N hl hl2 hP hN ha hae hen hm j h1 h2 h3;have g6':=g6 hm;unfold stJ qOf;rw [hP,hN];by_cases h8:l<8
  .rw [if_pos h8];by_cases h88:j=8
   .have:cK a l=0:=by omega
    rw [this] at g6';simp at g6';subst h88;rw [if_pos (Or.inr rfl),if_pos ⟨g6',by omega⟩,this];rfl
   .rw [if_neg (by omega),if_neg,zA _ _ _ hs];rintro ⟨k1,k2⟩;rw [k1] at g6'
    have hi0:cK a l=0:=by
     have:(cK a l:Int)=0:=by
      rcases Int.mul_eq_zero.1 g6'.symm with h|h
      .exact h
      .omega
     omega
    have hd:(8:Int)<=(en-a)/P:=Int.le_ediv_of_mul_le (by omega) (by omega);unfold jOf at hj;rw [hP] at hj;omega
  .rw [if_pos (Or.inl (by omega)),if_neg h8,if_pos hm,<- hj]
def bI (a en:Int)(n:Nat):CSt:=
 if h:n=0 then none else keep (bI a en (n-1)) (aZ a (5+((n-1:Nat):Int))) (5+((n-1:Nat):Int)) (qOf a en (5+((n-1:Nat):Int)))
theorem dQ (a en:Int):bI a en 0=none:=by rw [bI,dif_pos rfl]
theorem dP (a en:Int)(n:Nat):bI a en (n+1)=keep (bI a en n) (aZ a (5+n)) (5+n) (qOf a en (5+n)):=by
 rw [bI,dif_neg (by omega)];rfl
theorem uZ (l:Int)(q:Nat):0<=cnt l q:=by
 unfold cnt;exact Int.mul_nonneg (by omega) (Int.le_of_lt (pow_pos _))
theorem gN (s:CSt):0<=mP s:=by
 match s with
 | none=>exact Int.le_refl _
 | some (b,l,q)=>exact uZ l q
theorem aPj (a en l:Int)(hl:5<=l)(hl2:l<=14)(ha:0<=a)(ha2:a<262144):qOf a en l<256:=by
 obtain ⟨g1,g2,g3,g4,g5,g6,g7⟩:=pQ a l _ _ hl hl2 rfl rfl ha ha2;unfold qOf;split
 .split<;>omega
 .split
  .apply lQ _ g5<;>(unfold jOf;omega)
  .omega
theorem pG (a en:Int)(ha:0<=a)(ha2:a<262144):∀ n:Nat,n<=10->aP7 (bI a en n) (5+n)
 | 0,_=>fun b l q h=>by rw [dQ] at h;cases h
 | n+1,hn=>by
   have ih:=pG a en ha ha2 n (by omega);intro b l q h;rw [dP] at h;unfold keep at h;split at h
   .rename_i hlt;simp at h;obtain ⟨rfl,rfl,rfl⟩:=h;refine ⟨by omega,by omega,aPj a en _ (by omega) (by omega) ha ha2,?_⟩;have:=gN (bI a en n);omega
   .obtain ⟨k1,k2,k3,k4⟩:=ih b l q h;exact ⟨k1,by omega,k3,k4⟩
theorem aD4 (a en:Int)(w:qw)(ha:0<=a)(hae:a<en)(hen:en<=262144)(b l:Int)(q:Nat)(hF:bI a en 10=some (b,l,q)):
 qC 252 #[qI a,qI en] w (qB w (.agg #[qI b,qI l,qI (255-(q:Int)),.bool false,.bool false,.bool false])):=by
 have HF:=zh hF;clear hF;have HA:=zh (xA ha (xA hae hen));go_enter func252,ntmps252
 go_wp2;go_loopw [6] (fun x wr=>∃ n:Nat,n<=10/\x=qI (5+(n:Int))/\gV wr (w.heap.size+1) (bI a en n)/\Blk wr w.heap.size #[qI 0,qI 0,qI 0,.bool false,.bool false,.bool false] 214/\qY w wr) (qf 15)
 .refine ⟨0,by omega,rfl,?_,?_,?_⟩
  .rw [dQ];have:=Blk.new (w.alloc (.cells #[qI 0,qI 0,qI 0,.bool false,.bool false,.bool false] 214)) #[.func (Fn.func 262) #[] #[],.bool false,qI 0,qI 0,qI 0,.bool false,.bool false,.bool false] 281;try unfold qY at *
   simp only [xF] at this;exact this
  .exact (Blk.new w _ _).alloc _
  .exact bal.alloc (by simp) _
 .obtain ⟨n,hn,rfl,hH,hZ,hB⟩:=hrel;have HH:=zh hH;have HB:=zh hB;have HZ:=zh hZ;clear hH hB hZ;by_cases hlt:n<10
  .have hsz:=HB.o.size;have HC:=zh (wA (w.heap.size+1) (bI a en n) a en (5+(n:Int)) _ _ _ (cK a (5+(n:Int))) wr (by omega) (by omega) ha hae hen (pG a en ha (by omega) n (by omega)) (gN _) rfl rfl rfl (pQ a (5+(n:Int)) _ _ (by omega) (by omega) rfl rfl ha (by omega)).2.2.2.2.2.2 HH.o);go_wp2_with fail
   refine HC.o.mono ?_;rintro e w1 ⟨rfl,⟨s',hs',hb'⟩,t1⟩;have hk:=aD1 _ _ a en (5+(n:Int)) _ _ (by omega) (by omega) rfl rfl ha hae hen (gN _) hb';have H1:=zh (show gV w1 (w.heap.size+1) (bI a en (n+1)) from by rw [hk] at hs';rw [dP];exact hs');have Z1:=zh (aF t1 HZ.o (by omega));have B1:=zh (aG HB.o t1 (fun k e=>by omega) hsz);clear hk hs' hb' t1 HC;go_wp2_with fail
   go_roundw
   .exact ⟨n+1,by omega,by go_num,H1.o,Z1.o,B1.o⟩
   .simp [qf,intOf];omega
  .have hn10:n=10:=by omega
   subst hn10;rw [HF.o] at HH;have HC:=zh (Bst.cells HH.o);obtain ⟨q1,q2,q3,q4,q5,q6,q7,q8,q9⟩:=HC.o;obtain ⟨p1,p2,p3,p4,p5,p6,p7⟩:=HZ.o.six';have HK:=zh (Blk.set (Blk.set (Blk.set (Blk.set (Blk.set (Blk.set HZ.o 0 (qI b)) 1 (qI l)) 2 (qI (255-(q:Int)))) 3 (.bool false)) 4 (.bool false)) 5 (.bool false));go_wp2;refine bodyPost_ret (results_cell_row rfl _ _ w.heap.size 214 #[qI b,qI l,qI (255-(q:Int)),.bool false,.bool false,.bool false] (0,0) _ rfl (by exact HK.o) underlying214 rfl (by kernel_rfl)) rfl ⟨rfl,?_⟩;exact (((((HB.o.setCell aN _).setCell aN _).setCell aN _).setCell aN _).setCell aN _).setCell aN _
theorem aPl (l:Int)(hl:8<=l)(hl2:l<=14):(32:Int) ∣ (2:Int)^(l-3).toNat:=by
 have:l=8\/l=9\/l=10\/l=11\/l=12\/l=13\/l=14:=by omega
 rcases this with rfl|rfl|rfl|rfl|rfl|rfl|rfl<;>decide
theorem aM0 (l:Int)(hl:5<=l)(hl2:l<=14):(32:Int) ∣ (2:Int)^l.toNat:=by
 have:l=5\/l=6\/l=7\/l=8\/l=9\/l=10\/l=11\/l=12\/l=13\/l=14:=by omega
 rcases this with rfl|rfl|rfl|rfl|rfl|rfl|rfl|rfl|rfl|rfl<;>decide
theorem aAt (a en l:Int)(hl:5<=l)(hl2:l<=14)(ha:0<=a)(hae:a<en)(hen:en<=262144):a+cnt l (qOf a en l)<=en/\(32:Int) ∣ cnt l (qOf a en l):=by
 obtain ⟨P,hP⟩:∃ P,(2:Int)^(l-3).toNat=P:=⟨_,rfl⟩;obtain ⟨N,hN⟩:∃ N,(2:Int)^l.toNat=N:=⟨_,rfl⟩;obtain ⟨g1,g2,g3,g4,g5,g6,g7⟩:=pQ a l P N hl hl2 hP hN ha (by omega);have h0:a+cnt l 0<=en/\(32:Int) ∣ cnt l 0:=by rw [uY];exact ⟨by omega,Int.dvd_zero _⟩
 by_cases h8:l<8
 .by_cases hc:a%N=0/\a+N<=en
  .have e:qOf a en l=255:=by unfold qOf;rw [if_pos h8,hN,if_pos hc]
   have e2:cnt l 255=N:=by unfold cnt;rw [hP,show sP 255=8 from rfl,g1];rfl
   rw [e,e2];refine ⟨hc.2,?_⟩;rw [<- hN];exact aM0 l hl hl2
  .have e:qOf a en l=0:=by unfold qOf;rw [if_pos h8,hN,if_neg hc]
   rw [e];exact h0
 .by_cases hm:a%P=0
  .have e:qOf a en l=bM (cK a l) (jOf a en l):=by unfold qOf;rw [if_neg h8,hP,if_pos hm]
   have hj:((jOf a en l:Nat):Int)<=(en-a)/P/\cK a l+jOf a en l<=8:=by
    have:0<=(en-a)/P:=Int.ediv_nonneg (by omega) (by omega);unfold jOf;rw [hP];omega
   rw [e,nX l P hP _ _ g5 hj.2];have:=Int.mul_le_of_le_ediv (by omega) hj.1;refine ⟨by omega,?_⟩;rw [<- hP];exact Int.dvd_mul_of_dvd_right (aPl l (by omega) hl2)
  .have e:qOf a en l=0:=by unfold qOf;rw [if_neg h8,hP,if_neg hm]
   rw [e];exact h0
theorem jP (a en:Int)(ha:0<=a)(hae:a<en)(hen:en<=262144):∀ n:Nat,n<=10->∀ b l q,bI a en n=some (b,l,q)->5<=l/\l<=14/\b=aZ a l/\q=qOf a en l
 | 0,_=>fun b l q h=>by rw [dQ] at h;cases h
 | n+1,hn=>by
   have ih:=jP a en ha hae hen n (by omega);intro b l q h;rw [dP] at h;unfold keep at h;split at h
   .simp at h;obtain ⟨rfl,rfl,rfl⟩:=h;exact ⟨by omega,by omega,rfl,rfl⟩
   .exact ih b l q h
theorem pW (a en:Int)(ha:0<=a)(hae:a+32<=en)(ha32:a%32=0):∀ n:Nat,∃ x,bI a en (n+1)=some x
 | 0=>by
   have e:qOf a en 5=255:=by
    unfold qOf;rw [if_pos (by omega),if_pos];exact ⟨ha32,hae⟩
   refine ⟨(aZ a 5,5,255),?_⟩;rw [dP,dQ];show keep none (aZ a 5) 5 (qOf a en 5)=_;rw [e];rfl
 | n+1=>by
   obtain ⟨x,hx⟩:=pW a en ha hae ha32 n;rw [dP];unfold keep;split
   .exact ⟨_,rfl⟩
   .exact ⟨x,hx⟩
theorem aL0 (a en:Int)(ha:0<=a)(hae:a<en)(hen:en<=262144)(ha32:a%32=0)(he32:en%32=0):
 ∃ b l q,bI a en 10=some (b,l,q)/\5<=l/\l<=14/\q<256/\32<=cnt l q/\a+cnt l q<=en/\cnt l q%32=0/\b=aZ a l/\q=qOf a en l:=by
 obtain ⟨⟨b,l,q⟩,hx⟩:=pW a en ha (by omega) ha32 9;obtain ⟨k1,k2,k3,k4⟩:=jP a en ha hae hen 10 aN b l q hx;obtain ⟨m1,m2,m3,m4⟩:=pG a en ha (by omega) 10 aN b l q hx;obtain ⟨c1,c2⟩:=aAt a en l k1 k2 ha hae hen;rw [<- k4] at c1 c2;exact ⟨b,l,q,hx,k1,k2,m3,by omega,c1,by omega,k3,k4⟩
def aFs (s:CSt)(next:Int->List Rg)(a:Int):List Rg:=
 match s with
 | some (b,l,q)=>(b,l,255-(q:Int),false,false,false)::next (a+cnt l q)
 | none=>[]
def fP (en:Int):Nat->Int->List Rg
 | 0,_=>[]
 | n+1,a=>if a<en then aFs (bI a en 10) (fP en n) a else []
theorem uT (en:Int)(n:Nat)(a:Int)(h:¬ a<en):fP en n a=[]:=by
 cases n with
 | zero=>rfl
 | succ n=>exact if_neg h
theorem pV (en:Int)(n:Nat)(a b l:Int)(q:Nat)(h:a<en)(hF:bI a en 10=some (b,l,q)):fP en (n+1) a=(b,l,255-(q:Int),false,false,false)::fP en n (a+cnt l q):=by
 have e:fP en (n+1) a=aFs (bI a en 10) (fP en n) a:=if_pos h;rw [e,hF];rfl
def grn (x:Int):Bool:=decide (0<=x/\x%32=0)
theorem eU (x:Int)(w:qw):
 qC 226 #[qI x] w fun e w'=>e=.returned (.bool (grn x))/\w=w':=by
 by_cases h:0<=x
 .have HG:=zh (show grn x=decide (x%32=0) from by unfold grn;simp [h]);go_enter func226,ntmps226
  go_wp2;go_ret;refine ⟨aA ?_,rfl⟩;rw [HG.o];rw [xJ];simp
 .have HG:=zh (show grn x=false from by unfold grn;simp;omega);go_enter func226,ntmps226
  go_wp2;go_ret;exact ⟨aA HG.o.symm,rfl⟩
def mZ (w:qw)(ok:Bool)(L:List Rg)(e:Ending)(w':qw):Prop:=
 ∃ (x:qO) (m cap:Nat),e=.returned (.tuple #[qS x m cap,.bool ok])/\ORg w' w.heap.size (qS x m cap) L/\qY w w'
theorem rQ (w:qw)(base:Nat):ORg w base (qS none 0 0) []:=⟨⟨rfl,.inl ⟨rfl,rfl⟩⟩,fun _ h=>by cases h⟩
def rJ (f s:Int):Bool:=grn f&&grn s&&decide (s<=262144-f)
def pX (f s:Int):List Rg:=fP (f+s) (s/32).toNat f
set_option maxRecDepth 100000 in
theorem aDj (f s:Int)(w:qw)(hf:0<=f)(hf32:f%32=0)(hs:0<=s)(hs32:s%32=0)(hfs:s<=262144-f):
 qC 235 #[qI f,qI s] w (mZ w true (pX f s)):=by
 obtain ⟨i0,hi,hz0,hz1,hz2⟩:=info_parts aG2;have G1:=zh (eU f);have G2:=zh (eU s);have e1:grn f=true:=by unfold grn;simp;omega
 have e2:grn s=true:=by unfold grn;simp;omega
 rw [e1] at G1;rw [e2] at G2;clear e1 e2;obtain ⟨L,hL⟩:=eqx (pX f s);rw [<- hL];unfold pX at hL;have HL:=zh hL;clear hL;go_enter func235,ntmps235
 go_wp2_with fail
 refine (G1.o w).mono ?_;rintro e w1 ⟨rfl,rfl⟩;go_wp2_with fail
 refine (G2.o w).mono ?_;rintro e w1 ⟨rfl,rfl⟩;go_wp2_with fail
 go_loopw [6,8] (fun r x wr=>∃ (A:qO) (m cap:Nat) (rs:List Rg) (n:Nat) (a:Int),r=qS A m cap/\x=qI a/\f<=a/\a<=f+s/\a%32=0/\f+s-a<=32*(n:Int)/\m+n<=8192/\ORg wr w.heap.size (qS A m cap) rs/\L=rs++fP (f+s) n a/\qY w wr) (fun _ x _=>(f+s-intOf x).toNat)
 .exact ⟨none,0,0,[],(s/32).toNat,f,rfl,rfl,by omega,by omega,hf32,by omega,by omega,rQ _ _,by rw [HL.o];rfl,brf⟩
 .obtain ⟨A,m,cap,rs,n,a,rfl,rfl,ha,ha2,ha32,hn,hmn,hO,hLL,hB⟩:=hrel;have hlen:=(fC hO).1;by_cases hlt:a<f+s
  .obtain ⟨b,l,q,hF,hl,hl2,hq,hc1,hc2,hc3,hb,_⟩:=aL0 a (f+s) (by omega) hlt (by omega) ha32 (by omega);obtain ⟨n,rfl⟩:∃ n',n=n'+1:=⟨n-1,by omega⟩;rw [pV (f+s) n a b l q hlt hF] at hLL
   have hbw:0<=b/\b<=262144:=by
    have:=lY a l _ hl hl2 rfl;have:=pow_pos l.toNat;rw [hb];unfold aZ;omega
   clear hb;have HW:=zh (aD4 a (f+s) wr (by omega) hlt (by omega) b l q hF);have HLL:=zh hLL;have HO:=zh hO;have HB:=zh hB;have HC:=zh (eN b l q false false false);have HLEN0:=zh hlen;have hsz:=hB.size;obtain ⟨c,hcc⟩:=eqx (cnt l q);rw [<- hcc] at hc1 hc2 hc3 HC HLL;have HCC:=zh hcc;have HWF:=zh (show wfi b/\wfi l/\wfi (255-(q:Int)) from by unfold wfi;omega);have HQ:=zh hq;clear hLL hO hB hF hlen hcc;go_wp2_with fail
   refine HW.o.mono ?_;rintro e w2 ⟨rfl,hb2⟩;have HB2:=zh (HB.o.trans (hb2.mono hsz));obtain ⟨o,ho⟩:=eqx (255-(q:Int));rw [<- ho] at HC HLL HWF ⊢;have hO2:=zW (S:=fun _=>False) (aJ hb2) HO.o (fun _ _=>id);have hO3:=hO2.1.alloc (.cells #[qI b,qI l,qI o,.bool false,.bool false,.bool false] 214);have HOWN:=zh (hO3.alloc (.cells #[qI b,qI l,qI o,.bool false,.bool false,.bool false] 214));rw [HLEN0.o] at HOWN;have HLEN:Zh ((dC (b,l,o,false,false,false)).length=1*6):=rfl;have HNEWS:=zh (aKn (w2.alloc (.cells #[qI b,qI l,qI o,.bool false,.bool false,.bool false] 214)) (b,l,o,false,false,false));have HONE:=zh (aM6 (b,l,o,false,false,false));have HRS:=zh hO2.2;have HLT:=zh hO2.1.lt;have KB:=zh ((Blk.new w2 #[qI b,qI l,qI o,.bool false,.bool false,.bool false] 214).alloc (.cells #[qI b,qI l,qI o,.bool false,.bool false,.bool false] 214));have hsz2:=hb2.size;have HB3:=zh ((HB2.o.alloc (by omega) (.cells #[qI b,qI l,qI o,.bool false,.bool false,.bool false] 214)).alloc (by simp;omega) (.cells #[qI b,qI l,qI o,.bool false,.bool false,.bool false] 214));try unfold qY at *
   simp only [xF] at HNEWS;clear hO2 hO3 hb2 ho;go_wp2_with (at_builtin;refine wpList_append_own _ rfl _ _ 108 rfl w.heap.size 214 i0 (.agg #[qI 0,qI 0,qI 0,.bool false,.bool false,.bool false]) 6 32 underlying108 hi hz0 hz1 hz2 rfl (by decide) (qS A m cap) m (dR rs) rfl HOWN.o (qR (w2.heap.size+1) 0) 1 1 (dC (b,l,o,false,false,false)) rfl HLEN.o HNEWS.o HONE.o (by unfold maxLen;omega) (by omega) (by simp;omega) ?_;intro v' w3 hown3 hgr3 _;obtain ⟨A',cap',he⟩:=nI hown3;subst he;have hO3:=aA2 (W:=w2) (v:=qS A m cap) (g:=(b,l,o,false,false,false)) HRS.o HWF.o (by rw [HLEN0.o];exact hown3);have t3:=jM hgr3;have hfar:∀ j,(qS A m cap).ownBlock=some j->w.heap.size<=j:=fun j hj=>(HLT.o j hj).1;have hnot:∀ j,(qS A m cap).ownBlock=some j->j<w2.heap.size:=fun j hj=>(HLT.o j hj).2;have hK3:=aF t3 KB.o (fun e=>by have:=hnot _ e;omega);have hsz3:=t3.size;simp only [xF] at hsz3;have HB4:=zh (aG HB3.o t3 hfar (by simp;omega));have HO3:=zh hO3;have HK3:=zh hK3;obtain ⟨q1,q2,q3,q4,q5,q6,q7⟩:=hK3.six';clear hO3 t3 hfar hnot hown3 hgr3 hK3)
   refine (HC.o w3 HQ.o hl hl2).mono ?_;rintro e w4 ⟨rfl,hb4⟩;have HB5:=zh (HB4.o.trans (hb4.mono (by omega)));have HO5:=zh (zW (S:=fun _=>False) (aJ hb4) HO3.o (fun _ _=>id));clear hb4;go_wp2_with fail
   go_roundw
   .exact ⟨A',m+1,cap',rs++[(b,l,o,false,false,false)],n,a+c,rfl,by go_num,by omega,by omega,by omega,by omega,by omega,HO5.o,by rw [HLL.o];simp,HB5.o⟩
   .simp [intOf];omega
  .have hLe:L=rs:=by rw [hLL,uT _ _ _ hlt,List.append_nil]
   subst hLe;have HO:=zh hO;have HB:=zh hB;clear hLL hO hB;go_wp2
   go_ret2
   exact ⟨A,m,cap,rfl,HO.o,HB.o⟩
theorem aFk (f s:Int)(w:qw)(hs0:-9223372036854775808<=f/\f<=9223372036854775807)(h:rJ f s=false):
 qC 235 #[qI f,qI s] w (mZ w false []):=by
 have G1:=zh (eU f);have G2:=zh (eU s);have HN:=zh (rQ w w.heap.size);unfold rJ at h;cases e1:grn f
 .rw [e1] at G1;clear h e1;go_enter func235,ntmps235
  go_wp2_with fail
  refine (G1.o w).mono ?_;rintro e w1 ⟨rfl,rfl⟩;go_wp2_with fail
  go_ret2
  exact ⟨none,0,0,rfl,HN.o,brf⟩
 .rw [e1] at G1 h;have hf:0<=f:=by unfold grn at e1;simp at e1;omega
  cases e2:grn s
  .rw [e2] at G2;clear h e1 e2;go_enter func235,ntmps235
   go_wp2_with fail
   refine (G1.o w).mono ?_;rintro e w1 ⟨rfl,rfl⟩;go_wp2_with fail
   refine (G2.o w).mono ?_;rintro e w1 ⟨rfl,rfl⟩;go_wp2_with fail
   go_ret2
   exact ⟨none,0,0,rfl,HN.o,brf⟩
  .rw [e2] at G2 h;have hlt:262144-f<s:=by simp at h;omega
   clear h e1 e2;go_enter func235,ntmps235
   go_wp2_with fail
   refine (G1.o w).mono ?_;rintro e w1 ⟨rfl,rfl⟩;go_wp2_with fail
   refine (G2.o w).mono ?_;rintro e w1 ⟨rfl,rfl⟩;go_wp2_with fail
   go_ret2
   exact ⟨none,0,0,rfl,HN.o,brf⟩
def cvL (f s:Int):List Rg:=if rJ f s then pX f s else []
theorem aFl (f s:Int)(w:qw)(hs0:-9223372036854775808<=f/\f<=9223372036854775807):
 qC 235 #[qI f,qI s] w (mZ w (rJ f s) (cvL f s)):=by
 unfold cvL;cases e:rJ f s
 .exact aFk f s w hs0 e
 .unfold rJ grn at e;simp at e;exact aDj f s w (by omega) (by omega) (by omega) (by omega) (by omega)
def ci (i0 j i:Nat):Nat:=min (i-i0) j
theorem aP3:∀ (i0:Fin 8) (j:Fin 9) (i:Fin 8),(i0.val<=i.val/\i.val<i0.val+j.val)->(ci i0 j (i.val+1)=ci i0 j i+1/\2^i.val-1-bM i0 (ci i0 j i)=2^(i.val+1)-1-bM i0 (ci i0 j (i.val+1))):=by decide +kernel
theorem aN3:∀ (i0:Fin 8) (j:Fin 9) (i:Fin 8),((i.val<i0.val\/i0.val+j.val<=i.val)/\i0.val+j.val<=8)->(ci i0 j (i.val+1)=ci i0 j i/\2^i.val-1-bM i0 (ci i0 j i)+2^i.val=2^(i.val+1)-1-bM i0 (ci i0 j (i.val+1))):=by decide +kernel
theorem aQx (i0:Nat)(h0:i0<8)(j:Nat)(hj:j<9)(i:Nat)(hi:i<8)(h:i0<=i/\i<i0+j):ci i0 j (i+1)=ci i0 j i+1/\2^i-1-bM i0 (ci i0 j i)=2^(i+1)-1-bM i0 (ci i0 j (i+1)):=aP3 ⟨i0,h0⟩ ⟨j,hj⟩ ⟨i,hi⟩ h
theorem aP2 (i0:Nat)(h0:i0<8)(j:Nat)(hj:j<9)(i:Nat)(hi:i<8)(h:(i<i0\/i0+j<=i)/\i0+j<=8):ci i0 j (i+1)=ci i0 j i/\2^i-1-bM i0 (ci i0 j i)+2^i=2^(i+1)-1-bM i0 (ci i0 j (i+1)):=aN3 ⟨i0,h0⟩ ⟨j,hj⟩ ⟨i,hi⟩ h
theorem aLz:∀ i0,i0<8->∀ j,j<9->i0+j<=8->ci i0 j 8=j:=by decide +kernel
def jj (a en l:Int):Nat:=if a%(2:Int)^(l-3).toNat=0 then jOf a en l else 0
theorem aJ9 (a en l:Int)(h:8<=l):qOf a en l=bM (cK a l) (jj a en l):=by
 unfold qOf jj;rw [if_neg (by omega)];split
 .rfl
 .rw [yK]
theorem aQt (a en l:Int)(hi:cK a l<8):cK a l+jj a en l<=8:=by
 unfold jj;split
 .unfold jOf;omega
 .omega
theorem aM2 (a en l P N:Int)(hl:5<=l)(hl2:l<=14)(hP:(2:Int)^(l-3).toNat=P)(hN:(2:Int)^l.toNat=N)(ha:0<=a)(hae:a<en)(hen:en<=262144)(i:Nat)(hi:i<8):
 (a<=aZ a l+(i:Int)*P/\aZ a l+(i:Int)*P+P<=en/\a%P=0) ↔ (cK a l<=i/\i<cK a l+jj a en l):=by
 obtain ⟨g1,g2,g3,g4,g5,g6,g7⟩:=pQ a l P N hl hl2 hP hN ha (by omega);unfold jj;rw [hP];by_cases hm:a%P=0
 .rw [if_pos hm];have hb:aZ a l=a-a%N:=by unfold aZ;rw [hN]
  have g6':=g6 hm;have hd0:0<=(en-a)/P:=Int.ediv_nonneg (by omega) (by omega)
  have e1:(a<=aZ a l+(i:Int)*P) ↔ cK a l<=i:=by
   rw [hb,g6'];constructor
   .intro h;have:(cK a l:Int)*P<=(i:Int)*P:=by omega
    have:=Int.le_of_mul_le_mul_right this (by omega);omega
   .intro h;have:(cK a l:Int)*P<=(i:Int)*P:=Int.mul_le_mul_of_nonneg_right (by omega) (by omega);omega
  have e2:cK a l<=i->((aZ a l+(i:Int)*P+P<=en) ↔ ((i-cK a l:Nat):Int)<(en-a)/P):=by
   intro h;rw [hb,g6'];have e3:((i-cK a l:Nat):Int)=(i:Int)-(cK a l:Int):=by omega
   have e4:(((i:Int)-(cK a l:Int))+1)*P=(i:Int)*P-(cK a l:Int)*P+P:=by rw [Int.add_mul,Int.sub_mul];omega
   rw [e3];constructor
   .intro h;have:=Int.le_ediv_of_mul_le (c:=P) (a:=(i:Int)-(cK a l:Int)+1) (b:=en-a) (by omega) (by omega);omega
   .intro h;have:(i:Int)-(cK a l:Int)+1<=(en-a)/P:=by omega
    have:=Int.mul_le_of_le_ediv (by omega) this;omega
  have e5:jOf a en l=min (8-cK a l) ((en-a)/P).toNat:=by unfold jOf;rw [hP]
  rw [e5,e1];constructor
  .rintro ⟨h1,h2,_⟩;have:=(e2 h1).1 h2;omega
  .rintro ⟨h1,h2⟩;exact ⟨h1,(e2 h1).2 (by omega),hm⟩
 .rw [if_neg hm];constructor
  .rintro ⟨_,_,h⟩;exact absurd h hm
  .intro h;omega
theorem nV (a N:Int)(h0:0<=a)(hN:0<N):a/N*N=a-a%N:=by
 have:=Int.mul_ediv_add_emod a N;rw [Int.mul_comm];omega
def aB6 (w:qw)(b l c:Int)(q:Nat)(e:Ending)(w':qw):Prop:=
 ∃ o:Int,e=.returned (.tuple #[.agg #[qI b,qI l,qI o,.bool false,.bool false,.bool false],qI c])/\(0<c->o=255-(q:Int))/\qY w w'
theorem aB1 (w W:qw)(tmps:Array Value)(b l o c:Int)(q:Nat)(h6:tmps[6]?=some (.pointer (qP w.heap.size)))(h7:tmps[7]?=some (qI c))
 (hz:Blk W w.heap.size #[qI b,qI l,qI o,.bool false,.bool false,.bool false] 214) (hB:qY w W) (ho:0<c->o=255-(q:Int)):
 bodyPost prog f225 (aB6 w b l c q) Exit.ret ⟨tmps,[]⟩ W:=by
 refine bodyPost_ret (v:=.tuple #[.agg #[qI b,qI l,qI o,.bool false,.bool false,.bool false],qI c]) ?_ rfl ⟨o,rfl,ho,hB⟩;obtain ⟨p1,p2,p3,p4,p5,p6,p7⟩:=hz.six';simp [results,results225,go_sem,h6,h7,p1,p2,p3,p4,p5,p6]
theorem aB0 {w2:qw}(hz:Blk w2 g #[qI 0,qI 0,qI 0,.bool false,.bool false,.bool false] 214)(b l o:Int):
 Blk ((((((w2.setCell (qR g 0) (qI b)).setCell (qR g 1) (qI l)).setCell (qR g 2) (qI o)).setCell (qR g 3) (.bool false)).setCell (qR g 4) (.bool false)).setCell (qR g 5) (.bool false)) g #[qI b,qI l,qI o,.bool false,.bool false,.bool false] 214:=
 Blk.set (Blk.set (Blk.set (Blk.set (Blk.set (Blk.set hz 0 _) 1 _) 2 _) 3 _) 4 _) 5 _
theorem lM {w w2:qw}(hg:B<=g)(h:Below B w w2)(b l o:Int):
 Below B w ((((((w2.setCell (qR g 0) (qI b)).setCell (qR g 1) (qI l)).setCell (qR g 2) (qI o)).setCell (qR g 3) (.bool false)).setCell (qR g 4) (.bool false)).setCell (qR g 5) (.bool false)):=
 (((((h.setCell hg _).setCell hg _).setCell hg _).setCell hg _).setCell hg _).setCell hg _
theorem wI (a s l:Int)(w:qw)(hl:5<=l)(hl2:l<8)(ha:0<=a)(hs:0<s)(has:a+s<=262144):
 qC 225 (qT l a s) w (aB6 w (aZ a l) l (cnt l (qOf a (a+s) l)) (qOf a (a+s) l)):=by
 obtain ⟨P,hP⟩:∃ P,(2:Int)^(l-3).toNat=P:=⟨_,rfl⟩;obtain ⟨N,hN⟩:∃ N,(2:Int)^l.toNat=N:=⟨_,rfl⟩;obtain ⟨g1,g2,g3,g4,g5,g6,g7⟩:=pQ a l P N hl (by omega) hP hN ha (by omega);obtain ⟨b0,b1,b2,b3,b4⟩:=lY a l N hl (by omega) hN ha;have hdm:=nV a N ha (by omega);obtain ⟨b,hb⟩:=eqx (a-a%N);have hbo:aZ a l=b:=by unfold aZ;rw [hN,hb]
 rw [<- hb] at b0 b1 b2 hdm;have HP2:=zh (fun w=>fE l (by omega) (by omega) w);rw [hN] at HP2;have hwf:(Lit.int .i64 b).wf=true:=by simp [Lit.wf,IntKind.min,IntKind.max,IntKind.bits,IntKind.signed];omega
 have HR:=zh (fun w=>mD b l 0 false false false w hwf);have hrok:rok b l 0=true:=by unfold rok;rw [hN];simp;omega
 rw [hrok] at HR;rw [hbo]
 have h8:8*P<=1024:=by
  have:l=5\/l=6\/l=7:=by omega
  rcases this with rfl|rfl|rfl<;>(simp at hP;omega)
 have HE:=zh (show ∀ c:Bool,(c=true ↔ (a=b/\N<=s))->qOf a (a+s) l=(if c then 255 else 0)/\cnt l (qOf a (a+s) l)=(if c then N else 0) from by
  intro c hc
  have e:qOf a (a+s) l=(if c then 255 else 0):=by
   unfold qOf;rw [if_pos hl2,hN];cases c
   .rw [if_neg (by simp at hc;omega)];rfl
   .have:=hc.1 rfl;rw [if_pos (by omega)];rfl
  refine ⟨e,?_⟩;rw [e];cases c
  .exact uY l
  .show cnt l 255=N;unfold cnt;rw [hP,show sP 255=8 from rfl,g1]
   rfl)
 have hN1:N<=1024:=by omega
 have hN0:0<N:=by omega
 clear hP hN g1 g2 g3 g4 g5 g6 g7 hrok hbo h8 b2 b3 b4 hb hwf;go_enter func225,ntmps225
 go_wp2_with fail
 refine (HP2.o _).mono ?_;rintro e w1 ⟨rfl,rfl⟩;go_wp2_with fail
 refine (HR.o _).mono ?_;rintro e w2 ⟨rfl,hb2⟩;have kz:=((Blk.new w #[qI 0,qI 0,qI 0,.bool false,.bool false,.bool false] 214).alloc (.cells #[qI b,qI l,qI 0,.bool false,.bool false,.bool false] 214)).bw hb2;have kr:=(Blk.new (w.alloc (.cells #[qI 0,qI 0,qI 0,.bool false,.bool false,.bool false] 214)) #[qI b,qI l,qI 0,.bool false,.bool false,.bool false] 214).bw hb2;try unfold qY at *
 simp only [xF] at kr;have HB2:=zh ((((Below.refl w.heap.size w).alloc aN (.cells #[qI 0,qI 0,qI 0,.bool false,.bool false,.bool false] 214)).alloc (by simp) (.cells #[qI b,qI l,qI 0,.bool false,.bool false,.bool false] 214)).trans (hb2.mono (by simp;omega)));obtain ⟨q1,q2,q3,q4,q5,q6,q7⟩:=kz.six';obtain ⟨p1,p2,p3,p4,p5,p6,p7⟩:=kr.six';have KZ:=zh kz;clear kz kr hb2;by_cases hba:b=a
 .subst hba;by_cases hNs:s<N
  .obtain ⟨x1,x2⟩:=HE.o false (by simp;omega);have X:=zh (xA x1 x2);clear x1 x2 HE;go_wp2_with fail
   rw [X.o.2,X.o.1];exact aB1 w _ _ b l 0 0 0 rfl rfl (aB0 KZ.o b l 0) (lM aN HB2.o b l 0) (fun h=>absurd h (by omega))
  .obtain ⟨x1,x2⟩:=HE.o true (by simp;omega);have X:=zh (xA x1 x2);clear x1 x2 HE;go_wp2_with fail
   rw [X.o.2,X.o.1];exact aB1 w _ _ b l 0 N 255 rfl rfl (aB0 KZ.o b l 0) (lM aN HB2.o b l 0) (fun _=>rfl)
 .obtain ⟨x1,x2⟩:=HE.o false (by simp;omega);have X:=zh (xA x1 x2);have hba':(b !=a)=true:=by simpa using hba
  clear x1 x2 HE hba;go_wp2_with fail
  rw [X.o.2,X.o.1];exact aB1 w _ _ b l 0 0 0 rfl rfl (aB0 KZ.o b l 0) (lM aN HB2.o b l 0) (fun h=>absurd h (by omega))
theorem aDg (a s l:Int)(w:qw)(hl:8<=l)(hl2:l<=14)(ha:0<=a)(hs:0<s)(has:a+s<=262144):
 qC 225 (qT l a s) w (aB6 w (aZ a l) l (cnt l (qOf a (a+s) l)) (qOf a (a+s) l)):=by
 obtain ⟨P,hP⟩:∃ P,(2:Int)^(l-3).toNat=P:=⟨_,rfl⟩;obtain ⟨N,hN⟩:∃ N,(2:Int)^l.toNat=N:=⟨_,rfl⟩;obtain ⟨g1,g2,g3,g4,g5,g6,g7⟩:=pQ a l P N (by omega) (by omega) hP hN ha (by omega);obtain ⟨b0,b1,b2,b3,b4⟩:=lY a l N (by omega) (by omega) hN ha;have hdm:=nV a N ha (by omega);have hjle:=aQt a (a+s) l g5;have HIN:=zh (aM2 a (a+s) l P N (by omega) hl2 hP hN ha (by omega) has)
 have HQ:=zh (show qOf a (a+s) l=bM (cK a l) (jj a (a+s) l)/\cnt l (qOf a (a+s) l)=(jj a (a+s) l:Int)*P from by
  have e:=aJ9 a (a+s) l hl;refine ⟨e,?_⟩;rw [e]
  exact nX l P hP _ _ g5 hjle)
 obtain ⟨b,hb⟩:=eqx (a-a%N);have hbo:aZ a l=b:=by unfold aZ;rw [hN,hb]
 rw [<- hb] at b0 b1 b2 hdm;have HP2:=zh (fun w=>fE l (by omega) (by omega) w);rw [hN] at HP2;have hwf:(Lit.int .i64 b).wf=true:=by simp [Lit.wf,IntKind.min,IntKind.max,IntKind.bits,IntKind.signed];omega
 have HR:=zh (fun w=>mD b l 0 false false false w hwf);have hrok:rok b l 0=true:=by unfold rok;rw [hN];simp;omega
 rw [hrok] at HR;rw [hbo] at HIN ⊢;generalize cK a l=i0 at *;generalize jj a (a+s) l=j at *;generalize qOf a (a+s) l=q at *;have hd8:N/8=P:=by omega
 have hN1:N<=16384:=by omega
 have hN0:0<N:=by omega
 clear hP hN g1 g4 g6 g7 hrok hbo b2 b3 b4 hb hwf;go_enter func225,ntmps225
 go_wp2_with fail
 refine (HP2.o _).mono ?_;rintro e w1 ⟨rfl,rfl⟩;go_wp2_with fail
 refine (HR.o _).mono ?_;rintro e w2 ⟨rfl,hb2⟩;have kz:=((Blk.new w #[qI 0,qI 0,qI 0,.bool false,.bool false,.bool false] 214).alloc (.cells #[qI b,qI l,qI 0,.bool false,.bool false,.bool false] 214)).bw hb2;have kr:=(Blk.new (w.alloc (.cells #[qI 0,qI 0,qI 0,.bool false,.bool false,.bool false] 214)) #[qI b,qI l,qI 0,.bool false,.bool false,.bool false] 214).bw hb2;try unfold qY at *
 simp only [xF] at kr;have HB2:=zh ((((Below.refl w.heap.size w).alloc aN (.cells #[qI 0,qI 0,qI 0,.bool false,.bool false,.bool false] 214)).alloc (by simp) (.cells #[qI b,qI l,qI 0,.bool false,.bool false,.bool false] 214)).trans (hb2.mono (by simp;omega)));have KZ:=zh kz;have KR:=zh kr;clear kz kr hb2;go_wp2_with fail
 rw [hd8];have b1':b<=262144:=by omega
 clear hd8 hdm b1 hN1 hN0
 have HOFF:=zh (show ∀ i,i<=8->∃ o,o=2^i-1-bM i0 (ci i0 j i)/\o<=255 from fun i hi=>⟨_,rfl,by
  have:2^i<=2^8:=Nat.pow_le_pow_right (by omega) hi
  omega⟩)
 go_loopw [12,13] (fun c x wr=>∃ (i o:Nat),i<=8/\c=qI ((ci i0 j i:Int)*P)/\x=qI (i:Int)/\o=2^i-1-bM i0 (ci i0 j i)/\Blk wr (w.heap.size+1) #[qI b,qI l,qI (o:Int),.bool false,.bool false,.bool false] 214/\Blk wr w.heap.size #[qI 0,qI 0,qI 0,.bool false,.bool false,.bool false] 214/\qY w wr) (fun _ x _=>8-(intOf x).toNat)
 .have h0:ci i0 j 0=0:=by simp [ci]
  exact ⟨0,0,by omega,by rw [h0];simp,rfl,by simp,KR.o,KZ.o,HB2.o⟩
 .obtain ⟨i,o,hi,rfl,rfl,ho,kr,kz,hB⟩:=hrel
  have ho8:o<=255:=by
   have:2^i<=2^8:=Nat.pow_le_pow_right (by omega) hi;omega
  have hci:ci i0 j i<=8:=by unfold ci;omega
  obtain ⟨c,hc⟩:∃ c:Int,c=(ci i0 j i:Int)*P:=⟨_,rfl⟩;have hc0:0<=c:=by rw [hc];exact Int.mul_nonneg (by omega) (by omega)
  have hc1:c<=16384:=by
   have:(ci i0 j i:Int)*P<=8*P:=Int.mul_le_mul_of_nonneg_right (by omega) (by omega);omega
  have HCC:=zh hc;rw [<- hc];have HOO:=zh ho;have HB:=zh hB;have KR2:=zh kr;have KZ2:=zh kz;obtain ⟨q1,q2,q3,q4,q5,q6,q7⟩:=kz.six';obtain ⟨p1,p2,p3,p4,p5,p6,p7⟩:=kr.six';clear hc ho kr kz hB HB2 KZ KR;by_cases h8:i<8
  .have hiP0:0<=(i:Int)*P:=Int.mul_nonneg (by omega) (by omega)
   have hiP1:(i:Int)*P<=16384:=by
    have:(i:Int)*P<=8*P:=Int.mul_le_mul_of_nonneg_right (by omega) (by omega);omega
   have hin:=HIN.o i h8;by_cases hp:i0<=i/\i<i0+j
   .obtain ⟨k1,k2,k3⟩:=hin.2 hp;have HN:=zh (aQx i0 g5 j (by omega) i h8 hp);clear hin hp;go_wp2_with fail
    constructor
    .exact ⟨i+1,o,by omega,by rw [HN.o.1,HCC.o];congr 1;rw [Int.natCast_add,Int.add_mul];simp,by go_num,by rw [HOO.o];exact HN.o.2,KR2.o,KZ2.o,HB.o⟩
    .simp [intOf];omega
   .have HN:=zh (aP2 i0 g5 j (by omega) i h8 ⟨by omega,hjle⟩);obtain ⟨X,hX⟩:∃ X:Nat,X=2^i:=⟨_,rfl⟩
    have hX8:X<=256:=by
     have:2^i<=2^8:=Nat.pow_le_pow_right (by omega) hi;omega
    have HP3:Zh (∀ w,qC 244 #[qI (i:Int)] w fun e w'=>e=.returned (qI (X:Int))/\w'=w):=fun w=>(fE (i:Int) (by omega) (by omega) w).mono fun e w' h=>⟨by rw [h.1,hX];simp,h.2⟩;have HX:=zh hX
    have hor:(b+(i:Int)*P<a)\/(a<=b+(i:Int)*P/\a+s<b+(i:Int)*P+P)\/(a<=b+(i:Int)*P/\b+(i:Int)*P+P<=a+s/\a%P≠0):=by
     by_cases u1:a<=b+(i:Int)*P
     .by_cases u2:b+(i:Int)*P+P<=a+s
      .exact Or.inr (Or.inr ⟨u1,u2,fun u3=>hp (hin.1 ⟨u1,u2,u3⟩)⟩)
      .exact Or.inr (Or.inl ⟨u1,by omega⟩)
     .exact Or.inl (by omega)
    clear hin hp hX
    have HREL:=zh (show ∀ W,W=(wr.setCell (qR (w.heap.size+1) 2) (qI ((o:Int)+(X:Int)))).drew->∃ (i_1 o:Nat),i_1<=8/\qI c=qI ((ci i0 j i_1:Int)*P)/\qI ((i:Int)+1)=qI (i_1:Int)/\o=2^i_1-1-bM i0 (ci i0 j i_1)/\Blk W (w.heap.size+1) #[qI b,qI l,qI (o:Int),.bool false,.bool false,.bool false] 214/\Blk W w.heap.size #[qI 0,qI 0,qI 0,.bool false,.bool false,.bool false] 214/\qY w W from by
     rintro W rfl;refine ⟨i+1,o+X,by omega,by rw [HN.o.1,HCC.o],by simp,by rw [HOO.o,HX.o];exact HN.o.2,?_,(show Blk (wr.setCell (qR (w.heap.size+1) 2) (qI ((o:Int)+(X:Int)))) _ _ _ from Blk.other KZ2.o _ _ (by simp)),(HB.o.setCell (by simp) _).drew⟩;have:=Blk.set KR2.o 2 (qI ((o:Int)+(X:Int)));rw [Int.natCast_add]
     exact this)
    have hwr:IntKind.i64.wrap ((o:Int)+(X:Int))=(o:Int)+(X:Int):=nW;rcases hor with u|⟨u1,u2⟩|⟨u1,u2,u3⟩
    .go_wp2_with fail
     go_region_with (go_at_call 244;refine (HP3.o _).mono ?_;rintro e w3 ⟨rfl,rfl⟩)
     all_goals
      try rw [hwr]
      go_wp2_with fail
      constructor
      .exact HREL.o _ rfl
      .simp [intOf];omega
    .have u2n:¬ (b+(i:Int)*P+P<=a+s):=by omega
     go_wp2_with fail
     all_goals first
      | (exfalso;omega)
      | (go_region_with (go_at_call 244;refine (HP3.o _).mono ?_;rintro e w3 ⟨rfl,rfl⟩)
         all_goals (try rw [hwr])
         all_goals go_wp2_with fail
         all_goals (refine ⟨HREL.o _ rfl,?_⟩;simp [intOf];omega))
    .have u3':(a%P==0)=false:=by simpa using u3
     clear u3;go_wp2_with fail
     go_region_with (go_at_call 244;refine (HP3.o _).mono ?_;rintro e w3 ⟨rfl,rfl⟩)
     all_goals
      try rw [hwr]
      go_wp2_with fail
      constructor
      .exact HREL.o _ rfl
      .simp [intOf];omega
  .have hi8:i=8:=by omega
   subst hi8
   have hq:(o:Int)=255-(q:Int):=by
    have:=HOO.o;rw [aLz i0 g5 j (by omega) hjle,<- HQ.o.1] at this;have hq255:q<256:=by rw [HQ.o.1];exact lQ i0 g5 j (by omega) hjle
    omega
   have hc':cnt l q=c:=by rw [HQ.o.2,HCC.o,aLz i0 g5 j (by omega) hjle]
   have HC2:=zh hc';have HQ2:=zh hq;clear hq hc';go_wp2_with fail
   rw [HC2.o];refine aB1 w _ _ b l (o:Int) c q ?_ ?_ (aB0 KZ2.o b l (o:Int)) (lM aN HB.o b l (o:Int)) (fun _=>HQ2.o)
   .rfl
   .rfl
theorem aFc (a s l:Int)(w:qw)(hl:5<=l)(hl2:l<=14)(ha:0<=a)(hs:0<s)(has:a+s<=262144):
 qC 225 (qT l a s) w (aB6 w (aZ a l) l (cnt l (qOf a (a+s) l)) (qOf a (a+s) l)):=by
 by_cases h:l<8
 .exact wI a s l w hl h ha hs has
 .exact aDg a s l w (by omega) hl2 ha hs has
theorem aEh (f s:Int)(w:qw)(h1:-9223372036854775808<=f/\f<=9223372036854775807)(h2:-9223372036854775808<=s/\s<=9223372036854775807)(h:rJ f s=false):
 qC 209 #[qI f,qI s] w (mZ w false []):=by
 have HO:=zh (sV w w.heap.size aN);have HB:=zh ((Below.refl w.heap.size w).alloc aN (.cells #[] 214))
 have HE:=zh (show ∀ e W,W=w.alloc (.cells #[] 214)->e=Ending.returned (.tuple #[qS (qP w.heap.size) 0 0,.bool false])->mZ w false [] e W from by
  rintro e W rfl rfl
  exact ⟨_,0,0,rfl,HO.o,HB.o⟩)
 have hor:f<0\/(0<=f/\s<0)\/(0<=f/\0<=s/\262144<f)\/(0<=f/\0<=s/\f<=262144/\262144<s)\/(0<=f/\0<=s/\f<=262144/\s<=262144/\262144<f+s)\/(0<=f/\0<=s/\f<=262144/\s<=262144/\f+s<=262144/\f%32≠0)\/(0<=f/\0<=s/\f<=262144/\s<=262144/\f+s<=262144/\f%32=0/\s%32≠0):=by
  unfold rJ grn at h;simp at h;omega
 clear h;rcases hor with u|⟨u1,u2⟩|⟨u1,u2,u3⟩|⟨u1,u2,u3,u4⟩|⟨u1,u2,u3,u4,u5⟩|⟨u1,u2,u3,u4,u5,u6⟩|⟨u1,u2,u3,u4,u5,u6,u7⟩
 case inr.inr.inr.inr.inr.inl=>
  have u6':(f%32 !=0)=true:=by simpa using u6
  clear u6;go_enter func209,ntmps209
  go_wp2_with fail
  go_ret2
  exact HE.o _ _ rfl rfl
 case inr.inr.inr.inr.inr.inr=>
  have u6':(f%32 !=0)=false:=by simpa using u6
  have u7':(s%32 !=0)=true:=by simpa using u7
  clear u6 u7;go_enter func209,ntmps209
  go_wp2_with fail
  go_ret2
  exact HE.o _ _ rfl rfl
 all_goals
  go_enter func209,ntmps209
  go_wp2_with fail
  go_ret2
  exact HE.o _ _ rfl rfl
def aB2:CSt->Array Value
 | none=>#[qI 0,qI 0,qI 0,.bool false,.bool false,.bool false]
 | some (b,l,q)=>#[qI b,qI l,qI (255-(q:Int)),.bool false,.bool false,.bool false]
theorem aF6 (s:CSt):∃ x y z,aB2 s=#[qI x,qI y,qI z,.bool false,.bool false,.bool false]:=by
 match s with
 | none=>exact ⟨_,_,_,rfl⟩
 | some (b,l,q)=>exact ⟨_,_,_,rfl⟩
theorem aMq (a en:Int)(ha:0<=a)(hae:a<en)(hen:en<=262144)(n:Nat)(hn:n<=10):mP (bI a en n)<=262144:=by
 match h:bI a en n with
 | none=>simp [mP]
 | some (b,l,q)=>
   obtain ⟨k1,k2,k3,k4⟩:=jP a en ha hae hen n hn b l q h;obtain ⟨c1,c2⟩:=aAt a en l k1 k2 ha hae hen;rw [<- k4] at c1;simp only [mP];omega
set_option maxRecDepth 100000 in
theorem aCl (f s:Int)(w:qw)(hf:0<=f)(hf32:f%32=0)(hs:0<=s)(hs32:s%32=0)(hfs:s<=262144-f):
 qC 209 #[qI f,qI s] w (mZ w true (pX f s)):=by
 obtain ⟨i0,hi,hz0,hz1,hz2⟩:=info_parts aG2;obtain ⟨L,hL⟩:=eqx (pX f s);rw [<- hL];unfold pX at hL;have HL:=zh hL;clear hL;have HO:=zh (sV w w.heap.size aN);have HB:=zh ((Below.refl w.heap.size w).alloc aN (.cells #[] 214));have k1:(f%32 !=0)=false:=by simpa using hf32
 have k2:(s%32 !=0)=false:=by simpa using hs32
 have k3:f+s<=262144:=by omega
 have k4:f<=262144:=by omega
 have k5:s<=262144:=by omega
 go_enter func209,ntmps209
 go_wp2_with fail
 go_loopw [0,1,6] (fun x y r wr=>∃ (A:qO) (m cap:Nat) (rs:List Rg) (n:Nat) (a z:Int),x=qI a/\y=qI z/\r=qS A m cap/\f<=a/\a+z=f+s/\0<=z/\a%32=0/\z<=32*(n:Int)/\m+n<=8192/\ORg wr w.heap.size (qS A m cap) rs/\L=rs++fP (f+s) n a/\qY w wr) (fun _ y _ _=>(intOf y).toNat)
 .exact ⟨_,0,0,[],(s/32).toNat,f,s,rfl,rfl,rfl,by omega,by omega,by omega,hf32,by omega,by omega,HO.o,by rw [HL.o];rfl,HB.o⟩
 .obtain ⟨A,m,cap,rs,n,a,z,rfl,rfl,rfl,ha,haz,hz,ha32,hn,hmn,hO,hLL,hB⟩:=hrel;obtain ⟨w9,hw9⟩:=eqx (wr);subst hw9;by_cases hlt:0<z
  .rw [<- haz] at hLL;have hlen:=(fC hO).1;obtain ⟨b,l,q,hF,hl,hl2,hq,hc1,hc2,hc3,hb,_⟩:=aL0 a (a+z) (by omega) (by omega) (by omega) ha32 (by omega);obtain ⟨n,rfl⟩:∃ n',n=n'+1:=⟨n-1,by omega⟩;rw [pV (a+z) n a b l q (by omega) hF] at hLL
   have hbw:0<=b/\b<=262144:=by
    have:=lY a l _ hl hl2 rfl;have:=pow_pos l.toNat;rw [hb];unfold aZ;omega
   clear hb;have HF:=zh hF;have HLL:=zh hLL;have HO1:=zh hO;have HB1:=zh hB;have HLEN0:=zh hlen;have HAZ:=zh haz;have hsz:=hB.size;have KZ:=zh (Blk.new w9 #[qI 0,qI 0,qI 0,.bool false,.bool false,.bool false] 214);clear hLL hO hB hF hlen HO HB;go_wp2_with fail
   go_loopw [8,9] (fun mo lg wq=>∃ (k:Nat),k<=10/\mo=qI (mP (bI a (a+z) k))/\lg=qI (5+(k:Int))/\Blk wq w9.heap.size (aB2 (bI a (a+z) k)) 214/\qY w9 wq) (fun _ lg _=>15-(intOf lg).toNat)
   .exact ⟨0,by omega,by rw [dQ];rfl,rfl,by rw [dQ];exact KZ.o,bal⟩
   .obtain ⟨k,hk,rfl,rfl,kb,hBq⟩:=hrel;have hc0:=gN (bI a (a+z) k);have hc9:=aMq a (a+z) (by omega) (by omega) (by omega) k hk;by_cases hk10:k<10
    .have HBE:=zh (aFc a z (5+(k:Int)) wr (by omega) (by omega) (by omega) hlt (by omega));have HSU:=zh (dP a (a+z) k);obtain ⟨x1,x2,x3,hx⟩:=aF6 (bI a (a+z) k);rw [hx] at kb;have hqc:=aAt a (a+z) (5+(k:Int)) (by omega) (by omega) (by omega) (by omega) (by omega);have hqn:=uZ (5+(k:Int)) (qOf a (a+z) (5+(k:Int)));generalize hst:bI a (a+z) k=st at *;generalize hcq:cnt (5+(k:Int)) (qOf a (a+z) (5+(k:Int)))=c at *;generalize hbb:aZ a (5+(k:Int))=bb at *;obtain ⟨sc,hsc⟩:=eqx (mP st);rw [<- hsc] at hc0 hc9 ⊢;have HSC:=zh hsc;have HCQ:=zh hcq;have HX:=zh hx;have hcle:c<=262144:=by omega
     have KB:=zh kb;have HBQ:=zh hBq;have hszq:=hBq.size;have hltq:=kb.lt;clear hsc hcq hx hqc hst hbb kb hBq;go_wp2_with fail
     refine HBE.o.mono ?_;rintro e w3 ⟨o,rfl,ho,hb3⟩;have HO3:=zh ho;have kb3:=(KB.o.bw hb3).alloc (.cells #[qI bb,qI (5+(k:Int)),qI o,.bool false,.bool false,.bool false] 214);have hsz3:=hb3.size;have HB3:=zh ((HBQ.o.trans (hb3.mono hszq)).alloc (by omega) (.cells #[qI bb,qI (5+(k:Int)),qI o,.bool false,.bool false,.bool false] 214));have KB3:=zh kb3;obtain ⟨q1,q2,q3,q4,q5,q6,q7⟩:=kb3.six';clear ho hb3 kb3;by_cases hgt:sc<c
     .have HE:=zh (show bI a (a+z) (k+1)=some (bb,5+(k:Int),qOf a (a+z) (5+(k:Int))) from by
       rw [HSU.o];unfold keep
       rw [if_pos (by rw [<- HSC.o,HCQ.o];exact hgt)])
      go_wp2_with fail
      refine ⟨⟨k+1,by omega,by rw [HE.o];exact congrArg (Value.int .i64) HCQ.o.symm,by go_num,?_,lM aN HB3.o bb (5+(k:Int)) o⟩,by simp [intOf];omega⟩;rw [HE.o]
      have e2:aB2 (some (bb,5+(k:Int),qOf a (a+z) (5+(k:Int))))=#[qI bb,qI (5+(k:Int)),qI o,.bool false,.bool false,.bool false]:=by
       simp only [aB2];rw [HO3.o (by omega)]
      rw [e2];exact Blk.set (Blk.set (Blk.set (Blk.set (Blk.set (Blk.set KB3.o 0 _) 1 _) 2 _) 3 _) 4 _) 5 _
     .have HE:=zh (show bI a (a+z) (k+1)=st from by
       rw [HSU.o];unfold keep
       rw [if_neg (by rw [<- HSC.o,HCQ.o];exact hgt)])
      go_wp2_with fail
      exact ⟨⟨k+1,by omega,by rw [HE.o,HSC.o],by go_num,by rw [HE.o,HX.o];exact KB3.o,HB3.o⟩,by simp [intOf];omega⟩
    .have hk':k=10:=by omega
     subst hk';rw [HF.o] at kb hc0 hc9 ⊢;obtain ⟨o,ho⟩:=eqx (255-(q:Int));obtain ⟨c,hc⟩:=eqx (cnt l q);have kb':Blk wr w9.heap.size #[qI b,qI l,qI o,.bool false,.bool false,.bool false] 214:=by rw [ho];exact kb
     have hsc:mP (some (b,l,q))=c:=hc.symm;rw [hsc] at hc0 hc9 ⊢;rw [<- hc] at hc1 hc2 hc3 HLL;rw [<- ho] at HLL;have hwf:wfi b/\wfi l/\wfi o:=by unfold wfi;omega
     have HWF:=zh hwf;have hO2:=zW (S:=fun _=>False) (aJ hBq) HO1.o (fun _ _=>id);have HOWN:=zh (hO2.1.alloc (.cells #[qI b,qI l,qI o,.bool false,.bool false,.bool false] 214));rw [HLEN0.o] at HOWN;have HLEN:Zh ((dC (b,l,o,false,false,false)).length=1*6):=rfl;have HNEWS:=zh (aKn wr (b,l,o,false,false,false));have HONE:=zh (aM6 (b,l,o,false,false,false));have HRS:=zh hO2.2;have HLT:=zh hO2.1.lt;have hszq:=hBq.size;have HB3:=zh ((HB1.o.trans (hBq.mono hsz)).alloc (by omega) (.cells #[qI b,qI l,qI o,.bool false,.bool false,.bool false] 214));obtain ⟨q1,q2,q3,q4,q5,q6,q7⟩:=kb'.six';clear hO2 hBq kb kb' ho hc hsc hwf;go_wp2_with (at_builtin;refine wpList_append_own _ rfl _ _ 108 rfl w.heap.size 214 i0 (.agg #[qI 0,qI 0,qI 0,.bool false,.bool false,.bool false]) 6 32 underlying108 hi hz0 hz1 hz2 rfl (by decide) (qS A m cap) m (dR rs) rfl HOWN.o (qR wr.heap.size 0) 1 1 (dC (b,l,o,false,false,false)) rfl HLEN.o HNEWS.o HONE.o (by unfold maxLen;omega) (by omega) (by simp;omega) ?_;intro v' w3 hown3 hgr3 _;obtain ⟨A',cap',he⟩:=nI hown3;subst he;have hO3:=aA2 (W:=wr) (v:=qS A m cap) (g:=(b,l,o,false,false,false)) HRS.o HWF.o (by rw [HLEN0.o];exact hown3);have t3:=jM hgr3;have hfar:∀ j,(qS A m cap).ownBlock=some j->w.heap.size<=j:=fun j hj=>(HLT.o j hj).1;have HB4:=zh (aG HB3.o t3 hfar (by simp;omega));have HO3:=zh hO3;clear hO3 t3 hfar hown3 hgr3)
     refine ⟨⟨A',m+1,cap',rs++[(b,l,o,false,false,false)],n,a+c,z-c,by go_num,by go_num,rfl,by omega,by omega,by omega,by omega,by omega,by omega,HO3.o,by rw [HLL.o,HAZ.o];simp,HB4.o⟩,?_⟩;simp [intOf];omega
  .have hzz:z=0:=by omega
   subst hzz;have hLe:L=rs:=by rw [hLL,uT _ _ _ (by omega),List.append_nil]
   subst hLe;have HO1:=zh hO;have HB1:=zh hB;clear hLL hO hB;go_wp2_with fail
   go_ret2
   exact ⟨A,m,cap,rfl,HO1.o,HB1.o⟩
theorem aEi (f s:Int)(w:qw)(h1:-9223372036854775808<=f/\f<=9223372036854775807)(h2:-9223372036854775808<=s/\s<=9223372036854775807):
 qC 209 #[qI f,qI s] w (mZ w (rJ f s) (cvL f s)):=by
 unfold cvL;cases e:rJ f s
 .exact aEh f s w h1 h2 e
 .unfold rJ grn at e;simp at e;exact aCl f s w (by omega) (by omega) (by omega) (by omega) (by omega)
def rgt (r x y:Bool)(g:Rg):Rg:=(g.1,g.2.1,g.2.2.1,r,x,y)
def rts (r x y:Bool)(L:List Rg):List Rg:=L.map (rgt r x y)
theorem fS (r x y:Bool)(L:List Rg):(rts r x y L).length=L.length:=by simp [rts]
theorem aJ0 (r x y:Bool)(L:List Rg)(k:Nat)(h:k<L.length):(rts r x y L).take (k+1)=(rts r x y L).take k++[rgt r x y (L.getD k z6)]:=by
 rw [List.take_add_one];congr 1;simp [rts,xB,h]
theorem uS:∀ (n:Nat) (en a:Int),(fP en n a).length<=n
 | 0,en,a=>by simp [fP]
 | n+1,en,a=>by
   unfold fP;split
   .unfold aFs;split
    .have:=uS n en;simp only [List.length_cons];exact Nat.succ_le_succ (this _)
    .simp
   .simp
theorem rX (f s:Int):(cvL f s).length<=8192:=by
 unfold cvL;split
 .rename_i h;unfold pX;unfold rJ grn at h;simp at h;have:=uS (s/32).toNat (f+s) f;omega
 .simp
theorem sU {base:Nat}{a:qO}{w:qw}(h:ORg w base (qS a n cap) rs)(k:Nat)(hk:(qS a n cap).ownBlock=some k):base<=k:=by
 obtain ⟨hl,⟨h0,_⟩|⟨g',cap',cur,hv,hg,hh,h1,h2,h3,h4⟩⟩:=h.1
 .rw [h0] at hk;cases hk
 .rw [hv] at hk;have e:some g'=some k:=hk;injection e with e
  omega
theorem aE9 (A:qO)(m cap:Nat)(rs:List Rg)(f s:Int)(r x y:Bool)(base:Nat)(w:qw)(hb:base<=w.heap.size)(h:ORg w base (qS A m cap) rs)(hf:wfi f)(hs:wfi s)(hm:m<=1000000):
 qC 183 #[qS A m cap,qI f,qI s,.bool r,.bool x,.bool y] w fun e w'=>∃ A' m' cap',e=.returned (qS A' m' cap')/\m'=m+(cvL f s).length/\ORg w' base (qS A' m' cap') (rs++rts r x y (cvL f s))/\Below base w w':=by
 obtain ⟨i0,hi,hz0,hz1,hz2⟩:=info_parts aG2;have HC:=zh (aEi f s w (by unfold wfi at hf;omega) (by unfold wfi at hs;omega));have HL:=zh (rX f s);have HO0:=zh h;have HLEN0:=zh (fC h).1;generalize cvL f s=C at *;clear h;go_enter func183,ntmps183
 go_wp2_with fail
 refine HC.o.mono ?_;rintro e w2 ⟨c,n,cc,rfl,hC,hB2⟩;have HN:=zh (fC hC).1;have hn:n<=8192:=by have:=HN.o;have:=HL.o;omega
 have HX:=zh (xA hC hB2);have HO2:=zh (eZ (aJ hB2) HO0.o (fun k hk h=>by exact h));clear hC hB2;go_wp2_with fail
 go_loopw [0,15] (fun o i wr=>∃ (A':qO) (m' cap' k:Nat),k<=n/\m'=m+k/\o=qS A' m' cap'/\i=qI k/\ORg wr base (qS A' m' cap') (rs++(rts r x y C).take k)/\ORg wr w.heap.size (qS c n cc) C/\(∀ j,(qS A' m' cap').ownBlock=some j->¬ (qS c n cc).ownBlock=some j)/\Below base w wr) (fun _ i _=>n-(intOf i).toNat)
 .exact ⟨A,m,cap,0,xC _,rfl,rfl,rfl,by simpa using HO2.o,HX.o.1,fun j h1 h2=>by have:=aGs HO0.o j h1;have:=sU HX.o.1 j h2;omega,HX.o.2.mono hb⟩
 .obtain ⟨A',m',cap',k,hk,hm',rfl,rfl,hO,hC,hd,hB⟩:=hrel;by_cases hlt:k<n
  .have hlt':(k:Int)<(n:Int):=by omega
   obtain ⟨b,off,rfl⟩:=(fC hC).some (by omega);have hat:=(fC hC).at k hlt
   have hC2:=hC.2 (C.getD k z6) (by
    have:k<C.length:=by rw [HN.o];exact hlt
    simp [xB,this])
   have HT:=zh (aJ0 r x y C k (by rw [HN.o];exact hlt));generalize hG:C.getD k z6=G at *;obtain ⟨g1,g2,g3,g4,g5,g6⟩:=G;have HG:=zh hG;obtain ⟨p0,p1,p2,p3,p4,p5⟩:=hat;obtain ⟨W1,hW1⟩:=eqx (wr.alloc (.cells #[qI g1,qI g2,qI g3,.bool g4,.bool g5,.bool g6] 214));have K1:Blk W1 wr.heap.size #[qI g1,qI g2,qI g3,.bool g4,.bool g5,.bool g6] 214:=by rw [hW1];exact Blk.new _ _ _
   have B1:qY wr W1:=by rw [hW1];exact bal
   have s1:W1.heap.size=wr.heap.size+1:=by rw [hW1];simp
   obtain ⟨W2,hW2⟩:=eqx (((W1.setCell ⟨wr.heap.size,3,none⟩ (.bool r)).setCell ⟨wr.heap.size,4,none⟩ (.bool x)).setCell ⟨wr.heap.size,5,none⟩ (.bool y))
   have K2:Blk W2 wr.heap.size #[qI g1,qI g2,qI g3,.bool r,.bool x,.bool y] 214:=by
    rw [hW2];exact ((K1.set 3 (.bool r)).set 4 (.bool x)).set 5 (.bool y)
   have B2:qY wr W2:=by rw [hW2];exact ((B1.setCell aN _).setCell aN _).setCell aN _
   have s2:W2.heap.size=wr.heap.size+1:=by rw [hW2];simp [s1]
   have BB:qY wr (W2.alloc (.cells #[qI g1,qI g2,qI g3,.bool r,.bool x,.bool y] 214)):=B2.alloc (by rw [s2];omega) _
   have HOW:=zh (show (W2.alloc (.cells #[qI g1,qI g2,qI g3,.bool r,.bool x,.bool y] 214)).ownsRow base 214 6 (qS A' m' cap') m' (dR (rs++(rts r x y C).take k)) from by
    have:=(eZ (aJ BB) hO (fun _ _ h=>h)).1
    rwa [(fC hO).1] at this)
   have HNEWS:=zh (by have:=aKn W2 (g1,g2,g3,r,x,y);rw [s2] at this;exact this);have HMM:=zh hm';have HONE:=zh (aM6 (g1,g2,g3,r,x,y));have HRS:=zh hO.2;have HLB:=zh (aGs hO);have HGE:=zh (sU hO);have HCW:=zh (eZ (aJ BB) hC (fun _ _ h=>h));have HCL:=zh (aGs hC);have HD:=zh hd;have HML:=zh (fC hO).1;have HSZ:=zh (show base<=(W2.alloc (.cells #[qI g1,qI g2,qI g3,.bool r,.bool x,.bool y] 214)).heap.size from by have:=hB.size;simp;omega);have HSY:=zh (show (W2.alloc (.cells #[qI g1,qI g2,qI g3,.bool r,.bool x,.bool y] 214)).heap.size=wr.heap.size+2 from by simp [s2]);have HB3:Zh (Below base w (W2.alloc (.cells #[qI g1,qI g2,qI g3,.bool r,.bool x,.bool y] 214))):=hB.trans (BB.mono (by have:=hB.size;omega));have HG2:=zh hC2;obtain ⟨q1,q2,q3,q4,q5,q6,q7⟩:=K1.six';obtain ⟨u1,u2,u3,u4,u5,u6,u7⟩:=K2.six';have HW1:=zh hW1;have HW2:=zh hW2;clear hW1 hW2 K1 K2 B1 B2 BB hO hC hd hB hC2 hG hm';generalize hW3:W2.alloc (.cells #[qI g1,qI g2,qI g3,.bool r,.bool x,.bool y] 214)=W3 at *;have HW3:=zh hW3;clear hW3;go_wp2_with (first|rw [<- HW1.o]|rw [<- HW2.o]|rw [HW3.o]|(at_builtin;refine wpList_append_own_at _ rfl _ _ 108 rfl base 214 i0 (.agg #[qI 0,qI 0,qI 0,.bool false,.bool false,.bool false]) 6 32 underlying108 hi hz0 hz1 hz2 rfl (by decide) (qS A' m' cap') m' (dR (rs++(rts r x y C).take k)) rfl HOW.o (qR (wr.heap.size+1) 0) 1 1 (dC (g1,g2,g3,r,x,y)) rfl rfl HNEWS.o HONE.o (by have:=HMM.o;unfold maxLen;omega) (by have:=HMM.o;omega) HSZ.o ?_;intro v' w3 hown3 hgr3 _ hat3;have HP:=zh (xA hown3 (xA hgr3 hat3));clear hown3 hgr3 hat3;obtain ⟨A2,cap2,he⟩:=nI HP.o.1;subst he))
   have t3:=jM HP.o.2.1;refine ⟨⟨A2,m'+1,cap2,k+1,by omega,by have:=HMM.o;omega,rfl,by go_num,?_,?_,?_,?_⟩,by simp [intOf];omega⟩
   .rw [HT.o,<- List.append_assoc];refine aA2 (W:=W3) (v:=qS A' m' cap') HRS.o HG2.o ?_;rw [HML.o];exact HP.o.1
   .exact eZ t3 HCW.o (fun j hj h=>HD.o j h hj)
   .intro j h1 h2;rcases HP.o.2.2 with h|h
    .exact HD.o j (h ▸ h1) h2
    .rw [h1] at h;injection h with h
     have:=HCL.o j h2;have:=HSY.o;omega
   .exact aG HB3.o t3 (fun j hj=>HGE.o j hj) HSZ.o
  .have HE:=zh (show k=n by omega);have HF:=zh (xA hO hB);clear hO hC hd hB;go_wp2;go_ret;refine ⟨A',m',cap',rfl,by rw [hm',HE.o,HN.o],?_,HF.o.2⟩;have:=HF.o.1
   rwa [xG (by rw [fS,HE.o,HN.o];exact aN)] at this
def hs (b l o a:Int):Bool:=decide (b<=a/\a<b+(2:Int)^l.toNat/\(o/(2:Int)^((a-b)/((2:Int)^l.toNat/8)).toNat)%2=0)
theorem aH6 {b l o:Int}(h:rok b l o=true):5<=l/\l<=14/\0<=o/\o<=255/\(8<=l\/o=0)/\0<=b/\b<=262144-(2:Int)^l.toNat:=by
 simp [rok] at h;omega
theorem aQ4 (l:Int)(h:3<=l):(2:Int)^l.toNat=8*(2:Int)^(l-3).toNat:=by
 obtain ⟨k,hk⟩:=xV (show 0<=l-3 by omega);have e:l.toNat=k+3:=by omega
 have e2:(l-3).toNat=k:=by omega
 rw [e,e2,Int.pow_add];omega
theorem aLu (d q:Int)(hq:0<q)(h0:0<=d)(h:d<8*q):0<=d/q/\d/q<=7:=by
 refine ⟨Int.ediv_nonneg h0 (by omega),?_⟩;have:=Int.ediv_lt_of_lt_mul hq h;omega
theorem aO3:∀ o:Fin 256,(255 ^^^ o.val)=255-o.val:=by decide +kernel
theorem aO2 (o:Int)(h0:0<=o)(h1:o<=255):bits BinOp.xor IntKind.u8 IntKind.u8.max o=255-o:=by
 have hm:IntKind.u8.max=255:=by decide
 rw [hm,u8_xor 255 o (by omega) (by omega) h0 (by omega)];have:=aO3 ⟨o.toNat,by omega⟩;simp only at this;have e:(255:Int).toNat=255:=rfl;rw [e,this];omega
theorem aOc (t:Int)(h0:0<=t)(h1:t<=255):bits BinOp.and IntKind.u8 t 1=t%2:=by
 rw [u8_and t 1 h0 (by omega) (by omega) (by omega)];have e:(1:Int).toNat=1:=rfl;rw [e,Nat.and_one_is_mod];omega
theorem aCx (b l o:Int)(r x y:Bool)(w:qw)(h0:0<=o)(h1:o<=255):
 qC 265 #[.agg #[qI b,qI l,qI o,.bool r,.bool x,.bool y]] w (qB w (.int .u8 (255-o))):=by
 have hx:=zh (aO2 o h0 h1);go_enter func265,ntmps265
 go_wp2;go_ret;exact ⟨aI hx.o,bal⟩
theorem aNw (s i:Int)(w:qw)(h0:0<=s)(h1:s<=255)(h2:0<=i)(h3:i<=7):
 qC 266 #[.int .u8 s,qI i] w fun e w'=>e=.returned (.bool ((s/(2:Int)^i.toNat)%2==1))/\w=w':=by
 have hq:0<=s/(2:Int)^i.toNat/\s/(2:Int)^i.toNat<=255:=by
  have hp:=pow_pos i.toNat;exact ⟨Int.ediv_nonneg h0 (by omega),Int.le_trans (Int.ediv_le_self _ h0) h1⟩
 have hx:=zh (aOc (s/(2:Int)^i.toNat) hq.1 hq.2);clear hq;go_enter func266,ntmps266
 go_wp2;go_ret;exact ⟨aA (by rw [hx.o]),rfl⟩
theorem aL6:∀ (o:Fin 256) (i:Fin 8),((255-o.val)/2^i.val%2==1)=(o.val/2^i.val%2==0):=by decide +kernel
theorem aLl (o i:Int)(h0:0<=o)(h1:o<=255)(h2:0<=i)(h3:i<=7):((255-o)/(2:Int)^i.toNat%2==1)=(o/(2:Int)^i.toNat%2==0):=by
 obtain ⟨a,rfl⟩:=xV h0;obtain ⟨k,rfl⟩:=xV h2;have:=aL6 ⟨a,by omega⟩ ⟨k,by omega⟩;simp only at this;have e1:(255-(a:Int))=((255-a:Nat):Int):=by omega
 have e2:(2:Int)^((k:Int).toNat)=((2^k:Nat):Int):=by simp
 rw [e1,e2];rw [xJ] at this ⊢;simp only [beq_iff_eq] at this ⊢;omega
theorem Blk.six {w:qw}{a b c d e f:Value}{t:TypeId}(h:Blk w g #[a,b,c,d,e,f] t):
 w.cell? (qR g 0)=some a/\w.cell? (qR g 1)=some b/\w.cell? (qR g 2)=some c/\w.cell? (qR g 3)=some d/\w.cell? (qR g 4)=some e/\w.cell? (qR g 5)=some f/\∀ i,w.frozen? (qR g i)=false:=
 ⟨by rw [h.cell];rfl,by rw [h.cell];rfl,by rw [h.cell];rfl,by rw [h.cell];rfl,by rw [h.cell];rfl,by rw [h.cell];rfl,fun i=>h.frozen i⟩
theorem wrap_i64 {n:Int}(h0:-9223372036854775808<=n)(h1:n<=9223372036854775807):IntKind.i64.wrap n=n:=by
 simp only [IntKind.wrap,IntKind.bits,IntKind.signed];simp;omega
theorem vZ (b l o a:Int)(r x y:Bool)(w:qw)(h:rok b l o=true)(ha:-9223372036854775808<=a/\a<=9223372036854775807):
 qC 257 #[.agg #[qI b,qI l,qI o,.bool r,.bool x,.bool y],qI a] w (qB w (.bool (hs b l o a))):=by
 obtain ⟨h1,h2,h3,h4,h5,h6,h7⟩:=aH6 h;obtain ⟨ha0,ha1⟩:=ha;have hp:=sN l.toNat;have hp0:=pow_pos l.toNat;have hp8:=aQ4 l (by omega);have hq0:=pow_pos (l-3).toNat;have hq:(2:Int)^l.toNat/8=(2:Int)^(l-3).toNat:=by omega
 by_cases ka:a<b
 .have hf:Zh (hs b l o a=false):=by show _=_;unfold hs;simp;omega
  clear h h5 hp8 hq;have hd:decide (a<b)=true:=by simpa using ka
  go_enter func257,ntmps257
  go_wp2
  go_quiet (fail)
  go_wp2;go_ret;exact ⟨aA hf.o.symm,below_drewN bal _⟩
 .have hd:decide (a<b)=false:=by simpa using ka
  by_cases kb:(2:Int)^l.toNat<=a-b
  .have hf:Zh (hs b l o a=false):=by show _=_;unfold hs;simp;omega
   clear h h5 hp8 hq;go_enter func257,ntmps257
   go_wp2
   go_quiet (fail)
   go_wp2;go_ret;exact ⟨aA hf.o.symm,below_drewN bal _⟩
  .have hdv:=aLu (a-b) ((2:Int)^(l-3).toNat) hq0 (by omega) (by omega)
   have hf:Zh (hs b l o a=(((255-o)/(2:Int)^((a-b)/((2:Int)^(l-3).toNat)).toNat)%2==1)):=by
    show _=_;rw [aLl o _ h3 h4 hdv.1 hdv.2,<- hq];unfold hs;rw [xJ];simp;omega
   clear h h5 hp8 hq;obtain ⟨hd0,hd7⟩:=hdv;go_enter func257,ntmps257
   go_wp2
   go_quiet (fail)
   go_wp2_with fail
   have kb:=Blk.new w #[qI b,qI l,qI o,.bool r,.bool x,.bool y] 214;have hB0:qY w (w.alloc (.cells #[qI b,qI l,qI o,.bool r,.bool x,.bool y] 214)):=bal;have hw1:IntKind.i64.wrap (a-b)=a-b:=wrap_i64 (by omega) (by omega);have hw2:IntKind.i64.wrap (l-3)=l-3:=wrap_i64 (by omega) (by omega)
   have hsh:Op.shift .shr .i64 (a-b) .i64 (l-3)=pure (qI ((a-b)/(2:Int)^(l-3).toNat)):=by
    rw [shift_shr_any _ _ _ _ (by omega),Nat.min_eq_left (by simp [IntKind.bits];omega)]
   go_region_held3 (fun w'=>w'.cell? (qR w.heap.size 0)=some (qI b)/\w'.cell? (qR w.heap.size 1)=some (qI l)/\w'.cell? (qR w.heap.size 2)=some (qI o)/\w'.cell? (qR w.heap.size 3)=some (.bool r)/\w'.cell? (qR w.heap.size 4)=some (.bool x)/\w'.cell? (qR w.heap.size 5)=some (.bool y)) (go_keep)
    (first
      | (go_at_call 265;refine (aCx b l o r x y _ h3 h4).mono ?_;rintro e w1 ⟨rfl,hb1⟩;obtain ⟨q1,q2,q3,q4,q5,q6,q7⟩:=(Blk.bw (by exact kb) hb1).six)
      | (go_at_call 266;refine (aNw _ _ _ ?_ ?_ ?_ ?_).mono ?_;omega;omega;omega;omega;rintro e w2 ⟨rfl,rfl⟩))
   go_wp2;go_ret;exact ⟨aA hf.o.symm,(below_drewN hB0 _).trans (hb1.mono (by simp))⟩
def aNn (r x y:Bool)(k:Int):Bool:=if k=1 then r else if k=2 then x else if k=3 then y else false
theorem oI (b l o k:Int)(r x y:Bool)(w:qw):
 qC 258 #[.agg #[qI b,qI l,qI o,.bool r,.bool x,.bool y],qI k] w (qB w (.bool (aNn r x y k))):=by
 by_cases h1:k=1
 .subst h1;go_enter func258,ntmps258
  go_wp2;go_ret;exact ⟨rfl,bal⟩
 .by_cases h2:k=2
  .subst h2;go_enter func258,ntmps258
   go_wp2;go_ret;exact ⟨rfl,bal⟩
  .by_cases h3:k=3
   .subst h3;go_enter func258,ntmps258
    go_wp2;go_ret;exact ⟨rfl,bal⟩
   .have hf:Zh (aNn r x y k=false):=by show _=_;simp [aNn,h1,h2,h3]
    have g1:(k==1)=false:=by simpa using h1
    have g2:(k==2)=false:=by simpa using h2
    have g3:(k==3)=false:=by simpa using h3
    clear h1 h2 h3;go_enter func258,ntmps258
    go_wp2;go_ret;exact ⟨aA hf.o.symm,bal⟩
def gok (g:Rg):Bool:=rok g.1 g.2.1 g.2.2.1
def aFp (g:Rg)(a:Int):Bool:=hs g.1 g.2.1 g.2.2.1 a
def aLg (g:Rg)(k:Int):Bool:=aNn g.2.2.2.1 g.2.2.2.2.1 g.2.2.2.2.2 k
def fQ (rs:List Rg)(a k:Int):Nat->Bool
 | 0=>false
 | j+1=>if aFp (rs.getD j z6) a then aLg (rs.getD j z6) k else fQ rs a k j
theorem aI7 (b off n cap:Nat)(rs:List Rg)(a k:Int)(w:qw)(h:RS w (some (qR b off)) n cap rs)(hok:∀ g∈rs,gok g=true)(hk:wfi a)(hn:n<=8):
 qC 242 #[qS (some (qR b off)) n cap,qI a,qI k] w (qB w (.bool (fQ rs a k n))):=by
 have hl:=h.1;go_enter func242,ntmps242
 go_wp2;go_loopw [7] (fun i wr=>∃ (j:Nat) (p:Int),j<=n/\p+1=j/\i=qI p/\fQ rs a k j=fQ rs a k n/\qY w wr) (fun i _=>(intOf i+1).toNat)
 .exact ⟨n,(n:Int)-1,aN,by omega,rfl,rfl,brf⟩
 .obtain ⟨j,p,hj,hp,rfl,hone,hB⟩:=hrel;by_cases h0:j=0
  .have hp':p=-1:=by omega
   subst hp' h0;have HO:=zh hone;clear hp hone;have HK:=zh hk;clear hk;go_wp2;go_ret;exact ⟨aA (by rw [<- HO.o];rfl),hB⟩
  .obtain ⟨i,rfl⟩:∃ i,j=i+1:=⟨j-1,by omega⟩;have hp':p=(i:Int):=by omega
   subst hp';have hi0:(0:Int)<=(i:Int):=by omega
   have hin:(i:Int)<(n:Int):=by omega
   have hat:=(h.bw hB).at i (by omega);have hg:=hok (rs.getD i z6) (by simp [xB,show i<rs.length by omega]);have hstep:fQ rs a k (i+1)=if aFp (rs.getD i z6) a then aLg (rs.getD i z6) k else fQ rs a k i:=rfl
   rw [hone] at hstep;have HK:=zh hk;clear hp hone hk h0;generalize rs.getD i z6=g at *;obtain ⟨g1,g2,g3,g4,g5,g6⟩:=g;have HS:=zh hstep;clear hstep;have hga:rok g1 g2 g3=true:=hg;clear hg;have q1:=hat.1;have q2:=hat.2.1;have q3:=hat.2.2.1;have q4:=hat.2.2.2.1;have q5:=hat.2.2.2.2.1;have q6:=hat.2.2.2.2.2;simp only at q1 q2 q3 q4 q5 q6;go_wp2_with fail
   refine (vZ g1 g2 g3 a g4 g5 g6 _ hga HK.o).mono ?_;rintro e w1 ⟨rfl,hb1⟩;have hB1:=hB.trans (hb1.mono hB.size);cases hh:hs g1 g2 g3 a
   .have HH:=zh hh;clear hh;go_wp2
    go_roundw
    .exact ⟨i,(i:Int)-1,by omega,by omega,by go_num,by rw [HS.o];rw [show aFp (g1,g2,g3,g4,g5,g6) a=false from HH.o];rfl,hB1⟩
    .simp [intOf]
   .have HH:=zh hh;clear hh;have hat1:=hat.bw hb1;have q1:=hat1.1;have q2:=hat1.2.1;have q3:=hat1.2.2.1;have q4:=hat1.2.2.2.1;have q5:=hat1.2.2.2.2.1;have q6:=hat1.2.2.2.2.2;simp only at q1 q2 q3 q4 q5 q6;go_wp2_with fail
    refine (oI g1 g2 g3 k g4 g5 g6 _).mono ?_;rintro e w2 ⟨rfl,hb2⟩;go_wp2;go_ret;exact ⟨aA (by rw [HS.o];rw [show aFp (g1,g2,g3,g4,g5,g6) a=true from HH.o];rfl),hB1.trans (hb2.mono hB1.size)⟩
theorem aMb (x:qO)(cap:Nat)(a k:Int)(w:qw):
 qC 242 #[qS x 0 cap,qI a,qI k] w (qB w (.bool false)):=by
 go_enter func242,ntmps242
 go_wp2;go_loop [7] (fun i=>i=qI (-1)) (fun _=>0)
 .rfl
 .obtain rfl:=hrel;go_wp2;go_ret;exact ⟨rfl,brf⟩
theorem aMc (x:qO)(n cap:Nat)(rs:List Rg)(a k:Int)(w:qw)(h:RS w x n cap rs)(hok:∀ g∈rs,gok g=true)(hk:wfi a)(hn:n<=8):
 qC 242 #[qS x n cap,qI a,qI k] w (qB w (.bool (fQ rs a k n))):=by
 by_cases h0:n=0
 .subst h0;exact aMb x cap a k w
 .obtain ⟨b,off,rfl⟩:=h.some h0;exact aI7 b off n cap rs a k w h hok hk hn
def upB (rs:List Rg)(a k:Int)(n m:Nat):Bool:=(List.range m).all fun i=>fQ rs (wrap64 (a+i)) k n
def okB (rs:List Rg)(m:Nat):Bool:=(List.range m).all fun i=>gok (rs.getD i z6)
def aHr (rs:List Rg)(a k:Int)(n m:Nat):Prop:=∀ i,i<m->fQ rs (wrap64 (a+i)) k n=true
def aC0 (rs:List Rg)(m:Nat):Prop:=∀ i,i<m->gok (rs.getD i z6)=true
theorem nJ:okB rs m=true ↔ aC0 rs m:=by simp [okB,aC0]
theorem zV:upB rs a k n m=true ↔ aHr rs a k n m:=by simp [upB,aHr]
theorem aIf (hj:j<n)(h:gok (rs.getD j z6)=false):okB rs n=false:=by
 cases e:okB rs n
 .rfl
 .have:=nJ.1 e j hj;rw [h] at this;simp at this
theorem aHs (hj:j<m)(h:fQ rs (wrap64 (a+j)) k n=false):upB rs a k n m=false:=by
 cases e:upB rs a k n m
 .rfl
 .have:=zV.1 e j hj;rw [h] at this;simp at this
theorem aKh (hl:rs.length=n)(h:aC0 rs n):∀ g∈rs,gok g=true:=by
 intro g hg;obtain ⟨i,hi,rfl⟩:=List.getElem_of_mem hg;have:=h i (by omega);simpa [xB,hi] using this
theorem aIe (h:aC0 rs j)(hg:gok (rs.getD j z6)=true):aC0 rs (j+1):=by
 intro i hi;by_cases e:i=j
 .subst e;exact hg
 .exact h i (by omega)
theorem aHq (h:aHr rs a k n j)(hg:fQ rs (wrap64 (a+j)) k n=true):aHr rs a k n (j+1):=by
 intro i hi;by_cases e:i=j
 .subst e;exact hg
 .exact h i (by omega)
theorem wfl {z:Int}(h:wfi z):(Lit.int .i64 z).wf=true:=by
 obtain ⟨h0,h1⟩:=h;simp [Lit.wf,IntKind.min,IntKind.max,IntKind.signed,IntKind.bits];omega
theorem aI8 (z:Int):wfi (wrap64 z):=by
 unfold wfi wrap64;omega
def alw (rs:List Rg)(n:Nat)(a s k:Int):Bool:=decide (n<=8)&&(wd s&&(okB rs n&&upB rs a k n s.toNat))
def aAv (w:qw)(g o:Nat)(r x y:Bool):World:=((w.setCell (qR g (o+3)) (.bool r)).setCell (qR g (o+4)) (.bool x)).setCell (qR g (o+5)) (.bool y)
theorem cQ (w:qw)(g o b o':Nat)(r x y:Bool)(h:b≠g\/o'<o+3\/o+6<=o':=by omega):(aAv w g o r x y).cell? (qR b o')=w.cell? (qR b o'):=by
 unfold aAv;rw [cR,cR,cR]
theorem aMz {w:qw}(h:At6 w g o q)(r x y:Bool):At6 (aAv w g o r x y) g o (rgt r x y q):=by
 obtain ⟨h1,h2,h3,h4,h5,h6⟩:=h;refine ⟨?_,?_,?_,?_,?_,?_⟩
 .rw [cQ _ _ _ _ _ _ _ _];exact h1
 .rw [cQ _ _ _ _ _ _ _ _];exact h2
 .rw [cQ _ _ _ _ _ _ _ _];exact h3
 .unfold aAv;rw [cR,cR];exact pK h4
 .unfold aAv;rw [cR];exact pK (by rw [cR];exact h5)
 .unfold aAv;exact pK (by rw [cR,cR];exact h6)
theorem aCu {w:qw}{o':Nat}(h:At6 w b o' q)(r x y:Bool)(hf:b≠g\/o'+6<=o\/o+6<=o'):At6 (aAv w g o r x y) b o' q:=by
 unfold At6;rw [cQ _ _ _ _ _ _ _ _,cQ _ _ _ _ _ _ _ _,cQ _ _ _ _ _ _ _ _,cQ _ _ _ _ _ _ _ _,cQ _ _ _ _ _ _ _ _,cQ _ _ _ _ _ _ _ _];exact h
def tJ (r x y:Bool)(C:List Rg)(k:Nat):List Rg:=(rts r x y C).take k++C.drop k
theorem tI (r x y:Bool)(C:List Rg)(k:Nat)(h:k<=C.length):(tJ r x y C k).length=C.length:=by
 simp [tJ,fS];omega
theorem aGx (r x y:Bool)(C:List Rg)(k i:Nat)(h:k<=C.length)(hi:i<C.length):(tJ r x y C k).getD i z6=if i<k then rgt r x y (C.getD i z6) else C.getD i z6:=by
 unfold tJ;by_cases c:i<k
 .rw [if_pos c,xB,List.getElem?_append_left (by simp [fS];omega)];simp [rts,c,hi,xB]
 .rw [if_neg c,xB,List.getElem?_append_right (by simp [fS];omega)];simp only [List.length_take,fS,List.getElem?_drop];rw [show k+(i-min k C.length)=i by omega,xB]
theorem aJ4 {w:qw}{r x y:Bool}{C:List Rg}{k:Nat}(hk:k<C.length)(h:RowW w g (tJ r x y C k)):RowW (aAv w g (k*6) r x y) g (tJ r x y C (k+1)):=by
 obtain ⟨⟨cur,hc⟩,hr⟩:=h;refine ⟨⟨_,((hc.set _ _).set _ _).set _ _⟩,fun i hi=>?_⟩;rw [tI _ _ _ _ _ (by omega)] at hi;have hq:=hr i (by rw [tI _ _ _ _ _ (by omega)];exact hi);rw [aGx _ _ _ _ _ _ (by omega) hi] at hq;rw [aGx _ _ _ _ _ _ (by omega) hi];by_cases c:i=k
 .subst c;rw [if_neg (by omega)] at hq;rw [if_pos (by omega)];exact aMz hq r x y
 .by_cases c2:i<k
  .rw [if_pos c2] at hq;rw [if_pos (by omega)];exact aCu hq r x y (by omega)
  .rw [if_neg c2] at hq;rw [if_neg (by omega)];exact aCu hq r x y (by omega)
theorem aCq (f s:Int)(r x y:Bool)(w:qw)(hf:wfi f)(hs:wfi s):
 qC 220 #[.agg #[qI f,qI s,.bool r,.bool x,.bool y]] w fun e w'=>∃ A n cap,e=.returned (qS A n cap)/\RS w' A n cap (rts r x y (cvL f s))/\(A=none->n=0/\cap=0)/\qY w w':=by
 obtain ⟨W,hW⟩:=eqx (w.alloc (.cells #[qI f,qI s,.bool r,.bool x,.bool y] 234));have HBW:=zh (show qY w W by rw [hW];exact bal);have k0:Blk W w.heap.size #[qI f,qI s,.bool r,.bool x,.bool y] 234:=by rw [hW];exact Blk.new w _ _
 have sW:W.heap.size=w.heap.size+1:=by rw [hW];simp
 have d0:=k0.e0;have d1:=k0.e1;have HK:=zh k0;have HC:=zh (aFl f s W (by unfold wfi at hf;omega));have HL:=zh (rX f s);generalize cvL f s=C at *;have HW:=zh hW;clear hW k0;go_enter func220,ntmps220
 go_wp2_with (rw [<- HW.o])
 refine HC.o.mono ?_;rintro e w2 ⟨c,n,cc,rfl,hC,hB2⟩;have HN:=zh (fC hC).1;have hn:n<=8192:=by have:=HN.o;have:=HL.o;omega
 have HX:=zh (xA hC hB2);by_cases h0:n=0
 .subst h0;clear hC hB2;go_wp2_with fail
  go_loopw [16] (fun i wr=>i=qI 0/\wr=w2) (fun _ _=>0)
  .exact ⟨rfl,rfl⟩
  .obtain ⟨rfl,rfl⟩:=hrel;go_wp2;go_ret;have e0:C=[]:=xE HN.o;refine ⟨_,_,_,rfl,?_,fun hc=>?_,HBW.o.trans (HX.o.2.mono HBW.o.size)⟩;rotate_left
   .obtain ⟨hl,⟨h1,_⟩|⟨g',cap',cur,hv,_⟩⟩:=HX.o.1.1
    .injection h1 with _ h1 h2;exact ⟨rfl,h2⟩
    .injection hv with h1;rw [hc] at h1;cases h1
   have:=fC HX.o.1;rw [e0] at this ⊢;exact this
 .have hn0:n≠0:=h0
  obtain ⟨g,ha⟩:∃ g,c=some ⟨g,0,none⟩:=by
   obtain ⟨hl,⟨h1,_⟩|⟨g',cap',cur,hv,_⟩⟩:=hC.1
   .injection h1 with _ h1;exact absurd h1 hn0
   .injection hv with h1;exact ⟨g',h1⟩
  subst ha;have HR:=zh (aM5 hC hn0)
  have hg1:W.heap.size<=g:=by
   obtain ⟨hl,⟨h1,_⟩|⟨g',cap',cur,hv,hg,_⟩⟩:=hC.1
   .injection h1 with _ h1;exact absurd h1 hn0
   .injection hv with h1;injection h1 with h1;injection h1 with h1;omega
  clear hC hB2;go_wp2_with fail
  go_loopw [16] (fun i wr=>∃ k:Nat,k<=n/\i=qI k/\RowW wr g (tJ r x y C k)/\qY W wr) (qf n)
  .exact ⟨0,xC _,rfl,by simpa [tJ] using HR.o,HX.o.2⟩
  .obtain ⟨k,hk,rfl,hR,hB⟩:=hrel;by_cases hlt:k<n
   .have hlt':(k:Int)<(n:Int):=by omega
    obtain ⟨p0,p1,p2,p3,p4,p5⟩:=hR.2 k (by rw [tI _ _ _ _ _ (by rw [HN.o];omega),HN.o];exact hlt);have hfz:=hR.frozen;have kk:=HK.o.bw hB;have e2:=kk.e2;have e3:=kk.e3;have e4:=kk.e4;have HS:=zh (aJ4 (by rw [HN.o];exact hlt) hR);have HB3:Zh (qY W ((aAv wr g (k*6) r x y).drew)):=(((hB.setCell (p:=(qR g (k*6+3))) hg1 _).setCell (p:=(qR g (k*6+4))) hg1 _).setCell (p:=(qR g (k*6+5))) hg1 _).drew;clear hR hB kk;generalize (tJ r x y C k).getD k z6=G at *;obtain ⟨g1,g2,g3,g4,g5,g6⟩:=G;have hne:¬ g=w.heap.size:=by omega
    have hne':¬ w.heap.size=g:=by omega
    have f3:=hfz (k*6+3);have f4:=hfz (k*6+4);have f5:=hfz (k*6+5);clear hfz;go_wp2
    go_region_with (fail)
    all_goals
     go_wp2
     go_roundw
     .exact ⟨k+1,by omega,by go_num,HS.o,HB3.o⟩
     .simp [qf,intOf];omega
   .have HE:=zh (show k=n by omega);have HF:=zh (xA hR hB);clear hR hB;go_wp2;go_ret;refine ⟨_,_,_,rfl,?_,(fun hc=>by cases hc),HBW.o.trans (HF.o.2.mono HBW.o.size)⟩;have hRR:=HF.o.1
    have e0:tJ r x y C k=rts r x y C:=by
     have hl:=fS r x y C;have:=HN.o;unfold tJ;rw [List.drop_eq_nil_of_le (by rw [HE.o,this];exact aN),List.append_nil,xG (by rw [hl,this,HE.o];exact aN)]
    rw [e0] at hRR;refine ⟨by rw [fS];exact HN.o,by unfold maxLen;omega,?_,fun _=>⟨g,0,rfl,fun i hi=>by have:=hRR.2 i (by rw [fS,HN.o];exact hi);rw [Nat.zero_add];exact this⟩,(fC HX.o.1).2.2.2.2⟩;intro q hq;simp only [rts,List.mem_map] at hq;obtain ⟨p,hp,rfl⟩:=hq;exact HX.o.1.2 p hp
theorem aMr {w:qw}{off:Nat}(h:RS w (some (qR b off)) n cap rs):∀ j u,(dR rs)[j]?=some u->w.cell? (((qR b off):Addr).add j)=some u:=by
 intro j u hj;have hl:=h.1
 have hj2:j<(dR rs).length:=by
  rcases Nat.lt_or_ge j (dR rs).length with h'|h'
  .exact h'
  .rw [xO h'] at hj;cases hj
 rw [pE] at hj2;have hq:j/6<rs.length:=by omega
 have hr:j%6<6:=Nat.mod_lt _ (by omega);have e:=pF rs (j/6) (j%6) hq hr;rw [show j/6*6+j%6=j by omega,hj] at e;obtain ⟨h1,h2,h3,h4,h5,h6⟩:=h.at (j/6) (by omega);rw [bP,show off+j=off+j/6*6+j%6 by omega];rw [e];generalize rs.getD (j/6) z6=G at *;generalize j/6=q at *;have c:j%6=0\/j%6=1\/j%6=2\/j%6=3\/j%6=4\/j%6=5:=by omega
 rcases c with c|c|c|c|c|c<;>rw [c]
 .exact h1
 .exact h2
 .exact h3
 .exact h4
 .exact h5
 .exact h6
theorem aI1 (rs:List Rg):∀ u∈dR rs,u.oneCell'=true:=by
 intro u hu;simp only [dR,List.mem_flatMap] at hu;obtain ⟨g,_,hg⟩:=hu;exact aM6 g u hg
theorem aLn (xs ys:List Rg):dR (xs++ys)=dR xs++dR ys:=by simp [dR]
abbrev Spn:=Int×Int×Bool×Bool×Bool
def spR (p:Spn):List Rg:=rts p.2.2.1 p.2.2.2.1 p.2.2.2.2 (cvL p.1 p.2.1)
def zSp:Spn:=(0,0,false,false,false)
def At5 (w:qw)(b o:Nat)(p:Spn):Prop:=
 w.cell? (qR b o)=some (qI p.1)/\w.cell? (qR b (o+1))=some (qI p.2.1)/\w.cell? (qR b (o+2))=some (.bool p.2.2.1) /\
 w.cell? (qR b (o+3))=some (.bool p.2.2.2.1)/\w.cell? (qR b (o+4))=some (.bool p.2.2.2.2)
theorem At5.bw {w w':qw}{p:Spn}(h:At5 w b o p)(hb:qY w w'):At5 w' b o p:=by
 obtain ⟨h1,h2,h3,h4,h5⟩:=h;have hl:b<w.heap.size:=xD w _ h1;unfold At5;rw [hb.cell (p:=(qR b o)) hl,hb.cell (p:=(qR b (o+1))) hl,hb.cell (p:=(qR b (o+2))) hl,hb.cell (p:=(qR b (o+3))) hl,hb.cell (p:=(qR b (o+4))) hl];exact ⟨h1,h2,h3,h4,h5⟩
theorem aGh (p:Spn):(spR p).length<=8192:=by unfold spR;rw [fS];exact rX _ _
theorem aMl (ss:List Spn):(ss.flatMap spR).length<=8192*ss.length:=by
 induction ss with
 | nil=>simp
 | cons p ss ih=>have:=aGh p;simp only [xT,xI,List.length_cons];omega
theorem aJm (ss:List Spn)(k:Nat)(h:k<ss.length):(ss.take (k+1)).flatMap spR=(ss.take k).flatMap spR++spR (ss.getD k zSp):=by
 rw [List.take_add_one,xU];congr 1;simp [xB,h]
theorem aFf (b off n cap:Nat)(ss:List Spn)(w:qw)(hn:ss.length=n)(hn4:n<=4)(hw:∀ i,i<n->wfi (ss.getD i zSp).1/\wfi (ss.getD i zSp).2.1)(h:∀ i,i<n->At5 w b (off+i*5) (ss.getD i zSp)):
 qC 198 #[qS (some (qR b off)) n cap] w fun e w'=>∃ A m cap',e=.returned (qS A m cap')/\m=(ss.flatMap spR).length/\ORg w' w.heap.size (qS A m cap') (ss.flatMap spR)/\qY w w':=by
 obtain ⟨i0,hi,hz0,hz1,hz2⟩:=info_parts aG2;have HA:=zh h;have HW:=zh hw;have HN:=zh hn;clear h hw hn;go_enter func198,ntmps198
 go_wp2_with fail
 go_loopw [3,8] (fun o i wr=>∃ (A:qO) (m cap' k:Nat),k<=n/\o=qS A m cap'/\i=qI k/\ORg wr w.heap.size (qS A m cap') ((ss.take k).flatMap spR)/\qY w wr) (fun _ i _=>n-(intOf i).toNat)
 .exact ⟨none,0,0,0,xC _,rfl,rfl,rQ _ _,brf⟩
 .obtain ⟨A,m,cap',k,hk,rfl,rfl,hO,hB⟩:=hrel;by_cases hlt:k<n
  .have hlt':(k:Int)<(n:Int):=by omega
   obtain ⟨p0,p1,p2,p3,p4⟩:=(HA.o k hlt).bw hB;have HT:=zh (aJm ss k (by rw [HN.o];exact hlt));have hww:=HW.o k hlt;generalize ss.getD k zSp=G at *;obtain ⟨f,s,r,x,y⟩:=G;obtain ⟨V,hV⟩:=eqx (wr.alloc (.cells #[qI f,qI s,.bool r,.bool x,.bool y] 234));have KV:Blk V wr.heap.size #[qI f,qI s,.bool r,.bool x,.bool y] 234:=by rw [hV];exact Blk.new _ _ _
   have BV:qY wr V:=by rw [hV];exact bal
   have e0:=KV.e0;have e1:=KV.e1;have e2:=KV.e2;have e3:=KV.e3;have e4:=KV.e4;have HR:=zh (aCq f s r x y V hww.1 hww.2);have HO:=zh (eZ (aJ BV) hO (fun _ _ h=>h));have HML:=zh (fC hO).1;have HMX:=zh (show m<=32768 by have h1:=aMl (ss.take k);rw [(fC hO).1,List.length_take,HN.o] at h1;omega);have HLE:=zh (aGs hO);have HBV:=zh (hB.trans (BV.mono hB.size));have HSV:Zh (w.heap.size<=V.heap.size):=xM hB.size BV.size;have HV:=zh hV;have HGE:=zh (fun j hj=>sU hO j hj);clear hV KV BV hO hB hww;go_wp2_with (rw [<- HV.o])
   refine HR.o.mono ?_;rintro e w3 ⟨X,q,qc,rfl,hX,hnil,hB3⟩;have HL3:=zh (show q<=8192 by have h1:=aGh (f,s,r,x,y);have h2:=hX.1;unfold spR at h1;simp only at h1;omega);have HO3:=zh (eZ (aJ hB3) HO.o (fun _ _ h=>h));have HB4:=zh (HBV.o.trans (hB3.mono HSV.o));have HSZ:Zh (w.heap.size<=w3.heap.size):=xM HSV.o hB3.size;have HX:=zh hX;have HNIL:=zh hnil;clear hX hnil hB3;have HOW:=zh (show w3.ownsRow w.heap.size 214 6 (qS A m cap') m (dR ((ss.take k).flatMap spR)) from by have:=HO3.o.1;rwa [HML.o] at this);have HSP:Zh (spR (f,s,r,x,y)=rts r x y (cvL f s)):=rfl;have HWF:=zh HX.o.2.2.1;obtain ⟨M,hM⟩:=eqx (rts r x y (cvL f s));rw [<- hM] at HX HSP HWF;have HLEN:=zh (show (dR M).length=q*6 by rw [pE,HX.o.1]);have HONE:=zh (aI1 M);clear hM
   match X with
   | none=>
     obtain ⟨rfl,rfl⟩:=HNIL.o rfl;go_wp2_with (at_builtin;refine wpList_append_own_none rfl _ _ 108 rfl w.heap.size 214 i0 6 underlying108 hi (qS A m cap') m (dR ((ss.take k).flatMap spR)) rfl HOW.o rfl ?_)
     refine ⟨⟨A,m,cap',k+1,by omega,rfl,by go_num,?_,HB4.o⟩,by simp [intOf];omega⟩;rw [HT.o,HSP.o,xE HX.o.1,List.append_nil];exact HO3.o
   | some ad=>
     have HNEWS:=zh (show ∀ j u,(dR M)[j]?=some u->w3.cell? (ad.add j)=some u from by
      by_cases hq:q=0
      .have e:M=[]:=xE (by rw [HX.o.1];exact hq);rw [e];intro j u hj;simp [dR] at hj
      .obtain ⟨b',off',he⟩:=HX.o.some hq;injection he with he
       subst he
       exact aMr HX.o)
     go_wp2_with (at_builtin;refine wpList_append_own _ rfl _ _ 108 rfl w.heap.size 214 i0 (.agg #[qI 0,qI 0,qI 0,.bool false,.bool false,.bool false]) 6 32 underlying108 hi hz0 hz1 hz2 rfl (by decide) (qS A m cap') m (dR ((ss.take k).flatMap spR)) rfl HOW.o ad q qc (dR M) rfl HLEN.o HNEWS.o HONE.o (by have:=HMX.o;have:=HL3.o;unfold maxLen;omega) (by have:=HMX.o;have:=HL3.o;omega) HSZ.o ?_;intro v' w4 hown4 hgr4 _;have HP:=zh (xA hown4 hgr4);clear hown4 hgr4;obtain ⟨A2,cap2,he⟩:=nI HP.o.1;subst he)
     refine ⟨⟨A2,m+q,cap2,k+1,by omega,rfl,by go_num,?_,aG HB4.o (jM HP.o.2) (fun j hj=>HGE.o j hj) HSZ.o⟩,by simp [intOf];omega⟩;rw [HT.o,HSP.o];refine ⟨?_,fun y hy=>?_⟩
     .rw [xI,HML.o,HX.o.1,aLn];exact HP.o.1
     .rcases List.mem_append.1 hy with hy|hy
      .exact HO3.o.2 y hy
      .exact HWF.o y hy
  .have HE:=zh (show k=n by omega);have HF:=zh (xA hO hB);clear hO hB;go_wp2;go_ret;have h1:=HF.o.1;rw [xG (by rw [HN.o,HE.o];exact aN)] at h1;exact ⟨A,m,cap',rfl,(fC h1).1.symm,h1,HF.o.2⟩
