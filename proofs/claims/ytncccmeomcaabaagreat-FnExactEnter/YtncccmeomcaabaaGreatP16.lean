import Derived.Below
import Derived.Orders
import Derived.Test.YtncccmeomcaabaaGreatP15
set_option maxHeartbeats 2000000
namespace Go.Proofs.YtncccmeomcaabaaGreat
open Go.RowKit Classical
open Go.Proofs.Tryz
set_option linter.all false
set_option maxRecDepth 100000
variable {K:Act->World->Prop}{P:Program}{Q:Exit->Act->World->Prop}{R:Ending->World->Prop}{a:Act}{args:Array Value}{f i:Nat}{listed:Array Bool}{md:Region.Mode}{o:Oper}{ops:Array Oper}{v:Value}
theorem aC4 (a s l:Int)(w:qw)(hl:8<=l)(hl2:l<=14)(ha:0<=a)(hs:0<s)(has:a+s<=262144):
 qC 225 (qT l a s) w (aBt w (bC a l) l (cnt l (qOf a (a+s) l)) (qOf a (a+s) l)):=by
 obtain ⟨P,hP⟩:∃ P,(2:Int)^(l-3).toNat=P:=⟨_,rfl⟩;obtain ⟨N,hN⟩:∃ N,(2:Int)^l.toNat=N:=⟨_,rfl⟩;obtain ⟨g1,g2,g3,g4,g5,g6,g7⟩:=pD a l P N (by omega) (by omega) hP hN ha (by omega);obtain ⟨b0,b1,b2,b3,b4⟩:=lK a l N (by omega) (by omega) hN ha;have hdm:=nM a N ha (by omega);have hjle:=aQb a (a+s) l g5;have HIN:=zh (aMj a (a+s) l P N (by omega) hl2 hP hN ha (by omega) has)
 have HQ:=zh (show qOf a (a+s) l=bK (cJ a l) (jj a (a+s) l)/\cnt l (qOf a (a+s) l)=(jj a (a+s) l:Int)*P from by
  have e:=aJu a (a+s) l hl;refine ⟨e,?_⟩;rw [e]
  exact nO l P hP _ _ g5 hjle)
 obtain ⟨b,hb⟩:=eqx (a-a%N);have hbo:bC a l=b:=by unfold bC;rw [hN,hb]
 rw [<- hb] at b0 b1 b2 hdm;have HP2:=zh (fun w=>fC l (by omega) (by omega) w);rw [hN] at HP2;have hwf:(Lit.int .i64 b).wf=true:=by simp [Lit.wf,IntKind.min,IntKind.max,IntKind.bits,IntKind.signed];omega
 have HR:=zh (fun w=>lP b l 0 false false false w hwf);have hrok:rok b l 0=true:=by unfold rok;rw [hN];simp;omega
 rw [hrok] at HR;rw [hbo] at HIN ⊢;generalize cJ a l=i0 at *;generalize jj a (a+s) l=j at *;generalize qOf a (a+s) l=q at *;have hd8:N/8=P:=by omega
 have hN1:N<=16384:=by omega
 have hN0:0<N:=by omega
 clear hP hN g1 g4 g6 g7 hrok hbo b2 b3 b4 hb hwf;go_enter func225,ntmps225
 go_wp2_with fail
 refine (HP2.o _).mono ?_;rintro e w1 ⟨rfl,rfl⟩;go_wp2_with fail
 refine (HR.o _).mono ?_;rintro e w2 ⟨rfl,hb2⟩;have kz:=((Blk.new w #[qI 0,qI 0,qI 0,.bool false,.bool false,.bool false] 214).alloc (.cells #[qI b,qI l,qI 0,.bool false,.bool false,.bool false] 214)).bw hb2;have kr:=(Blk.new (w.alloc (.cells #[qI 0,qI 0,qI 0,.bool false,.bool false,.bool false] 214)) #[qI b,qI l,qI 0,.bool false,.bool false,.bool false] 214).bw hb2;try unfold qY at *
 simp only [xF] at kr;have HB2:=zh ((((Below.refl w.heap.size w).alloc aN (.cells #[qI 0,qI 0,qI 0,.bool false,.bool false,.bool false] 214)).alloc (by simp) (.cells #[qI b,qI l,qI 0,.bool false,.bool false,.bool false] 214)).trans (hb2.mono (by simp;omega)));have KZ:=zh kz;have KR:=zh kr;clear kz kr hb2;go_wp2_with fail
 rw [hd8];have b1':b<=262144:=by omega
 clear hd8 hdm b1 hN1 hN0
 have HOFF:=zh (show ∀ i,i<=8->∃ o,o=2^i-1-bK i0 (ci i0 j i)/\o<=255 from fun i hi=>⟨_,rfl,by
  have:2^i<=2^8:=Nat.pow_le_pow_right (by omega) hi
  omega⟩)
 go_loopw [12,13] (fun c x wr=>∃ (i o:Nat),i<=8/\c=qI ((ci i0 j i:Int)*P)/\x=qI (i:Int)/\o=2^i-1-bK i0 (ci i0 j i)/\Blk wr (w.heap.size+1) #[qI b,qI l,qI (o:Int),.bool false,.bool false,.bool false] 214/\Blk wr w.heap.size #[qI 0,qI 0,qI 0,.bool false,.bool false,.bool false] 214/\qY w wr) (fun _ x _=>8-(intOf x).toNat)
 .have h0:ci i0 j 0=0:=by simp [ci]
  exact ⟨0,0,by omega,by rw [h0];simp,rfl,by simp,KR.o,KZ.o,HB2.o⟩
 .obtain ⟨i,o,hi,rfl,rfl,ho,kr,kz,hB⟩:=hrel
  have ho8:o<=255:=by
   have:2^i<=2^8:=Nat.pow_le_pow_right (by omega) hi;omega
  have hci:ci i0 j i<=8:=by unfold ci;omega
  obtain ⟨c,hc⟩:∃ c:Int,c=(ci i0 j i:Int)*P:=⟨_,rfl⟩;have hc0:0<=c:=by rw [hc];exact Int.mul_nonneg (by omega) (by omega)
  have hc1:c<=16384:=by
   have:(ci i0 j i:Int)*P<=8*P:=Int.mul_le_mul_of_nonneg_right (by omega) (by omega);omega
  have HCC:=zh hc;rw [<- hc];have HOO:=zh ho;have HB:=zh hB;have KR2:=zh kr;have KZ2:=zh kz;obtain ⟨q1,q2,q3,q4,q5,q6,q7⟩:=kz.six';obtain ⟨p1,p2,p3,p4,p5,p6,p7⟩:=kr.six';clear hc ho kr kz hB HB2 KZ KR;by_cases h8:i<8
  .have hiP0:0<=(i:Int)*P:=Int.mul_nonneg (by omega) (by omega)
   have hiP1:(i:Int)*P<=16384:=by
    have:(i:Int)*P<=8*P:=Int.mul_le_mul_of_nonneg_right (by omega) (by omega);omega
   have hin:=HIN.o i h8;by_cases hp:i0<=i/\i<i0+j
   .obtain ⟨k1,k2,k3⟩:=hin.2 hp;have HN:=zh (aQe i0 g5 j (by omega) i h8 hp);clear hin hp;go_wp2_with fail
    constructor
    .exact ⟨i+1,o,by omega,by rw [HN.o.1,HCC.o];congr 1;rw [Int.natCast_add,Int.add_mul];simp,by go_num,by rw [HOO.o];exact HN.o.2,KR2.o,KZ2.o,HB.o⟩
    .simp [intOf];omega
   .have HN:=zh (aPk i0 g5 j (by omega) i h8 ⟨by omega,hjle⟩);obtain ⟨X,hX⟩:∃ X:Nat,X=2^i:=⟨_,rfl⟩
    have hX8:X<=256:=by
     have:2^i<=2^8:=Nat.pow_le_pow_right (by omega) hi;omega
    have HP3:Zh (∀ w,qC 244 #[qI (i:Int)] w fun e w'=>e=.returned (qI (X:Int))/\w'=w):=fun w=>(fC (i:Int) (by omega) (by omega) w).mono fun e w' h=>⟨by rw [h.1,hX];simp,h.2⟩;have HX:=zh hX
    have hor:(b+(i:Int)*P<a)\/(a<=b+(i:Int)*P/\a+s<b+(i:Int)*P+P)\/(a<=b+(i:Int)*P/\b+(i:Int)*P+P<=a+s/\a%P≠0):=by
     by_cases u1:a<=b+(i:Int)*P
     .by_cases u2:b+(i:Int)*P+P<=a+s
      .exact Or.inr (Or.inr ⟨u1,u2,fun u3=>hp (hin.1 ⟨u1,u2,u3⟩)⟩)
      .exact Or.inr (Or.inl ⟨u1,by omega⟩)
     .exact Or.inl (by omega)
    clear hin hp hX
    have HREL:=zh (show ∀ W,W=(wr.setCell (qR (w.heap.size+1) 2) (qI ((o:Int)+(X:Int)))).drew->∃ (i_1 o:Nat),i_1<=8/\qI c=qI ((ci i0 j i_1:Int)*P)/\qI ((i:Int)+1)=qI (i_1:Int)/\o=2^i_1-1-bK i0 (ci i0 j i_1)/\Blk W (w.heap.size+1) #[qI b,qI l,qI (o:Int),.bool false,.bool false,.bool false] 214/\Blk W w.heap.size #[qI 0,qI 0,qI 0,.bool false,.bool false,.bool false] 214/\qY w W from by
     rintro W rfl;refine ⟨i+1,o+X,by omega,by rw [HN.o.1,HCC.o],by simp,by rw [HOO.o,HX.o];exact HN.o.2,?_,(show Blk (wr.setCell (qR (w.heap.size+1) 2) (qI ((o:Int)+(X:Int)))) _ _ _ from Blk.other KZ2.o _ _ (by simp)),(HB.o.setCell (by simp) _).drew⟩;have:=Blk.set KR2.o 2 (qI ((o:Int)+(X:Int)));rw [Int.natCast_add]
     exact this)
    have hwr:IntKind.i64.wrap ((o:Int)+(X:Int))=(o:Int)+(X:Int):=nN;rcases hor with u|⟨u1,u2⟩|⟨u1,u2,u3⟩
    .go_wp2_with fail
     go_region_with (go_at_call 244;refine (HP3.o _).mono ?_;rintro e w3 ⟨rfl,rfl⟩)
     all_goals
      try rw [hwr]
      go_wp2_with fail
      constructor
      .exact HREL.o _ rfl
      .simp [intOf];omega
    .have u2n:¬ (b+(i:Int)*P+P<=a+s):=by omega
     go_wp2_with fail
     all_goals first
      | (exfalso;omega)
      | (go_region_with (go_at_call 244;refine (HP3.o _).mono ?_;rintro e w3 ⟨rfl,rfl⟩)
         all_goals (try rw [hwr])
         all_goals go_wp2_with fail
         all_goals (refine ⟨HREL.o _ rfl,?_⟩;simp [intOf];omega))
    .have u3':(a%P==0)=false:=by simpa using u3
     clear u3;go_wp2_with fail
     go_region_with (go_at_call 244;refine (HP3.o _).mono ?_;rintro e w3 ⟨rfl,rfl⟩)
     all_goals
      try rw [hwr]
      go_wp2_with fail
      constructor
      .exact HREL.o _ rfl
      .simp [intOf];omega
  .have hi8:i=8:=by omega
   subst hi8
   have hq:(o:Int)=255-(q:Int):=by
    have:=HOO.o;rw [aLi i0 g5 j (by omega) hjle,<- HQ.o.1] at this;have hq255:q<256:=by rw [HQ.o.1];exact lD i0 g5 j (by omega) hjle
    omega
   have hc':cnt l q=c:=by rw [HQ.o.2,HCC.o,aLi i0 g5 j (by omega) hjle]
   have HC2:=zh hc';have HQ2:=zh hq;clear hq hc';go_wp2_with fail
   rw [HC2.o];refine aBo w _ _ b l (o:Int) c q ?_ ?_ (aBn KZ2.o b l (o:Int)) (kZ aN HB.o b l (o:Int)) (fun _=>HQ2.o)
   .rfl
   .rfl
theorem aEy (a s l:Int)(w:qw)(hl:5<=l)(hl2:l<=14)(ha:0<=a)(hs:0<s)(has:a+s<=262144):
 qC 225 (qT l a s) w (aBt w (bC a l) l (cnt l (qOf a (a+s) l)) (qOf a (a+s) l)):=by
 by_cases h:l<8
 .exact vW a s l w hl h ha hs has
 .exact aC4 a s l w (by omega) hl2 ha hs has
theorem aD7 (f s:Int)(w:qw)(h1:-9223372036854775808<=f/\f<=9223372036854775807)(h2:-9223372036854775808<=s/\s<=9223372036854775807)(h:qH f s=false):
 qC 209 #[qI f,qI s] w (mN w false []):=by
 have HO:=zh (sM w w.heap.size aN);have HB:=zh ((Below.refl w.heap.size w).alloc aN (.cells #[] 214))
 have HE:=zh (show ∀ e W,W=w.alloc (.cells #[] 214)->e=Ending.returned (.tuple #[qS (qP w.heap.size) 0 0,.bool false])->mN w false [] e W from by
  rintro e W rfl rfl
  exact ⟨_,0,0,rfl,HO.o,HB.o⟩)
 have hor:f<0\/(0<=f/\s<0)\/(0<=f/\0<=s/\262144<f)\/(0<=f/\0<=s/\f<=262144/\262144<s)\/(0<=f/\0<=s/\f<=262144/\s<=262144/\262144<f+s)\/(0<=f/\0<=s/\f<=262144/\s<=262144/\f+s<=262144/\f%32≠0)\/(0<=f/\0<=s/\f<=262144/\s<=262144/\f+s<=262144/\f%32=0/\s%32≠0):=by
  unfold qH grn at h;simp at h;omega
 clear h;rcases hor with u|⟨u1,u2⟩|⟨u1,u2,u3⟩|⟨u1,u2,u3,u4⟩|⟨u1,u2,u3,u4,u5⟩|⟨u1,u2,u3,u4,u5,u6⟩|⟨u1,u2,u3,u4,u5,u6,u7⟩
 case inr.inr.inr.inr.inr.inl=>
  have u6':(f%32 !=0)=true:=by simpa using u6
  clear u6;go_enter func209,ntmps209
  go_wp2_with fail
  go_ret2
  exact HE.o _ _ rfl rfl
 case inr.inr.inr.inr.inr.inr=>
  have u6':(f%32 !=0)=false:=by simpa using u6
  have u7':(s%32 !=0)=true:=by simpa using u7
  clear u6 u7;go_enter func209,ntmps209
  go_wp2_with fail
  go_ret2
  exact HE.o _ _ rfl rfl
 all_goals
  go_enter func209,ntmps209
  go_wp2_with fail
  go_ret2
  exact HE.o _ _ rfl rfl
def aBp:CSt->Array Value
 | none=>#[qI 0,qI 0,qI 0,.bool false,.bool false,.bool false]
 | some (b,l,q)=>#[qI b,qI l,qI (255-(q:Int)),.bool false,.bool false,.bool false]
theorem aFs (s:CSt):∃ x y z,aBp s=#[qI x,qI y,qI z,.bool false,.bool false,.bool false]:=by
 match s with
 | none=>exact ⟨_,_,_,rfl⟩
 | some (b,l,q)=>exact ⟨_,_,_,rfl⟩
theorem aL7 (a en:Int)(ha:0<=a)(hae:a<en)(hen:en<=262144)(n:Nat)(hn:n<=10):lZ (bH a en n)<=262144:=by
 match h:bH a en n with
 | none=>simp [lZ]
 | some (b,l,q)=>
   obtain ⟨k1,k2,k3,k4⟩:=jJ a en ha hae hen n hn b l q h;obtain ⟨c1,c2⟩:=aAg a en l k1 k2 ha hae hen;rw [<- k4] at c1;simp only [lZ];omega
set_option maxRecDepth 100000 in
theorem aB9 (f s:Int)(w:qw)(hf:0<=f)(hf32:f%32=0)(hs:0<=s)(hs32:s%32=0)(hfs:s<=262144-f):
 qC 209 #[qI f,qI s] w (mN w true (pL f s)):=by
 obtain ⟨i0,hi,hz0,hz1,hz2⟩:=info_parts aGn;obtain ⟨L,hL⟩:=eqx (pL f s);rw [<- hL];unfold pL at hL;have HL:=zh hL;clear hL;have HO:=zh (sM w w.heap.size aN);have HB:=zh ((Below.refl w.heap.size w).alloc aN (.cells #[] 214));have k1:(f%32 !=0)=false:=by simpa using hf32
 have k2:(s%32 !=0)=false:=by simpa using hs32
 have k3:f+s<=262144:=by omega
 have k4:f<=262144:=by omega
 have k5:s<=262144:=by omega
 go_enter func209,ntmps209
 go_wp2_with fail
 go_loopw [0,1,6] (fun x y r wr=>∃ (A:qO) (m cap:Nat) (rs:List Rg) (n:Nat) (a z:Int),x=qI a/\y=qI z/\r=qS A m cap/\f<=a/\a+z=f+s/\0<=z/\a%32=0/\z<=32*(n:Int)/\m+n<=8192/\ORg wr w.heap.size (qS A m cap) rs/\L=rs++fN (f+s) n a/\qY w wr) (fun _ y _ _=>(intOf y).toNat)
 .exact ⟨_,0,0,[],(s/32).toNat,f,s,rfl,rfl,rfl,by omega,by omega,by omega,hf32,by omega,by omega,HO.o,by rw [HL.o];rfl,HB.o⟩
 .obtain ⟨A,m,cap,rs,n,a,z,rfl,rfl,rfl,ha,haz,hz,ha32,hn,hmn,hO,hLL,hB⟩:=hrel;obtain ⟨w9,hw9⟩:=eqx (wr);subst hw9;by_cases hlt:0<z
  .rw [<- haz] at hLL;have hlen:=(fA hO).1;obtain ⟨b,l,q,hF,hl,hl2,hq,hc1,hc2,hc3,hb,_⟩:=aLj a (a+z) (by omega) (by omega) (by omega) ha32 (by omega);obtain ⟨n,rfl⟩:∃ n',n=n'+1:=⟨n-1,by omega⟩;rw [pJ (a+z) n a b l q (by omega) hF] at hLL
   have hbw:0<=b/\b<=262144:=by
    have:=lK a l _ hl hl2 rfl;have:=pow_pos l.toNat;rw [hb];unfold bC;omega
   clear hb;have HF:=zh hF;have HLL:=zh hLL;have HO1:=zh hO;have HB1:=zh hB;have HLEN0:=zh hlen;have HAZ:=zh haz;have hsz:=hB.size;have KZ:=zh (Blk.new w9 #[qI 0,qI 0,qI 0,.bool false,.bool false,.bool false] 214);clear hLL hO hB hF hlen HO HB;go_wp2_with fail
   go_loopw [8,9] (fun mo lg wq=>∃ (k:Nat),k<=10/\mo=qI (lZ (bH a (a+z) k))/\lg=qI (5+(k:Int))/\Blk wq w9.heap.size (aBp (bH a (a+z) k)) 214/\qY w9 wq) (fun _ lg _=>15-(intOf lg).toNat)
   .exact ⟨0,by omega,by rw [dO];rfl,rfl,by rw [dO];exact KZ.o,bal⟩
   .obtain ⟨k,hk,rfl,rfl,kb,hBq⟩:=hrel;have hc0:=gO (bH a (a+z) k);have hc9:=aL7 a (a+z) (by omega) (by omega) (by omega) k hk;by_cases hk10:k<10
    .have HBE:=zh (aEy a z (5+(k:Int)) wr (by omega) (by omega) (by omega) hlt (by omega));have HSU:=zh (dN a (a+z) k);obtain ⟨x1,x2,x3,hx⟩:=aFs (bH a (a+z) k);rw [hx] at kb;have hqc:=aAg a (a+z) (5+(k:Int)) (by omega) (by omega) (by omega) (by omega) (by omega);have hqn:=uP (5+(k:Int)) (qOf a (a+z) (5+(k:Int)));generalize hst:bH a (a+z) k=st at *;generalize hcq:cnt (5+(k:Int)) (qOf a (a+z) (5+(k:Int)))=c at *;generalize hbb:bC a (5+(k:Int))=bb at *;obtain ⟨sc,hsc⟩:=eqx (lZ st);rw [<- hsc] at hc0 hc9 ⊢;have HSC:=zh hsc;have HCQ:=zh hcq;have HX:=zh hx;have hcle:c<=262144:=by omega
     have KB:=zh kb;have HBQ:=zh hBq;have hszq:=hBq.size;have hltq:=kb.lt;clear hsc hcq hx hqc hst hbb kb hBq;go_wp2_with fail
     refine HBE.o.mono ?_;rintro e w3 ⟨o,rfl,ho,hb3⟩;have HO3:=zh ho;have kb3:=(KB.o.bw hb3).alloc (.cells #[qI bb,qI (5+(k:Int)),qI o,.bool false,.bool false,.bool false] 214);have hsz3:=hb3.size;have HB3:=zh ((HBQ.o.trans (hb3.mono hszq)).alloc (by omega) (.cells #[qI bb,qI (5+(k:Int)),qI o,.bool false,.bool false,.bool false] 214));have KB3:=zh kb3;obtain ⟨q1,q2,q3,q4,q5,q6,q7⟩:=kb3.six';clear ho hb3 kb3;by_cases hgt:sc<c
     .have HE:=zh (show bH a (a+z) (k+1)=some (bb,5+(k:Int),qOf a (a+z) (5+(k:Int))) from by
       rw [HSU.o];unfold keep
       rw [if_pos (by rw [<- HSC.o,HCQ.o];exact hgt)])
      go_wp2_with fail
      refine ⟨⟨k+1,by omega,by rw [HE.o];exact congrArg (Value.int .i64) HCQ.o.symm,by go_num,?_,kZ aN HB3.o bb (5+(k:Int)) o⟩,by simp [intOf];omega⟩;rw [HE.o]
      have e2:aBp (some (bb,5+(k:Int),qOf a (a+z) (5+(k:Int))))=#[qI bb,qI (5+(k:Int)),qI o,.bool false,.bool false,.bool false]:=by
       simp only [aBp];rw [HO3.o (by omega)]
      rw [e2];exact Blk.set (Blk.set (Blk.set (Blk.set (Blk.set (Blk.set KB3.o 0 _) 1 _) 2 _) 3 _) 4 _) 5 _
     .have HE:=zh (show bH a (a+z) (k+1)=st from by
       rw [HSU.o];unfold keep
       rw [if_neg (by rw [<- HSC.o,HCQ.o];exact hgt)])
      go_wp2_with fail
      exact ⟨⟨k+1,by omega,by rw [HE.o,HSC.o],by go_num,by rw [HE.o,HX.o];exact KB3.o,HB3.o⟩,by simp [intOf];omega⟩
    .have hk':k=10:=by omega
     subst hk';rw [HF.o] at kb hc0 hc9 ⊢;obtain ⟨o,ho⟩:=eqx (255-(q:Int));obtain ⟨c,hc⟩:=eqx (cnt l q);have kb':Blk wr w9.heap.size #[qI b,qI l,qI o,.bool false,.bool false,.bool false] 214:=by rw [ho];exact kb
     have hsc:lZ (some (b,l,q))=c:=hc.symm;rw [hsc] at hc0 hc9 ⊢;rw [<- hc] at hc1 hc2 hc3 HLL;rw [<- ho] at HLL;have hwf:wfi b/\wfi l/\wfi o:=by unfold wfi;omega
     have HWF:=zh hwf;have hO2:=zF (S:=fun _=>False) (aJ hBq) HO1.o (fun _ _=>id);have HOWN:=zh (hO2.1.alloc (.cells #[qI b,qI l,qI o,.bool false,.bool false,.bool false] 214));rw [HLEN0.o] at HOWN;have HLEN:Zh ((dB (b,l,o,false,false,false)).length=1*6):=rfl;have HNEWS:=zh (aJ8 wr (b,l,o,false,false,false));have HONE:=zh (aMn (b,l,o,false,false,false));have HRS:=zh hO2.2;have HLT:=zh hO2.1.lt;have hszq:=hBq.size;have HB3:=zh ((HB1.o.trans (hBq.mono hsz)).alloc (by omega) (.cells #[qI b,qI l,qI o,.bool false,.bool false,.bool false] 214));obtain ⟨q1,q2,q3,q4,q5,q6,q7⟩:=kb'.six';clear hO2 hBq kb kb' ho hc hsc hwf;go_wp2_with (at_builtin;refine wpList_append_own _ rfl _ _ 108 rfl w.heap.size 214 i0 (.agg #[qI 0,qI 0,qI 0,.bool false,.bool false,.bool false]) 6 32 underlying108 hi hz0 hz1 hz2 rfl (by decide) (qS A m cap) m (dQ rs) rfl HOWN.o (qR wr.heap.size 0) 1 1 (dB (b,l,o,false,false,false)) rfl HLEN.o HNEWS.o HONE.o (by unfold maxLen;omega) (by omega) (by simp;omega) ?_;intro v' w3 hown3 hgr3 _;obtain ⟨A',cap',he⟩:=mY hown3;subst he;have hO3:=aAo (W:=wr) (v:=qS A m cap) (g:=(b,l,o,false,false,false)) HRS.o HWF.o (by rw [HLEN0.o];exact hown3);have t3:=jG hgr3;have hfar:∀ j,(qS A m cap).ownBlock=some j->w.heap.size<=j:=fun j hj=>(HLT.o j hj).1;have HB4:=zh (aG HB3.o t3 hfar (by simp;omega));have HO3:=zh hO3;clear hO3 t3 hfar hown3 hgr3)
     refine ⟨⟨A',m+1,cap',rs++[(b,l,o,false,false,false)],n,a+c,z-c,by go_num,by go_num,rfl,by omega,by omega,by omega,by omega,by omega,by omega,HO3.o,by rw [HLL.o,HAZ.o];simp,HB4.o⟩,?_⟩;simp [intOf];omega
  .have hzz:z=0:=by omega
   subst hzz;have hLe:L=rs:=by rw [hLL,uJ _ _ _ (by omega),List.append_nil]
   subst hLe;have HO1:=zh hO;have HB1:=zh hB;clear hLL hO hB;go_wp2_with fail
   go_ret2
   exact ⟨A,m,cap,rfl,HO1.o,HB1.o⟩
theorem aD8 (f s:Int)(w:qw)(h1:-9223372036854775808<=f/\f<=9223372036854775807)(h2:-9223372036854775808<=s/\s<=9223372036854775807):
 qC 209 #[qI f,qI s] w (mN w (qH f s) (cvL f s)):=by
 unfold cvL;cases e:qH f s
 .exact aD7 f s w h1 h2 e
 .unfold qH grn at e;simp at e;exact aB9 f s w (by omega) (by omega) (by omega) (by omega) (by omega)
def gC (L:Lay)(P:PB)(b s:Int):Int:=if b=-1 then P.1.text else if s=-1 then P.1.banks.getD b.toNat 0 else L.slots.getD s.toNat 0
theorem mX (L:Lay)(a0:qO)(c0:Nat)(xs:List PB)(a2:qO)(c2:Nat)(a5:qO)(c5:Nat)(ts:List TB)(m b at' s:Int)(w:qw)(h:LyT w L a0 c0 xs a2 c2 a5 c5 ts)
 (hm0:0<=m) (hm1:m<(xs.length:Int)) (hb:b=-1\/(0<=b/\b<((xs.getD m.toNat zPB).1.banks.length:Int))) (hs:s=-1\/(b≠-1/\0<=s/\s<(L.slots.length:Int))):
 qC 130 #[.agg (qJ L a0 xs c0 a2 c2 a5 ts c5),.agg (qT m b at'),qI s] w (qB w (qI (gC L (xs.getD m.toNat zPB) b s))):=by
 obtain ⟨W,hW⟩:=eqx ((w.alloc (.cells (qJ L a0 xs c0 a2 c2 a5 ts c5) 71)).alloc (.cells (qT m b at') 58));have hB:qY w W:=by rw [hW];exact bal.alloc (by simp) _
 have HB:=zh hB;have h1:=h.bw hB;have k0:Blk W w.heap.size (qJ L a0 xs c0 a2 c2 a5 ts c5) 71:=by rw [hW];exact (Blk.new w _ _).alloc _
 have k1:Blk W (w.heap.size+1) (qT m b at') 58:=by rw [hW];have:=Blk.new (w.alloc (.cells (qJ L a0 xs c0 a2 c2 a5 ts c5) 71)) (qT m b at') 58;simpa using this
 have hz:W.heap.size=w.heap.size+1+1:=by rw [hW];simp
 have HZ:=zh hz;clear hz;have d0:=k0.e0;have d2:=k0.e2;have t0:=k1.e0;have t1:=k1.e1;obtain ⟨g,off,rfl,q0,q1,q2,q3⟩:=h1.p.at m.toNat (by omega);have hbk:=h1.p.2.2.2.1 m.toNat (by omega);have hsl:=h1.s;have hmx:=h1.p.2.1;have hmy:=hsl.2.1;have hmz:=hbk.2.1;unfold maxLen at hmx hmy hmz;unfold svP at q1;generalize xs.getD m.toNat zPB=P at *;have HW:=zh hW;clear hW hB k0 k1 h1 h;rcases hb with rfl|⟨hb0,hb1⟩
 .obtain rfl:s=-1:=by rcases hs with h|h;exact h;exact absurd rfl h.1
  have HO:Zh (gC L P (-1) (-1)=P.1.text):=rfl;rw [HO.o];clear hs hbk hsl;generalize P.1.text=x at *;generalize xs.length=n at *;generalize L.slots.length=l at *;go_enter func130,ntmps130
  go_wp2_with (rw [<- HW.o])
  go_ret;exact ⟨rfl,(by first|exact HB.o|exact HB.o.drew)⟩
 .have hb2:¬ b=-1:=by omega
  have hb3:(b == -1)=false:=by simpa using hb2
  rcases hs with rfl|⟨_,hs0,hs1⟩
  .have HO:=zh (show gC L P b (-1)=P.1.banks.getD b.toNat 0 by unfold gC;rw [if_neg hb2,if_pos rfl]);rw [HO.o];obtain ⟨u,v,e,hc⟩:=hbk.2.2.2.1 (by omega);have qq:=hc b.toNat (by omega);rw [e] at q1;clear hbk hsl e hc HO;generalize P.1.banks.getD b.toNat 0=x at *;generalize P.1.banks.length=y at *;generalize xs.length=n at *;generalize L.slots.length=l at *;go_enter func130,ntmps130
   go_wp2_with (rw [<- HW.o])
   go_region_held3 (fun w'=>w'.cell? (qR w.heap.size 0)=some (qS (some (qR g off)) n c0)/\w'.cell? (qR (w.heap.size+1) 0)=some (qI m)/\w'.cell? (qR (w.heap.size+1) 1)=some (qI b)/\w'.cell? (qR g (off+m.toNat*4+1))=some (qS (some (qR u v)) y P.2.2)/\w'.cell? (qR u (v+b.toNat))=some (qI x)) (go_keep) (fail)
   go_wp2;go_ret;exact ⟨rfl,(by first|exact HB.o|exact HB.o.drew)⟩
  .have hs2:¬ s=-1:=by omega
   have hs3:(s == -1)=false:=by simpa using hs2
   have HO:=zh (show gC L P b s=L.slots.getD s.toNat 0 by unfold gC;rw [if_neg hb2,if_neg hs2]);rw [HO.o];obtain ⟨u,v,e,hc⟩:=hsl.2.2.2.1 (by omega);have qq:=hc s.toNat (by omega);rw [e] at d2;clear hbk hsl e hc HO;generalize L.slots.getD s.toNat 0=x at *;generalize P.1.banks.length=y at *;generalize xs.length=n at *;generalize L.slots.length=l at *;go_enter func130,ntmps130
   go_wp2_with (rw [<- HW.o])
   go_ret;exact ⟨rfl,(by first|exact HB.o|exact HB.o.drew)⟩
def slF (L:Lay)(b:Int):List Int:=if b=-1\/L.slots=[] then [-1] else (List.range L.slots.length).map (fun i:Nat=>(i:Int))
theorem aKt {w:qw}{g:Nat}{v:Int}(hv:wfi v)(h:w.cell? (qR g 0)=some (qI v)):IS w (qP g) 1 1 [v]:=by
 refine ⟨rfl,by unfold maxLen;omega,fun z hz=>?_,fun _=>⟨g,0,rfl,fun i hi=>?_⟩,aN⟩
 .simp at hz;rw [hz];exact hv
 .obtain rfl:i=0:=by omega
  simpa using h
theorem zR (L:Lay)(a0:qO)(c0:Nat)(xs:List PB)(a2:qO)(c2:Nat)(a5:qO)(c5:Nat)(ts:List TB)(b:Int)(w:qw)(h:LyT w L a0 c0 xs a2 c2 a5 c5 ts)(hb:b=-1\/L.slots=[]):
 qC 189 #[.agg (qL L a0 xs.length c0 a2 L.slots.length c2 a5 ts.length c5),qI b] w fun e w'=>∃ a c,e=.returned (.slice a (slF L b).length c)/\IS w' a (slF L b).length c (slF L b)/\qY w w':=by
 have HS:=zh (show slF L b=[-1] by unfold slF;rw [if_pos hb]);rw [HS.o];show qC 189 _ w fun e w'=>∃ a c,e=.returned (qS a 1 c)/\IS w' a 1 c [-1]/\qY w w';have HB:Zh (qY w (w.alloc (.cells (qL L a0 xs.length c0 a2 L.slots.length c2 a5 ts.length c5) 71))):=brf.alloc aN _;clear HS;by_cases c:b=-1
 .subst c;clear hb h;generalize xs.length=n at *;generalize L.slots.length=l at *;generalize ts.length=k at *;go_enter func189,ntmps189
  go_wp2;go_ret;refine ⟨_,_,rfl,aKt (by unfold wfi;omega) ?_,HB.o.alloc HB.o.size _⟩;rw [show w.heap.size+1=(w.alloc _).heap.size from (xF _ _).symm];exact (Blk.new _ _ _).cell 0
 .have hl:L.slots.length=0:=by rw [hb.resolve_left c];rfl
  have hz:(b == -1)=false:=by simpa using c
  rw [hl];rw [hl] at HB;clear hb h hl;generalize xs.length=n at *;generalize ts.length=k at *;go_enter func189,ntmps189
  go_wp2;go_ret;refine ⟨_,_,rfl,aKt (by unfold wfi;omega) ?_,HB.o.alloc HB.o.size _⟩;rw [show w.heap.size+1=(w.alloc _).heap.size from (xF _ _).symm];exact (Blk.new _ _ _).cell 0
theorem aQm {w w':qw}(h:(execOp a.eval o).run P w=.ok (.value v) w')(hk:K (a.put o.dst v) w'):o.wp P a w K Q:=by
 unfold Oper.wp;rw [h];exact hk
theorem aQn {w w':qw}(h:(execOp a.eval o).run P w=.ok .skip w')(hk:K (a.put o.dst undef) w'):o.wp P a w K Q:=by
 unfold Oper.wp;rw [h];exact hk
theorem aQo {w w':qw}(h:(execOp a.eval o).run P w=.ok (.enter f args) w')(hc:Calls P f args w' R)(hk:∀ e w'',R e w''->∃ v,e=.returned v/\K (a.put o.dst v) w''):o.wp P a w K Q:=by
 unfold Oper.wp;rw [h];refine hc.mono fun e w'' hr=>?_;obtain ⟨v,rfl,hv⟩:=hk e w'' hr;exact hv
theorem aOk {w:qw}(ho:ops[i]?=some o)(hg:o.guard=none)(h:o.wp P a w K Q):wpOp P ops Q i K a w:=by
 unfold wpOp;rw [ho];simp only [Region.wanted,hg];exact .inl h
theorem mP {w w':qw}(ho:ops[i]?=some o)(hg:o.guard=none)(h:(execOp a.eval o).run P w=.ok (.value v) w')(hk:K (a.put o.dst v) w'):wpOp P ops Q i K a w:=
 aOk ho hg (aQm h hk)
theorem aPs {w w':qw}(ho:ops[i]?=some o)(hg:o.guard=none)(h:(execOp a.eval o).run P w=.ok .skip w')(hk:K (a.put o.dst undef) w'):wpOp P ops Q i K a w:=
 aOk ho hg (aQn h hk)
theorem aIv {w w':qw}(ho:ops[i]?=some o)(hg:o.guard=none)(h:(execOp a.eval o).run P w=.ok (.enter f args) w')(hc:Calls P f args w' R)(hk:∀ e w'',R e w''->∃ v,e=.returned v/\K (a.put o.dst v) w''):wpOp P ops Q i K a w:=
 aOk ho hg (aQo h hc hk)
theorem bQ (hi:i∈Region.ready md ops listed)(ho:ops[i]?=some o)(e:Edge)(he:e∈o.after)(hb:Region.binds md e=true):listed.getD e.on false=true:=by
 obtain ⟨_,o',ho',h⟩:=mem_ready.1 hi;rw [ho] at ho';injection ho' with e'
 subst e';exact h e he hb
theorem aJs (hr:Region.ready md ops listed=[])(i:Nat)(o:Oper)(ho:ops[i]?=some o)(hp:∀ e∈o.after,Region.binds md e=true->listed.getD e.on false=true):listed.getD i true=true:=by
 cases h:listed.getD i true
 .have:i∈Region.ready md ops listed:=mem_ready.2 ⟨h,o,ho,hp⟩;rw [hr] at this;cases this
 .rfl
