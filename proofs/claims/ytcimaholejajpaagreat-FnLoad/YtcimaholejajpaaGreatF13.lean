import Derived.Test.YtcimaholejajpaaGreatF07
import Derived.Test.YtcimaholejajpaaGreatF12
set_option linter.all false
set_option maxHeartbeats 4000000
namespace Go.Proofs.YtcimaholejajpaaGreat
open Go.RowKit
open Go.Proofs.Tryz
set_option maxRecDepth 100000
variable {L:Lay}{P:Prop}{a a0 a2 a5:qO}{b m s:Int}{base c0 c2 c5 cap n:Nat}{ms:List Md}{ps:List PMod}{rs:List Rg}{ts:List TB}{v:Value}{xs:List PB}
def zJ:CSt->Array Value
 | none=>#[qI 0,qI 0,qI 0,.bool false,.bool false,.bool false]
 | some (b,l,q)=>#[qI b,qI l,qI (255-(q:Int)),.bool false,.bool false,.bool false]
theorem aC0 (s:CSt):∃ x y z,zJ s=#[qI x,qI y,qI z,.bool false,.bool false,.bool false]:=by
 match s with
 | none=>exact ⟨_,_,_,rfl⟩
 | some (b,l,q)=>exact ⟨_,_,_,rfl⟩
theorem aIv (a en:Int)(ha:0<=a)(hae:a<en)(hen:en<=262144)(n:Nat)(hn:n<=10):lC (bL a en n)<=262144:=by
 match h:bL a en n with
 | none=>simp [lC]
 | some (b,l,q)=>
   obtain ⟨k1,k2,k3,k4⟩:=iU a en ha hae hen n hn b l q h;obtain ⟨c1,c2⟩:=wC a en l k1 k2 ha hae hen;rw [<- k4] at c1;simp only [lC];omega
set_option maxRecDepth 100000 in
theorem zY (f s:Int)(w:qw)(hf:0<=f)(hf32:f%32=0)(hs:0<=s)(hs32:s%32=0)(hfs:s<=262144-f):
 qC 123 #[qI f,qI s] w (lJ w true (oJ f s)):=by
 obtain ⟨i0,hi,hz0,hz1,hz2⟩:=info_parts aDx;obtain ⟨L,hL⟩:=eqx (oJ f s);rw [<- hL];unfold oJ at hL;have HL:=zh hL;clear hL;have HO:=zh (rC w w.heap.size aL);have HB:=zh ((Below.refl w.heap.size w).alloc aL (.cells #[] 177));have k1:(f%32 !=0)=false:=by simpa using hf32
 have k2:(s%32 !=0)=false:=by simpa using hs32
 have k3:f+s<=262144:=by omega
 have k4:f<=262144:=by omega
 have k5:s<=262144:=by omega
 go_enter func123,ntmps123
 go_wp2_with fail
 go_loopw [0,1,6] (fun x y r wr=>∃ (A:qO) (m cap:Nat) (rs:List Rg) (n:Nat) (a z:Int),x=qI a/\y=qI z/\r=qS A m cap/\f<=a/\a+z=f+s/\0<=z/\a%32=0/\z<=32*(n:Int)/\m+n<=8192/\ORg wr w.heap.size (qS A m cap) rs/\L=rs++eO (f+s) n a/\qY w wr) (fun _ y _ _=>(intOf y).toNat)
 .exact ⟨_,0,0,[],(s/32).toNat,f,s,rfl,rfl,rfl,by omega,by omega,by omega,hf32,by omega,by omega,HO.o,by rw [HL.o];rfl,HB.o⟩
 .obtain ⟨A,m,cap,rs,n,a,z,rfl,rfl,rfl,ha,haz,hz,ha32,hn,hmn,hO,hLL,hB⟩:=hrel;obtain ⟨w9,hw9⟩:=eqx (wr);subst hw9;by_cases hlt:0<z
  .rw [<- haz] at hLL;have hlen:=(eU hO).1;obtain ⟨b,l,q,hF,hl,hl2,hq,hc1,hc2,hc3,hb,_⟩:=aId a (a+z) (by omega) (by omega) (by omega) ha32 (by omega);obtain ⟨n,rfl⟩:∃ n',n=n'+1:=⟨n-1,by omega⟩;rw [oH (a+z) n a b l q (by omega) hF] at hLL
   have hbw:0<=b/\b<=262144:=by
    have:=kH a l _ hl hl2 rfl;have:=pow_pos l.toNat;rw [hb];unfold bH;omega
   clear hb;have HF:=zh hF;have HLL:=zh hLL;have HO1:=zh hO;have HB1:=zh hB;have HLEN0:=zh hlen;have HAZ:=zh haz;have hsz:=hB.size;have KZ:=zh (Blk.new w9 #[qI 0,qI 0,qI 0,.bool false,.bool false,.bool false] 177);clear hLL hO hB hF hlen HO HB;go_wp2_with fail
   go_loopw [8,9] (fun mo lg wq=>∃ (k:Nat),k<=10/\mo=qI (lC (bL a (a+z) k))/\lg=qI (5+(k:Int))/\Blk wq w9.heap.size (zJ (bL a (a+z) k)) 177/\qY w9 wq) (fun _ lg _=>15-(intOf lg).toNat)
   .exact ⟨0,by omega,by rw [dG];rfl,rfl,by rw [dG];exact KZ.o,bal⟩
   .obtain ⟨k,hk,rfl,rfl,kb,hBq⟩:=hrel;have hc0:=gA (bL a (a+z) k);have hc9:=aIv a (a+z) (by omega) (by omega) (by omega) k hk;by_cases hk10:k<10
    .have HBE:=zh (aCh a z (5+(k:Int)) wr (by omega) (by omega) (by omega) hlt (by omega));have HSU:=zh (dF a (a+z) k);obtain ⟨x1,x2,x3,hx⟩:=aC0 (bL a (a+z) k);rw [hx] at kb;have hqc:=wC a (a+z) (5+(k:Int)) (by omega) (by omega) (by omega) (by omega) (by omega);have hqn:=tG (5+(k:Int)) (qOf a (a+z) (5+(k:Int)));generalize hst:bL a (a+z) k=st at *;generalize hcq:cnt (5+(k:Int)) (qOf a (a+z) (5+(k:Int)))=c at *;generalize hbb:bH a (5+(k:Int))=bb at *;obtain ⟨sc,hsc⟩:=eqx (lC st);rw [<- hsc] at hc0 hc9 ⊢;have HSC:=zh hsc;have HCQ:=zh hcq;have HX:=zh hx;have hcle:c<=262144:=by omega
     have KB:=zh kb;have HBQ:=zh hBq;have hszq:=hBq.size;have hltq:=kb.lt;clear hsc hcq hx hqc hst hbb kb hBq;go_wp2_with fail
     refine HBE.o.mono ?_;rintro e w3 ⟨o,rfl,ho,hb3⟩;have HO3:=zh ho;have kb3:=(KB.o.bw hb3).alloc (.cells #[qI bb,qI (5+(k:Int)),qI o,.bool false,.bool false,.bool false] 177);have hsz3:=hb3.size;have HB3:=zh ((HBQ.o.trans (hb3.mono hszq)).alloc (by omega) (.cells #[qI bb,qI (5+(k:Int)),qI o,.bool false,.bool false,.bool false] 177));have KB3:=zh kb3;obtain ⟨q1,q2,q3,q4,q5,q6,q7⟩:=kb3.six';clear ho hb3 kb3;by_cases hgt:sc<c
     .have HE:=zh (show bL a (a+z) (k+1)=some (bb,5+(k:Int),qOf a (a+z) (5+(k:Int))) from by
       rw [HSU.o];unfold fX
       rw [if_pos (by rw [<- HSC.o,HCQ.o];exact hgt)])
      go_wp2_with fail
      refine ⟨⟨k+1,by omega,by rw [HE.o];exact congrArg (Value.int .i64) HCQ.o.symm,by go_num,?_,jO aL HB3.o bb (5+(k:Int)) o⟩,by simp [intOf];omega⟩;rw [HE.o]
      have e2:zJ (some (bb,5+(k:Int),qOf a (a+z) (5+(k:Int))))=#[qI bb,qI (5+(k:Int)),qI o,.bool false,.bool false,.bool false]:=by
       simp only [zJ];rw [HO3.o (by omega)]
      rw [e2];exact Blk.set (Blk.set (Blk.set (Blk.set (Blk.set (Blk.set KB3.o 0 _) 1 _) 2 _) 3 _) 4 _) 5 _
     .have HE:=zh (show bL a (a+z) (k+1)=st from by
       rw [HSU.o];unfold fX
       rw [if_neg (by rw [<- HSC.o,HCQ.o];exact hgt)])
      go_wp2_with fail
      exact ⟨⟨k+1,by omega,by rw [HE.o,HSC.o],by go_num,by rw [HE.o,HX.o];exact KB3.o,HB3.o⟩,by simp [intOf];omega⟩
    .have hk':k=10:=by omega
     subst hk';rw [HF.o] at kb hc0 hc9 ⊢;obtain ⟨o,ho⟩:=eqx (255-(q:Int));obtain ⟨c,hc⟩:=eqx (cnt l q);have kb':Blk wr w9.heap.size #[qI b,qI l,qI o,.bool false,.bool false,.bool false] 177:=by rw [ho];exact kb
     have hsc:lC (some (b,l,q))=c:=hc.symm;rw [hsc] at hc0 hc9 ⊢;rw [<- hc] at hc1 hc2 hc3 HLL;rw [<- ho] at HLL;have hwf:wfi b/\wfi l/\wfi o:=by unfold wfi;omega
     have HWF:=zh hwf;have hO2:=vN (S:=fun _=>False) (aJ hBq) HO1.o (fun _ _=>id);have HOWN:=zh (hO2.1.alloc (.cells #[qI b,qI l,qI o,.bool false,.bool false,.bool false] 177));rw [HLEN0.o] at HOWN;have HLEN:Zh ((cW (b,l,o,false,false,false)).length=1*6):=rfl;have HNEWS:=zh (aGy wr (b,l,o,false,false,false));have HONE:=zh (aJr (b,l,o,false,false,false));have HRS:=zh hO2.2;have HLT:=zh hO2.1.lt;have hszq:=hBq.size;have HB3:=zh ((HB1.o.trans (hBq.mono hsz)).alloc (by omega) (.cells #[qI b,qI l,qI o,.bool false,.bool false,.bool false] 177));obtain ⟨q1,q2,q3,q4,q5,q6,q7⟩:=kb'.six';clear hO2 hBq kb kb' ho hc hsc hwf;go_wp2_with (at_builtin;refine wpList_append_own _ rfl _ _ 103 rfl w.heap.size 177 i0 (.agg #[qI 0,qI 0,qI 0,.bool false,.bool false,.bool false]) 6 32 underlying103 hi hz0 hz1 hz2 rfl (by decide) (qS A m cap) m (dH rs) rfl HOWN.o (qR wr.heap.size 0) 1 1 (cW (b,l,o,false,false,false)) rfl HLEN.o HNEWS.o HONE.o (by unfold maxLen;omega) (by omega) (by simp;omega) ?_;intro v' w3 hown3 hgr3 _;obtain ⟨A',cap',he⟩:=lT hown3;subst he;have hO3:=wP (W:=wr) (v:=qS A m cap) (g:=(b,l,o,false,false,false)) HRS.o HWF.o (by rw [HLEN0.o];exact hown3);have t3:=iQ hgr3;have hfar:∀ j,(qS A m cap).ownBlock=some j->w.heap.size<=j:=fun j hj=>(HLT.o j hj).1;have HB4:=zh (aI HB3.o t3 hfar (by simp;omega));have HO3:=zh hO3;clear hO3 t3 hfar hown3 hgr3)
     refine ⟨⟨A',m+1,cap',rs++[(b,l,o,false,false,false)],n,a+c,z-c,by go_num,by go_num,rfl,by omega,by omega,by omega,by omega,by omega,by omega,HO3.o,by rw [HLL.o,HAZ.o];simp,HB4.o⟩,?_⟩;simp [intOf];omega
  .have hzz:z=0:=by omega
   subst hzz;have hLe:L=rs:=by rw [hLL,tC _ _ _ (by omega),List.append_nil]
   subst hLe;have HO1:=zh hO;have HB1:=zh hB;clear hLL hO hB;go_wp2_with fail
   go_ret2
   exact ⟨A,m,cap,rfl,HO1.o,HB1.o⟩
theorem aBy (f s:Int)(w:qw)(h1:-9223372036854775808<=f/\f<=9223372036854775807)(h2:-9223372036854775808<=s/\s<=9223372036854775807):
 qC 123 #[qI f,qI s] w (lJ w (oS f s) (cvL f s)):=by
 unfold cvL;cases e:oS f s
 .exact aBx f s w h1 h2 e
 .unfold oS grn at e;simp at e;exact zY f s w (by omega) (by omega) (by omega) (by omega) (by omega)
theorem rB {w:qw}(h:ORg w base (qS a n cap) rs)(k:Nat)(hk:(qS a n cap).ownBlock=some k):base<=k:=by
 obtain ⟨hl,⟨h0,_⟩|⟨g',cap',cur,hv,hg,hh,h1,h2,h3,h4⟩⟩:=h.1
 .rw [h0] at hk;cases hk
 .rw [hv] at hk;have e:some g'=some k:=hk;injection e with e
  omega
theorem aCb (A:qO)(m cap:Nat)(rs:List Rg)(f s:Int)(r x y:Bool)(base:Nat)(w:qw)(hb:base<=w.heap.size)(h:ORg w base (qS A m cap) rs)(hf:wfi f)(hs:wfi s)(hm:m<=1000000):
 qC 82 #[qS A m cap,qI f,qI s,.bool r,.bool x,.bool y] w fun e w'=>∃ A' m' cap',e=.returned (qS A' m' cap')/\m'=m+(cvL f s).length/\ORg w' base (qS A' m' cap') (rs++rts r x y (cvL f s))/\Below base w w':=by
 obtain ⟨i0,hi,hz0,hz1,hz2⟩:=info_parts aDx;have HC:=zh (aBy f s w (by unfold wfi at hf;omega) (by unfold wfi at hs;omega));have HL:=zh (pF f s);have HO0:=zh h;have HLEN0:=zh (eU h).1;generalize cvL f s=C at *;clear h;go_enter func82,ntmps82
 go_wp2_with fail
 refine HC.o.mono ?_;rintro e w2 ⟨c,n,cc,rfl,hC,hB2⟩;have HN:=zh (eU hC).1;have hn:n<=8192:=by have:=HN.o;have:=HL.o;omega
 have HX:=zh (xA hC hB2);have HO2:=zh (fF (aJ hB2) HO0.o (fun k hk h=>by exact h));clear hC hB2;go_wp2_with fail
 go_loopw [0,15] (fun o i wr=>∃ (A':qO) (m' cap' k:Nat),k<=n/\m'=m+k/\o=qS A' m' cap'/\i=qI k/\ORg wr base (qS A' m' cap') (rs++(rts r x y C).take k)/\ORg wr w.heap.size (qS c n cc) C/\(∀ j,(qS A' m' cap').ownBlock=some j->¬ (qS c n cc).ownBlock=some j)/\Below base w wr) (fun _ i _=>n-(intOf i).toNat)
 .exact ⟨A,m,cap,0,xC _,rfl,rfl,rfl,by simpa using HO2.o,HX.o.1,fun j h1 h2=>by have:=aDc HO0.o j h1;have:=rB HX.o.1 j h2;omega,HX.o.2.mono hb⟩
 .obtain ⟨A',m',cap',k,hk,hm',rfl,rfl,hO,hC,hd,hB⟩:=hrel;by_cases hlt:k<n
  .have hlt':(k:Int)<(n:Int):=by omega
   obtain ⟨b,off,rfl⟩:=(eU hC).some (by omega);have hat:=(eU hC).at k hlt
   have hC2:=hC.2 (C.getD k z6) (by
    have:k<C.length:=by rw [HN.o];exact hlt
    simp [xB,this])
   have HT:=zh (aGb r x y C k (by rw [HN.o];exact hlt));generalize hG:C.getD k z6=G at *;obtain ⟨g1,g2,g3,g4,g5,g6⟩:=G;have HG:=zh hG;obtain ⟨p0,p1,p2,p3,p4,p5⟩:=hat;obtain ⟨W1,hW1⟩:=eqx (wr.alloc (.cells #[qI g1,qI g2,qI g3,.bool g4,.bool g5,.bool g6] 177));have K1:Blk W1 wr.heap.size #[qI g1,qI g2,qI g3,.bool g4,.bool g5,.bool g6] 177:=by rw [hW1];exact Blk.new _ _ _
   have B1:qY wr W1:=by rw [hW1];exact bal
   have s1:W1.heap.size=wr.heap.size+1:=by rw [hW1];simp
   obtain ⟨W2,hW2⟩:=eqx (((W1.setCell ⟨wr.heap.size,3,none⟩ (.bool r)).setCell ⟨wr.heap.size,4,none⟩ (.bool x)).setCell ⟨wr.heap.size,5,none⟩ (.bool y))
   have K2:Blk W2 wr.heap.size #[qI g1,qI g2,qI g3,.bool r,.bool x,.bool y] 177:=by
    rw [hW2];exact ((K1.set 3 (.bool r)).set 4 (.bool x)).set 5 (.bool y)
   have B2:qY wr W2:=by rw [hW2];exact ((B1.setCell aL _).setCell aL _).setCell aL _
   have s2:W2.heap.size=wr.heap.size+1:=by rw [hW2];simp [s1]
   have BB:qY wr (W2.alloc (.cells #[qI g1,qI g2,qI g3,.bool r,.bool x,.bool y] 177)):=B2.alloc (by rw [s2];omega) _
   have HOW:=zh (show (W2.alloc (.cells #[qI g1,qI g2,qI g3,.bool r,.bool x,.bool y] 177)).ownsRow base 177 6 (qS A' m' cap') m' (dH (rs++(rts r x y C).take k)) from by
    have:=(fF (aJ BB) hO (fun _ _ h=>h)).1
    rwa [(eU hO).1] at this)
   have HNEWS:=zh (by have:=aGy W2 (g1,g2,g3,r,x,y);rw [s2] at this;exact this);have HMM:=zh hm';have HONE:=zh (aJr (g1,g2,g3,r,x,y));have HRS:=zh hO.2;have HLB:=zh (aDc hO);have HGE:=zh (rB hO);have HCW:=zh (fF (aJ BB) hC (fun _ _ h=>h));have HCL:=zh (aDc hC);have HD:=zh hd;have HML:=zh (eU hO).1;have HSZ:=zh (show base<=(W2.alloc (.cells #[qI g1,qI g2,qI g3,.bool r,.bool x,.bool y] 177)).heap.size from by have:=hB.size;simp;omega);have HSY:=zh (show (W2.alloc (.cells #[qI g1,qI g2,qI g3,.bool r,.bool x,.bool y] 177)).heap.size=wr.heap.size+2 from by simp [s2]);have HB3:Zh (Below base w (W2.alloc (.cells #[qI g1,qI g2,qI g3,.bool r,.bool x,.bool y] 177))):=hB.trans (BB.mono (by have:=hB.size;omega));have HG2:=zh hC2;obtain ⟨q1,q2,q3,q4,q5,q6,q7⟩:=K1.six';obtain ⟨u1,u2,u3,u4,u5,u6,u7⟩:=K2.six';have HW1:=zh hW1;have HW2:=zh hW2;clear hW1 hW2 K1 K2 B1 B2 BB hO hC hd hB hC2 hG hm';generalize hW3:W2.alloc (.cells #[qI g1,qI g2,qI g3,.bool r,.bool x,.bool y] 177)=W3 at *;have HW3:=zh hW3;clear hW3;go_wp2_with (first|rw [<- HW1.o]|rw [<- HW2.o]|rw [HW3.o]|(at_builtin;refine wpList_append_own_at _ rfl _ _ 103 rfl base 177 i0 (.agg #[qI 0,qI 0,qI 0,.bool false,.bool false,.bool false]) 6 32 underlying103 hi hz0 hz1 hz2 rfl (by decide) (qS A' m' cap') m' (dH (rs++(rts r x y C).take k)) rfl HOW.o (qR (wr.heap.size+1) 0) 1 1 (cW (g1,g2,g3,r,x,y)) rfl rfl HNEWS.o HONE.o (by have:=HMM.o;unfold maxLen;omega) (by have:=HMM.o;omega) HSZ.o ?_;intro v' w3 hown3 hgr3 _ hat3;have HP:=zh (xA hown3 (xA hgr3 hat3));clear hown3 hgr3 hat3;obtain ⟨A2,cap2,he⟩:=lT HP.o.1;subst he))
   have t3:=iQ HP.o.2.1;refine ⟨⟨A2,m'+1,cap2,k+1,by omega,by have:=HMM.o;omega,rfl,by go_num,?_,?_,?_,?_⟩,by simp [intOf];omega⟩
   .rw [HT.o,<- List.append_assoc];refine wP (W:=W3) (v:=qS A' m' cap') HRS.o HG2.o ?_;rw [HML.o];exact HP.o.1
   .exact fF t3 HCW.o (fun j hj h=>HD.o j h hj)
   .intro j h1 h2;rcases HP.o.2.2 with h|h
    .exact HD.o j (h ▸ h1) h2
    .rw [h1] at h;injection h with h
     have:=HCL.o j h2;have:=HSY.o;omega
   .exact aI HB3.o t3 (fun j hj=>HGE.o j hj) HSZ.o
  .have HE:=zh (show k=n by omega);have HF:=zh (xA hO hB);clear hO hC hd hB;go_wp2;go_ret;refine ⟨A',m',cap',rfl,by rw [hm',HE.o,HN.o],?_,HF.o.2⟩;have:=HF.o.1
   rwa [xG (by rw [eV,HE.o,HN.o];exact aL)] at this
theorem yK (L:Lay)(a0:qO)(c0:Nat)(xs:List PB)(a2:qO)(c2:Nat)(a5:qO)(c5:Nat)(ts:List TB)(m b at' s:Int)(w:qw)(h:LyT w L a0 c0 xs a2 c2 a5 c5 ts)
 (hm0:0<=m) (hm1:m<(xs.length:Int)) (hb:b=-1\/(0<=b/\b<((xs.getD m.toNat zPB).1.banks.length:Int))) (hs:s=-1\/(b≠-1/\0<=s/\s<(L.slots.length:Int))):
 qC 83 #[.agg (qJ L a0 xs c0 a2 c2 a5 ts c5),.agg (qT m b at'),qI s] w (qB w (qI (fW L (xs.getD m.toNat zPB) b s))):=by
 obtain ⟨W,hW⟩:=eqx ((w.alloc (.cells (qJ L a0 xs c0 a2 c2 a5 ts c5) 64)).alloc (.cells (qT m b at') 106));have hB:qY w W:=by rw [hW];exact bal.alloc (by simp) _
 have HB:=zh hB;have h1:=h.bw hB;have k0:Blk W w.heap.size (qJ L a0 xs c0 a2 c2 a5 ts c5) 64:=by rw [hW];exact (Blk.new w _ _).alloc _
 have k1:Blk W (w.heap.size+1) (qT m b at') 106:=by rw [hW];have:=Blk.new (w.alloc (.cells (qJ L a0 xs c0 a2 c2 a5 ts c5) 64)) (qT m b at') 106;simpa using this
 have hz:W.heap.size=w.heap.size+1+1:=by rw [hW];simp
 have HZ:=zh hz;clear hz;have d0:=k0.e0;have d2:=k0.e2;have t0:=k1.e0;have t1:=k1.e1;obtain ⟨g,off,rfl,q0,q1,q2,q3⟩:=h1.p.at m.toNat (by omega);have hbk:=h1.p.2.2.2.1 m.toNat (by omega);have hsl:=h1.s;have hmx:=h1.p.2.1;have hmy:=hsl.2.1;have hmz:=hbk.2.1;unfold maxLen at hmx hmy hmz;unfold svP at q1;generalize xs.getD m.toNat zPB=P at *;have kA:=k0.alloc (.cells #[qI P.1.text,qS P.2.1 P.1.banks.length P.2.2,qI P.1.data,qI P.1.size] 136);have kB:=k1.alloc (.cells #[qI P.1.text,qS P.2.1 P.1.banks.length P.2.2,qI P.1.data,qI P.1.size] 136);have kC:=Blk.new W #[qI P.1.text,qS P.2.1 P.1.banks.length P.2.2,qI P.1.data,qI P.1.size] 136;have v2:=kA.e2;have v1:=kB.e1;have u0:=kC.e0;have u1:=kC.e1;have HBV:Zh (qY W (W.alloc (.cells #[qI P.1.text,qS P.2.1 P.1.banks.length P.2.2,qI P.1.data,qI P.1.size] 136))):=bal;have HBW:Zh (qY w (W.alloc (.cells #[qI P.1.text,qS P.2.1 P.1.banks.length P.2.2,qI P.1.data,qI P.1.size] 136))):=hB.alloc hB.size _;have HW:=zh hW;clear hW hB k0 k1 h1 h kA kB kC;rcases hb with rfl|⟨hb0,hb1⟩
 .obtain rfl:s=-1:=by rcases hs with h|h;exact h;exact absurd rfl h.1
  have HO:Zh (fW L P (-1) (-1)=P.1.text):=rfl;rw [HO.o];clear hs hbk hsl;generalize P.1.text=x at *;generalize xs.length=n at *;generalize L.slots.length=l at *;go_enter func83,ntmps83
  go_wp2_with (rw [<- HW.o])
  all_goals go_ret
  all_goals exact ⟨rfl,(by first|exact HBW.o|exact HBW.o.drew|exact HB.o|exact (HB.o.alloc HB.o.size _)|exact ((HB.o.alloc HB.o.size _).setCells (by omega) _))⟩
 .have hb2:¬ b=-1:=by omega
  have hb3:(b == -1)=false:=by simpa using hb2
  rcases hs with rfl|⟨_,hs0,hs1⟩
  .have HO:=zh (show fW L P b (-1)=P.1.banks.getD b.toNat 0 by unfold fW;rw [if_neg hb2,if_pos rfl]);rw [HO.o];obtain ⟨u,v,e,hc⟩:=hbk.2.2.2.1 (by omega);have qq:=hc b.toNat (by omega);have qv:=aE HBV.o qq;rw [e] at q1;rw [e] at u1 u0 v1 v2 qv HBW;clear HBV;clear hbk hsl e hc HO;generalize P.1.banks.getD b.toNat 0=x at *;generalize P.1.banks.length=y at *;generalize xs.length=n at *;generalize L.slots.length=l at *;go_enter func83,ntmps83
   go_wp2_with (rw [<- HW.o])
   all_goals go_ret
   all_goals exact ⟨rfl,(by first|exact HBW.o|exact HBW.o.drew|exact HB.o|exact (HB.o.alloc HB.o.size _)|exact ((HB.o.alloc HB.o.size _).setCells (by omega) _))⟩
  .have hs2:¬ s=-1:=by omega
   have hs3:(s == -1)=false:=by simpa using hs2
   have HO:=zh (show fW L P b s=L.slots.getD s.toNat 0 by unfold fW;rw [if_neg hb2,if_neg hs2]);rw [HO.o];obtain ⟨u,v,e,hc⟩:=hsl.2.2.2.1 (by omega);have qq:=hc s.toNat (by omega);have qv:=aE HBV.o qq;rw [e] at d2 v2;clear HBV;clear hbk hsl e hc HO;generalize L.slots.getD s.toNat 0=x at *;generalize P.1.banks.length=y at *;generalize xs.length=n at *;generalize L.slots.length=l at *;go_enter func83,ntmps83
   go_wp2_with (rw [<- HW.o])
   all_goals go_ret
   all_goals exact ⟨rfl,(by first|exact HBW.o|exact HBW.o.drew|exact HB.o|exact (HB.o.alloc HB.o.size _)|exact ((HB.o.alloc HB.o.size _).setCells (by omega) _))⟩
def pcq (ps:List PMod)(m b:Int):Int:=
 if 0<=m/\m<(ps.length:Int) then (if b=-1 then ((ps.getD m.toNat zP).tz.length:Int) else if 0<=b/\b<((ps.getD m.toNat zP).bl.length:Int) then (((ps.getD m.toNat zP).bl.getD b.toNat []).length:Int) else -1) else -1
theorem iH {w:qw}(h:MSD w a n cap ms)(m b:Int):pcm ms m b=pcq (aF ms) m b:=by
 have hn:=h.s.1;unfold pcm pcq;rw [bQ];by_cases c:0<=m/\m<(ms.length:Int)
 .rw [if_pos c,if_pos c,cD];have hd:=h.d m.toNat (by omega);generalize ms.getD m.toNat zMd=M at *;have ht:M.tn=M.pm.tz.length:=hd.t.1.symm;have hb:M.bn=M.pm.bl.length:=by simp [Md.pm,hd.b.1]
  unfold pcn;rw [ht,hb];by_cases c1:b=-1
  .rw [if_pos c1,if_pos c1]
  .rw [if_neg c1,if_neg c1];by_cases c2:0<=b/\b<(M.pm.bl.length:Int)
   .rw [if_pos c2,if_pos c2];have hr:=(hd.b.2.2.2.1 b.toNat (by omega)).1;rw [<- hr];congr 1;have:b.toNat<M.bl.length:=by rw [hd.b.1,hb];omega
    simp [Md.pm,xB,this]
   .rw [if_neg c2,if_neg c2]
 .rw [if_neg c,if_neg c]
def aOi (L:Lay)(p:Pl)(b s:Int):Int:=if b=-1 then p.text else if s=-1 then p.banks.getD b.toNat 0 else L.slots.getD s.toNat 0
abbrev sOk (L:Lay)(b s:Int):Prop:=if b=-1\/L.slots=[] then s=-1 else 0<=s/\s<(L.slots.length:Int)
theorem sOk.fit (h:sOk L b s):s=-1\/(b≠-1/\0<=s/\s<(L.slots.length:Int)):=by
 unfold sOk at h;split at h
 .exact .inl h
 .rename_i c;exact .inr ⟨fun e=>c (.inl e),h⟩
structure Pkn (ps:List PMod)(L:Lay)(xs:List PB)(m b s:Int):Prop where
 m0:0<=m
 m1:m<(xs.length:Int)
 m2:m<(ps.length:Int)
 p:(xs.getD m.toNat zPB).1=plc ps m.toNat
 bb:b=-1\/(0<=b/\b<((xs.getD m.toNat zPB).1.banks.length:Int))
 w:0<=pcq ps m b/\pcq ps m b<=200
 d:65536<=(plc ps m.toNat).data/\(plc ps m.toNat).data<=100000/\0<=(plc ps m.toNat).size/\(plc ps m.toNat).size<=100000
 t:65536<=L.stack/\L.stack<=100000
 e:65536<=cV L/\cV L<=100000
theorem aJ4 (h:Lok ps L):65536<=cV L/\cV L<=100000:=by
 have K:=jG h;obtain ⟨h1,h2⟩:=h;have e:lay ps (L.slots.length:Int) (cfW L) (cfK L)=L:=by unfold lkL at h2;rw [if_pos h1] at h2;exact h2
 obtain ⟨hc,n1,n2,hv,hi⟩:=fC h1;unfold cfo at hc;simp at hc;have a2:=bP hv ps.length aL;have a3:(0:Int)<=((L.slots.length:Int).toNat:Int)*rnd (4*cfW L):=Int.mul_nonneg (by omega) (by have:=bA (x:=4*cfW L);omega)
 have e2:L.ram=Ra ps ps.length+cfK L+((L.slots.length:Int).toNat:Int)*rnd (4*cfW L):=by
  have:=congrArg Lay.ram e;rw [<- this];rfl
 have rr:=K.rr;unfold cV;by_cases c:L.slots=[]
 .rw [if_pos c];have:wrap64 (65536+L.ram)=65536+L.ram:=by unfold wrap64;omega
  rw [this];omega
 .rw [if_neg c];have hl:0<L.slots.length:=List.length_pos_iff.2 c
  have e3:L.slots.getD 0 0=slt ps (cfW L) (cfK L) 0:=by
   have:=congrArg Lay.slots e
   have e4:L.slots=(List.range (L.slots.length:Int).toNat).map (slt ps (cfW L) (cfK L)):=by
    conv=>lhs;rw [<- this]
    rfl
   rw [e4];simp [xB,hl]
  rw [e3];unfold slt;simp only [Int.natCast_zero,Int.zero_mul];omega
theorem aB4 {w:qw}
 (hL:LyT w L a0 c0 xs a2 c2 a5 c5 ts) (hk:Lok ps L) (hp:0<=pcq ps m b):Pkn ps L xs m b s:=by
 have K:=jG hk
 have hm:0<=m/\m<(ps.length:Int):=by
  unfold pcq at hp;split at hp
  .assumption
  .exact absurd hp (by decide)
 have hx:xs.length=ps.length:=by
  have:=congrArg List.length (hL.ps.trans K.pl);simpa using this
 have hpl:(xs.getD m.toNat zPB).1=plc ps m.toNat:=by
  rw [<- K.place m.toNat (by omega),<- hL.ps];simp [xB,show m.toNat<xs.length by omega]
 have hv:=K.v m.toNat (by omega);obtain ⟨_,_,v3,v4,_,_,_,v8⟩:=bS hv;have r1:=bP K.v m.toNat (by omega);have r2:=bP K.v ps.length aL;have r3:=hY hv;have n4:=K.n.2;have n5:(m.toNat:Int)<=4:=by omega
 refine ⟨hm.1,by rw [hx];exact hm.2,hm.2,hpl,?_,⟨hp,?_⟩,?_,?_,aJ4 hk⟩
 .rw [hpl];unfold pcq at hp;rw [if_pos hm] at hp;by_cases c:b=-1
  .exact .inl c
  .rw [if_neg c] at hp;right;split at hp
   .rename_i c2;simpa [plc] using c2
   .exact absurd hp (by decide)
 .unfold pcq;rw [if_pos hm];by_cases c:b=-1
  .rw [if_pos c];omega
  .rw [if_neg c];by_cases c2:0<=b/\b<((ps.getD m.toNat zP).bl.length:Int)
   .rw [if_pos c2];have:=v8 b.toNat (by omega);omega
   .rw [if_neg c2];omega
 .have:(plc ps m.toNat).data=65536+Ra ps m.toNat:=rfl;have e2:(plc ps m.toNat).size=dsz (ps.getD m.toNat zP):=rfl;rw [this,e2];omega
 .rw [K.st];have:(ps.length:Int)<=4:=by omega
  omega
def plR (ps:List PMod)(L:Lay)(m b s:Int):List Rg:=(([]++rts true true false (cvL (plc ps m.toNat).data (plc ps m.toNat).size))++rts true true false (cvL L.stack (cV L-L.stack))++rts false true false (cvL 131072 32))++rts false false true (cvL (aOi L (plc ps m.toNat) b s) (rnd (4*pcq ps m b)))
theorem rA {w:qw}{base':Nat}(h:ORg w base v rs)(hb:base'<=base):ORg w base' v rs:=by
 refine ⟨?_,h.2⟩;obtain ⟨hl,h0|⟨g',cap,cur,hv,hg,hh,h1,h2,h3,h4⟩⟩:=h.1
 .exact ⟨hl,.inl h0⟩
 .exact ⟨hl,.inr ⟨g',cap,cur,hv,xM hb hg,hh,h1,h2,h3,h4⟩⟩
structure PlZ (V X:qw)(v:Value)(rs:List Rg):Prop where
 b:qY V X
 o:ORg X V.heap.size v rs
theorem PlZ.bw {V X X':qw}(h:PlZ V X v rs)(hb:qY X X'):PlZ V X' v rs:=⟨h.b.trans (hb.mono h.b.size),fF (aJ hb) h.o (fun _ _ h=>h)⟩
theorem PlZ.drew {V X:qw}(h:PlZ V X v rs):PlZ V X.drew v rs:=h.bw brf.drew
theorem mF {V:qw}(A:qO)(m cap:Nat)(rs:List Rg)(f s:Int)(r x y:Bool)(X:qw)(h:PlZ V X (qS A m cap) rs)(hf:wfi f)(hs:wfi s)(hm:m<=1000000):
 qC 82 #[qS A m cap,qI f,qI s,.bool r,.bool x,.bool y] X fun e w'=>∃ A' m' cap',e=.returned (qS A' m' cap')/\m'<=m+8192/\PlZ V w' (qS A' m' cap') (rs++rts r x y (cvL f s)):=
 (aCb A m cap rs f s r x y V.heap.size X h.b.size h.o hf hs hm).mono fun e w' ⟨A',m',cap',he,hm',ho,hb⟩=>⟨A',m',cap',he,by have:=pF f s;omega,h.b.trans hb,ho⟩
theorem aAh {w:qw}
 (hL:LyT w L a0 c0 xs a2 c2 a5 c5 ts) (hk:Lok ps L) (hp:0<=pcq ps m b) (hs:s=-1\/(b≠-1/\0<=s/\s<(L.slots.length:Int))):wfi (fW L (xs.getD m.toNat zPB) b s):=by
 have Q:=aB4 (s:=s) hL hk hp;have K:=jG hk;have hm:=Q.m2;have hm0:=Q.m0;have hv:=K.v m.toNat (by omega);have n4:=K.n.2;have r1:=cN K.v m.toNat (by omega);have r2:=fB hv;have n5:(m.toNat:Int)<=4:=by omega
 unfold fW;rw [Q.p];by_cases c:b=-1
 .rw [if_pos c];have e:(plc ps m.toNat).text=Fl ps m.toNat:=rfl;rw [e];unfold wfi;omega
 .rw [if_neg c];by_cases c2:s=-1
  .rw [if_pos c2];have hb:=Q.bb.resolve_left c;rw [Q.p] at hb;have hl:(plc ps m.toNat).banks.length=(ps.getD m.toNat zP).bl.length:=by simp [plc]
   have hbn:b.toNat<(ps.getD m.toNat zP).bl.length:=by rw [hl] at hb;omega
   have e:(plc ps m.toNat).banks.getD b.toNat 0=Fl ps m.toNat+tsz (ps.getD m.toNat zP)+cB (ps.getD m.toNat zP) b.toNat:=by
    simp only [plc];rw [eH _ _ _ 0 _ (by rw [List.length_range];exact hbn),show (List.range (ps.getD m.toNat zP).bl.length).getD b.toNat 0=b.toNat by rw [xB,List.getElem?_range hbn];rfl]
   have r3:=cL hv b.toNat (by omega);obtain ⟨_,_,_,v4,_⟩:=bS hv;rw [e];unfold wfi;omega
  .rw [if_neg c2];have h2:=hs.resolve_left c2;exact hL.s.2.2.1 _ (vD (by omega))
theorem aCd (a:qO)(n cap:Nat)(ms:List Md)(L:Lay)(a0:qO)(c0:Nat)(xs:List PB)(a2:qO)(c2:Nat)(a5:qO)(c5:Nat)(ts:List TB)(m b at' s:Int)(w:qw)(h:MSD w a n cap ms)(hL:LyT w L a0 c0 xs a2 c2 a5 c5 ts)
 (hk:Lok (aF ms) L) (hp:0<=pcq (aF ms) m b) (hs:s=-1\/(b≠-1/\0<=s/\s<(L.slots.length:Int))):
 qC 46 #[qS a n cap,.agg (qJ L a0 xs c0 a2 c2 a5 ts c5),.agg (qT m b at'),qI s] w fun e w'=>∃ A k c,e=.returned (qS A k c)/\ORg w' w.heap.size (qS A k c) (plR (aF ms) L m b s)/\qY w w':=by
 have K:=aB4 (s:=s) hL hk hp;have hn:=h.s.1;have hlen:=bQ ms;obtain ⟨m0,m1,m2,hpl,hbb,hw,hd,hst,hen⟩:=K;have hwfo:wfi (fW L (xs.getD m.toNat zPB) b s):=aAh hL hk hp hs;have HPQ:=zh (iH h m b);obtain ⟨W,hW⟩:=eqx ((w.alloc (.cells (qJ L a0 xs c0 a2 c2 a5 ts c5) 64)).alloc (.cells (qT m b at') 106));have hB:qY w W:=by rw [hW];exact bal.alloc (by simp) _
 have k0:Blk W w.heap.size (qJ L a0 xs c0 a2 c2 a5 ts c5) 64:=by rw [hW];exact (Blk.new w _ _).alloc _
 have k1:Blk W (w.heap.size+1) (qT m b at') 106:=by rw [hW];have:=Blk.new (w.alloc (.cells (qJ L a0 xs c0 a2 c2 a5 ts c5) 64)) (qT m b at') 106;simpa using this
 have h1:=h.bw hB;have hL1:=hL.bw hB;obtain ⟨gp,op,rfl,q0,q1,q2,q3⟩:=hL1.p.at m.toNat (by omega);unfold svP at q1;have hpx:=hL1.p.2.1;unfold maxLen at hpx;have d0:=k0.e0;have t0:=k1.e0;obtain ⟨P,hP⟩:=eqx (xs.getD m.toNat zPB);rw [<- hP] at q0 q1 q2 q3 hpl hbb hwfo;rw [<- hpl] at hd;obtain ⟨⟨tx,bk,dt,sz⟩,pa,pc⟩:=P;dsimp only at q0 q1 q2 q3 hpl hbb hd;have HP:=zh hP;obtain ⟨hd1,hd2,hd3,hd4⟩:=hd;obtain ⟨st1,st2⟩:=hst;obtain ⟨en1,en2⟩:=hen;obtain ⟨q,hq⟩:=eqx (pcq (aF ms) m b);have HQ:=zh hq
 have HRS:=zh (show plR (aF ms) L m b s=(([]++rts true true false (cvL dt sz))++rts true true false (cvL L.stack (cV L-L.stack))++rts false true false (cvL 131072 32))++rts false false true (cvL (fW L ((⟨tx,bk,dt,sz⟩,pa,pc):PB) b s) (rnd (4*q))) from by
  unfold plR;rw [<- hpl,hq]
  rfl)
 rw [HRS.o];rw [<- hq] at hw hp;clear HRS;obtain ⟨V,hV,bV,kV⟩:=nwb W #[qI tx,qS pa bk.length pc,qI dt,qI sz] 136;have k0':=k0.bw bV;have k1':=k1.bw bV;have HBV:=zh (hB.trans (bV.mono hB.size));have h2:=h1.bw bV;have hL2:=hL1.bw bV;have HW:=zh hW;have HV:=zh hV;have HM:=zh h2;have HL2:=zh hL2;have HK0:=zh (xA k0' (xA k1' kV));clear hW hV k0 k1 h h1 hL hL1 hB bV k0' k1' kV hP hpl hq;go_enter func46,ntmps46
 go_wp2_with (first|rw [<- HW.o]|rw [<- HV.o])
 obtain ⟨gm,om,rfl,v0,v1,v2,v3,v4,v5,v6,v7⟩:=HM.o.s.at m.toNat (by omega);have hmt:=HM.o.s.2.2.2.1 m.toNat (by omega)
 have hqn:pcn (ms.getD m.toNat zMd).tn (ms.getD m.toNat zMd).bn (ms.getD m.toNat zMd).bl b=q:=by
  rw [HQ.o,<- HPQ.o];unfold pcm;rw [if_pos (by omega)]
 generalize ms.getD m.toNat zMd=M at *
 have HPC:=zh (show ∀ X,qY V X->qC 81 #[.agg (qM M.nm M.ta M.tn M.tc M.ba M.bn M.bc M.da M.dn M.dc M.bss M.ra M.rn M.rc M.ia M.im M.ic M.ea M.en M.ec),qI b] X (fun e w'=>∃ xa xn xc,e=.returned (.tuple #[qS xa xn xc,.bool true])/\(xn:Int)=q/\qY V w') from fun X hX=>
  (oE M.nm M.ta M.tn M.tc M.ba M.bn M.bc M.bl (qS M.da M.dn M.dc) (qS M.ra M.rn M.rc) (qS M.ia M.im M.ic) (qS M.ea M.en M.ec) M.bss b X hmt.t.2.1 (hmt.b.bw hX)).mono fun e w' ⟨xa,xn,xc,ok,he,ho,hx,_,hb⟩=>by
    have ho':ok=true:=by rw [ho,hqn];simp;omega
    exact ⟨xa,xn,xc,by rw [he,ho'],by rw [hx ho',hqn],hX.trans (hb.mono hX.size)⟩)
 obtain ⟨x0,x1,x2,x3,x4,x5⟩:=HK0.o.1.ly6;have y0:=HK0.o.2.1.e0;have y1:=HK0.o.2.1.e1;have hmx:=HM.o.s.2.1;unfold maxLen at hmx;have hmn:m<(n:Int):=by omega
 clear q0 q1 q2 q3 d0 t0 hmt hqn hlen hn
 go_region_held3 (fun w'=>w'.cell? (qR (w.heap.size+1) 0)=some (qI m)/\w'.cell? (qR (w.heap.size+1) 1)=some (qI b)/\w'.cell? (qR gm (om+m.toNat*8))=some (.string M.nm)/\w'.cell? (qR gm (om+m.toNat*8+1))=some (qS M.ta M.tn M.tc)/\w'.cell? (qR gm (om+m.toNat*8+2))=some (qS M.ba M.bn M.bc)/\w'.cell? (qR gm (om+m.toNat*8+3))=some (qS M.da M.dn M.dc)/\w'.cell? (qR gm (om+m.toNat*8+4))=some (qI M.bss)/\w'.cell? (qR gm (om+m.toNat*8+5))=some (qS M.ra M.rn M.rc)/\w'.cell? (qR gm (om+m.toNat*8+6))=some (qS M.ia M.im M.ic)/\w'.cell? (qR gm (om+m.toNat*8+7))=some (qS M.ea M.en M.ec)) (go_keep)
  (first
    | (go_at_call 81;first
        | with_reducible refine (HPC.o _ brf).mono ?_
        | with_reducible refine (HPC.o _ brf.drew).mono ?_
       rintro e w1 ⟨xa,xn,xc,rfl,hxn,hb1⟩;have HB1:=zh hb1;have HXN:=zh hxn;have C1:=(HK0.o.2.1.bw hb1).cell 0;have C2:=(HK0.o.2.1.bw hb1).cell 1;have u0:=aE hb1 v0;have u1:=aE hb1 v1;have u2:=aE hb1 v2;have u3:=aE hb1 v3;have u4:=aE hb1 v4;have u5:=aE hb1 v5;have u6:=aE hb1 v6;have u7:=aE hb1 v7
       clear hb1 hxn))
 have HKX:=zh (show ∀ X v rs,PlZ V X v rs->X.cell? (qR W.heap.size 2)=some (qI dt)/\X.cell? (qR W.heap.size 3)=some (qI sz)/\(X.cell? (qR w.heap.size 0)=some (qS (some (qR gp op)) xs.length c0)/\X.cell? (qR w.heap.size 1)=some (qI L.stack)/\X.cell? (qR w.heap.size 2)=some (qS a2 L.slots.length c2)/\X.cell? (qR w.heap.size 3)=some (qI L.flash)/\X.cell? (qR w.heap.size 4)=some (qI L.ram)/\X.cell? (qR w.heap.size 5)=some (qS a5 ts.length c5))/\X.cell? (qR (w.heap.size+1) 0)=some (qI m)/\X.cell? (qR (w.heap.size+1) 1)=some (qI b)/\X.cell? (qR (w.heap.size+1) 2)=some (qI at') from fun X v rs hz=>
  ⟨(HK0.o.2.2.bw hz.b).cell 2,(HK0.o.2.2.bw hz.b).cell 3,(HK0.o.1.bw hz.b).ly6,(HK0.o.2.1.bw hz.b).cell 0,(HK0.o.2.1.bw hz.b).cell 1,(HK0.o.2.1.bw hz.b).cell 2⟩)
 have HEN:Zh (∀ X v rs,PlZ V X v rs->qC 79 #[.agg (qL L (some (qR gp op)) xs.length c0 a2 L.slots.length c2 a5 ts.length c5)] X (fun e w'=>e=.returned (qI (cV L))/\PlZ V w' v rs)):=fun X v rs hz=>(sC L (some (qR gp op)) c0 xs a2 c2 a5 c5 ts X (HL2.o.bw hz.b)).mono fun e w' he=>⟨he.1,hz.bw he.2⟩;have HOR:Zh (∀ X v rs,PlZ V X v rs->qC 83 #[.agg (qL L (some (qR gp op)) xs.length c0 a2 L.slots.length c2 a5 ts.length c5),.agg (qT m b at'),qI s] X (fun e w'=>e=.returned (qI (fW L ((⟨tx,bk,dt,sz⟩,pa,pc):PB) b s))/\PlZ V w' v rs)):=fun X v rs hz=>(yK L (some (qR gp op)) c0 xs a2 c2 a5 c5 ts m b at' s X (HL2.o.bw hz.b) m0 m1 (by rw [<- HP.o];exact hbb) hs).mono fun e w' he=>⟨by rw [HP.o];exact he.1,hz.bw he.2⟩;generalize hog:fW L ((⟨tx,bk,dt,sz⟩,pa,pc):PB) b s=og at *;generalize hE:cV L=E at *;have HOG:=zh hog;have HE:=zh hE;clear hog hE;have Z0:Zh (PlZ V (w1.alloc (.cells #[] 177)) (qS (qP w1.heap.size) 0 0) []):=⟨HB1.o.alloc HB1.o.size _,rC w1 V.heap.size HB1.o.size⟩;obtain ⟨X1,hX1⟩:=eqx (w1.alloc (.cells #[] 177));rw [<- hX1] at Z0;have HX1:=zh hX1;clear hX1 u0 u1 u2 u3 u4 u5 u6 u7 C1 C2 v0 v1 v2 v3 v4 v5 v6 v7 x0 x1 x2 x3 x4 x5 y0 y1 HPC hbb hs hk;obtain ⟨z2,z3,⟨z4,z5,z6,z7,z8,z9⟩,z10,z11,z12⟩:=HKX.o _ _ _ Z0.o;have HW1:=zh (mF _ _ _ [] dt sz true true false X1 Z0.o (by unfold wfi;omega) (by unfold wfi;omega) (by omega));go_wp2_with (rw [<- HX1.o])
 refine HW1.o.mono ?_;rintro e X2 ⟨A1,k1,p1,rfl,hk1,hz⟩;have Z1:=zh hz;clear hz z2 z3 z4 z5 z6 z7 z8 z9 z10 z11 z12 Z0 HW1 HX1;obtain ⟨z2,z3,⟨z4,z5,z6,z7,z8,z9⟩,z10,z11,z12⟩:=HKX.o _ _ _ Z1.o;have HWR:Zh (IntKind.i64.wrap (E-L.stack)=E-L.stack):=mS;have HW2:Zh (∀ X,PlZ V X (qS A1 k1 p1) ([]++rts true true false (cvL dt sz))->qC 82 #[qS A1 k1 p1,qI L.stack,qI (IntKind.i64.wrap (E-L.stack)),.bool true,.bool true,.bool false] X fun e w'=>∃ A' m' cap',e=.returned (qS A' m' cap')/\m'<=k1+8192/\PlZ V w' (qS A' m' cap') (([]++rts true true false (cvL dt sz))++rts true true false (cvL L.stack (E-L.stack)))):=fun X hX=>by rw [HWR.o];exact mF A1 k1 p1 ([]++rts true true false (cvL dt sz)) L.stack (E-L.stack) true true false X hX (by unfold wfi;omega) (by unfold wfi;omega) (by omega)
 go_wp2_with fail
 go_region_held3 (fun w'=>w'.cell? (qR w.heap.size 0)=some (qS (some (qR gp op)) xs.length c0)/\w'.cell? (qR w.heap.size 1)=some (qI L.stack)/\w'.cell? (qR w.heap.size 2)=some (qS a2 L.slots.length c2)/\w'.cell? (qR w.heap.size 3)=some (qI L.flash)/\w'.cell? (qR w.heap.size 4)=some (qI L.ram)/\w'.cell? (qR w.heap.size 5)=some (qS a5 ts.length c5)) (go_keep)
  (first
    | (go_at_call 79;first
        | with_reducible refine (HEN.o _ _ _ Z1.o).mono ?_
        | with_reducible refine (HEN.o _ _ _ Z1.o.drew).mono ?_
       rintro e w3 ⟨rfl,hz3⟩;have Z3:=zh hz3;clear hz3
       obtain ⟨z2,z3,⟨z4,z5,z6,z7,z8,z9⟩,z10,z11,z12⟩:=HKX.o _ _ _ Z3.o)
    | (go_at_call 82;first
        | with_reducible refine (HW2.o _ Z3.o).mono ?_
        | with_reducible refine (HW2.o _ Z3.o.drew).mono ?_
       rintro e X3 ⟨A2,k2,p2,rfl,hk2,hz⟩;have Z2:=zh hz;clear hz
       obtain ⟨z2,z3,⟨z4,z5,z6,z7,z8,z9⟩,z10,z11,z12⟩:=HKX.o _ _ _ Z2.o))
 clear HW2 Z1 Z3;have HW3:=zh (mF A2 k2 p2 (([]++rts true true false (cvL dt sz))++rts true true false (cvL L.stack (E-L.stack))) 131072 32 false true false X3 Z2.o (by unfold wfi;omega) (by unfold wfi;omega) (by omega));go_wp2_with fail
 refine HW3.o.mono ?_;rintro e X4 ⟨A3,k3,p3,rfl,hk3,hz⟩;have Z4:=zh hz;clear hz Z2 HW3 z2 z3 z4 z5 z6 z7 z8 z9 z10 z11 z12;obtain ⟨z2,z3,⟨z4,z5,z6,z7,z8,z9⟩,z10,z11,z12⟩:=HKX.o _ _ _ Z4.o;have hx2:(xn:Int)<=200:=by rw [HXN.o];exact hw.2
 have HRD:=zh (fun (X:qw)=>eE (4*(xn:Int)) X);go_wp2_with fail
 refine (HOR.o _ _ _ Z4.o).mono ?_;rintro e X5 ⟨rfl,hz⟩;have Z5:=zh hz;clear hz Z4;go_wp2_with fail
 refine (HRD.o _).mono ?_;rintro e X6 ⟨rfl,rfl⟩;have hrd:=bA (x:=4*(xn:Int));have HW4:=zh (mF A3 k3 p3 ((([]++rts true true false (cvL dt sz))++rts true true false (cvL L.stack (E-L.stack)))++rts false true false (cvL 131072 32)) og (rnd (4*(xn:Int))) false false true _ Z5.o hwfo (by unfold wfi;omega) (by omega));have HRR:=zh (show rnd (4*q)=rnd (4*(xn:Int)) by rw [HXN.o]);generalize rnd (4*(xn:Int))=rr at *;go_wp2_with fail
 refine HW4.o.mono ?_;rintro e X7 ⟨A4,k4,p4,rfl,hk4,hz⟩;have Z7:=zh hz;clear hz;go_wp2;go_ret;exact ⟨A4,k4,p4,rfl,by have e:=HRR.o;have e2:=HE.o;have e3:=HOG.o;rw [e,e2,e3];exact rA Z7.o.o HBV.o.size,HBV.o.trans (Z7.o.b.mono HBV.o.size)⟩
def kJ (ps:List PMod)(L:Lay):Prop:=Lok ps L/\∀ m b s:Int,0<=pcq ps m b->sOk L b s->(plR ps L m b s).length<=8
def Yn (P:Prop)(w:qw)(e:Ending)(w':qw):Prop:=∃ r:Bool,e=.returned (.bool r)/\(r=true ↔ P)/\qY w w'
theorem aBm {w w':qw}(h:P)(hb:qY w w'):Yn P w (.returned (.bool true)) w':=⟨true,rfl,by simp [h],hb⟩
theorem jD {w w':qw}(h:¬ P)(hb:qY w w'):Yn P w (.returned (.bool false)) w':=⟨false,rfl,by simp [h],hb⟩
theorem aOe {Q:Prop}[Decidable Q]{w w':qw}(h:Q ↔ P)(hb:qY w w'):Yn P w (.returned (.bool (decide Q))) w':=⟨_,rfl,by simp [h],hb⟩
theorem aB5 {w:qw}(h:MSD w a n cap ms)(hp:0<=pcq (aF ms) m b):(0<=m/\m<(n:Int))/\pcn (ms.getD m.toNat zMd).tn (ms.getD m.toNat zMd).bn (ms.getD m.toNat zMd).bl b=pcq (aF ms) m b:=by
 have hn:=h.s.1;rw [<- iH h] at hp ⊢;unfold pcm at hp ⊢;rw [hn] at hp ⊢;by_cases c:0<=m/\m<(n:Int)
 .exact ⟨c,by rw [if_pos c]⟩
 .rw [if_neg c] at hp;exact absurd hp (by decide)
theorem aE0 {w:qw}(h:MSD w a n cap ms)(hp:0<=pcq (aF ms) m b){M:Md}(hM:ms.getD m.toNat zMd=M)(X:qw)(hX:qY w X):qC 99 #[.agg (qM M.nm M.ta M.tn M.tc M.ba M.bn M.bc M.da M.dn M.dc M.bss M.ra M.rn M.rc M.ia M.im M.ic M.ea M.en M.ec),qI b] X (fun e w'=>∃ xa xn xc,e=.returned (.tuple #[qS xa xn xc,.bool true])/\(xn:Int)=pcq (aF ms) m b/\qY w w'):=by
 obtain ⟨⟨h0,h1⟩,hq⟩:=aB5 h hp;have hmt:=h.s.2.2.2.1 m.toNat (by omega);rw [hM] at hmt hq;refine (gC M.nm M.ta M.tn M.tc M.ba M.bn M.bc M.bl (qS M.da M.dn M.dc) (qS M.ra M.rn M.rc) (qS M.ia M.im M.ic) (qS M.ea M.en M.ec) M.bss b X hmt.t.2.1 (hmt.b.bw hX)).mono fun e w' ⟨xa,xn,xc,ok,he,ho,hx,_,hb⟩=>?_;have ho':ok=true:=by rw [ho,hq];simp;omega
 exact ⟨xa,xn,xc,by rw [he,ho'],by rw [hx ho',hq],hX.trans (hb.mono hX.size)⟩
