import Derived.Deep.RegionLaw
import Derived.Deep.AppendLies
import Derived.Laws.EntriesVeiled
import Derived.Test.YtncccmeomcaabaaGreatC02
set_option linter.all false
set_option maxHeartbeats 4000000
namespace Go.Proofs.YtncccmeomcaabaaGreat
open Go.RowKit Go.Maps
open Go.Proofs.Tryz
set_option maxRecDepth 100000
variable {G:Prop}{P:PMod}{S:Nat->Prop}{V bss d k s w:Int}{a a0 a5:qO}{base bn c c0 c5 cap dn en g i im j lo lo' n rn tn:Nat}{bl:List Bk}{cs:Array Value}{m:Md}{ms':List Md}{nm:ByteArray}{ps:List PMod}{row:Option Nat}{ss:List ByteArray}{u v:Value}{xs:List Value}{β:Nat->Nat}
theorem aDo (f:Nat->List UInt8)(s:List UInt8){k j:Nat}(h:fst? f s k=some j):∀ n,k<=n->fst? f s n=some j
 | 0,hn=>by
   obtain rfl:k=0:=by omega
   exact h
 | n+1,hn=>by
   by_cases e:k=n+1
   .subst e;exact h
   .rw [fH,aDo f s h n (by omega)]
theorem aG5 (f:Nat->List UInt8)(s:List UInt8){k:Nat}(h:fst? f s k=none)(e:f k=s)(hk:k<n):fst? f s n=some k:=
 aDo f s (k:=k+1) (by rw [fH,h];simp [e]) n hk
theorem aDn (f:Nat->List UInt8)(s:List UInt8){k:Nat}(h:fst? f s k=none)(e:f k≠s):fst? f s (k+1)=none:=by
 rw [fH,h];simp [e]
theorem aMj (n:Nat)(ms:List Md)(k:Nat)(hk:k<n)(h:16<(ms.getD k aK).en):tbf n ms=false:=by
 unfold tbf;rw [fT (fun i=>decide ((ms.getD i aK).en<=16)) n k hk (xS (by omega))];simp
theorem aJf (n:Nat)(ms:List Md)(h4:n<=4)(h:∀ j,j<n->(ms.getD j aK).en<=16):tbf n ms=true:=by
 unfold tbf;rw [fA (fun i=>decide ((ms.getD i aK).en<=16)) n (fun j hj=>xR (h j hj)),xR h4];rfl
theorem aAn (a:qO)(n cap:Nat)(ms:List Md)(s:ByteArray)(w:qw)(h:MS w a n cap ms)(hn:n<=1048576)(hs:s.size<=1048576)(hE:∀ i,i<n->ES w (ms.getD i aK).ea (ms.getD i aK).en (ms.getD i aK).ec (ms.getD i aK).es/\(ms.getD i aK).en<=1048576):
 qC 58 #[qS a n cap,.string s] w (qB w (rsv n ms s)):=by
 obtain ⟨W,hW,hB0,kb⟩:=nwb w (qT 0 0 0) 58;have HW:=zh hW;clear hW;have HF:=zh (fun w=>nQ s w hs);have HD:=zh (fun w=>yY s w hs);obtain ⟨V,hV⟩:=eqx (rsv n ms s);rw [<- hV];have HV:=zh hV;clear hV
 have fin:∀ (X:qw) (x y z:Int),qY w X->Blk X w.heap.size (qT 0 0 0) 58 ->
  Blk (((X.setCell (qR w.heap.size 0) (qI x)).setCell (qR w.heap.size 1) (qI y)).setCell (qR w.heap.size 2) (qI z)) w.heap.size (qT x y z) 58/\qY w (((X.setCell (qR w.heap.size 0) (qI x)).setCell (qR w.heap.size 1) (qI y)).setCell (qR w.heap.size 2) (qI z)):=fun X x y z hB k=>by
  refine ⟨?_,((hB.setCell (p:=(qR w.heap.size 0)) aN _).setCell (p:=(qR w.heap.size 1)) aN _).setCell (p:=(qR w.heap.size 2)) aN _⟩;have:=((k.set 0 (qI x)).set 1 (qI y)).set 2 (qI z);simpa using this
 have FIN:=zh fin;clear fin;by_cases c1:4<n
 .have c1':(4:Int)<(n:Int):=by omega
  have hr:=zh (dV (n:=n) (ms:=ms) (s:=s) (by unfold rsT tbf;rw [xS (show ¬ n<=4 by omega)];simp));obtain ⟨k2,hB2⟩:=FIN.o W 0 0 0 hB0 kb;obtain ⟨q1,q2,q3,q4⟩:=kb.three;obtain ⟨s1,s2,s3,s4⟩:=k2.three;have HX:=zh hB2;clear hB2 hB0 kb k2;go_enter func58,ntmps58
  go_wp2_with (rw [<- HW.o])
  exact bodyPost_ret (v:=.tuple #[.agg (qT 0 0 0),.bool false]) (by simp [results,results58,go_sem,s1,s2,s3]) rfl ⟨by rw [HV.o,hr.o],HX.o⟩
 .have c1':¬ (4:Int)<(n:Int):=by omega
  cases hf:fG s
  .rw [hf] at HF;have hr:=zh (dV (n:=n) (ms:=ms) (s:=s) (by unfold rsT;rw [hf];simp));obtain ⟨k2,hB2⟩:=FIN.o W 0 0 0 hB0 kb;obtain ⟨q1,q2,q3,q4⟩:=kb.three;obtain ⟨s1,s2,s3,s4⟩:=k2.three;have HX:=zh hB2;clear hB2 hB0 kb k2;go_enter func58,ntmps58
   go_wp2_with (first|(rw [<- HW.o])|(go_at_call 113;refine (HF.o _).mono ?_;rintro e w1 ⟨rfl,rfl⟩))
   exact bodyPost_ret (v:=.tuple #[.agg (qT 0 0 0),.bool false]) (by simp [results,results58,go_sem,s1,s2,s3]) rfl ⟨by rw [HV.o,hr.o],HX.o⟩
  .rw [hf] at HF
   have hdot:0<=dot s/\dot s<s.size:=by
    rcases lU s with h0|h0
    .exfalso;unfold fG at hf;rw [h0] at hf;simp at hf
    .exact h0
   have HT:Zh (tbf n ms=true->rsT n ms s=(fst? (cU ms) (dI s).data.toList n).bind fun i=>(fst? (fO (ms.getD i aK).es) (eK s).data.toList (ms.getD i aK).en).map fun k=>(i,k)):=fun htb=>by unfold rsT;rw [hf,htb];simp
   have HTN:Zh (tbf n ms=false->rsT n ms s=none):=fun htb=>by unfold rsT;rw [htb];simp
   clear hf;go_enter func58,ntmps58
   go_wp2_with (first|(rw [<- HW.o])|(go_at_call 113;refine (HF.o _).mono ?_;rintro e w1 ⟨rfl,rfl⟩))
   go_loopw [6] (fun i wr=>∃ k:Nat,k<=n/\i=qI k/\Hid (∀ j,j<k->(ms.getD j aK).en<=16)/\qY w wr/\Blk wr w.heap.size (qT 0 0 0) 58) (qf n)
   .exact ⟨0,xC _,rfl,zh (fun j hj=>by omega),hB0,kb⟩
   .obtain ⟨k,hk,rfl,HJ,hB,kw⟩:=hrel;clear hB0 kb;by_cases hlt:k<n
    .have hlt':(k:Int)<(n:Int):=by omega
     obtain ⟨bb,off,rfl,q0,q1,q2,q3,q4,q5,q6,q7⟩:=(h.bw hB).at k hlt
     have HG:=zh (show (ms.getD k aK).en<=16->∀ j,j<k+1->(ms.getD j aK).en<=16 from fun h j hj=>by
      by_cases e:j=k
      .subst e;exact h
      .exact HJ.out j (by omega))
     have HB:=zh (aMj n ms k hlt);generalize ms.getD k aK=m at *;obtain ⟨nm,ta,tn,tc,tz,ba,bn,bc,bl,da,dn,dc,dz,bss,ra,rn,rc,rz,ia,im,ic,ss,ea,en,ec,es⟩:=m;dsimp only at q0 q1 q2 q3 q4 q5 q6 q7 HB HG;by_cases d:16<en
     .have d':(16:Int)<(en:Int):=by omega
      have hr:=zh (dV (HTN.o (HB.o d)));obtain ⟨k2,hB2⟩:=FIN.o wr 0 0 0 hB kw;obtain ⟨p1,p2,p3,p4⟩:=kw.three;obtain ⟨s1,s2,s3,s4⟩:=k2.three;have HX:=zh hB2;clear hB2 hB kw k2 q0 q1 q2 q3 q4 q5 q6;go_wp2;exact bodyPost_ret (v:=.tuple #[.agg (qT 0 0 0),.bool false]) (by simp [results,results58,go_sem,s1,s2,s3]) rfl ⟨by rw [HV.o,hr.o],HX.o⟩
     .have d':¬ (16:Int)<(en:Int):=by omega
      clear q0 q1 q2 q3 q4 q5 q6;go_wp2
      go_roundw
      .exact ⟨k+1,by omega,by go_num,zh (HG.o (by omega)),hB,kw⟩
      .simp [qf,intOf];omega
    .have hkn:k=n:=by omega
     subst hkn;have HT2:=zh (HT.o (aJf k ms (by omega) HJ.out));clear HT HTN HJ hk hlt;unfold dI eK at HT2;generalize dot s=p at *;obtain ⟨p0,p1⟩:=hdot;go_wp2_with (go_at_call 114;refine (HD.o _).mono ?_;rintro e w1 ⟨rfl,rfl⟩)
     go_loopw [8] (fun i wx=>∃ j:Nat,j<=k/\i=qI j/\Hid (fst? (cU ms) (s.extract 0 p.toNat).data.toList j=none)/\qY w wx/\Blk wx w.heap.size (qT 0 0 0) 58) (qf k)
     .exact ⟨0,xC _,rfl,zh rfl,hB,kw⟩
     .obtain ⟨j,hj,rfl,HJ,hBx,kx⟩:=hrel;clear hB kw;by_cases hlt:j<k
      .have hlt':(j:Int)<(k:Int):=by omega
       obtain ⟨bb,off,rfl,q0,q1,q2,q3,q4,q5,q6,q7⟩:=(h.bw hBx).at j hlt;have HMS:=zh (fun e=>aDn (cU ms) (s.extract 0 p.toNat).data.toList HJ.out e);have HHT:=zh (fun e=>aG5 (cU ms) (s.extract 0 p.toNat).data.toList HJ.out e hlt);obtain ⟨e1,e2⟩:=hE j hlt;have e3:=e1.bw hBx;clear e1;have HRS:=zh (fun i (h:rsT k ms s=some (j,i))=>aCm h);have HT3:Zh (cU ms j=(s.extract 0 p.toNat).data.toList->rsT k ms s=(fst? (fO (ms.getD j aK).es) (s.extract (p+1).toNat s.size).data.toList (ms.getD j aK).en).map (fun i=>(j,i))):=fun e=>by rw [HT2.o,HHT.o e];rfl
       have HNM:Zh (cU ms j=(ms.getD j aK).nm.data.toList):=rfl;clear HHT HJ;generalize cU ms j=mj at *;generalize ms.getD j aK=m at *;obtain ⟨nm,ta,tn,tc,tz,ba,bn,bc,bl,da,dn,dc,dz,bss,ra,rn,rc,rz,ia,im,ic,ss,ea,en,ec,es⟩:=m;dsimp only at q0 q1 q2 q3 q4 q5 q6 q7 e2 e3 HRS HT3 HNM;cases hq:(nm.toList==(s.extract 0 p.toNat).toList)
       .have hne:=zh (show mj≠(s.extract 0 p.toNat).data.toList from fun e=>by
         rw [HNM.o] at e;rw [ByteArray.toList_eq,ByteArray.toList_eq,e] at hq
         simp at hq)
        clear q1 q2 q3 q4 q5 q6 q7;go_wp2_with fail
        go_quiet (fail)
        go_wp2
        go_roundw
        .exact ⟨j+1,by omega,by go_num,zh (HMS.o hne.o),below_drewN hBx nq,kx.bw (below_drewN brf nq)⟩
        .simp [qf,intOf];omega
       .have HT4:=zh (HT3.o (by
         rw [HNM.o];rw [ByteArray.toList_eq,ByteArray.toList_eq] at hq
         simpa using hq))
        clear HT3 HT2 HMS HNM;clear q1 q2 q3 q4 q5 q6;go_wp2_with fail
        go_quiet (fail)
        have q7':(wr.drewN nq).cell? (qR bb (off+j*8+7))=some (qS ea en ec):=((below_drewN (Below.refl wr.heap.size wr) nq).cell (xD wr _ q7)).trans q7;have e4:=e3.bw (below_drewN (Below.refl wr.heap.size wr) nq);have hB4:=below_drewN hBx nq;have k4:=kx.bw (below_drewN (Below.refl wr.heap.size wr) nq);clear q0 q7 e3 hBx kx;generalize wr.drewN nq=w4 at *;go_wp2;go_loopw [9] (fun i wy=>∃ l:Nat,l<=en/\i=qI l/\Hid (fst? (fO es) (s.extract (p+1).toNat s.size).data.toList l=none)/\qY w4 wy) (qf en)
        .exact ⟨0,xC _,rfl,zh rfl,brf⟩
        .obtain ⟨l,hl,rfl,HL,hby⟩:=hrel;have q7:wr.cell? (qR bb (off+j*8+7))=some (qS ea en ec):=(hby.cell (xD w4 _ q7')).trans q7';have hB5:=hB4.trans (hby.mono hB4.size);have k5:=k4.bw hby;by_cases hln:l<en
         .have hln':(l:Int)<(en:Int):=by omega
          have e5:=e4.bw hby;obtain ⟨eb,eo,rfl⟩:=e5.addr (by omega);obtain ⟨x0,x1,x2⟩:=e5.at l hln;have HMS:=zh (fun e=>aDn (fO es) (s.extract (p+1).toNat s.size).data.toList HL.out e);have HHT:=zh (fun e=>aG5 (fO es) (s.extract (p+1).toNat s.size).data.toList HL.out e hln);have HNM:Zh (fO es l=(es.getD l zE).1.data.toList):=rfl;have HR2:=zh (HRS.o l);generalize fO es l=xl at *;generalize es.getD l zE=E at *;obtain ⟨xn,xb,xa⟩:=E;dsimp only at x0 x1 x2 HNM HR2;have hbz:qY wr (wr.alloc (.cells #[.string xn,qI xb,qI xa] 163)):=bal;have kE:=Blk.new wr #[.string xn,qI xb,qI xa] 163;have k6:=k5.bw hbz;have hB6:=hB5.trans (hbz.mono hB5.size);have hby6:=hby.trans (hbz.mono hby.size);clear hB5 k5;obtain ⟨z1,z2,z3,z4⟩:=kE.three;cases hq2:(xn.toList==(s.extract (p+1).toNat s.size).toList)
          .have hne:=zh (show xl≠(s.extract (p+1).toNat s.size).data.toList from fun e=>by
            rw [HNM.o] at e;rw [ByteArray.toList_eq,ByteArray.toList_eq,e] at hq2
            simp at hq2)
           go_wp2_with fail
           go_quiet (fail)
           go_wp2
           go_roundw
           .exact ⟨l+1,by omega,by go_num,zh (HMS.o hne.o),below_drewN hby6 nq⟩
           .simp [qf,intOf];omega
          .have hr:=zh (HR2.o (by
            rw [HT4.o,HHT.o (by
             rw [HNM.o];rw [ByteArray.toList_eq,ByteArray.toList_eq] at hq2
             simpa using hq2)]
            rfl))
           go_wp2_with fail
           go_quiet (fail)
           have k7:=k6.bw (below_drewN brf nq);have kE7:=kE.bw (below_drewN brf nq);have hB7:=below_drewN hB6 nq;generalize (wr.alloc (.cells #[.string xn,qI xb,qI xa] 163)).drewN nq=w7 at *;clear z1 z2 z3 z4 k6 kE hB6 hby6 hbz;obtain ⟨z1,z2,z3,z4⟩:=kE7.three;obtain ⟨k8,hB8⟩:=FIN.o w7 j xb xa hB7 k7;obtain ⟨g1,g2,g3,g4⟩:=k7.three;obtain ⟨s1,s2,s3,s4⟩:=k8.three;have HX:=zh hB8;clear hB8 hB7 k7 k8 kE7;go_wp2;exact bodyPost_ret (v:=.tuple #[.agg (qT j xb xa),.bool true]) (by simp [results,results58,go_sem,s1,s2,s3]) rfl ⟨by rw [HV.o,hr.o],HX.o⟩
         .have hle:l=en:=by omega
          subst hle;have hr:=zh (dV (n:=k) (ms:=ms) (s:=s) (by rw [HT4.o,HL.out];rfl));obtain ⟨k8,hB8⟩:=FIN.o wr 0 0 0 hB5 k5;obtain ⟨g1,g2,g3,g4⟩:=k5.three;obtain ⟨s1,s2,s3,s4⟩:=k8.three;have HX:=zh hB8;clear hB8 hB5 k5 k8;go_wp2;exact bodyPost_ret (v:=.tuple #[.agg (qT 0 0 0),.bool false]) (by simp [results,results58,go_sem,s1,s2,s3]) rfl ⟨by rw [HV.o,hr.o],HX.o⟩
      .have hjk:j=k:=by omega
       subst hjk;have hr:=zh (dV (n:=j) (ms:=ms) (s:=s) (by rw [HT2.o,HJ.out];rfl));obtain ⟨k8,hB8⟩:=FIN.o wr 0 0 0 hBx kx;obtain ⟨g1,g2,g3,g4⟩:=kx.three;obtain ⟨s1,s2,s3,s4⟩:=k8.three;have HX:=zh hB8;clear hB8 hBx kx k8;go_wp2;exact bodyPost_ret (v:=.tuple #[.agg (qT 0 0 0),.bool false]) (by simp [results,results58,go_sem,s1,s2,s3]) rfl ⟨by rw [HV.o,hr.o],HX.o⟩
theorem zI {f g:Nat->List UInt8}{s:List UInt8}:∀ k,(∀ i,i<k->f i=g i)->fst? f s k=fst? g s k
 | 0,_=>rfl
 | k+1,h=>by rw [fH,fH,zI k (fun i hi=>h i (by omega)),h k (by omega)]
theorem jY {f g:Nat->Bool}:∀ n,(∀ i,i<n->f i=g i)->(List.range n).all f=(List.range n).all g
 | 0,_=>rfl
 | n+1,h=>by rw [List.range_succ,List.all_append,List.all_append,jY n (fun i hi=>h i (by omega))];simp [h n (by omega)]
def aQ0 (n:Nat)(ms ms':List Md):Prop:=∀ i,i<n->(ms'.getD i aK).nm=(ms.getD i aK).nm/\(ms'.getD i aK).en=(ms.getD i aK).en/\(ms'.getD i aK).es=(ms.getD i aK).es
theorem aPh {ms:List Md}{s:ByteArray}{k:Nat}(h:rsT n ms s=some (i,k)):i<n:=by
 unfold rsT at h;split at h
 .cases hf:fst? (cU ms) (dI s).data.toList n with
  | none=>rw [hf] at h;cases h
  | some j=>
    rw [hf] at h;simp at h;obtain ⟨k',h1,rfl,rfl⟩:=h;exact uG _ _ _ _ hf
 .cases h
theorem aH4 {ms:List Md}{s:ByteArray}(h:aQ0 n ms ms'):rsT n ms' s=rsT n ms s:=by
 unfold rsT
 have e1:tbf n ms'=tbf n ms:=by
  unfold tbf;rw [jY n (fun i hi=>by rw [(h i hi).2.1])]
 have e2:fst? (cU ms') (dI s).data.toList n=fst? (cU ms) (dI s).data.toList n:=zI n (fun i hi=>by unfold cU;rw [(h i hi).1]);rw [e1,e2];cases hf:fst? (cU ms) (dI s).data.toList n with
 | none=>rfl
 | some j=>
   obtain ⟨_,h2,h3⟩:=h j (uG _ _ _ _ hf);simp only [Option.bind_some];rw [h2,h3]
theorem RowM.ms {W w:qw}{ms:List Md}(h:RowM W c n ms ms')(hl:ms'.length=n)(hm:MS w a n cap ms):MS W (qP c) n n ms':=by
 obtain ⟨_,_,hr⟩:=h;refine ⟨hl,hm.2.1,fun _=>⟨c,0,rfl,fun i hi=>?_⟩,fun i hi=>aHc (hm.2.2.2.1 i hi) (hr i (by omega)).2,aN⟩;rw [Nat.zero_add];exact (hr i (by omega)).1
theorem RowM.same {W W':qw}{c':Nat}{ms x y:List Md}{w:qw}(hm:MS w a n cap ms)(h:RowM W c n ms x)(hl:x.length=n)(h':RowM W' c' n ms y)(hl':y.length=n):∀ i,i<n->aMe (x.getD i aK) (y.getD i aK):=fun i hi=>
 aCk (hm.2.2.2.1 i hi).b.1 (h.2.2 i (by omega)).2 (h'.2.2 i (by omega)).2
def cfo (s w k d:Int):Bool:=decide (0<=s/\s<=4/\1<=w/\w<=64/\0<=k/\k<=1024/\k%32=0/\0<=d/\d<=100)
theorem aDl (x:Int)(w:qw):
 qC 226 #[qI x] w fun e w'=>e=.returned (.bool (decide (0<=x/\x%32=0)))/\w=w':=by
 go_enter func226,ntmps226
 go_wp2
 all_goals
  go_ret;refine ⟨aA ?_,rfl⟩;rw [xJ];simp;try omega
theorem aJd (v m:Int)(w:qw):
 qC 155 #[qI v,qI m] w fun e w'=>e=.returned (.bool (decide (0<=v/\v<=m)))/\w=w':=by
 go_enter func155,ntmps155
 go_wp2
 all_goals
  go_ret;refine ⟨aA ?_,rfl⟩;rw [xJ];simp;try omega
theorem vX (s c k d:Int)(w:qw):
 qC 180 #[.agg (qW s c k d)] w (qB w (.bool (cfo s c k d))):=by
 have HB:=zh ((Below.refl w.heap.size w).alloc aN (.cells (qW s c k d) 37));go_enter func180,ntmps180
 go_wp2
 all_goals
  go_ret;refine ⟨aA ?_,HB.o⟩;unfold cfo;rw [xJ];simp;try omega
theorem wM (s c k d:Int)(w:qw):
 qC 210 #[.agg (qW s c k d)] w (qB w (.bool (cfo s c k d))):=by
 have HB:=zh ((Below.refl w.heap.size w).alloc aN (.cells (qW s c k d) 37));have HF:∀ b:Bool,b=cfo s c k d ↔ (b=true ↔ (0<=s/\s<=4/\1<=c/\c<=64/\0<=k/\k<=1024/\k%32=0/\0<=d/\d<=100)):=fun b=>by unfold cfo;rw [xJ];simp
 have HF:=zh HF;go_enter func210,ntmps210
 go_wp2_with (first
  | (go_at_call 226;refine (aDl _ _).mono ?_;rintro e w1 ⟨rfl,rfl⟩)
  | (go_at_call 155;refine (aJd _ _ _).mono ?_;rintro e w1 ⟨rfl,rfl⟩))
 all_goals
  go_ret;refine ⟨aA ?_,HB.o⟩;rw [HF.o];simp_all;try omega
theorem aAa (s c k d:Int)(w:qw):
 qC 33 #[.agg (qW s c k d)] w (qB w (.agg (qW s c k d))):=by
 go_enter func33,ntmps33
 go_wp2;refine bodyPost_ret (v:=.agg (qW s c k d)) (by simp [results,results33,go_sem]) rfl ⟨rfl,?_⟩;exact ((bal.alloc (by simp) _).alloc (by simp;omega) _)
def Md.pm (m:Md):PMod:=⟨m.nm,m.tz,m.bl.map (fun B=>B.2.2.2),m.dz,m.bss,m.rz,m.ss,m.es⟩
def zP:PMod:=⟨⟨#[]⟩,[],[],[],0,[],[],[]⟩
def dm (P:PMod):Md:=⟨P.nm,none,P.tz.length,P.tz.length,P.tz,none,P.bl.length,P.bl.length,mB P.bl,none,P.dz.length,P.dz.length,P.dz,P.bss,none,P.rz.length,P.rz.length,P.rz,none,P.ss.length,P.ss.length,P.ss,none,P.es.length,P.es.length,P.es⟩
def Md.md (m:Md)(w:qw):Prop:=MD w m.nm m.ta m.tn m.tc m.tz m.ba m.bn m.bc m.bl m.da m.dn m.dc m.dz m.bss m.ra m.rn m.rc m.rz m.ia m.im m.ic m.ss m.ea m.en m.ec m.es
theorem aK0 {w:qw}(h:m.md w):mdo m.nm m.tn m.tz m.bn m.bl m.dn m.bss m.rn m.rz m.im m.ss m.en m.es=fD m.pm:=by
 have hb:=h.b.1;have e:m.pm.bl.length=m.bn:=by simp [Md.pm,hb]
 unfold fD;rw [show m.pm.tz.length=m.tn from h.t.1,show m.pm.dz.length=m.dn from h.d.1,show m.pm.rz.length=m.rn from h.r.1,show m.pm.ss.length=m.im from h.i.1,show m.pm.es.length=m.en from h.e.1,e,<- hb];refine aNh (by rw [hb];simp [mB,e]) (fun i hi=>?_);have hr:=(h.b.2.2.2.1 i (by omega)).1
 have e2:(mB m.pm.bl).getD i zB=(none,(m.bl.getD i zB).2.2.2.length,(m.bl.getD i zB).2.2.2.length,(m.bl.getD i zB).2.2.2):=by
  simp [mB,Md.pm,xB,hi]
 rw [e2];exact ⟨hr.symm,rfl⟩
abbrev Tg:=Int×Int×Int
def iD (ps:List PMod)(s:ByteArray):Option Tg:=(rsT ps.length (ps.map dm) s).map fun x=>((x.1:Int),((ps.getD x.1 zP).es.getD x.2 zE).2.1,((ps.getD x.1 zP).es.getD x.2 zE).2.2)
def tgV:Option Tg->Value
 | some t=>.tuple #[.agg (qT t.1 t.2.1 t.2.2),.bool true]
 | none=>.tuple #[.agg (qT 0 0 0),.bool false]
theorem fF {α β:Type}(f:α->β)(l:List α)(i:Nat)(a:α)(b:β)(h:i<l.length:=by omega):(l.map f).getD i b=f (l.getD i a):=by
 simp [xB,h]
theorem aJ1 {ms:List Md}{s:ByteArray}(hl:ms.length=n)(he:∀ i,i<n->(ms.getD i aK).es.length=(ms.getD i aK).en):rsv n ms s=tgV (iD (ms.map Md.pm) s):=by
 have hr:rsT (ms.map Md.pm).length ((ms.map Md.pm).map dm) s=rsT n ms s:=by
  rw [xH,hl];refine aH4 (fun i hi=>?_);rw [List.map_map,fF _ _ _ aK _];exact ⟨rfl,by rw [<- he i hi];rfl,rfl⟩
 unfold iD rsv;rw [hr];cases e:rsT n ms s with
 | none=>rfl
 | some x=>
   obtain ⟨i,k⟩:=x;have hi:=aPh e;have hg:(ms.map Md.pm).getD i zP=(ms.getD i aK).pm:=fF _ _ _ aK _;simp only [Option.map_some,tgV,hg];rfl
def zT:Tg:=(0,0,0)
abbrev qE (ps:List PMod)(P:PMod):Prop:=∀ i,i<P.ss.length->(iD ps (P.ss.getD i zS)).isSome=true
def tgs (ps:List PMod)(P:PMod):List Tg:=(List.range P.ss.length).map fun i=>(iD ps (P.ss.getD i zS)).getD zT
def rnd (x:Int):Int:=(x+31)/32*32
def cC (P:PMod):Nat->Int
 | 0=>0
 | k+1=>cC P k+rnd (4*((P.bl.getD k []).length:Int))
def tsz (P:PMod):Int:=rnd (4*(P.tz.length:Int))
def msz (P:PMod):Int:=tsz P+cC P P.bl.length
def dsz (P:PMod):Int:=rnd ((P.dz.length:Int)+P.bss)
def Fl (ps:List PMod):Nat->Int
 | 0=>0
 | i+1=>Fl ps i+msz (ps.getD i zP)
def Ra (ps:List PMod):Nat->Int
 | 0=>0
 | i+1=>Ra ps i+dsz (ps.getD i zP)
structure Pl where
 text:Int
 banks:List Int
 data:Int
 size:Int
def plc (ps:List PMod)(i:Nat):Pl:=⟨Fl ps i,(List.range (ps.getD i zP).bl.length).map fun k=>Fl ps i+tsz (ps.getD i zP)+cC (ps.getD i zP) k,65536+Ra ps i,dsz (ps.getD i zP)⟩
structure Lay where
 places:List Pl
 stack:Int
 slots:List Int
 flash:Int
 ram:Int
 targets:List (List Tg)
abbrev qL (L:Lay)(a:Option Addr)(b c:Nat)(d:Option Addr)(e f:Nat)(g:Option Addr)(h i:Nat):Array Value:=#[.slice a b c,.int .i64 L.stack,.slice d e f,.int .i64 L.flash,.int .i64 L.ram,.slice g h i]
abbrev qJ {α β:Type}(L:Lay)(a:qO)(xs:List α)(c:Nat)(d:qO)(f:Nat)(g:qO)(ts:List β)(i:Nat):Array Value:=qL L a xs.length c d L.slots.length f g ts.length i
def slt (ps:List PMod)(w k:Int)(i:Nat):Int:=65536+Ra ps ps.length+k+(i:Int)*rnd (4*w)
def lay (ps:List PMod)(s w k:Int):Lay:=⟨(List.range ps.length).map (plc ps),65536+Ra ps ps.length,(List.range s.toNat).map (slt ps w k),Fl ps ps.length,Ra ps ps.length+k+(s.toNat:Int)*rnd (4*w),(List.range ps.length).map fun i=>tgs ps (ps.getD i zP)⟩
abbrev fR (ps:List PMod):Prop:=∀ i,i<ps.length->fD (ps.getD i zP)=0
abbrev nms (ps:List PMod):Prop:=∀ i,i<ps.length->∀ k,k<i->(ps.getD k zP).nm≠(ps.getD i zP).nm
abbrev jZ (ps:List PMod):Prop:=∀ i,i<ps.length->qE ps (ps.getD i zP)
abbrev kI (ps:List PMod)(w:Int):Prop:=∀ i,i<ps.length->∀ k,k<(ps.getD i zP).bl.length->(((ps.getD i zP).bl.getD k []).length:Int)<=w
def dU (ps:List PMod)(s w k d:Int):Int:=
 if cfo s w k d=false then 1 else if ps.length<1\/4<ps.length then 2 else if ¬ fR ps then 3 else if ¬ nms ps then 4 else 0
def lkc (ps:List PMod)(s w k d:Int):Int:=
 if dU ps s w k d≠0 then dU ps s w k d else if ¬ jZ ps then 5 else if 0<s/\¬ kI ps w then 6 else if 16384<(lay ps s w k).flash then 7 else if 16384<(lay ps s w k).ram then 8 else 0
structure MSD (w:qw)(a:qO)(n cap:Nat)(ms:List Md):Prop where
 s:MS w a n cap ms
 d:∀ i,i<n->(ms.getD i aK).md w
theorem MSD.bw {w w':qw}{ms:List Md}(h:MSD w a n cap ms)(hb:qY w w'):MSD w' a n cap ms:=⟨h.s.bw hb,fun i hi=>MD.bw (h.d i hi) hb⟩
def aE (ms:List Md):List PMod:=ms.map Md.pm
theorem bT (ms:List Md):(aE ms).length=ms.length:=by simp [aE]
theorem cI {ms:List Md}(h:i<ms.length:=by omega):(aE ms).getD i zP=(ms.getD i aK).pm:=fF _ _ _ aK _ h
def L0:Lay:=⟨[],0,[],0,0,[]⟩
def lkL (ps:List PMod)(s w k d:Int):Lay:=if lkc ps s w k d=0 then lay ps s w k else L0
theorem aJp (h:cfo s w k d=false):dU ps s w k d=1:=if_pos h
theorem aJo (h:cfo s w k d=true)(h2:ps.length<1\/4<ps.length):dU ps s w k d=2:=by
 unfold dU;rw [if_neg (by rw [h];decide),if_pos h2]
theorem aJn (h:cfo s w k d=true)(h2:¬ (ps.length<1\/4<ps.length))(i:Nat)(hi:i<ps.length)(h3:fD (ps.getD i zP)≠0):dU ps s w k d=3:=by
 unfold dU;rw [if_neg (by rw [h];decide),if_neg h2,if_pos (fun v=>h3 (v i hi))]
theorem aPa (h:cfo s w k d=true)(h2:¬ (ps.length<1\/4<ps.length))(h3:fR ps)(i j:Nat)(hi:i<ps.length)(hj:j<i)(h4:(ps.getD j zP).nm=(ps.getD i zP).nm):dU ps s w k d=4:=by
 unfold dU;rw [if_neg (by rw [h];decide),if_neg h2,if_neg (fun v=>v h3),if_pos (fun v=>v i hi j hj h4)]
theorem aJq (h:cfo s w k d=true)(h2:¬ (ps.length<1\/4<ps.length))(h3:fR ps)(h4:nms ps):dU ps s w k d=0:=by
 unfold dU;rw [if_neg (by rw [h];decide),if_neg h2,if_neg (fun v=>v h3),if_neg (fun v=>v h4)]
theorem iR {B:Nat}{a W:qw}(h:Below B a W)(n:Nat):Below B a (W.drewN n):=⟨h.os,h.tape,h.output,h.size,h.block⟩
theorem aO7 {a b:ByteArray}(h:a≠b):(a.toList==b.toList)=false:=by
 rw [beq_eq_false_iff_ne];intro e;apply h;rw [ByteArray.toList_eq,ByteArray.toList_eq] at e;cases a
 cases b
 simp at e;rw [e]
theorem dO (x:Int)(w:qw)(h0:0<=x:=by omega)(h1:x<=4294967295:=by omega):qC 171 #[qI x] w fun e w'=>e=.returned (qI (rnd x))/\w'=w:=by
 have hd:(x+31).tdiv 32=(x+31)/32:=Int.tdiv_eq_ediv_of_nonneg (by omega);go_enter func171,ntmps171
 go_wp2;go_ret;exact ⟨aI (by unfold rnd;rw [show x+31=x+32-1 by omega]),rfl⟩
theorem Md.okS {w:qw}(h:m.md w):qC 181 #[.agg (qM m.nm m.ta m.tn m.tc m.ba m.bn m.bc m.da m.dn m.dc m.bss m.ra m.rn m.rc m.ia m.im m.ic m.ea m.en m.ec)] w (qB w (qI (fD m.pm))):=by
 have:=vW _ _ _ _ _ _ _ _ _ _ _ _ _ _ _ _ _ _ _ _ _ _ _ _ _ _ w h;rw [aK0 h] at this;exact this
theorem aDd (a:qO)(n cap:Nat)(ms:List Md)(s c k d:Int)(w:qw)(h:MSD w a n cap ms):
 qC 138 #[qS a n cap,.agg (qW s c k d)] w (qB w (qI (dU (aE ms) s c k d))):=by
 have hA:qY w (w.alloc (.cells (qW s c k d) 37)):=bal;have hl:=h.s.1;have hm1:=h.s.2.1;unfold maxLen at hm1;have hpl:=bT ms;have HH:=zh h;have HC:=zh (fun W=>vX s c k d W);clear h;go_enter func138,ntmps138
 go_wp2_with fail
 refine (HC.o _).mono ?_;rintro e w1 ⟨rfl,hb1⟩;have HB1:=zh (hA.trans (hb1.mono (by simp)));clear hA hb1 HC;cases hcf:cfo s c k d with
 | false=>
   have HS:=zh (aJp (ps:=aE ms) hcf);go_wp2;go_ret;exact ⟨aI HS.o.symm,HB1.o⟩
 | true=>
   by_cases hn2:n<1\/4<n
   .have HS:=zh (aJo (ps:=aE ms) hcf (by omega));by_cases hn1:n<1
    .have hn1':(n:Int)<1:=by omega
     clear hn2;go_wp2;go_ret;exact ⟨aI HS.o.symm,HB1.o⟩
    .have hn1':¬ (n:Int)<1:=by omega
     have hn4':(4:Int)<(n:Int):=by omega
     clear hn2;go_wp2;go_ret;exact ⟨aI HS.o.symm,HB1.o⟩
   have hn1':¬ (n:Int)<1:=by omega
   have hn4':¬ (4:Int)<(n:Int):=by omega
   have HN2:=zh (show ¬ ((aE ms).length<1\/4<(aE ms).length) by rw [hpl,hl];exact hn2);clear hn2;go_wp2;go_loopw [5] (fun i wr=>∃ m:Nat,m<=n/\i=qI m/\(∀ j,j<m->fD ((aE ms).getD j zP)=0)/\qY w wr) (qf n)
   .exact ⟨0,xC _,rfl,fun j hj=>absurd hj (by omega),HB1.o⟩
   .obtain ⟨m,hm,rfl,hv,B⟩:=hrel;by_cases hlt:m<n
    .have hlt':(m:Int)<(n:Int):=by omega
     have H:=HH.o.bw B;obtain ⟨b,off,rfl,q0,q1,q2,q3,q4,q5,q6,q7⟩:=H.s.at m hlt;have HOK:=zh (Md.okS (H.d m hlt));rw [<- cI] at HOK;have HV:=zh hv;have HB:=zh B;obtain ⟨V,hV⟩:=eqx (fD ((aE ms).getD m zP));rw [<- hV] at HOK;have HVV:=zh hV;generalize ms.getD m aK=M at *;clear hv B H hV;go_wp2_with fail
     refine HOK.o.mono ?_;rintro e w2 ⟨rfl,hb2⟩;have HB2:=zh (HB.o.trans (hb2.mono HB.o.size));clear hb2 HOK HB q0 q1 q2 q3 q4 q5 q6 q7;by_cases hz:V=0
     .subst hz
      have HV2:=zh (show ∀ j,j<m+1->fD ((aE ms).getD j zP)=0 from fun j hj=>by
       by_cases e:j=m
       .subst e;exact HVV.o.symm
       .exact HV.o j (by omega))
      go_wp2
      go_roundw
      .exact ⟨m+1,by omega,by go_num,HV2.o,HB2.o⟩
      .simp [qf,intOf];omega
     .have hz':(V !=0)=true:=by simp [hz]
      have HS:=zh (aJn (ps:=aE ms) hcf HN2.o m (by omega) (by rw [<- HVV.o];exact hz));go_wp2;go_ret;exact ⟨aI HS.o.symm,HB2.o⟩
    .have hlt':¬ (m:Int)<(n:Int):=by omega
     have HV:Zh (fR (aE ms)):=fun i hi=>hv i (by omega);have HB:=zh B;clear hv B;go_wp2;go_loopw [6] (fun i wr=>∃ m:Nat,m<=n/\i=qI m/\(∀ i,i<m->∀ k,k<i->((aE ms).getD k zP).nm≠((aE ms).getD i zP).nm)/\qY w wr) (qf n)
     .exact ⟨0,xC _,rfl,fun j hj=>absurd hj (by omega),HB.o⟩
     .obtain ⟨p,hp,rfl,hv,B⟩:=hrel;by_cases hlt2:p<n
      .have hlt2':(p:Int)<(n:Int):=by omega
       have HP:=zh hv;have HB3:=zh B;clear hv B;go_wp2;go_loopw [7] (fun i wr=>∃ q:Nat,q<=p/\i=qI q/\(∀ k,k<q->((aE ms).getD k zP).nm≠((aE ms).getD p zP).nm)/\qY w wr) (qf p)
       .exact ⟨0,xC _,rfl,fun j hj=>absurd hj (by omega),HB3.o⟩
       .obtain ⟨q,hq,rfl,hv,B⟩:=hrel;by_cases hlt3:q<p
        .have hlt3':(q:Int)<(p:Int):=by omega
         have hqn:(q:Int)<(n:Int):=by omega
         have H:=HH.o.bw B;obtain ⟨b,off,rfl,q0,_⟩:=H.s.at q (by omega);obtain ⟨b',off',e',r0,_⟩:=H.s.at p hlt2;simp at e';obtain ⟨rfl,rfl⟩:=e';have e1:((aE ms).getD q zP).nm=(ms.getD q aK).nm:=by rw [cI];rfl
         have e2:((aE ms).getD p zP).nm=(ms.getD p aK).nm:=by rw [cI];rfl
         have HQ:=zh hv;have HB4:=zh B;by_cases hnm:(ms.getD q aK).nm=(ms.getD p aK).nm
         .have HS:=zh (aPa (ps:=aE ms) hcf HN2.o HV.o p q (by omega) hlt3 (by rw [e1,e2];exact hnm));rw [hnm] at q0;have heq:((ms.getD p aK).nm.toList==(ms.getD p aK).nm.toList)=true:=by simp
          generalize ms.getD p aK=M at *;clear hv B H e1 e2 hnm;go_wp2_with fail
          go_quiet (fail)
          go_wp2;go_ret;exact ⟨aI HS.o.symm,iR HB4.o nq⟩
         .have hne:=aO7 hnm
          have HQ2:=zh (show ∀ k,k<q+1->((aE ms).getD k zP).nm≠((aE ms).getD p zP).nm from fun k hk=>by
           by_cases e:k=q
           .subst e;rw [e1,e2];exact hnm
           .exact HQ.o k (by omega))
          generalize (ms.getD p aK).nm=N1 at *;generalize (ms.getD q aK).nm=N2 at *;clear hv B H e1 e2 hnm;go_wp2_with fail
          go_quiet (fail)
          go_wp2
          go_roundw
          .exact ⟨q+1,by omega,by go_num,HQ2.o,iR HB4.o nq⟩
          .simp [qf,intOf];omega
        .have hlt3':¬ (q:Int)<(p:Int):=by omega
         have HQ2:=zh (show ∀ i,i<p+1->∀ k,k<i->((aE ms).getD k zP).nm≠((aE ms).getD i zP).nm from fun i hi k hk=>by
          by_cases e:i=p
          .subst e;exact hv k (by omega)
          .exact HP.o i (by omega) k hk)
         have HB4:=zh B;clear hv B;go_wp2
         go_roundw
         .exact ⟨p+1,by omega,by go_num,HQ2.o,HB4.o⟩
         .simp [qf,intOf];omega
      .have hlt2':¬ (p:Int)<(n:Int):=by omega
       have HS:=zh (aJq (ps:=aE ms) hcf HN2.o HV.o (fun i hi k hk=>hv i (by omega) k hk));have HB3:=zh B;clear hv B;go_wp2;go_ret;exact ⟨aI HS.o.symm,HB3.o⟩
structure Vm (nm:ByteArray)(tn:Nat)(tz:qi)(bn:Nat)(bl:List Bk)(dn:Nat)(bss:Int)(rn:Nat)(rz:qi)(im:Nat)(ss:List ByteArray)(en:Nat)(es:List Ex):Prop where
 n:nm.size<=12
 t:tn<=200
 tw:∀ z∈tz,0<=z/\z<=4294967295
 b:bn<=4
 bw:∀ i,i<bl.length->(bl.getD i zB).2.1<=64/\∀ z∈(bl.getD i zB).2.2.2,0<=z/\z<=4294967295
 d:dn<=512
 s:0<=bss/\bss<=512
 r:rn<=16
 rw:∀ i,i<rn->0<=rz.getD i 0/\rz.getD i 0<=512
 i:im<=16
 iw:∀ i,i<im->(ss.getD i zS).size<=25
 e:en<=16
 ew:∀ i,i<en->(es.getD i zE).1.size<=12/\-1<=(es.getD i zE).2.1/\(es.getD i zE).2.1<=4/\0<=(es.getD i zE).2.2/\(es.getD i zE).2.2<=200
theorem aGd {zs:qi}(h:wds zs=true):∀ z∈zs,0<=z/\z<=4294967295:=fun z hz=>by
 unfold wds at h;rw [List.all_eq_true] at h;simpa using h z hz
theorem nM {s:ByteArray}(h:nmo s=true):s.size<=12:=by
 unfold nmo at h;simp at h;omega
theorem aI0 {s:ByteArray}(h:fG s=true):s.size<=25:=by
 unfold fG at h;simp only [Bool.and_eq_true,decide_eq_true_eq] at h;obtain ⟨h0,h1,h2⟩:=h;have a1:=nM h1;have a2:=nM h2;have hd:=lU s;unfold dI at a1;unfold eK at a2;simp only [ByteArray.size_extract] at a1 a2;omega
theorem aAr {f:Nat->Bool}(h:(List.range n).all f=true)(i:Nat)(hi:i<n):f i=true:=by
 rw [List.all_eq_true] at h;exact h i (by simpa using hi)
theorem lN {tz:qi}{rz:qi}{es:List Ex}(hbl:bl.length=bn)(h:mdo nm tn tz bn bl dn bss rn rz im ss en es=0):Vm nm tn tz bn bl dn bss rn rz im ss en es:=by
 unfold mdo at h;by_cases c1:nmo nm=false
 .rw [if_pos c1] at h;simp at h
 rw [if_neg c1] at h;by_cases c2:cdo tn tz bn bl=false
 .rw [if_pos c2] at h;simp at h
 rw [if_neg c2] at h;by_cases c3:512<dn\/bss<0\/512<bss
 .rw [if_pos c3] at h;simp at h
 rw [if_neg c3] at h;by_cases c4:rlo rn rz dn=false
 .rw [if_pos c4] at h;simp at h
 rw [if_neg c4] at h;by_cases c5:imo im ss=false
 .rw [if_pos c5] at h;simp at h
 rw [if_neg c5] at h;by_cases c6:exo tn bn bl en es=false
 .rw [if_pos c6] at h;simp at h
 simp only [Bool.not_eq_false] at c1 c2 c4 c5 c6;unfold cdo at c2;unfold rlo at c4;unfold imo at c5;unfold exo at c6;simp only [Bool.and_eq_true,decide_eq_true_eq] at c2 c4 c5 c6;obtain ⟨⟨t1,t2⟩,t3,t4⟩:=c2
 have hb:∀ i,i<bl.length->(bl.getD i zB).2.1<=64/\∀ z∈(bl.getD i zB).2.2.2,0<=z/\z<=4294967295:=fun i hi=>by
  rw [List.all_eq_true] at t4;have hm:bl.getD i zB∈bl:=by simp [xB,hi]
  have:=t4 _ hm;unfold bko at this;simp only [Bool.and_eq_true,decide_eq_true_eq] at this;exact ⟨this.1.2,aGd this.2⟩
 refine ⟨nM c1,t1,aGd t3,t2,hb,by omega,by omega,c4.1,fun i hi=>?_,c5.1,fun i hi=>aI0 (aAr c5.2 i hi),c6.1,fun i hi=>?_⟩
 .have:=aAr c4.2 i hi;unfold rlk at this;simp only [Bool.and_eq_true,decide_eq_true_eq] at this;omega
 .have:=aAr c6.2 i hi;unfold ex1 at this;simp only [Bool.and_eq_true,decide_eq_true_eq] at this;obtain ⟨⟨n1,a1,a2⟩,_⟩:=this;have n2:=nM n1
  have hp:pcn tn bn bl (es.getD i zE).2.1<=200/\(0<pcn tn bn bl (es.getD i zE).2.1->-1<=(es.getD i zE).2.1/\(es.getD i zE).2.1<=4):=by
   unfold pcn;split
   .omega
   .split
    .next h1 h2=>
     have:=(hb (es.getD i zE).2.1.toNat (by omega)).1;omega
    .omega
  have:=hp.2 (by omega);omega
def clG (t:Tg):List Value:=[qI t.1,qI t.2.1,qI t.2.2]
theorem aOw:(prog.info? 58).map (fun i=>(i.zero,i.size,i.bytes))=some (some (.agg (qT 0 0 0)),3,24):=by kernel_rfl
theorem bK {α:Type}(t:TypeId)(sz:Nat)(f:α->List Value)(w:qw)(base:Nat)(hb:base<=w.heap.size):OG t sz f (w.alloc (.cells #[] t)) base (qS (qP w.heap.size) 0 0) []:=
 ⟨by simp,.inr ⟨w.heap.size,0,#[],rfl,hb,heap_alloc_new w _,aN,by unfold maxLen;omega,by simp,by simp⟩⟩
theorem vD {a W W':qw}(h:qY a W)(hg:W.grownBy W' row)(hr:∀ k,row=some k->a.heap.size<=k):qY a W':=
 aG h ⟨hg.os,hg.tape,hg.output,hg.size,fun j hj (hs:¬ row=some j)=>hg.block j hj (fun e=>hs e.symm)⟩ hr h.size
theorem cM {W W':qw}{k:Nat}{t:TypeId}(h:Blk W k cs t)(hg:W.grownBy W' row)(hr:some k≠row):Blk W' k cs t:=
 aF (S:=fun j=>row=some j) ⟨hg.os,hg.tape,hg.output,hg.size,fun j hj hs=>hg.block j hj (fun e=>hs e.symm)⟩ h (fun e=>hr e.symm)
def tgN (ps:List PMod)(P:PMod)(m:Nat):List Tg:=(List.range m).map fun i=>(iD ps (P.ss.getD i zS)).getD zT
theorem gM (ps:List PMod)(P:PMod)(m:Nat):(tgN ps P m).length=m:=by simp [tgN]
theorem aCd (ps:List PMod)(P:PMod)(m:Nat){t:Tg}(h:iD ps (P.ss.getD m zS)=some t):tgN ps P (m+1)=tgN ps P m++[t]:=by
 simp only [tgN,List.range_succ,List.map_append,List.map_cons,List.map_nil,h,Option.getD_some]
theorem aMi (ps:List PMod)(P:PMod):tgN ps P P.ss.length=tgs ps P:=rfl
theorem cB (h:fD P=0):P.es.length<=16/\P.ss.length<=16/\P.tz.length<=200/\P.bl.length<=4/\P.dz.length<=512/\0<=P.bss/\P.bss<=512/\∀ k,k<P.bl.length->(P.bl.getD k []).length<=64:=by
 unfold fD at h;have V:=lN (by simp [mB]) h;refine ⟨V.e,V.i,V.t,V.b,V.d,V.s.1,V.s.2,fun k hk=>?_⟩;have:=(V.bw k (by simp [mB];exact hk)).1;simpa [mB,xB,hk] using this
theorem MSD.es {w:qw}{ms:List Md}(h:MSD w a n cap ms)(hv:fR (aE ms)):∀ i,i<n->ES w (ms.getD i aK).ea (ms.getD i aK).en (ms.getD i aK).ec (ms.getD i aK).es/\(ms.getD i aK).en<=1048576:=fun i hi=>by
 have hl:=h.s.1;have e:=(h.d i hi).e;refine ⟨e,?_⟩;have h1:=(cB (hv i (by rw [bT];omega))).1;rw [cI] at h1;have h2:(ms.getD i aK).pm.es.length=(ms.getD i aK).en:=e.1;omega
theorem MSD.resS {w:qw}{ms:List Md}(h:MSD w a n cap ms)(hv:fR (aE ms))(hn:n<=4)(s:ByteArray)(hs:s.size<=1048576):qC 58 #[qS a n cap,.string s] w (qB w (tgV (iD (aE ms) s))):=by
 have:=aAn a n cap ms s w h.s (by omega) hs (h.es hv);rw [aJ1 h.s.1 (fun i hi=>(h.d i hi).e.1)] at this;exact this
theorem MSD.resI {w:qw}{ms:List Md}(h:MSD w a n cap ms)(hv:fR (aE ms))(hn:n<=4)(s:ByteArray)(hs:s.size<=1048576):qC 63 #[qS a n cap,.string s] w (qB w (tgV (iD (aE ms) s))):=by
 have:=aBj a n cap ms s w h.s (by omega) hs (h.es hv);rw [aJ1 h.s.1 (fun i hi=>(h.d i hi).e.1)] at this;exact this
theorem mH (a:qO)(n cap:Nat)(ms:List Md)(M:Md)(w:qw)(h:MSD w a n cap ms)(hv:fR (aE ms))(hn:n<=4)(hM:M.md w)(hok:fD M.pm=0):
 qC 139 #[qS a n cap,.agg (qM M.nm M.ta M.tn M.tc M.ba M.bn M.bc M.da M.dn M.dc M.bss M.ra M.rn M.rc M.ia M.im M.ic M.ea M.en M.ec)] w fun e w'=>qY w w'/\((¬ qE (aE ms) M.pm/\∃ v,e=.returned (.tuple #[v,.bool false]))\/(qE (aE ms) M.pm/\∃ a c,e=.returned (.tuple #[.slice a (tgs (aE ms) M.pm).length c,.bool true])/\OG 58 3 clG w' w.heap.size (.slice a (tgs (aE ms) M.pm).length c) (tgs (aE ms) M.pm))):=by
 obtain ⟨iG,hi,hz0,hz1,hz2⟩:=info_parts aOw;have hA:qY w (w.alloc (.cells (qM M.nm M.ta M.tn M.tc M.ba M.bn M.bc M.da M.dn M.dc M.bss M.ra M.rn M.rc M.ia M.im M.ic M.ea M.en M.ec) 138)):=bal;have k0:=Blk.new w (qM M.nm M.ta M.tn M.tc M.ba M.bn M.bc M.da M.dn M.dc M.bss M.ra M.rn M.rc M.ia M.im M.ic M.ea M.en M.ec) 138;have him:M.im<=16:=by have h1:=(cB hok).2.1;have h2:M.pm.ss.length=M.im:=hM.i.1;omega
 have hil:M.pm.ss.length=M.im:=hM.i.1;have HS:=zh (fun (W:qw) (hb:qY w W) (s:ByteArray) (hs:s.size<=1048576)=>(h.bw hb).resS hv hn s hs);have HI:=zh hM.i;have O0:=bK 58 3 clG (w.alloc (.cells (qM M.nm M.ta M.tn M.tc M.ba M.bn M.bc M.da M.dn M.dc M.bss M.ra M.rn M.rc M.ia M.im M.ic M.ea M.en M.ec) 138)) w.heap.size hA.size;have hA2:=hA.trans (((Below.refl _ (w.alloc (.cells (qM M.nm M.ta M.tn M.tc M.ba M.bn M.bc M.da M.dn M.dc M.bss M.ra M.rn M.rc M.ia M.im M.ic M.ea M.en M.ec) 138))).alloc aN (.cells #[] 58)).mono hA.size);have k1:=k0.alloc (.cells #[] 58);try unfold qY at *
 simp only [xF] at O0;have HP:=zh (xA O0 (xA hA2 k1));clear O0 hA hA2 k0 k1 h hM hok;go_enter func139,ntmps139
 go_wp2_with fail
 go_loopw [6,7] (fun x i wr=>∃ m:Nat,m<=M.im/\i=qI m/\(∀ j,j<m->(iD (aE ms) (M.pm.ss.getD j zS)).isSome=true)/\OG 58 3 clG wr w.heap.size x (tgN (aE ms) M.pm m)/\qY w wr/\Blk wr w.heap.size (qM M.nm M.ta M.tn M.tc M.ba M.bn M.bc M.da M.dn M.dc M.bss M.ra M.rn M.rc M.ia M.im M.ic M.ea M.en M.ec) 138) (fun _ i _=>M.im-(intOf i).toNat)
 .exact ⟨0,xC _,rfl,fun j hj=>absurd hj (by omega),HP.o.1,HP.o.2.1,HP.o.2.2⟩
 .clear HP;obtain ⟨m,hm,rfl,hs,O,B,k⟩:=hrel;have q6:=k.e6;obtain ⟨a',c',rfl⟩:=aR O;rw [gM] at *;by_cases hlt:m<M.im
  .have hlt':(m:Int)<(M.im:Int):=by omega
   obtain ⟨_,_,hsz,hcs,_⟩:=HI.o;obtain ⟨b,off,hia,hc⟩:=hcs (by omega);have c0:=((B.cell (xD w _ (hc m hlt))).trans (hc m hlt));have hss:(M.ss.getD m zS).size<=1048576:=hsz _ (by have:=HI.o.1;simp [xB,show m<M.ss.length by omega]);have HR:=zh (HS.o wr B (M.ss.getD m zS) hss);rw [hia] at q6;clear hia;have HQ:=zh (xA O (xA B k));have HSS:=zh hs;have HTS:=zh (fun t (h:iD (aE ms) (M.ss.getD m zS)=some t)=>aCd (ps:=aE ms) (P:=M.pm) m h);have HBAD:=zh (fun (h:iD (aE ms) (M.ss.getD m zS)=none)=>(show ¬ qE (aE ms) M.pm from fun hk=>by have:=hk m (by rw [hil];exact hlt);rw [show M.pm.ss.getD m zS=M.ss.getD m zS from rfl,h] at this;cases this))
   have HGO:=zh (fun t (h:iD (aE ms) (M.ss.getD m zS)=some t)=>(show ∀ j,j<m+1->(iD (aE ms) (M.pm.ss.getD j zS)).isSome=true from fun j hj=>by
    by_cases e:j=m
    .subst e;rw [show M.pm.ss.getD j zS=M.ss.getD j zS from rfl,h];rfl
    .exact HSS.o j (by omega)))
   generalize M.ss.getD m zS=str at *;clear O B k hs hc hsz hcs HI HSS;go_wp2_with fail
   refine HR.o.mono ?_;rintro e w1 ⟨rfl,hb1⟩;obtain ⟨O,B,k⟩:=HQ.o;have B1:=B.trans (hb1.mono B.size);cases ho:iD (aE ms) str with
   | none=>
     have HF:=zh (xA (B1.trans (((Below.refl _ w1).alloc aN (.cells (qT 0 0 0) 58)).mono B1.size)) (HBAD.o ho));clear O B k hb1 B1 HQ HR HTS HBAD HGO q6 c0;unfold tgV;go_wp2
     go_ret2
     exact ⟨HF.o.1,.inl ⟨HF.o.2,_,rfl⟩⟩
   | some t=>
     obtain ⟨t1,t2,t3⟩:=t;have al1:qY w1 (w1.alloc (.cells (qT t1 t2 t3) 58)):=bal;have hs1:(w1.alloc (.cells (qT t1 t2 t3) 58)).heap.size=w1.heap.size+1:=by simp
     have k1:=Blk.new w1 (qT t1 t2 t3) 58;have O2:=(O.bw hb1).bw al1;have B2:=B1.trans (al1.mono B1.size);have kk2:=(k.bw hb1).bw al1;have HT2:=zh (HTS.o _ ho);have HG2:=zh (HGO.o _ ho);obtain ⟨x0,x1,x2,_⟩:=k1.three;clear O B k hb1 B1 HQ HR HTS HBAD HGO q6 c0 al1;generalize hW1:w1.alloc (.cells (qT t1 t2 t3) 58)=W1 at *;have HOW:=zh (show (W1.alloc (.cells (qT t1 t2 t3) 58)).ownsRow w.heap.size 58 3 (qS a' m c') m ((tgN (aE ms) M.pm m).flatMap clG) by have:=O2.bw (brf.alloc aN (.cells (qT t1 t2 t3) 58));unfold OG at this;rw [gM] at this;exact this);have HX:=zh (xA O2 (xA B2 kk2));have hsB:=B2.size;rw [<- hW1] at x0 x1 x2;have HW1:=zh hW1;clear O2 B2 kk2 k1 hW1;unfold tgV;go_wp2_with (at_builtin;rw [HW1.o];refine wpList_append_own _ rfl _ _ 190 rfl w.heap.size 58 iG (.agg (qT 0 0 0)) 3 24 underlying190 hi hz0 hz1 hz2 rfl (by decide) (qS a' m c') m ((tgN (aE ms) M.pm m).flatMap clG) rfl HOW.o (qR (w1.heap.size+1) 0) 1 1 (clG (t1,t2,t3)) rfl rfl (by rw [<- hs1];exact bJ W1 _ _ (clG (t1,t2,t3)) rfl) (by intro u hu;simp [clG] at hu;rcases hu with rfl|rfl|rfl<;>rfl) (by unfold maxLen;omega) (by omega) (by simp;omega) ?_;intro v' w4 hown hgr _)
     obtain ⟨O2,B2,kk2⟩:=HX.o;have al2:qY W1 (W1.alloc (.cells (qT t1 t2 t3) 58)):=bal;have hrow:∀ j,(qS a' m c').ownBlock=some j->w.heap.size<=j:=fun j hj=>(O2.lt j hj).1
     have O4:OG 58 3 clG w4 w.heap.size v' (tgN (aE ms) M.pm (m+1)):=by
      unfold OG;rw [gM,HT2.o,xU,xX];exact hown
     have B4:=vD (B2.trans (al2.mono B2.size)) hgr hrow
     have k4:=cM (kk2.bw al2) hgr (fun e=>by
      obtain ⟨cs,hk⟩:=aD O2 e.symm
      exact absurd (aH kk2 hk) (by decide))
     have HF:=zh (xA HG2.o (xA O4 (xA B4 k4)));clear O2 B2 kk2 al2 hrow O4 B4 k4 hown hgr HX HOW x0 x1 x2
     go_roundw
     .exact ⟨m+1,by omega,by go_num,HF.o.1,HF.o.2.1,HF.o.2.2.1,HF.o.2.2.2⟩
     .simp [intOf];omega
  .have hlt':¬ (m:Int)<(M.im:Int):=by omega
   have HK:Zh (qE (aE ms) M.pm):=fun j hj=>hs j (by omega);have HX:=zh (xA B O);have HEQ:=zh (show tgN (aE ms) M.pm m=tgs (aE ms) M.pm by rw [<- aMi,hil,show m=M.im by omega]);have HLN:=zh (show m=(tgs (aE ms) M.pm).length by rw [<- HEQ.o,gM]);clear B O k hs;go_wp2
   go_ret2
   refine ⟨HX.o.1,.inr ⟨HK.o,a',c',by rw [<- HLN.o];rfl,?_⟩⟩;have:=HX.o.2;rw [HEQ.o] at this;rw [<- HLN.o];exact this
theorem OG.kept' {α:Type}{t:TypeId}{sz:Nat}{f:α->List Value}{w w':qw}{xs:List α}(h:OG t sz f w base v xs)(hg:w.grownBy w' row)(hk:∀ k,v.ownBlock=some k->row≠some k):OG t sz f w' base v xs:=
 h.kept (S:=fun j=>row=some j) ⟨hg.os,hg.tape,hg.output,hg.size,fun j hj hs=>hg.block j hj (fun e=>hs e.symm)⟩ (fun k hk' e=>hk k hk' e)
structure OR {α β:Type}(th:TypeId)(hs:Nat)(hc:α->List Value)(tr:TypeId)(rs:Nat)(rc:β->List Value)(sv:α->Value)(ct:α->List β)(w:qw)(base lo:Nat)(v:Value)(xs:List α):Prop where
 head:OG th hs hc w base v xs
 rows:∀ x∈xs,OG tr rs rc w lo (sv x) (ct x)
 apart:xs.Pairwise fun A B=>∀ k,(sv A).ownBlock=some k->(sv B).ownBlock≠some k
section
variable {α β:Type}{th:TypeId}{hs:Nat}{hc:α->List Value}{tr:TypeId}{rs:Nat}{rc:β->List Value}{sv:α->Value}{ct:α->List β}{w w':qw}{base lo:Nat}{v:Value}{xs:List α}
theorem OR.bw (h:OR th hs hc tr rs rc sv ct w base lo v xs)(hb:qY w w'):OR th hs hc tr rs rc sv ct w' base lo v xs:=⟨h.head.bw hb,fun x hx=>(h.rows x hx).bw hb,h.apart⟩
theorem OR.mono {base':Nat}(h:OR th hs hc tr rs rc sv ct w base lo v xs)(hb:base'<=base)(hl:lo'<=lo):OR th hs hc tr rs rc sv ct w base' lo' v xs:=⟨h.head.mono hb,fun x hx=>(h.rows x hx).mono hl,h.apart⟩
theorem OR.kept (h:OR th hs hc tr rs rc sv ct w base lo v xs)(t:Turn S w w')(h1:∀ k,v.ownBlock=some k->¬ S k)(h2:∀ x∈xs,∀ k,(sv x).ownBlock=some k->¬ S k):OR th hs hc tr rs rc sv ct w' base lo v xs:=⟨h.head.kept t h1,fun x hx=>(h.rows x hx).kept t (h2 x hx),h.apart⟩
theorem OR.lt (h:OR th hs hc tr rs rc sv ct w base lo v xs):(∀ k,v.ownBlock=some k->base<=k/\k<w.heap.size)/\∀ x∈xs,∀ k,(sv x).ownBlock=some k->lo<=k/\k<w.heap.size:=⟨h.head.lt,fun x hx=>(h.rows x hx).lt⟩
theorem aA1:OR th hs hc tr rs rc sv ct w base lo (qS none 0 0) []:=⟨fL _ _ _ _ _,by simp,by simp⟩
theorem aKf (hb:base<=w.heap.size):OR th hs hc tr rs rc sv ct (w.alloc (.cells #[] th)) base lo (qS (qP w.heap.size) 0 0) []:=⟨bK _ _ _ _ _ hb,by simp,by simp⟩
theorem OR.push {k:Nat}{v':Value}{x:α}(h:OR th hs hc tr rs rc sv ct w base lo (qS a k c) xs)(hl:xs.length=k)(hx:OG tr rs rc w lo' (sv x) (ct x))(hb:lo<=lo')(hlo:∀ A∈xs,∀ j,(sv A).ownBlock=some j->j<lo')(hown:w'.ownsRow base th hs v' (k+1) (xs.flatMap hc++hc x))(hg:w.grownBy w' (qS a k c).ownBlock)(hne:th≠tr):OR th hs hc tr rs rc sv ct w' base lo v' (xs++[x]):=by
 have key:∀ (u:Value) (ys:List β) (l:Nat),OG tr rs rc w l u ys->∀ j,u.ownBlock=some j->(qS a k c).ownBlock≠some j:=fun u ys l ho j hj e=>by
  obtain ⟨c1,k1⟩:=aD ho hj;obtain ⟨c2,k2⟩:=aD h.head e;exact hne (aH k2 k1)
 refine ⟨?_,?_,?_⟩
 .unfold OG;rw [xI,hl,xU,xX];exact hown
 .intro B hB;rcases List.mem_append.1 hB with hB|hB
  .exact (h.rows B hB).kept' hg (key _ _ _ (h.rows B hB))
  .simp at hB;subst hB;exact (hx.kept' hg (key _ _ _ hx)).mono hb
 .rw [List.pairwise_append];refine ⟨h.apart,by simp,fun B hB X hX j hj e=>?_⟩;simp at hX;subst hX;have h1:=hlo B hB j hj;have h2:=(hx.lt j e).1;omega
end
abbrev PB:=Pl×qO×Nat
def svP (x:PB):Value:=qS x.2.1 x.1.banks.length x.2.2
def clP (x:PB):List Value:=[qI x.1.text,svP x,qI x.1.data,qI x.1.size]
def ctP (x:PB):List Int:=x.1.banks
abbrev OPl:=OR 171 4 clP 3 1 clI svP ctP
abbrev TB:=List Tg×qO×Nat
def svT (x:TB):Value:=qS x.2.1 x.1.length x.2.2
def aBx (x:TB):List Value:=[svT x]
def ctT (x:TB):List Tg:=x.1
abbrev OTg:=OR 190 1 aBx 58 3 clG svT ctT
structure LayO (W:qw)(base:Nat)(L:Lay)(a0:qO)(c0:Nat)(xs:List PB)(a2:qO)(c2:Nat)(a5:qO)(c5:Nat)(ts:List TB):Prop where
 p:OPl W base base (qS a0 xs.length c0) xs
 ps:xs.map (fun x=>x.1)=L.places
 s:OG 3 1 clI W base (qS a2 L.slots.length c2) L.slots
 t:OTg W base base (qS a5 ts.length c5) ts
 tt:ts.map (fun x=>x.1)=L.targets
 sp:∀ k,(qS a2 L.slots.length c2).ownBlock=some k->∀ x∈xs,(svP x).ownBlock≠some k
def mV (L:Lay)(a0:qO)(c0:Nat)(xs:List PB)(a2:qO)(c2:Nat)(a5:qO)(c5:Nat)(ts:List TB):Array Value:=(qL L a0 xs.length c0 a2 L.slots.length c2 a5 ts.length c5)
theorem aOv:(prog.info? 171).map (fun i=>(i.zero,i.size,i.bytes))=some (some (.agg #[qI 0,qS none 0 0,qI 0,qI 0]),4,48):=by kernel_rfl
theorem aLb:(prog.info? 190).map (fun i=>(i.zero,i.size,i.bytes))=some (some (qS none 0 0),1,24):=by kernel_rfl
theorem rO {w:qw}(h:m.md w)(k:Nat)(hk:k<m.bn):(m.bl.getD k zB).2.1=(m.pm.bl.getD k []).length/\m.pm.bl.length=m.bn:=by
 have hb:=h.b.1;refine ⟨?_,by simp [Md.pm,hb]⟩;have e:m.pm.bl.getD k []=(m.bl.getD k zB).2.2.2:=fF _ _ _ zB _;rw [e];exact (h.b.2.2.2.1 k hk).1.symm
theorem wH (a:qO)(n cap:Nat)(ms:List Md)(s c k d:Int)(w:qw)(h:MSD w a n cap ms):
 qC 140 #[qS a n cap,.agg (qW s c k d)] w fun e w'=>e=.returned (.bool (decide (0<s/\¬ kI (aE ms) c)))/\qY w w':=by
 have hA:qY w (w.alloc (.cells (qW s c k d) 37)):=bal;have k0:=Blk.new w (qW s c k d) 37;have hl:=h.s.1;have hm1:=h.s.2.1;unfold maxLen at hm1;have hpl:=bT ms;have HH:=zh h;obtain ⟨R,hR⟩:=eqx (decide (0<s/\¬ kI (aE ms) c));rw [<- hR];have HR:=zh hR;clear hR;have HB1:=zh (xA hA k0);clear h hA k0;go_enter func140,ntmps140
 go_wp2;go_loopw [5] (fun i wr=>∃ m:Nat,m<=n/\i=qI m/\(0<s->∀ j,j<m->∀ k,k<((aE ms).getD j zP).bl.length->((((aE ms).getD j zP).bl.getD k []).length:Int)<=c)/\qY w wr/\Blk wr w.heap.size (qW s c k d) 37) (qf n)
 .exact ⟨0,xC _,rfl,fun _ j hj=>absurd hj (by omega),HB1.o.1,HB1.o.2⟩
 .obtain ⟨m,hm,rfl,hv,B,kk⟩:=hrel;by_cases hlt:m<n
  .have hlt':(m:Int)<(n:Int):=by omega
   have HV:=zh hv;have HB2:=zh (xA B kk);clear hv B kk HB1;go_wp2;go_loopw [6] (fun i wr=>∃ q:Nat,q<=(ms.getD m aK).bn/\i=qI q/\(0<s->∀ k,k<q->((((aE ms).getD m zP).bl.getD k []).length:Int)<=c)/\qY w wr/\Blk wr w.heap.size (qW s c k d) 37) (fun i _=>(ms.getD m aK).bn-(intOf i).toNat)
   .exact ⟨0,xC _,rfl,fun _ j hj=>absurd hj (by omega),HB2.o.1,HB2.o.2⟩
   .obtain ⟨q,hq,rfl,hw,B,kk⟩:=hrel;have H:=HH.o.bw B;obtain ⟨b,off,rfl,q0,q1,q2,_⟩:=H.s.at m hlt;have hmd:=H.d m hlt;have hbl:((aE ms).getD m zP).bl.length=(ms.getD m aK).bn:=by rw [cI];show (List.map _ _).length=_;rw [xH];exact hmd.b.1
    have HW:=zh hw;have hbn:(ms.getD m aK).bn<=9223372036854775807:=by have:=hmd.b.2.1;unfold maxLen at this;omega
    by_cases hlt2:q<(ms.getD m aK).bn
    .have hlt2':(q:Int)<((ms.getD m aK).bn:Int):=by omega
     obtain ⟨_,_,hcb,hrb,_⟩:=hmd.b;obtain ⟨b2,off2,hba,hc⟩:=hcb (by omega);have c0:=hc q hlt2;have hlen:=(rO hmd q hlt2).1;rw [<- cI] at hlen;rw [hba] at q2;have y0:=kk.e0;have y1:=kk.e1;have HB3:=zh (xA B kk);obtain ⟨L,hL⟩:∃ L:Nat,L=(((aE ms).getD m zP).bl.getD q []).length:=⟨_,rfl⟩;rw [<- hL] at hlen;rw [hlen] at c0;have hmx:L<=9223372036854775807:=by have:=(hrb q hlt2).2.1;rw [hlen] at this;unfold maxLen at this;omega
     have HSH:=zh (show (0<s->(L:Int)<=c)->0<s->∀ k,k<q+1->((((aE ms).getD m zP).bl.getD k []).length:Int)<=c from fun h1 h2 k hk=>by
      by_cases e:k=q
      .subst e;rw [<- hL];exact h1 h2
      .exact HW.o h2 k (by omega))
     have HBD:Zh (0<s->c<(L:Int)->0<s/\¬ kI (aE ms) c):=fun h1 h2=>⟨h1,fun hs=>by have:=hs m (by omega) q (by omega);rw [<- hL] at this;omega⟩;generalize (ms.getD m aK).bl.getD q zB=bq at *;generalize (ms.getD m aK).bn=bn at *;obtain ⟨bq1,bq2,bq3,bq4⟩:=bq;dsimp only at c0 hlen;clear hw B H hmd hbl hba hc hcb hrb hL hlen q0 q1 kk;by_cases hs0:0<s
     .by_cases hcl:c<(L:Int)
      .have HF:=zh (HBD.o hs0 hcl);go_wp2_with fail
       go_quiet (fail)
       go_wp2;go_ret;exact ⟨aA (by rw [HR.o,xR HF.o]),iR HB3.o.1 nq⟩
      .have HF:=zh (HSH.o (fun _=>by omega));go_wp2_with fail
       go_quiet (fail)
       go_wp2
       go_roundw
       .exact ⟨q+1,by omega,by go_num,HF.o,iR HB3.o.1 nq,HB3.o.2⟩
       .simp [qf,intOf];omega
     .have HF:=zh (HSH.o (fun e=>absurd e hs0));have hs2:decide (0<s)=false:=xS hs0;go_wp2_with fail
      go_quiet (fail)
      go_wp2
      go_roundw
      .exact ⟨q+1,by omega,by go_num,HF.o,iR HB3.o.1 nq,HB3.o.2⟩
      .simp [qf,intOf];omega
    .have hlt2':¬ (q:Int)<((ms.getD m aK).bn:Int):=by omega
     have HV2:=zh (show 0<s->∀ j,j<m+1->∀ k,k<((aE ms).getD j zP).bl.length->((((aE ms).getD j zP).bl.getD k []).length:Int)<=c from fun h1 j hj k hk=>by
      by_cases e:j=m
      .subst e;exact HW.o h1 k (by omega)
      .exact HV.o h1 j (by omega) k hk)
     have HB3:=zh (xA B kk);generalize (ms.getD m aK).bn=bn at *;clear hw B H hmd hbl q0 q1 kk;go_wp2
     go_roundw
     .exact ⟨m+1,by omega,by go_num,HV2.o,HB3.o.1,HB3.o.2⟩
     .simp [qf,intOf];omega
  .have hlt':¬ (m:Int)<(n:Int):=by omega
   have HF:Zh (¬ (0<s/\¬ kI (aE ms) c)):=fun h=>h.2 (fun i hi k hk=>hv h.1 i (by omega) k hk);have HB2:=zh B;clear hv B kk HB1;go_wp2;go_ret;exact ⟨aA (by rw [HR.o,xS HF.o]),HB2.o⟩
theorem aQ {x:Int}(h:0<=x:=by omega):x<=rnd x/\rnd x<=x+31:=by unfold rnd;omega
theorem eC (h:fD P=0):0<=tsz P/\tsz P<=831:=by
 have h1:=(cB h).2.2.1;have:=aQ (x:=4*(P.tz.length:Int));unfold tsz;omega
theorem cE {P:PMod}(h:fD P=0):∀ k,k<=P.bl.length->0<=cC P k/\cC P k<=(k:Int)*287
 | 0,_=>by simp [cC]
 | k+1,hk=>by
   have ih:=cE h k (by omega);have h1:=(cB h).2.2.2.2.2.2.2 k (by omega);have:=aQ (x:=4*((P.bl.getD k []).length:Int));show 0<=cC P k+rnd (4*((P.bl.getD k []).length:Int))/\cC P k+rnd (4*((P.bl.getD k []).length:Int))<=_;push_cast;omega
theorem iL (h:fD P=0):0<=dsz P/\dsz P<=1055:=by
 obtain ⟨_,_,_,_,h5,h6,h7,_⟩:=cB h;have:=aQ (x:=(P.dz.length:Int)+P.bss);unfold dsz;omega
theorem cO {ps:List PMod}(h:fR ps):∀ i,i<=ps.length->0<=Fl ps i/\Fl ps i<=(i:Int)*1979
 | 0,_=>by simp [Fl]
 | i+1,hi=>by
   have ih:=cO h i (by omega);have hv:=h i (by omega);have h1:=eC hv;have h2:=cE hv _ aN;have h3:=(cB hv).2.2.2.1;show 0<=Fl ps i+(tsz (ps.getD i zP)+cC (ps.getD i zP) (ps.getD i zP).bl.length)/\Fl ps i+(tsz (ps.getD i zP)+cC (ps.getD i zP) (ps.getD i zP).bl.length)<=_;push_cast;omega
theorem bQ {ps:List PMod}(h:fR ps):∀ i,i<=ps.length->0<=Ra ps i/\Ra ps i<=(i:Int)*1055
 | 0,_=>by simp [Ra]
 | i+1,hi=>by
   have ih:=bQ h i (by omega);have h1:=iL (h i (by omega));show 0<=Ra ps i+dsz (ps.getD i zP)/\Ra ps i+dsz (ps.getD i zP)<=_;push_cast;omega
theorem aM {w:qw}{sz:Nat}{t t':TypeId}{k:Nat}(h:w.ownsRow base t sz v n xs)(hk:v.ownBlock=some k)(hb:Blk w k cs t')(hne:t≠t'):False:=by
 obtain ⟨c1,k1⟩:=aD h hk;exact hne (aH k1 hb)
def zL:Array Value:=qz
structure Lst (w W:qw)(s c k d:Int)(cs:Array Value):Prop where
 be:qY w W
 k0:Blk W w.heap.size (qW s c k d) 37
 k1:Blk W (w.heap.size+1) zL 71
 k5:Blk W (w.heap.size+5) cs 71
theorem Lst.bw {w W W':qw}{c:Int}(h:Lst w W s c k d cs)(hb:qY W W'):Lst w W' s c k d cs:=⟨h.be.trans (hb.mono h.be.size),h.k0.bw hb,h.k1.bw hb,h.k5.bw hb⟩
theorem Lst.set {w W:qw}{c:Int}(h:Lst w W s c k d cs)(i:Nat)(v:Value):Lst w (W.setCell (qR (w.heap.size+5) i) v) s c k d (cs.setIfInBounds i v):=
 ⟨aG h.be (aC W (w.heap.size+5) i v) (fun k hk=>by omega) h.be.size,aF (aC W (w.heap.size+5) i v) h.k0 (by omega),aF (aC W (w.heap.size+5) i v) h.k1 (by omega),h.k5.set i v⟩
theorem Lst.other {w W:qw}{c:Int}(h:Lst w W s c k d cs)(hg:w.heap.size+6<=g)(i:Nat)(v:Value):Lst w (W.setCell (qR g i) v) s c k d cs:=
 ⟨aG h.be (aC W g i v) (fun k hk=>by omega) h.be.size,aF (aC W g i v) h.k0 (by omega),aF (aC W g i v) h.k1 (by omega),aF (aC W g i v) h.k5 (by omega)⟩
theorem Lst.grown {w W W':qw}{c:Int}(h:Lst w W s c k d cs)(hg:W.grownBy W' row)(hr:∀ j,row=some j->w.heap.size+2<=j/\j≠w.heap.size+5):Lst w W' s c k d cs:=by
 have t:Turn (fun j=>row=some j) W W':=⟨hg.os,hg.tape,hg.output,hg.size,fun j hj hs=>hg.block j hj (fun e=>hs e.symm)⟩;exact ⟨aG h.be t (fun j hj=>by have:=hr j hj;omega) h.be.size,aF t h.k0 (fun e=>by have:=hr _ e;omega),aF t h.k1 (fun e=>by have:=hr _ e;omega),aF t h.k5 (fun e=>by have:=hr _ e;omega)⟩
theorem Lst.sz {w W:qw}{c:Int}(h:Lst w W s c k d cs):w.heap.size+6<=W.heap.size:=h.k5.lt
theorem Lst.drew {w W:qw}{c:Int}(h:Lst w W s c k d cs):Lst w W.drew s c k d cs:=⟨h.be.drew,h.k0,h.k1,h.k5⟩
structure Lrw (w W:qw)(ps:List PMod)(m:Nat)(a0:qO)(c0:Nat)(xs:List PB)(a5:qO)(c5:Nat)(ts:List TB):Prop where
 P:OPl W (w.heap.size+2) (w.heap.size+6) (qS a0 m c0) xs
 T:OTg W (w.heap.size+2) (w.heap.size+6) (qS a5 m c5) ts
 S:OG 3 1 clI W (w.heap.size+2) (qS (some (qR (w.heap.size+3) 0)) 0 0) []
 pl:xs.length=m
 tl:ts.length=m
 px:xs.map (fun x=>x.1)=(List.range m).map (plc ps)
 tx:ts.map (fun x=>x.1)=(List.range m).map fun i=>tgs ps (ps.getD i zP)
def Lg (w:qw)(j:Nat):Prop:=j=w.heap.size+5
theorem Lrw.kept {w W W':qw}{c:Int}{m:Nat}{xs:List PB}{ts:List TB}(h:Lrw w W ps m a0 c0 xs a5 c5 ts)(L:Lst w W s c k d cs)(t:Turn (Lg w) W W'):Lrw w W' ps m a0 c0 xs a5 c5 ts:=by
 have k5:=L.k5;refine ⟨h.P.kept t (fun k hk e=>?_) (fun x hx k hk e=>?_),h.T.kept t (fun k hk e=>?_) (fun x hx k hk e=>?_),h.S.kept t (fun k hk e=>?_),h.pl,h.tl,h.px,h.tx⟩
 .rw [show k=w.heap.size+5 from e] at hk;exact aM h.P.head hk k5 (by decide)
 .rw [show k=w.heap.size+5 from e] at hk;exact aM (h.P.rows x hx) hk k5 (by decide)
 .rw [show k=w.heap.size+5 from e] at hk;exact aM h.T.head hk k5 (by decide)
 .rw [show k=w.heap.size+5 from e] at hk;exact aM (h.T.rows x hx) hk k5 (by decide)
 .rw [show k=w.heap.size+5 from e] at hk;exact aM h.S hk k5 (by decide)
theorem Lrw.bw {w W W':qw}{m:Nat}{xs:List PB}{ts:List TB}(h:Lrw w W ps m a0 c0 xs a5 c5 ts)(hb:qY W W'):Lrw w W' ps m a0 c0 xs a5 c5 ts:=⟨h.P.bw hb,h.T.bw hb,h.S.bw hb,h.pl,h.tl,h.px,h.tx⟩
def bks (ps:List PMod)(i k:Nat):List Int:=(List.range k).map fun j=>Fl ps i+tsz (ps.getD i zP)+cC (ps.getD i zP) j
theorem oA (ps:List PMod)(i k:Nat):(bks ps i k).length=k:=by simp [bks]
theorem aL5 (ps:List PMod)(i k:Nat):bks ps i (k+1)=bks ps i k++[Fl ps i+tsz (ps.getD i zP)+cC (ps.getD i zP) k]:=by simp [bks,List.range_succ]
def LkM (w:qw)(ps:List PMod)(s c k d:Int)(e:Ending)(w':qw):Prop:=qY w w'/\∃ a0 c0 xs a2 c2 a5 c5 ts,e=.returned (.tuple #[.agg (mV (lkL ps s c k d) a0 c0 xs a2 c2 a5 c5 ts),qI (lkc ps s c k d)])/\LayO w' w.heap.size (lkL ps s c k d) a0 c0 xs a2 c2 a5 c5 ts
theorem aNl (W:qw)(base:Nat):LayO W base L0 none 0 [] none 0 none 0 []:=⟨aA1,rfl,fL _ _ _ _ _,aA1,rfl,fun k hk=>by simp [Value.ownBlock] at hk⟩
theorem aGy {w w':qw}{c:Int}(hb:qY w w')(hV:lkc ps s c k d=V)(h0:V≠0):LkM w ps s c k d (.returned (.tuple #[.agg zL,qI V])) w':=by
 refine ⟨hb,none,0,[],none,0,none,0,[],?_,?_⟩
 .unfold lkL;rw [if_neg (by rw [hV];exact h0),hV];rfl
 .unfold lkL;rw [if_neg (by rw [hV];exact h0)];exact aNl _ _
theorem aOq (h:dU ps s w k d=V)(h0:V≠0):lkc ps s w k d=V:=by unfold lkc;rw [if_pos (by rw [h];exact h0),h]
theorem aOp (h:dU ps s w k d=0)(h5:¬ jZ ps):lkc ps s w k d=5:=by unfold lkc;rw [if_neg (by rw [h];decide),if_pos h5]
theorem aOo (h:dU ps s w k d=0)(h5:jZ ps)(h6:0<s/\¬ kI ps w):lkc ps s w k d=6:=by unfold lkc;rw [if_neg (by rw [h];decide),if_neg (fun e=>e h5),if_pos h6]
theorem aOn (h:dU ps s w k d=0)(h5:jZ ps)(h6:¬ (0<s/\¬ kI ps w))(h7:16384<(lay ps s w k).flash):lkc ps s w k d=7:=by unfold lkc;rw [if_neg (by rw [h];decide),if_neg (fun e=>e h5),if_neg h6,if_pos h7]
theorem aOm (h:dU ps s w k d=0)(h5:jZ ps)(h6:¬ (0<s/\¬ kI ps w))(h7:¬ 16384<(lay ps s w k).flash)(h8:16384<(lay ps s w k).ram):lkc ps s w k d=8:=by unfold lkc;rw [if_neg (by rw [h];decide),if_neg (fun e=>e h5),if_neg h6,if_neg h7,if_pos h8]
theorem aOr (h:dU ps s w k d=0)(h5:jZ ps)(h6:¬ (0<s/\¬ kI ps w))(h7:¬ 16384<(lay ps s w k).flash)(h8:¬ 16384<(lay ps s w k).ram):lkc ps s w k d=0:=by unfold lkc;rw [if_neg (by rw [h];decide),if_neg (fun e=>e h5),if_neg h6,if_neg h7,if_neg h8]
theorem sF (h:dU ps s w k d=0):cfo s w k d=true/\ps.length<=4/\fR ps:=by
 unfold dU at h;split at h
 .simp at h
 split at h
 .simp at h
 split at h
 .simp at h
 .rename_i h1 h2 h3;exact ⟨by simpa using h1,by omega,xZ.1 h3⟩
theorem nC {a W:qw}(h:Turn S a W):Turn S a W.drew:=⟨h.os,h.tape,h.output,h.size,h.block⟩
theorem aQw {S:Prop}(main:S->G)(pf:S):G:=main pf
theorem aQv {S F:Nat->Nat->World->Prop}(main:(∀ gp gr W,F gp gr W->S gp gr W)->G)(pf:∀ gp gr W,F gp gr W->S gp gr W):G:=main pf
theorem aNp (w:qw)(s c k d:Int)(ps:List PMod):
 Lst w ((((((w.alloc (.cells (qW s c k d) 37)).alloc (.cells qz 71)).alloc (.cells #[] 171)).alloc (.cells #[] 3)).alloc (.cells #[] 190)).alloc (.cells #[qS (some (qR (w.heap.size+2) 0)) 0 0,qI 0,qS (some (qR (w.heap.size+3) 0)) 0 0,qI 0,qI 0,qS (some (qR (w.heap.size+4) 0)) 0 0] 71)) s c k d #[qS (some (qR (w.heap.size+2) 0)) 0 0,qI 0,qS (some (qR (w.heap.size+3) 0)) 0 0,qI 0,qI 0,qS (some (qR (w.heap.size+4) 0)) 0 0] /\
 Lrw w ((((((w.alloc (.cells (qW s c k d) 37)).alloc (.cells qz 71)).alloc (.cells #[] 171)).alloc (.cells #[] 3)).alloc (.cells #[] 190)).alloc (.cells #[qS (some (qR (w.heap.size+2) 0)) 0 0,qI 0,qS (some (qR (w.heap.size+3) 0)) 0 0,qI 0,qI 0,qS (some (qR (w.heap.size+4) 0)) 0 0] 71)) ps 0 (some (qR (w.heap.size+2) 0)) 0 [] (some (qR (w.heap.size+4) 0)) 0 []:=by
 have k0:=Blk.new w (qW s c k d) 37;have b0:qY w (w.alloc (.cells (qW s c k d) 37)):=bal;have s0:(w.alloc (.cells (qW s c k d) 37)).heap.size=w.heap.size+1:=by simp
 generalize w.alloc (.cells (qW s c k d) 37)=W0 at *;have k1:=Blk.new W0 qz 71;have b1:qY W0 (W0.alloc (.cells qz 71)):=bal;have s1:(W0.alloc (.cells qz 71)).heap.size=w.heap.size+2:=by simp [s0]
 rw [s0] at k1;generalize W0.alloc (.cells qz 71)=W1 at *;have o2:OPl (W1.alloc (.cells #[] 171)) (w.heap.size+2) (w.heap.size+6) (qS (qP W1.heap.size) 0 0) []:=aKf (by omega);have b2:qY W1 (W1.alloc (.cells #[] 171)):=bal;have s2:(W1.alloc (.cells #[] 171)).heap.size=w.heap.size+3:=by simp [s1]
 rw [s1] at o2;generalize W1.alloc (.cells #[] 171)=W2 at *;have o3:=bK 3 1 clI W2 (w.heap.size+2) (by omega);have b3:qY W2 (W2.alloc (.cells #[] 3)):=bal;have s3:(W2.alloc (.cells #[] 3)).heap.size=w.heap.size+4:=by simp [s2]
 rw [s2] at o3;generalize W2.alloc (.cells #[] 3)=W3 at *;have o4:OTg (W3.alloc (.cells #[] 190)) (w.heap.size+2) (w.heap.size+6) (qS (qP W3.heap.size) 0 0) []:=aKf (by omega);have b4:qY W3 (W3.alloc (.cells #[] 190)):=bal;have s4:(W3.alloc (.cells #[] 190)).heap.size=w.heap.size+5:=by simp [s3]
 rw [s3] at o4;generalize W3.alloc (.cells #[] 190)=W4 at *;have k5:=Blk.new W4 #[qS (some (qR (w.heap.size+2) 0)) 0 0,qI 0,qS (some (qR (w.heap.size+3) 0)) 0 0,qI 0,qI 0,qS (some (qR (w.heap.size+4) 0)) 0 0] 71;have b5:qY W4 (W4.alloc (.cells #[qS (some (qR (w.heap.size+2) 0)) 0 0,qI 0,qS (some (qR (w.heap.size+3) 0)) 0 0,qI 0,qI 0,qS (some (qR (w.heap.size+4) 0)) 0 0] 71)):=bal;rw [s4] at k5;have c45:=b5;have c35:=b4.trans (c45.mono (by omega));have c25:=b3.trans (c35.mono (by omega));have c15:=b2.trans (c25.mono (by omega));have c05:=b1.trans (c15.mono (by omega));exact ⟨⟨b0.trans (c05.mono (by omega)),k0.bw c05,k1.bw c15,k5⟩,⟨o2.bw c25,o4.bw c45,o3.bw c35,rfl,rfl,rfl,rfl⟩⟩
def st6 (W:qw)(k:Nat)(v0 v1 v2 v3 v4 v5:Value):World:=(((((W.setCell (qR k 0) v0).setCell (qR k 1) v1).setCell (qR k 2) v2).setCell (qR k 3) v3).setCell (qR k 4) v4).setCell (qR k 5) v5
theorem cF (W:qw)(k:Nat)(v0 v1 v2 v3 v4 v5:Value):Turn (fun j=>j=k) W (st6 W k v0 v1 v2 v3 v4 v5):=
 (((((aC W k 0 v0).trans (aC _ k 1 v1)).trans (aC _ k 2 v2)).trans (aC _ k 3 v3)).trans (aC _ k 4 v4)).trans (aC _ k 5 v5)
theorem jR {W:qw}{k:Nat}{t:TypeId}(h:Blk W k zL t)(v0 v1 v2 v3 v4 v5:Value):Blk (st6 W k v0 v1 v2 v3 v4 v5) k #[v0,v1,v2,v3,v4,v5] t:=
 (((((h.set 0 v0).set 1 v1).set 2 v2).set 3 v3).set 4 v4).set 5 v5
theorem aNq {w W:qw}(k1:Blk W (w.heap.size+1) zL 71)(v0 v1 v2 v3 v4 v5:Value)(Q:Ending->World->Prop)(tmps:Array Value)(h4:tmps[4]?=some (.pointer (some (qR (w.heap.size+1) 0))))(hQ:Q (.returned (.agg #[v0,v1,v2,v3,v4,v5])) (st6 W (w.heap.size+1) v0 v1 v2 v3 v4 v5)):
 bodyPost prog f141 Q Exit.ret ⟨tmps,[]⟩ (st6 W (w.heap.size+1) v0 v1 v2 v3 v4 v5):=by
 have k:=jR k1 v0 v1 v2 v3 v4 v5;obtain ⟨t0,t1,t2,t3,t4,t5⟩:=k.z6;refine bodyPost_ret_by (v:=.agg #[v0,v1,v2,v3,v4,v5]) ?_ rfl hQ;simp [results,results141,go_sem,h4,t0,t1,t2,t3,t4,t5]
theorem aDr:∀ (xs:List Tg) (i:Nat),i<xs.length->(xs.flatMap clG)[i*3]?=some (qI (xs.getD i zT).1)/\(xs.flatMap clG)[i*3+1]?=some (qI (xs.getD i zT).2.1)/\(xs.flatMap clG)[i*3+2]?=some (qI (xs.getD i zT).2.2)
 | [],i,h=>by simp at h
 | x::xs,0,h=>by simp [clG]
 | x::xs,i+1,h=>by
   obtain ⟨h1,h2,h3⟩:=aDr xs i (by simpa using h);rw [show (i+1)*3=i*3+1+1+1 by omega];simp only [xT,clG,List.cons_append,List.nil_append,List.getElem?_cons_succ];exact ⟨h1,h2,h3⟩
theorem aPq {w:qw}{xs:List Tg}(h:OG 58 3 clG w base (qS a n c) xs)(m:Nat)(hm:m<n):∃ g,a=some (qR g 0)/\w.cell? (qR g (m*3))=some (qI (xs.getD m zT).1)/\w.cell? (qR g (m*3+1))=some (qI (xs.getD m zT).2.1)/\w.cell? (qR g (m*3+2))=some (qI (xs.getD m zT).2.2):=by
 obtain ⟨hl,_,_,h4⟩:=aS h;obtain ⟨g,hg,hc⟩:=h4 (by omega);obtain ⟨e0,e1,e2⟩:=aDr xs m (by omega);exact ⟨g,hg,hc _ _ e0,hc _ _ e1,hc _ _ e2⟩
def zTB:TB:=([],none,0)
theorem aKd {w:qw}{ts:List TB}(h:OTg w base lo (qS a n c) ts)(i:Nat)(hi:i<n):∃ g,a=some (qR g 0)/\w.cell? (qR g i)=some (svT (ts.getD i zTB))/\OG 58 3 clG w lo (svT (ts.getD i zTB)) (ts.getD i zTB).1:=by
 obtain ⟨hl,_,_,h4⟩:=aS h.head;obtain ⟨g,hg,hc⟩:=h4 (by omega);refine ⟨g,hg,hc i _ ?_,h.rows _ (by simp [xB,show i<ts.length by omega])⟩;rw [show ts.flatMap aBx=ts.map svT from dA _ _];simp [xB,show i<ts.length by omega]
def zPB:PB:=(⟨0,[],0,0⟩,none,0)
theorem aDp:∀ (xs:List PB) (i:Nat),i<xs.length->(xs.flatMap clP)[i*4]?=some (qI (xs.getD i zPB).1.text)/\(xs.flatMap clP)[i*4+1]?=some (svP (xs.getD i zPB))/\(xs.flatMap clP)[i*4+2]?=some (qI (xs.getD i zPB).1.data)/\(xs.flatMap clP)[i*4+3]?=some (qI (xs.getD i zPB).1.size)
 | [],i,h=>by simp at h
 | x::xs,0,h=>by simp [clP]
 | x::xs,i+1,h=>by
   obtain ⟨h1,h2,h3,h4⟩:=aDp xs i (by simpa using h);rw [show (i+1)*4=i*4+1+1+1+1 by omega];simp only [xT,clP,List.cons_append,List.nil_append,List.getElem?_cons_succ];exact ⟨h1,h2,h3,h4⟩
theorem aKg {w:qw}{xs:List PB}(h:OPl w base lo (qS a n c) xs)(i:Nat)(hi:i<n):∃ g,a=some (qR g 0)/\w.cell? (qR g (i*4))=some (qI (xs.getD i zPB).1.text)/\w.cell? (qR g (i*4+1))=some (svP (xs.getD i zPB))/\w.cell? (qR g (i*4+2))=some (qI (xs.getD i zPB).1.data)/\w.cell? (qR g (i*4+3))=some (qI (xs.getD i zPB).1.size)/\OG 3 1 clI w lo (svP (xs.getD i zPB)) (xs.getD i zPB).1.banks:=by
 obtain ⟨hl,_,_,h4⟩:=aS h.head;obtain ⟨g,hg,hc⟩:=h4 (by omega);obtain ⟨e0,e1,e2,e3⟩:=aDp xs i (by omega);exact ⟨g,hg,hc _ _ e0,hc _ _ e1,hc _ _ e2,hc _ _ e3,h.rows _ (by simp [xB,show i<xs.length by omega])⟩
structure LayR (L:Lay):Prop where
 p:∀ x∈L.places,∀ z∈x.banks,wfi z
 s:∀ z∈L.slots,wfi z
 n:L.places.length<=1048576/\L.targets.length<=1048576/\∀ x∈L.targets,x.length<=1048576
abbrev Rw3:=qO×Nat×Nat
theorem aPy (h:cs[i]?=some u):i<cs.size:=by
 rcases Nat.lt_or_ge i cs.size with h1|h1
 .exact h1
 .rw [Array.getElem?_eq_none h1] at h;cases h
theorem cN {v:Value}(h:cs[j]?=some u)(hn:i≠j:=by omega):(cs.setIfInBounds i v)[j]?=some u:=by
 rw [Array.getElem?_setIfInBounds,if_neg hn];exact h
theorem aN9 (h:cs[i]?=some u):(cs.setIfInBounds i v)[i]?=some v:=by
 rw [Array.getElem?_setIfInBounds,if_pos rfl,if_pos (aPy h)]
def aD2 (xs:List Nat)(bl:List Bk)(i:Nat):qO×Nat×Nat:=(some (qR (xs.getD i 0) 0),(bl.getD i zB).2.1,(bl.getD i zB).2.1)
theorem yH (xs:List Nat)(bl:List Bk):∀ n,bL (aD2 xs bl) n=upS (fun j=>(bl.getD j zB).2.1) n
 | 0=>rfl
 | n+1=>by show bL (aD2 xs bl) n+_=upS _ n+_;rw [yH xs bl n];rfl
theorem aPu {ta:qO}{tc:Nat}{tz:qi}{ba:qO}{bc:Nat}{da:qO}{dc:Nat}{dz:qi}{ra:qO}{rc:Nat}{rz:qi}{ia:qO}{ic:Nat}{ea:qO}{ec:Nat}{es:List Ex}{w W:qw}{g1 g2 g3 g5 g6 g7:Nat}{gs:List Nat}(h:MT w nm ta tn tc tz ba bn bc bl da dn dc dz bss ra rn rc rz ia im ic ss ea en ec es)(hg:gs.length=bn)
 (r1:RowI W g1 tz) (r2:RowB W g2 bn gs bl) (r3:Row8 W g3 dz) (r5:RowI W g5 rz) (r6:RowT W g6 ss) (r7:RowX W g7 es) {S:Nat->Prop} (s1:S g1) (s2:¬ S g2) (sb:∀ i,i<bn->S (gs.getD i 0)) (s3:S g3) (s5:S g5) (s6:S g6) (s7:S g7):
 Sl S W (qP g1) tn 1/\SlB S W (qP g2) bn (aD2 gs bl)/\Sl S W (qP g3) dn 1/\Sl S W (qP g5) rn 1/\Sl S W (qP g6) im 1/\Sl S W (qP g7) en 3:=by
 obtain ⟨⟨cur,hb,hsz,hc⟩,hr,_⟩:=r2;obtain ⟨⟨cx,hx,hxs⟩,_⟩:=r7;refine ⟨Sl.ofBlk (c:=tc) r1 s1 (by simp [h.t.1]),⟨fun _=>⟨g2,0,cur,_,rfl,s2,hb,fun i hi=>by rw [Nat.zero_add];exact hc i (by omega)⟩,fun i hi=>?_⟩,Sl.ofBlk (c:=tc) r3 s3 (by simp [h.d.1]),Sl.ofBlk (c:=tc) r5 s5 (by simp [h.r.1]),Sl.ofBlk (c:=tc) r6 s6 (by simp [h.i.1]),Sl.ofBlk (c:=tc) hx s7 (by rw [hxs,h.e.1];exact aN)⟩;exact Sl.ofBlk (c:=tc) (hr i (by omega)).1 (sb i hi) (by have e1:(aD2 gs bl i).2.1=(bl.getD i zB).2.1:=rfl;have e2:=(h.b.2.2.2.1 i hi).1;rw [e1,List.size_toArray,xH,e2];omega)
def Ar8 (cs:Array Value)(o:Nat)(m:Md):Prop:=(∃ u,cs[o]?=some u)/\cs[o+1]?=some (qS m.ta m.tn m.tc)/\cs[o+2]?=some (qS m.ba m.bn m.bc)/\cs[o+3]?=some (qS m.da m.dn m.dc)/\(∃ u,cs[o+4]?=some u)/\cs[o+5]?=some (qS m.ra m.rn m.rc)/\cs[o+6]?=some (qS m.ia m.im m.ic)/\cs[o+7]?=some (qS m.ea m.en m.ec)
theorem aOz (h:∃ u,cs[j]?=some u):∃ u,(cs.setIfInBounds i v)[j]?=some u:=by
 obtain ⟨u,h⟩:=h;by_cases e:i=j
 .subst e;exact ⟨v,aN9 h⟩
 .exact ⟨u,cN h e⟩
theorem aOa {o:Nat}(h:Ar8 cs (o*8) m)(hj:j=0\/j=4):Ar8 (cs.setIfInBounds (i*8+j) v) (o*8) m:=
 ⟨aOz h.1,cN h.2.1,cN h.2.2.1,cN h.2.2.2.1,aOz h.2.2.2.2.1,cN h.2.2.2.2.2.1,cN h.2.2.2.2.2.2.1,cN h.2.2.2.2.2.2.2⟩
structure Rws (S:Nat->Prop)(W:qw)(c:Nat)(m:Md)(f:Nat->Rw3):Prop where
 t:Sl S W m.ta m.tn 1
 b:SlB S W m.ba m.bn f
 d:Sl S W m.da m.dn 1
 r:Sl S W m.ra m.rn 1
 i:Sl S W m.ia m.im 1
 e:Sl S W m.ea m.en 3
 g:∀ g o,m.ba=some (qR g o)->g≠c
theorem Rws.kept {W W':qw}{f:Nat->Rw3}(h:Rws S W c m f)(k:Mkd S W W'):Rws S W' c m f:=
 ⟨h.t.shp k.shp,h.b.kept k,h.d.shp k.shp,h.r.shp k.shp,h.i.shp k.shp,h.e.shp k.shp,h.g⟩
theorem Rws.set {W:qw}{f:Nat->Rw3}(h:Rws S W c m f)(i:Nat)(v:Value):Rws S (W.setCell (qR c i) v) c m f:=
 have sh:=Shp.set W c i v
 ⟨h.t.shp sh,⟨fun hn=>by obtain ⟨g,o,cs,t,ha,hs,hb,hl⟩:=h.b.head hn;exact ⟨g,o,cs,t,ha,hs,hb.other _ _ (h.g g o ha),hl⟩,fun i hi=>(h.b.rows i hi).shp sh⟩,h.d.shp sh,h.r.shp sh,h.i.shp sh,h.e.shp sh,h.g⟩
structure Mrs (S:Nat->Prop)(W:qw)(c n:Nat)(ms:List Md)(F:Nat->Nat->Rw3):Prop where
 nc:¬ S c
 head:∃ cs,Blk W c cs 138/\∀ i,i<n->Ar8 cs (i*8) (ms.getD i aK)
 rows:∀ i,i<n->Rws S W c (ms.getD i aK) (F i)
theorem Mrs.kept {W W':qw}{ms:List Md}{F:Nat->Nat->Rw3}(h:Mrs S W c n ms F)(k:Mkd S W W'):Mrs S W' c n ms F:=
 ⟨h.nc,by obtain ⟨cs,hb,hc⟩:=h.head;exact ⟨cs,aF k.turn hb h.nc,hc⟩,fun i hi=>(h.rows i hi).kept k⟩
theorem Mrs.set {W:qw}{ms:List Md}{F:Nat->Nat->Rw3}(h:Mrs S W c n ms F)(i j:Nat)(hj:j=0\/j=4)(v:Value):Mrs S (W.setCell (qR c (i*8+j)) v) c n ms F:=
 ⟨h.nc,by obtain ⟨cs,hb,hc⟩:=h.head;exact ⟨_,hb.set _ _,fun o ho=>aOa (hc o ho) hj⟩,fun o ho=>(h.rows o ho).set _ _⟩
theorem Mrs.at {W:qw}{ms:List Md}{F:Nat->Nat->Rw3}(h:Mrs S W c n ms F)(i:Nat)(hi:i<n):(∃ u,W.cell? (qR c (i*8))=some u)/\W.cell? (qR c (i*8+1))=some (.slice (ms.getD i aK).ta (ms.getD i aK).tn (ms.getD i aK).tc)/\W.cell? (qR c (i*8+2))=some (.slice (ms.getD i aK).ba (ms.getD i aK).bn (ms.getD i aK).bc)/\W.cell? (qR c (i*8+3))=some (.slice (ms.getD i aK).da (ms.getD i aK).dn (ms.getD i aK).dc)/\(∃ u,W.cell? (qR c (i*8+4))=some u)/\W.cell? (qR c (i*8+5))=some (.slice (ms.getD i aK).ra (ms.getD i aK).rn (ms.getD i aK).rc)/\W.cell? (qR c (i*8+6))=some (.slice (ms.getD i aK).ia (ms.getD i aK).im (ms.getD i aK).ic)/\W.cell? (qR c (i*8+7))=some (.slice (ms.getD i aK).ea (ms.getD i aK).en (ms.getD i aK).ec)/\∀ j,W.frozen? (qR c j)=false:=by
 obtain ⟨cs,hb,hc⟩:=h.head;obtain ⟨⟨u,h0⟩,h1,h2,h3,⟨u4,h4⟩,h5,h6,h7⟩:=hc i hi;exact ⟨⟨u,(hb.cell _).trans h0⟩,(hb.cell _).trans h1,(hb.cell _).trans h2,(hb.cell _).trans h3,⟨u4,(hb.cell _).trans h4⟩,(hb.cell _).trans h5,(hb.cell _).trans h6,(hb.cell _).trans h7,fun j=>hb.frozen j⟩
def gG (ms:List Md)(F:Nat->Nat->Rw3)(i:Nat):Nat:=2+(ms.getD i aK).tn+bL (F i) (ms.getD i aK).bn+(ms.getD i aK).dn+(ms.getD i aK).rn+(ms.getD i aK).im+3*(ms.getD i aK).en
theorem zQ (f:Nat->Nat):∀ n i,i<n->f i+upS f i<=upS f n
 | 0,i,h=>by omega
 | n+1,i,h=>by
   show _<=upS f n+f n;by_cases e:i=n
   .subst e;omega
   .have:=zQ f n i (by omega);omega
theorem tO (S:Nat->Prop)(c n cap k:Nat)(ms:List Md)(F:Nat->Nat->Rw3)(w:qw)(h:Mrs S w c n ms F)(hz:k+upS (gG ms F) n<=4194304)(hb:∀ i,i<n->(ms.getD i aK).bn<=1048576)(hy:∀ i,i<n->gG ms F i<=4194304/\(ms.getD i aK).tn<=1048576/\(ms.getD i aK).dn<=1048576/\(ms.getD i aK).rn<=1048576/\(ms.getD i aK).im<=1048576/\(ms.getD i aK).en<=1048576/\bL (F i) (ms.getD i aK).bn<=1048576)(hn:n<=1048576):
 qC 48 #[qS (qP c) n cap,qI k] w fun e w'=>e=.returned (qI ((k+upS (gG ms F) n:Nat):Int))/\Mkd (fun j=>S j\/j=c) w w':=by
 have HH:=zh h;clear h;go_enter func48,ntmps48
 go_wp2;go_loopw [1,5] (fun x i wr=>∃ m:Nat,m<=n/\i=qI m/\x=qI ((k+upS (gG ms F) m:Nat):Int)/\Mrs S wr c n ms F/\Mkd (fun j=>S j\/j=c) w wr) (fun _ i _=>n-(intOf i).toNat)
 .exact ⟨0,xC _,rfl,rfl,HH.o,Mkd.refl _ _⟩
 .obtain ⟨m,hm,rfl,rfl,R,M⟩:=hrel;by_cases hlt:m<n
  .have hlt':(m:Int)<(n:Int):=by omega
   obtain ⟨y0,y1,y2,y3,y4,y5,y6⟩:=hy m hlt;have y7:=hb m hlt;have hle:=zQ (gG ms F) n m hlt;have HSU:Zh (upS (gG ms F) (m+1)=upS (gG ms F) m+gG ms F m):=rfl;have HC:Zh (gG ms F m=2+(ms.getD m aK).tn+bL (F m) (ms.getD m aK).bn+(ms.getD m aK).dn+(ms.getD m aK).rn+(ms.getD m aK).im+3*(ms.getD m aK).en):=rfl;have hC:=HC.o;have HM1:=zh (fun (W:qw) (K:Nat) (hK:K<=4194304) (r:Mrs S W c n ms F)=>kS S _ _ (ms.getD m aK).tc K W (r.rows m hlt).t y1 (by omega));have HM2:=zh (fun (W:qw) (K:Nat) (hK:K<=4194304) (r:Mrs S W c n ms F)=>aBa S _ _ (ms.getD m aK).bc K (F m) W (r.rows m hlt).b y7 y6 hK);have HM3:=zh (fun (W:qw) (K:Nat) (hK:K<=4194304) (r:Mrs S W c n ms F)=>aBb S _ _ (ms.getD m aK).dc K W (r.rows m hlt).d y2 (by omega));have HM5:=zh (fun (W:qw) (K:Nat) (hK:K<=4194304) (r:Mrs S W c n ms F)=>kS S _ _ (ms.getD m aK).rc K W (r.rows m hlt).r y3 (by omega));have HM6:=zh (fun (W:qw) (K:Nat) (hK:K<=4194304) (r:Mrs S W c n ms F)=>tL S _ _ (ms.getD m aK).ic K W (r.rows m hlt).i y4 (by omega));have HM7:=zh (fun (W:qw) (K:Nat) (hK:K<=4194304) (r:Mrs S W c n ms F)=>tP S _ _ (ms.getD m aK).ec K W (r.rows m hlt).e y5 hK);have HAT:=zh (fun (W:qw) (r:Mrs S W c n ms F)=>r.at m hlt);clear HC;generalize upS (gG ms F) m=sm at *;generalize bL (F m) (ms.getD m aK).bn=sb at *;generalize gG ms F m=cm at *;generalize ms.getD m aK=q at *;obtain ⟨nm,ta,tn,tc,tz,ba,bn,bc,bl,da,dn,dc,dz,bss,ra,rn,rc,rz,ia,im,ic,ss,ea,en,ec,es⟩:=q;dsimp only at *;have HR:=zh R;clear R;have HM:=zh M;clear M;go_wp2_with fail
   refine (jH (k+sm) wr (by omega)).mono ?_;rintro e w1 ⟨s,rfl,hs,hb1⟩;have R1:=HR.o.kept (Mkd.bw hb1);have M1:=HM.o.trans (Mkd.bw hb1);clear HR HM hb1;obtain ⟨⟨u0,p0⟩,p1,p2,p3,⟨u4,p4⟩,p5,p6,p7,pf⟩:=HAT.o _ R1;have f0:=pf (m*8);have R2:=R1.set m 0 (.inl rfl) (.string s);simp only [Nat.add_zero] at R2;have M2:=M1.set c (m*8) (.string s) (.inr rfl);clear R1 M1 p1 p2 p3 p4 p5 p6 p7 pf;obtain ⟨_,q1,_⟩:=HAT.o _ R2;go_wp2_with fail
   refine (HM1.o _ (k+sm+1) (by omega) R2).mono ?_;rintro e w2 ⟨rfl,N⟩;have R3:=R2.kept N;have M3:=M2.trans (N.mono (fun j hj=>.inl hj));clear R2 M2 N q1 p0 f0;obtain ⟨_,_,q2,_⟩:=HAT.o _ R3;go_wp2_with fail
   refine (HM2.o _ (k+sm+1+tn) (by omega) R3).mono ?_;rintro e w3 ⟨rfl,N⟩;have R4:=R3.kept N;have M4:=M3.trans (N.mono (fun j hj=>.inl hj));clear R3 M3 N q2;obtain ⟨_,_,_,q3,_⟩:=HAT.o _ R4;go_wp2_with fail
   refine (HM3.o _ (k+sm+1+tn+sb) (by omega) R4).mono ?_;rintro e w4 ⟨rfl,N⟩;have R5:=R4.kept N;have M5:=M4.trans (N.mono (fun j hj=>.inl hj));clear R4 M4 N q3;obtain ⟨_,_,_,_,⟨u4,q4⟩,_,_,_,qf⟩:=HAT.o _ R5;have f4:=qf (m*8+4);have R6:=R5.set m 4 (.inr rfl) (qI ((k+sm+1+tn+sb+dn:Nat):Int));have M6:=M5.set c (m*8+4) (qI ((k+sm+1+tn+sb+dn:Nat):Int)) (.inr rfl);clear R5 M5 qf;obtain ⟨_,_,_,_,_,q5,_⟩:=HAT.o _ R6;go_wp2_with fail
   refine (HM5.o _ (k+sm+1+tn+sb+dn+1) (by omega) R6).mono ?_;rintro e w5 ⟨rfl,N⟩;have R7:=R6.kept N;have M7:=M6.trans (N.mono (fun j hj=>.inl hj));clear R6 M6 N q5 q4 f4;obtain ⟨_,_,_,_,_,_,q6,_⟩:=HAT.o _ R7;go_wp2_with fail
   refine (HM6.o _ (k+sm+1+tn+sb+dn+1+rn) (by omega) R7).mono ?_;rintro e w6 ⟨rfl,N⟩;have R8:=R7.kept N;have M8:=M7.trans (N.mono (fun j hj=>.inl hj));clear R7 M7 N q6;obtain ⟨_,_,_,_,_,_,_,q7,_⟩:=HAT.o _ R8;go_wp2_with fail
   refine (HM7.o _ (k+sm+1+tn+sb+dn+1+rn+im) (by omega) R8).mono ?_;rintro e w7 ⟨rfl,N⟩;have R9:=zh (R8.kept N);have M9:=zh (M8.trans (N.mono (fun j hj=>.inl hj)));clear R8 M8 N q7;go_wp2
   go_roundw
   .exact ⟨m+1,by omega,by go_num,by rw [HSU.o];go_num,R9.o,M9.o⟩
   .simp [intOf];omega
  .have e:Zh (m=n):=by show m=n;omega
   have HX:=zh M;clear R M;go_wp2;go_ret;exact ⟨aI (by rw [e.o]),HX.o⟩
structure Hd where
 a1:qO
 tn:Nat
 c1:Nat
 a2:qO
 bn:Nat
 c2:Nat
 f:Nat->qO×Nat×Nat
 a3:qO
 dn:Nat
 c3:Nat
 a5:qO
 rn:Nat
 c5:Nat
 a6:qO
 im:Nat
 c6:Nat
 a7:qO
 en:Nat
 c7:Nat
structure Ct where
 nm:ByteArray
 T:List Int
 X:Nat->List Int
 D:List Int
 s:Int
 R:List Int
 I:List ByteArray
 E:List Ex
def zHd:Hd:=⟨none,0,0,none,0,0,fun _=>(none,0,0),none,0,0,none,0,0,none,0,0,none,0,0⟩
def clH (x:Hd×Ct):List Value:=[.string x.2.nm,qS x.1.a1 x.1.tn x.1.c1,qS x.1.a2 x.1.bn x.1.c2,qS x.1.a3 x.1.dn x.1.c3,qI x.2.s,qS x.1.a5 x.1.rn x.1.c5,qS x.1.a6 x.1.im x.1.c6,qS x.1.a7 x.1.en x.1.c7]
abbrev M6h (W:qw)(base:Nat)(x:Hd×Ct):Prop:=M6 W base (qS x.1.a1 x.1.tn x.1.c1) (qS x.1.a3 x.1.dn x.1.c3) (qS x.1.a5 x.1.rn x.1.c5) (qS x.1.a6 x.1.im x.1.c6) (qS x.1.a7 x.1.en x.1.c7) x.1.a2 x.1.bn x.1.f x.2.T x.2.X x.2.D x.2.R x.2.I x.2.E
def Sh (h:Hd)(j:Nat):Prop:=(qS h.a1 h.tn h.c1).ownBlock=some j\/Sr h.f h.bn j\/(qS h.a3 h.dn h.c3).ownBlock=some j\/(qS h.a5 h.rn h.c5).ownBlock=some j\/(qS h.a6 h.im h.c6).ownBlock=some j\/(qS h.a7 h.en h.c7).ownBlock=some j
theorem M6h.sh {W:qw}{x:Hd×Ct}(h:M6h W base x)(hj:Sh x.1 j):(base<=j/\j<W.heap.size)/\∃ cs t,Blk W j cs t/\(t=3\/t=5\/t=9\/t=163):=by
 rcases hj with e|e|e|e|e|e
 .obtain ⟨cs,k⟩:=aD h.t.1 e;exact ⟨h.t.lt j e,cs,_,k,.inl rfl⟩
 .obtain ⟨cs,k⟩:=h.b.kind e;exact ⟨h.lt.2.1 j e,cs,_,k,.inl rfl⟩
 .obtain ⟨cs,k⟩:=aD h.d.1 e;exact ⟨h.d.lt j e,cs,_,k,.inr (.inl rfl)⟩
 .obtain ⟨cs,k⟩:=aD h.r.1 e;exact ⟨h.r.lt j e,cs,_,k,.inl rfl⟩
 .obtain ⟨cs,k⟩:=aD h.i e;exact ⟨h.i.lt j e,cs,_,k,.inr (.inr (.inl rfl))⟩
 .obtain ⟨cs,k⟩:=aD h.e e;exact ⟨h.e.lt j e,cs,_,k,.inr (.inr (.inr rfl))⟩
theorem M6h.no {W:qw}{x:Hd×Ct}(h:M6h W base x)(hj:Sh x.1 j){t:TypeId}(hb:Blk W j cs t)(ht:t≠3/\t≠5/\t≠9/\t≠163):False:=by
 obtain ⟨_,cs',t',kb,h|h|h|h⟩:=h.sh hj
 all_goals
  subst h;have:=aH hb kb;simp_all
theorem M6h.kept {W W':qw}{x:Hd×Ct}(h:M6h W base x)(t:Turn S W W')(h1:∀ j,Sh x.1 j->¬ S j)(h2:∀ j cs,Blk W j cs 25->¬ S j):M6h W' base x:=
 ⟨aV t h.t (fun k hk=>h1 k (.inl hk)),h.b.kept t (fun i hi k hk=>h1 k (.inr (.inl ⟨i,hi,hk⟩))) (fun _ g cs _ hb=>h2 g cs hb),aU t h.d (fun k hk=>h1 k (.inr (.inr (.inl hk)))),aV t h.r (fun k hk=>h1 k (.inr (.inr (.inr (.inl hk))))),h.i.kept t (fun k hk=>h1 k (.inr (.inr (.inr (.inr (.inl hk)))))),h.e.kept t (fun k hk=>h1 k (.inr (.inr (.inr (.inr (.inr hk)))))),h.tr,h.tb,h.rb⟩
structure OMs (W:qw)(base:Nat)(v:Value)(L:List (Hd×Ct))(β:Nat->Nat):Prop where
 o:OG 138 8 clH W base v L
 m:∀ (i:Nat) (x:Hd×Ct),L[i]?=some x->M6h W (β i) x/\∀ j,Sh x.1 j->j<β (i+1)
 mono:∀ i k,i<=k->k<=L.length->β i<=β k
theorem dK {α:Type}{L:List α}{x:α}(h:L[i]?=some x):i<L.length:=by
 rcases Nat.lt_or_ge i L.length with h'|h'
 .exact h'
 .rw [xO h'] at h;simp at h
theorem aLh {α:Type}{L:List α}{x' x:α}(h:(L.set i x')[j]?=some x):(j=i/\x=x')\/(j≠i/\L[j]?=some x):=by
 rw [List.getElem?_set] at h;split at h
 .rename_i e;split at h
  .simp at h;exact .inl ⟨e.symm,h.symm⟩
  .simp at h
 .rename_i e;exact .inr ⟨fun q=>e q.symm,h⟩
theorem OMs.apart {W:qw}{L:List (Hd×Ct)}(H:OMs W base v L β){k:Nat}{x y:Hd×Ct}(hx:L[i]?=some x)(hy:L[k]?=some y)(hik:k≠i):∀ j,Sh y.1 j->¬ Sh x.1 j:=fun j h1 h2=>by
 have li:=dK hx;have lk:=dK hy;have a1:=(H.m i x hx).2 j h2;have a2:=((H.m i x hx).1.sh h2).1.1;have b1:=(H.m k y hy).2 j h1;have b2:=((H.m k y hy).1.sh h1).1.1;rcases Nat.lt_or_gt_of_ne hik with h|h
 .have:=H.mono (k+1) i h (by omega);omega
 .have:=H.mono (i+1) k h (by omega);omega
theorem OMs.bw {W W':qw}{L:List (Hd×Ct)}(H:OMs W base v L β)(hb:qY W W'):OMs W' base v L β:=⟨H.o.bw hb,fun i x hx=>⟨(H.m i x hx).1.bw hb,(H.m i x hx).2⟩,H.mono⟩
theorem OMs.kept {W W':qw}{L:List (Hd×Ct)}(H:OMs W base v L β)(t:Turn S W W')(h0:∀ j,v.ownBlock=some j->¬ S j)(h1:∀ (i:Nat) (x:Hd×Ct),L[i]?=some x->∀ j,Sh x.1 j->¬ S j)(h2:∀ j cs,Blk W j cs 25->¬ S j):OMs W' base v L β:=
 ⟨H.o.kept t h0,fun i x hx=>⟨(H.m i x hx).1.kept t (h1 i x hx) h2,(H.m i x hx).2⟩,H.mono⟩
theorem aG7 {α:Type}{f:α->List Value}(hf:∀ x,(f x).length=8)(v:Value)(x':α)(j:Nat)(hj:j<8):∀ (L:List α) (i:Nat) (x:α),L[i]?=some x->f x'=(f x).set j v->(L.flatMap f).set (i*8+j) v=(L.set i x').flatMap f
 | [],i,x,h,e=>by simp at h
 | y::L,0,x,h,e=>by
   simp at h;subst h;rw [List.set_cons_zero,xT,xT,e,Nat.zero_mul,Nat.zero_add];exact List.set_append_left _ _ (by rw [hf];exact hj)
 | y::L,i+1,x,h,e=>by
   rw [List.set_cons_succ,xT,xT,<- aG7 hf v x' j hj L i x (by simpa using h) e,List.set_append_right _ _ (by rw [hf];omega)];congr 2;rw [hf];omega
theorem aG8 {α:Type}{f:α->List Value}(x':α):∀ (L:List α) (i:Nat) (x:α),L[i]?=some x->f x'=f x->(L.set i x').flatMap f=L.flatMap f
 | [],i,x,h,e=>by simp at h
 | y::L,0,x,h,e=>by
   simp at h;subst h;rw [List.set_cons_zero,xT,xT,e]
 | y::L,i+1,x,h,e=>by
   rw [List.set_cons_succ,xT,xT,aG8 x' L i x (by simpa using h) e]
theorem aBm {α:Type}{f:α->List Value}(hf:∀ x,(f x).length=8):∀ (L:List α) (i:Nat) (x:α),L[i]?=some x->∀ j,j<8->(L.flatMap f)[i*8+j]?=(f x)[j]?
 | [],i,x,h,j,hj=>by simp at h
 | y::L,0,x,h,j,hj=>by
   simp at h;subst h;rw [xT,Nat.zero_mul,Nat.zero_add,List.getElem?_append_left (by rw [hf];exact hj)]
 | y::L,i+1,x,h,j,hj=>by
   rw [xT,List.getElem?_append_right (by rw [hf];omega),hf,show (i+1)*8+j-8=i*8+j by omega];exact aBm hf L i x (by simpa using h) j hj
theorem aKc {W:qw}{t:TypeId}{sz:Nat}(h:W.ownsRow base t sz (qS (qP g) n cap) n xs)(k:Nat)(v:Value):(W.setCell (qR g k) v).ownsRow base t sz (qS (qP g) n cap) n (xs.set k v):=by
 obtain ⟨hl,⟨h0,_⟩|⟨g',cap',cur,hv,hg,hh,h1,h2,h3,h4⟩⟩:=h
 .simp at h0
 .simp at hv;obtain ⟨rfl,rfl⟩:=hv;refine ⟨by simpa using hl,.inr ⟨g,cap,cur.setIfInBounds k v,rfl,hg,Blk.set (w:=W) hh k v,h1,h2,by simpa using h3,?_⟩⟩;rw [xW,List.take_set,h4]
theorem OMs.mod {W W':qw}{L:List (Hd×Ct)}{h:Hd}{c c':Ct}(H:OMs W base v L β)(hx:L[i]?=some (h,c))(M':M6h W' (β i) (h,c'))(e:clH (h,c')=clH (h,c))(hS:∀ j,S j->Sh h j)(T:Turn S W W'):OMs W' base v (L.set i (h,c')) β:=by
 have hX:=H.m i _ hx;refine ⟨?_,fun k y hy=>?_,by rw [List.length_set];exact H.mono⟩
 .have o':=H.o.kept T (fun k hk s=>by
   obtain ⟨c1,k1⟩:=aD H.o hk
   exact hX.1.no (hS k s) k1 (by decide))
  unfold OG at o' ⊢;rw [aG8 (h,c') L i (h,c) hx e,List.length_set];exact o'
 .rcases aLh hy with ⟨rfl,rfl⟩|⟨hk,hy⟩
  .exact ⟨M',hX.2⟩
  .exact ⟨(H.m k y hy).1.kept T (fun j hj s=>H.apart hx hy hk j hj (hS j s)) (fun j cs hb s=>hX.1.no (hS j s) hb (by decide)),(H.m k y hy).2⟩
theorem OMs.cell {W:qw}{L:List (Hd×Ct)}{h:Hd}{c c':Ct}(H:OMs W base (qS (qP g) n cap) L β)(hn:L.length=n)(hx:L[i]?=some (h,c))(j:Nat)(hj:j<8)(u:Value)(e:clH (h,c')=(clH (h,c)).set j u)(hM:M6h W (β i) (h,c')):OMs (W.setCell (qR g (i*8+j)) u) base (qS (qP g) n cap) (L.set i (h,c')) β:=by
 have T:=aC W g (i*8+j) u;obtain ⟨cg,kg⟩:=aD H.o (k:=g) rfl
 have k1:∀ (y:Hd×Ct) (b:Nat),M6h W b y->M6h (W.setCell (qR g (i*8+j)) u) b y:=fun y b hy=>hy.kept T (fun q hq s=>by
  subst s
  exact hy.no hq kg (by decide)) (fun q cs hb s=>by subst s;exact absurd (aH kg hb) (by decide))
 refine ⟨?_,fun k y hy=>?_,by rw [List.length_set];exact H.mono⟩
 .have o:=H.o;unfold OG at o ⊢;rw [<- aG7 (fun _=>rfl) u (h,c') j hj L i (h,c) hx e,List.length_set];rw [hn] at o ⊢;exact aKc o (i*8+j) u
 .rcases aLh hy with ⟨rfl,rfl⟩|⟨hk,hy⟩
  .exact ⟨k1 _ _ hM,(H.m k _ hx).2⟩
  .exact ⟨k1 _ _ (H.m k y hy).1,(H.m k y hy).2⟩
theorem OMs.at {W:qw}{base g n cap:Nat}{L:List (Hd×Ct)}{β:Nat->Nat}{i:Nat}{x:Hd×Ct}(H:OMs W base (qS (qP g) n cap) L β)(hx:L[i]?=some x):(W.cell? (qR g (i*8))=some (.string x.2.nm)/\W.cell? (qR g (i*8+1))=some (qS x.1.a1 x.1.tn x.1.c1)/\W.cell? (qR g (i*8+2))=some (qS x.1.a2 x.1.bn x.1.c2)/\W.cell? (qR g (i*8+3))=some (qS x.1.a3 x.1.dn x.1.c3)/\W.cell? (qR g (i*8+4))=some (qI x.2.s)/\W.cell? (qR g (i*8+5))=some (qS x.1.a5 x.1.rn x.1.c5)/\W.cell? (qR g (i*8+6))=some (qS x.1.a6 x.1.im x.1.c6)/\W.cell? (qR g (i*8+7))=some (qS x.1.a7 x.1.en x.1.c7))/\∀ j,W.frozen? (qR g j)=false:=by
 have k:∀ j,j<8->∀ u,(clH x)[j]?=some u->W.cell? (qR g (i*8+j))=some u:=fun j hj u hu=>by
  have q:=World.ownsRow.cells H.o (g:=g) rfl _ _ ((aBm (fun _=>rfl) L i x hx j hj).trans hu)
  rwa [bP,Nat.zero_add] at q
 obtain ⟨cs,kb⟩:=aD H.o (k:=g) rfl;exact ⟨⟨k 0 (by omega) _ rfl,k 1 (by omega) _ rfl,k 2 (by omega) _ rfl,k 3 (by omega) _ rfl,k 4 (by omega) _ rfl,k 5 (by omega) _ rfl,k 6 (by omega) _ rfl,k 7 (by omega) _ rfl⟩,fun j=>kb.frozen j⟩
def aY (h:Hd):Nat:=2+h.tn+bL h.f h.bn+h.dn+h.rn+h.im+3*h.en
def mkC (h:Hd)(k:Nat):Ct:=⟨mtx k,bG (k+1) h.tn,mrk (k+1+h.tn) h.f,cJ (k+1+h.tn+bL h.f h.bn) h.dn,((k+1+h.tn+bL h.f h.bn+h.dn:Nat):Int),bG (k+1+h.tn+bL h.f h.bn+h.dn+1) h.rn,fM (k+1+h.tn+bL h.f h.bn+h.dn+1+h.rn) h.im,gE (k+1+h.tn+bL h.f h.bn+h.dn+1+h.rn+h.im) h.en⟩
