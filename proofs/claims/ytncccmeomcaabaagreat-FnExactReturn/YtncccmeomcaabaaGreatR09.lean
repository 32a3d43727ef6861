import Derived.Test.YtncccmeomcaabaaGreatR08
set_option linter.all false
set_option maxHeartbeats 4000000
namespace Go.Proofs.YtncccmeomcaabaaGreat
open Go.RowKit Go.Maps
open Go.Proofs.Tryz
set_option maxRecDepth 100000
variable {a:qO}{c cap i k n:Nat}{ms':List Md}{s:ByteArray}
theorem aC0 (f:Nat->List UInt8)(s:List UInt8){k j:Nat}(h:fst? f s k=some j):∀ n,k<=n->fst? f s n=some j
 | 0,hn=>by
   obtain rfl:k=0:=by omega
   exact h
 | n+1,hn=>by
   by_cases e:k=n+1
   .subst e;exact h
   .rw [fE,aC0 f s h n (by omega)]
theorem aGa (f:Nat->List UInt8)(s:List UInt8)(h:fst? f s k=none)(e:f k=s)(hk:k<n):fst? f s n=some k:=
 aC0 f s (k:=k+1) (by rw [fE,h];simp [e]) n hk
theorem aCz (f:Nat->List UInt8)(s:List UInt8)(h:fst? f s k=none)(e:f k≠s):fst? f s (k+1)=none:=by
 rw [fE,h];simp [e]
theorem aLk (n:Nat)(ms:List Md)(k:Nat)(hk:k<n)(h:16<(ms.getD k aK).en):tbf n ms=false:=by
 unfold tbf;rw [fR (fun i=>decide ((ms.getD i aK).en<=16)) n k hk (xS (by omega))];simp
theorem aIg (n:Nat)(ms:List Md)(h4:n<=4)(h:∀ j,j<n->(ms.getD j aK).en<=16):tbf n ms=true:=by
 unfold tbf;rw [eW (fun i=>decide ((ms.getD i aK).en<=16)) n (fun j hj=>xR (h j hj)),xR h4];rfl
theorem zH (a:qO)(n cap:Nat)(ms:List Md)(s:ByteArray)(w:qw)(h:MS w a n cap ms)(hn:n<=1048576)(hs:s.size<=1048576)(hE:∀ i,i<n->ES w (ms.getD i aK).ea (ms.getD i aK).en (ms.getD i aK).ec (ms.getD i aK).es/\(ms.getD i aK).en<=1048576):
 qC 58 #[qS a n cap,.string s] w (qB w (rsv n ms s)):=by
 obtain ⟨W,hW,hB0,kb⟩:=nwb w (qT 0 0 0) 58;have HW:=zh hW;clear hW;have HF:=zh (fun w=>nA s w hs);have HD:=zh (fun w=>wR s w hs);obtain ⟨V,hV⟩:=eqx (rsv n ms s);rw [<- hV];have HV:=zh hV;clear hV
 have fin:∀ (X:qw) (x y z:Int),qY w X->Blk X w.heap.size (qT 0 0 0) 58 ->
  Blk (((X.setCell (qR w.heap.size 0) (qI x)).setCell (qR w.heap.size 1) (qI y)).setCell (qR w.heap.size 2) (qI z)) w.heap.size (qT x y z) 58/\qY w (((X.setCell (qR w.heap.size 0) (qI x)).setCell (qR w.heap.size 1) (qI y)).setCell (qR w.heap.size 2) (qI z)):=fun X x y z hB k=>by
  refine ⟨?_,((hB.setCell (p:=(qR w.heap.size 0)) aN _).setCell (p:=(qR w.heap.size 1)) aN _).setCell (p:=(qR w.heap.size 2)) aN _⟩;have:=((k.set 0 (qI x)).set 1 (qI y)).set 2 (qI z);simpa using this
 have FIN:=zh fin;clear fin;by_cases c1:4<n
 .have c1':(4:Int)<(n:Int):=by omega
  have hr:=zh (dT (n:=n) (ms:=ms) (s:=s) (by unfold rsT tbf;rw [xS (show ¬ n<=4 by omega)];simp));obtain ⟨k2,hB2⟩:=FIN.o W 0 0 0 hB0 kb;obtain ⟨q1,q2,q3,q4⟩:=kb.three;obtain ⟨s1,s2,s3,s4⟩:=k2.three;have HX:=zh hB2;clear hB2 hB0 kb k2;go_enter func58,ntmps58
  go_wp2_with (rw [<- HW.o])
  exact bodyPost_ret (v:=.tuple #[.agg (qT 0 0 0),.bool false]) (by simp [results,results58,go_sem,s1,s2,s3]) rfl ⟨by rw [HV.o,hr.o],HX.o⟩
 .have c1':¬ (4:Int)<(n:Int):=by omega
  cases hf:fD s
  .rw [hf] at HF;have hr:=zh (dT (n:=n) (ms:=ms) (s:=s) (by unfold rsT;rw [hf];simp));obtain ⟨k2,hB2⟩:=FIN.o W 0 0 0 hB0 kb;obtain ⟨q1,q2,q3,q4⟩:=kb.three;obtain ⟨s1,s2,s3,s4⟩:=k2.three;have HX:=zh hB2;clear hB2 hB0 kb k2;go_enter func58,ntmps58
   go_wp2_with (first|(rw [<- HW.o])|(go_at_call 113;refine (HF.o _).mono ?_;rintro e w1 ⟨rfl,rfl⟩))
   exact bodyPost_ret (v:=.tuple #[.agg (qT 0 0 0),.bool false]) (by simp [results,results58,go_sem,s1,s2,s3]) rfl ⟨by rw [HV.o,hr.o],HX.o⟩
  .rw [hf] at HF
   have hdot:0<=dot s/\dot s<s.size:=by
    rcases lF s with h0|h0
    .exfalso;unfold fD at hf;rw [h0] at hf;simp at hf
    .exact h0
   have HT:Zh (tbf n ms=true->rsT n ms s=(fst? (cS ms) (dG s).data.toList n).bind fun i=>(fst? (fL (ms.getD i aK).es) (eE s).data.toList (ms.getD i aK).en).map fun k=>(i,k)):=fun htb=>by unfold rsT;rw [hf,htb];simp
   have HTN:Zh (tbf n ms=false->rsT n ms s=none):=fun htb=>by unfold rsT;rw [htb];simp
   clear hf;go_enter func58,ntmps58
   go_wp2_with (first|(rw [<- HW.o])|(go_at_call 113;refine (HF.o _).mono ?_;rintro e w1 ⟨rfl,rfl⟩))
   go_loopw [6] (fun i wr=>∃ k:Nat,k<=n/\i=qI k/\Hid (∀ j,j<k->(ms.getD j aK).en<=16)/\qY w wr/\Blk wr w.heap.size (qT 0 0 0) 58) (qf n)
   .exact ⟨0,xC _,rfl,zh (fun j hj=>by omega),hB0,kb⟩
   .obtain ⟨k,hk,rfl,HJ,hB,kw⟩:=hrel;clear hB0 kb;by_cases hlt:k<n
    .have hlt':(k:Int)<(n:Int):=by omega
     obtain ⟨bb,off,rfl,q0,q1,q2,q3,q4,q5,q6,q7⟩:=(h.bw hB).at k hlt
     have HG:=zh (show (ms.getD k aK).en<=16->∀ j,j<k+1->(ms.getD j aK).en<=16 from fun h j hj=>by
      by_cases e:j=k
      .subst e;exact h
      .exact HJ.out j (by omega))
     have HB:=zh (aLk n ms k hlt);generalize ms.getD k aK=m at *;obtain ⟨nm,ta,tn,tc,tz,ba,bn,bc,bl,da,dn,dc,dz,bss,ra,rn,rc,rz,ia,im,ic,ss,ea,en,ec,es⟩:=m;dsimp only at q0 q1 q2 q3 q4 q5 q6 q7 HB HG;by_cases d:16<en
     .have d':(16:Int)<(en:Int):=by omega
      have hr:=zh (dT (HTN.o (HB.o d)));obtain ⟨k2,hB2⟩:=FIN.o wr 0 0 0 hB kw;obtain ⟨p1,p2,p3,p4⟩:=kw.three;obtain ⟨s1,s2,s3,s4⟩:=k2.three;have HX:=zh hB2;clear hB2 hB kw k2 q0 q1 q2 q3 q4 q5 q6;go_wp2;exact bodyPost_ret (v:=.tuple #[.agg (qT 0 0 0),.bool false]) (by simp [results,results58,go_sem,s1,s2,s3]) rfl ⟨by rw [HV.o,hr.o],HX.o⟩
     .have d':¬ (16:Int)<(en:Int):=by omega
      clear q0 q1 q2 q3 q4 q5 q6;go_wp2
      go_roundw
      .exact ⟨k+1,by omega,by go_num,zh (HG.o (by omega)),hB,kw⟩
      .simp [qf,intOf];omega
    .have hkn:k=n:=by omega
     subst hkn;have HT2:=zh (HT.o (aIg k ms (by omega) HJ.out));clear HT HTN HJ hk hlt;unfold dG eE at HT2;generalize dot s=p at *;obtain ⟨p0,p1⟩:=hdot;go_wp2_with (go_at_call 114;refine (HD.o _).mono ?_;rintro e w1 ⟨rfl,rfl⟩)
     go_loopw [8] (fun i wx=>∃ j:Nat,j<=k/\i=qI j/\Hid (fst? (cS ms) (s.extract 0 p.toNat).data.toList j=none)/\qY w wx/\Blk wx w.heap.size (qT 0 0 0) 58) (qf k)
     .exact ⟨0,xC _,rfl,zh rfl,hB,kw⟩
     .obtain ⟨j,hj,rfl,HJ,hBx,kx⟩:=hrel;clear hB kw;by_cases hlt:j<k
      .have hlt':(j:Int)<(k:Int):=by omega
       obtain ⟨bb,off,rfl,q0,q1,q2,q3,q4,q5,q6,q7⟩:=(h.bw hBx).at j hlt;have HMS:=zh (fun e=>aCz (cS ms) (s.extract 0 p.toNat).data.toList HJ.out e);have HHT:=zh (fun e=>aGa (cS ms) (s.extract 0 p.toNat).data.toList HJ.out e hlt);obtain ⟨e1,e2⟩:=hE j hlt;have e3:=e1.bw hBx;clear e1;have HRS:=zh (fun i (h:rsT k ms s=some (j,i))=>aBz h);have HT3:Zh (cS ms j=(s.extract 0 p.toNat).data.toList->rsT k ms s=(fst? (fL (ms.getD j aK).es) (s.extract (p+1).toNat s.size).data.toList (ms.getD j aK).en).map (fun i=>(j,i))):=fun e=>by rw [HT2.o,HHT.o e];rfl
       have HNM:Zh (cS ms j=(ms.getD j aK).nm.data.toList):=rfl;clear HHT HJ;generalize cS ms j=mj at *;generalize ms.getD j aK=m at *;obtain ⟨nm,ta,tn,tc,tz,ba,bn,bc,bl,da,dn,dc,dz,bss,ra,rn,rc,rz,ia,im,ic,ss,ea,en,ec,es⟩:=m;dsimp only at q0 q1 q2 q3 q4 q5 q6 q7 e2 e3 HRS HT3 HNM;cases hq:(nm.toList==(s.extract 0 p.toNat).toList)
       .have hne:=zh (show mj≠(s.extract 0 p.toNat).data.toList from fun e=>by
         rw [HNM.o] at e;rw [ByteArray.toList_eq,ByteArray.toList_eq,e] at hq
         simp at hq)
        clear q1 q2 q3 q4 q5 q6 q7;go_wp2_with fail
        go_quiet (fail)
        go_wp2
        go_roundw
        .exact ⟨j+1,by omega,by go_num,zh (HMS.o hne.o),below_drewN hBx nq,kx.bw (below_drewN brf nq)⟩
        .simp [qf,intOf];omega
       .have HT4:=zh (HT3.o (by
         rw [HNM.o];rw [ByteArray.toList_eq,ByteArray.toList_eq] at hq
         simpa using hq))
        clear HT3 HT2 HMS HNM;clear q1 q2 q3 q4 q5 q6;go_wp2_with fail
        go_quiet (fail)
        have q7':(wr.drewN nq).cell? (qR bb (off+j*8+7))=some (qS ea en ec):=((below_drewN (Below.refl wr.heap.size wr) nq).cell (xD wr _ q7)).trans q7;have e4:=e3.bw (below_drewN (Below.refl wr.heap.size wr) nq);have hB4:=below_drewN hBx nq;have k4:=kx.bw (below_drewN (Below.refl wr.heap.size wr) nq);clear q0 q7 e3 hBx kx;generalize wr.drewN nq=w4 at *;go_wp2;go_loopw [9] (fun i wy=>∃ l:Nat,l<=en/\i=qI l/\Hid (fst? (fL es) (s.extract (p+1).toNat s.size).data.toList l=none)/\qY w4 wy) (qf en)
        .exact ⟨0,xC _,rfl,zh rfl,brf⟩
        .obtain ⟨l,hl,rfl,HL,hby⟩:=hrel;have q7:wr.cell? (qR bb (off+j*8+7))=some (qS ea en ec):=(hby.cell (xD w4 _ q7')).trans q7';have hB5:=hB4.trans (hby.mono hB4.size);have k5:=k4.bw hby;by_cases hln:l<en
         .have hln':(l:Int)<(en:Int):=by omega
          have e5:=e4.bw hby;obtain ⟨eb,eo,rfl⟩:=e5.addr (by omega);obtain ⟨x0,x1,x2⟩:=e5.at l hln;have HMS:=zh (fun e=>aCz (fL es) (s.extract (p+1).toNat s.size).data.toList HL.out e);have HHT:=zh (fun e=>aGa (fL es) (s.extract (p+1).toNat s.size).data.toList HL.out e hln);have HNM:Zh (fL es l=(es.getD l zE).1.data.toList):=rfl;have HR2:=zh (HRS.o l);generalize fL es l=xl at *;generalize es.getD l zE=E at *;obtain ⟨xn,xb,xa⟩:=E;dsimp only at x0 x1 x2 HNM HR2;have hbz:qY wr (wr.alloc (.cells #[.string xn,qI xb,qI xa] 163)):=bal;have kE:=Blk.new wr #[.string xn,qI xb,qI xa] 163;have k6:=k5.bw hbz;have hB6:=hB5.trans (hbz.mono hB5.size);have hby6:=hby.trans (hbz.mono hby.size);clear hB5 k5;obtain ⟨z1,z2,z3,z4⟩:=kE.three;cases hq2:(xn.toList==(s.extract (p+1).toNat s.size).toList)
          .have hne:=zh (show xl≠(s.extract (p+1).toNat s.size).data.toList from fun e=>by
            rw [HNM.o] at e;rw [ByteArray.toList_eq,ByteArray.toList_eq,e] at hq2
            simp at hq2)
           go_wp2_with fail
           go_quiet (fail)
           go_wp2
           go_roundw
           .exact ⟨l+1,by omega,by go_num,zh (HMS.o hne.o),below_drewN hby6 nq⟩
           .simp [qf,intOf];omega
          .have hr:=zh (HR2.o (by
            rw [HT4.o,HHT.o (by
             rw [HNM.o];rw [ByteArray.toList_eq,ByteArray.toList_eq] at hq2
             simpa using hq2)]
            rfl))
           go_wp2_with fail
           go_quiet (fail)
           have k7:=k6.bw (below_drewN brf nq);have kE7:=kE.bw (below_drewN brf nq);have hB7:=below_drewN hB6 nq;generalize (wr.alloc (.cells #[.string xn,qI xb,qI xa] 163)).drewN nq=w7 at *;clear z1 z2 z3 z4 k6 kE hB6 hby6 hbz;obtain ⟨z1,z2,z3,z4⟩:=kE7.three;obtain ⟨k8,hB8⟩:=FIN.o w7 j xb xa hB7 k7;obtain ⟨g1,g2,g3,g4⟩:=k7.three;obtain ⟨s1,s2,s3,s4⟩:=k8.three;have HX:=zh hB8;clear hB8 hB7 k7 k8 kE7;go_wp2;exact bodyPost_ret (v:=.tuple #[.agg (qT j xb xa),.bool true]) (by simp [results,results58,go_sem,s1,s2,s3]) rfl ⟨by rw [HV.o,hr.o],HX.o⟩
         .have hle:l=en:=by omega
          subst hle;have hr:=zh (dT (n:=k) (ms:=ms) (s:=s) (by rw [HT4.o,HL.out];rfl));obtain ⟨k8,hB8⟩:=FIN.o wr 0 0 0 hB5 k5;obtain ⟨g1,g2,g3,g4⟩:=k5.three;obtain ⟨s1,s2,s3,s4⟩:=k8.three;have HX:=zh hB8;clear hB8 hB5 k5 k8;go_wp2;exact bodyPost_ret (v:=.tuple #[.agg (qT 0 0 0),.bool false]) (by simp [results,results58,go_sem,s1,s2,s3]) rfl ⟨by rw [HV.o,hr.o],HX.o⟩
      .have hjk:j=k:=by omega
       subst hjk;have hr:=zh (dT (n:=j) (ms:=ms) (s:=s) (by rw [HT2.o,HJ.out];rfl));obtain ⟨k8,hB8⟩:=FIN.o wr 0 0 0 hBx kx;obtain ⟨g1,g2,g3,g4⟩:=kx.three;obtain ⟨s1,s2,s3,s4⟩:=k8.three;have HX:=zh hB8;clear hB8 hBx kx k8;go_wp2;exact bodyPost_ret (v:=.tuple #[.agg (qT 0 0 0),.bool false]) (by simp [results,results58,go_sem,s1,s2,s3]) rfl ⟨by rw [HV.o,hr.o],HX.o⟩
theorem wZ {f g:Nat->List UInt8}{s:List UInt8}:∀ k,(∀ i,i<k->f i=g i)->fst? f s k=fst? g s k
 | 0,_=>rfl
 | k+1,h=>by rw [fE,fE,wZ k (fun i hi=>h i (by omega)),h k (by omega)]
theorem jP {f g:Nat->Bool}:∀ n,(∀ i,i<n->f i=g i)->(List.range n).all f=(List.range n).all g
 | 0,_=>rfl
 | n+1,h=>by rw [List.range_succ,List.all_append,List.all_append,jP n (fun i hi=>h i (by omega))];simp [h n (by omega)]
def aPy (n:Nat)(ms ms':List Md):Prop:=∀ i,i<n->(ms'.getD i aK).nm=(ms.getD i aK).nm/\(ms'.getD i aK).en=(ms.getD i aK).en/\(ms'.getD i aK).es=(ms.getD i aK).es
theorem aOg {ms:List Md}(h:rsT n ms s=some (i,k)):i<n:=by
 unfold rsT at h;split at h
 .cases hf:fst? (cS ms) (dG s).data.toList n with
  | none=>rw [hf] at h;cases h
  | some j=>
    rw [hf] at h;simp at h;obtain ⟨k',h1,rfl,rfl⟩:=h;exact tM _ _ _ _ hf
 .cases h
theorem aG6 {ms:List Md}(h:aPy n ms ms'):rsT n ms' s=rsT n ms s:=by
 unfold rsT
 have e1:tbf n ms'=tbf n ms:=by
  unfold tbf;rw [jP n (fun i hi=>by rw [(h i hi).2.1])]
 have e2:fst? (cS ms') (dG s).data.toList n=fst? (cS ms) (dG s).data.toList n:=wZ n (fun i hi=>by unfold cS;rw [(h i hi).1]);rw [e1,e2];cases hf:fst? (cS ms) (dG s).data.toList n with
 | none=>rfl
 | some j=>
   obtain ⟨_,h2,h3⟩:=h j (tM _ _ _ _ hf);simp only [Option.bind_some];rw [h2,h3]
theorem RowM.ms {W w:qw}{ms:List Md}(h:RowM W c n ms ms')(hl:ms'.length=n)(hm:MS w a n cap ms):MS W (qP c) n n ms':=by
 obtain ⟨_,_,hr⟩:=h;refine ⟨hl,hm.2.1,fun _=>⟨c,0,rfl,fun i hi=>?_⟩,fun i hi=>aGh (hm.2.2.2.1 i hi) (hr i (by omega)).2,aN⟩;rw [Nat.zero_add];exact (hr i (by omega)).1
theorem RowM.same {W W':qw}{c':Nat}{ms x y:List Md}{w:qw}(hm:MS w a n cap ms)(h:RowM W c n ms x)(hl:x.length=n)(h':RowM W' c' n ms y)(hl':y.length=n):∀ i,i<n->aLf (x.getD i aK) (y.getD i aK):=fun i hi=>
 aBw (hm.2.2.2.1 i hi).b.1 (h.2.2 i (by omega)).2 (h'.2.2 i (by omega)).2
def cfo (s w k d:Int):Bool:=decide (0<=s/\s<=4/\1<=w/\w<=64/\0<=k/\k<=1024/\k%32=0/\0<=d/\d<=100)
theorem aCx (x:Int)(w:qw):
 qC 226 #[qI x] w fun e w'=>e=.returned (.bool (decide (0<=x/\x%32=0)))/\w=w':=by
 go_enter func226,ntmps226
 go_wp2
 all_goals
  go_ret;refine ⟨aA ?_,rfl⟩;rw [xJ];simp;try omega
theorem aIe (v m:Int)(w:qw):
 qC 155 #[qI v,qI m] w fun e w'=>e=.returned (.bool (decide (0<=v/\v<=m)))/\w=w':=by
 go_enter func155,ntmps155
 go_wp2
 all_goals
  go_ret;refine ⟨aA ?_,rfl⟩;rw [xJ];simp;try omega
theorem uZ (s c k d:Int)(w:qw):
 qC 180 #[.agg (qW s c k d)] w (qB w (.bool (cfo s c k d))):=by
 have HB:=zh ((Below.refl w.heap.size w).alloc aN (.cells (qW s c k d) 37));go_enter func180,ntmps180
 go_wp2
 all_goals
  go_ret;refine ⟨aA ?_,HB.o⟩;unfold cfo;rw [xJ];simp;try omega
theorem vO (s c k d:Int)(w:qw):
 qC 210 #[.agg (qW s c k d)] w (qB w (.bool (cfo s c k d))):=by
 have HB:=zh ((Below.refl w.heap.size w).alloc aN (.cells (qW s c k d) 37));have HF:∀ b:Bool,b=cfo s c k d ↔ (b=true ↔ (0<=s/\s<=4/\1<=c/\c<=64/\0<=k/\k<=1024/\k%32=0/\0<=d/\d<=100)):=fun b=>by unfold cfo;rw [xJ];simp
 have HF:=zh HF;go_enter func210,ntmps210
 go_wp2_with (first
  | (go_at_call 226;refine (aCx _ _).mono ?_;rintro e w1 ⟨rfl,rfl⟩)
  | (go_at_call 155;refine (aIe _ _ _).mono ?_;rintro e w1 ⟨rfl,rfl⟩))
 all_goals
  go_ret;refine ⟨aA ?_,HB.o⟩;rw [HF.o];simp_all;try omega
theorem yT (s c k d:Int)(w:qw):
 qC 33 #[.agg (qW s c k d)] w (qB w (.agg (qW s c k d))):=by
 go_enter func33,ntmps33
 go_wp2;refine bodyPost_ret (v:=.agg (qW s c k d)) (by simp [results,results33,go_sem]) rfl ⟨rfl,?_⟩;exact ((bal.alloc (by simp) _).alloc (by simp;omega) _)
def Md.pm (m:Md):PMod:=⟨m.nm,m.tz,m.bl.map (fun B=>B.2.2.2),m.dz,m.bss,m.rz,m.ss,m.es⟩
def zP:PMod:=⟨⟨#[]⟩,[],[],[],0,[],[],[]⟩
def dm (P:PMod):Md:=⟨P.nm,none,P.tz.length,P.tz.length,P.tz,none,P.bl.length,P.bl.length,lM P.bl,none,P.dz.length,P.dz.length,P.dz,P.bss,none,P.rz.length,P.rz.length,P.rz,none,P.ss.length,P.ss.length,P.ss,none,P.es.length,P.es.length,P.es⟩
def Md.md (m:Md)(w:qw):Prop:=MD w m.nm m.ta m.tn m.tc m.tz m.ba m.bn m.bc m.bl m.da m.dn m.dc m.dz m.bss m.ra m.rn m.rc m.rz m.ia m.im m.ic m.ss m.ea m.en m.ec m.es
theorem aJ4 {m:Md}{w:qw}(h:m.md w):mdo m.nm m.tn m.tz m.bn m.bl m.dn m.bss m.rn m.rz m.im m.ss m.en m.es=fA m.pm:=by
 have hb:=h.b.1;have e:m.pm.bl.length=m.bn:=by simp [Md.pm,hb]
 unfold fA;rw [show m.pm.tz.length=m.tn from h.t.1,show m.pm.dz.length=m.dn from h.d.1,show m.pm.rz.length=m.rn from h.r.1,show m.pm.ss.length=m.im from h.i.1,show m.pm.es.length=m.en from h.e.1,e,<- hb];refine aMi (by rw [hb];simp [lM,e]) (fun i hi=>?_);have hr:=(h.b.2.2.2.1 i (by omega)).1
 have e2:(lM m.pm.bl).getD i zB=(none,(m.bl.getD i zB).2.2.2.length,(m.bl.getD i zB).2.2.2.length,(m.bl.getD i zB).2.2.2):=by
  simp [lM,Md.pm,xB,hi]
 rw [e2];exact ⟨hr.symm,rfl⟩
abbrev Tg:=Int×Int×Int
def gZ (ps:List PMod)(s:ByteArray):Option Tg:=(rsT ps.length (ps.map dm) s).map fun x=>((x.1:Int),((ps.getD x.1 zP).es.getD x.2 zE).2.1,((ps.getD x.1 zP).es.getD x.2 zE).2.2)
def tgV:Option Tg->Value
 | some t=>.tuple #[.agg (qT t.1 t.2.1 t.2.2),.bool true]
 | none=>.tuple #[.agg (qT 0 0 0),.bool false]
theorem fC {α β:Type}(f:α->β)(l:List α)(i:Nat)(a:α)(b:β)(h:i<l.length:=by omega):(l.map f).getD i b=f (l.getD i a):=by
 simp [xB,h]
theorem aI3 {ms:List Md}(hl:ms.length=n)(he:∀ i,i<n->(ms.getD i aK).es.length=(ms.getD i aK).en):rsv n ms s=tgV (gZ (ms.map Md.pm) s):=by
 have hr:rsT (ms.map Md.pm).length ((ms.map Md.pm).map dm) s=rsT n ms s:=by
  rw [xH,hl];refine aG6 (fun i hi=>?_);rw [List.map_map,fC _ _ _ aK _];exact ⟨rfl,by rw [<- he i hi];rfl,rfl⟩
 unfold gZ rsv;rw [hr];cases e:rsT n ms s with
 | none=>rfl
 | some x=>
   obtain ⟨i,k⟩:=x;have hi:=aOg e;have hg:(ms.map Md.pm).getD i zP=(ms.getD i aK).pm:=fC _ _ _ aK _;simp only [Option.map_some,tgV,hg];rfl
def zT:Tg:=(0,0,0)
abbrev pJ (ps:List PMod)(P:PMod):Prop:=∀ i,i<P.ss.length->(gZ ps (P.ss.getD i zS)).isSome=true
def tgs (ps:List PMod)(P:PMod):List Tg:=(List.range P.ss.length).map fun i=>(gZ ps (P.ss.getD i zS)).getD zT
def rnd (x:Int):Int:=(x+31)/32*32
def cA (P:PMod):Nat->Int
 | 0=>0
 | k+1=>cA P k+rnd (4*((P.bl.getD k []).length:Int))
def tsz (P:PMod):Int:=rnd (4*(P.tz.length:Int))
def msz (P:PMod):Int:=tsz P+cA P P.bl.length
def dsz (P:PMod):Int:=rnd ((P.dz.length:Int)+P.bss)
def Fl (ps:List PMod):Nat->Int
 | 0=>0
 | i+1=>Fl ps i+msz (ps.getD i zP)
def Ra (ps:List PMod):Nat->Int
 | 0=>0
 | i+1=>Ra ps i+dsz (ps.getD i zP)
structure Pl where
 text:Int
 banks:List Int
 data:Int
 size:Int
def plc (ps:List PMod)(i:Nat):Pl:=⟨Fl ps i,(List.range (ps.getD i zP).bl.length).map fun k=>Fl ps i+tsz (ps.getD i zP)+cA (ps.getD i zP) k,65536+Ra ps i,dsz (ps.getD i zP)⟩
structure Lay where
 places:List Pl
 stack:Int
 slots:List Int
 flash:Int
 ram:Int
 targets:List (List Tg)
abbrev qL (L:Lay)(a:Option Addr)(b c:Nat)(d:Option Addr)(e f:Nat)(g:Option Addr)(h i:Nat):Array Value:=#[.slice a b c,.int .i64 L.stack,.slice d e f,.int .i64 L.flash,.int .i64 L.ram,.slice g h i]
abbrev qJ {α β:Type}(L:Lay)(a:qO)(xs:List α)(c:Nat)(d:qO)(f:Nat)(g:qO)(ts:List β)(i:Nat):Array Value:=qL L a xs.length c d L.slots.length f g ts.length i
def slt (ps:List PMod)(w k:Int)(i:Nat):Int:=65536+Ra ps ps.length+k+(i:Int)*rnd (4*w)
def lay (ps:List PMod)(s w k:Int):Lay:=⟨(List.range ps.length).map (plc ps),65536+Ra ps ps.length,(List.range s.toNat).map (slt ps w k),Fl ps ps.length,Ra ps ps.length+k+(s.toNat:Int)*rnd (4*w),(List.range ps.length).map fun i=>tgs ps (ps.getD i zP)⟩
abbrev fO (ps:List PMod):Prop:=∀ i,i<ps.length->fA (ps.getD i zP)=0
abbrev nms (ps:List PMod):Prop:=∀ i,i<ps.length->∀ k,k<i->(ps.getD k zP).nm≠(ps.getD i zP).nm
abbrev jQ (ps:List PMod):Prop:=∀ i,i<ps.length->pJ ps (ps.getD i zP)
abbrev jT (ps:List PMod)(w:Int):Prop:=∀ i,i<ps.length->∀ k,k<(ps.getD i zP).bl.length->(((ps.getD i zP).bl.getD k []).length:Int)<=w
def dS (ps:List PMod)(s w k d:Int):Int:=
 if cfo s w k d=false then 1 else if ps.length<1\/4<ps.length then 2 else if ¬ fO ps then 3 else if ¬ nms ps then 4 else 0
def lkc (ps:List PMod)(s w k d:Int):Int:=
 if dS ps s w k d≠0 then dS ps s w k d else if ¬ jQ ps then 5 else if 0<s/\¬ jT ps w then 6 else if 16384<(lay ps s w k).flash then 7 else if 16384<(lay ps s w k).ram then 8 else 0
structure MSD (w:qw)(a:qO)(n cap:Nat)(ms:List Md):Prop where
 s:MS w a n cap ms
 d:∀ i,i<n->(ms.getD i aK).md w
theorem MSD.bw {w w':qw}{ms:List Md}(h:MSD w a n cap ms)(hb:qY w w'):MSD w' a n cap ms:=⟨h.s.bw hb,fun i hi=>MD.bw (h.d i hi) hb⟩
def aE (ms:List Md):List PMod:=ms.map Md.pm
theorem bQ (ms:List Md):(aE ms).length=ms.length:=by simp [aE]
theorem cG {ms:List Md}(h:i<ms.length:=by omega):(aE ms).getD i zP=(ms.getD i aK).pm:=fC _ _ _ aK _ h
def L0:Lay:=⟨[],0,[],0,0,[]⟩
def lkL (ps:List PMod)(s w k d:Int):Lay:=if lkc ps s w k d=0 then lay ps s w k else L0
