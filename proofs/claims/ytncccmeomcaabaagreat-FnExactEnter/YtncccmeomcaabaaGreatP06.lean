import Derived.Deep.RegionLaw
import Derived.Deep.AppendLies
import Derived.Laws.EntriesVeiled
import Derived.Test.YtncccmeomcaabaaGreatP05
set_option maxHeartbeats 4000000
namespace Go.Proofs.YtncccmeomcaabaaGreat
open Go.RowKit Go.Maps
set_option linter.all false
set_option maxRecDepth 100000
variable {G:Prop}{P:PMod}{S:Nat->Prop}{V c d k s w:Int}{a a0 a5:qO}{b:ByteArray}{base c0 c5 cap i lo' n:Nat}{cs:Array Value}{m:Md}{ms':List Md}{ps:List PMod}{row:Option Nat}{v:Value}
theorem aDc (f:Nat->List UInt8)(s:List UInt8){k j:Nat}(h:fst? f s k=some j):∀ n,k<=n->fst? f s n=some j
 | 0,hn=>by
   obtain rfl:k=0:=by omega
   exact h
 | n+1,hn=>by
   by_cases e:k=n+1
   .subst e;exact h
   .rw [fF,aDc f s h n (by omega)]
theorem aGq (f:Nat->List UInt8)(s:List UInt8){k:Nat}(h:fst? f s k=none)(e:f k=s)(hk:k<n):fst? f s n=some k:=
 aDc f s (k:=k+1) (by rw [fF,h];simp [e]) n hk
theorem aDb (f:Nat->List UInt8)(s:List UInt8){k:Nat}(h:fst? f s k=none)(e:f k≠s):fst? f s (k+1)=none:=by
 rw [fF,h];simp [e]
theorem aL0 (n:Nat)(ms:List Md)(k:Nat)(hk:k<n)(h:16<(ms.getD k aK).en):tbf n ms=false:=by
 unfold tbf;rw [fS (fun i=>decide ((ms.getD i aK).en<=16)) n k hk (xS (by omega))];simp
theorem aI0 (n:Nat)(ms:List Md)(h4:n<=4)(h:∀ j,j<n->(ms.getD j aK).en<=16):tbf n ms=true:=by
 unfold tbf;rw [eY (fun i=>decide ((ms.getD i aK).en<=16)) n (fun j hj=>xR (h j hj)),xR h4];rfl
theorem aAa (a:qO)(n cap:Nat)(ms:List Md)(s:ByteArray)(w:qw)(h:MS w a n cap ms)(hn:n<=1048576)(hs:s.size<=1048576)(hE:∀ i,i<n->ES w (ms.getD i aK).ea (ms.getD i aK).en (ms.getD i aK).ec (ms.getD i aK).es/\(ms.getD i aK).en<=1048576):
 qC 58 #[qS a n cap,.string s] w (qB w (rsv n ms s)):=by
 obtain ⟨W,hW,hB0,kb⟩:=nwb w (qT 0 0 0) 58;have HW:=zh hW;clear hW;have HF:=zh (fun w=>nG s w hs);have HD:=zh (fun w=>yL s w hs);obtain ⟨V,hV⟩:=eqx (rsv n ms s);rw [<- hV];have HV:=zh hV;clear hV
 have fin:∀ (X:qw) (x y z:Int),qY w X->Blk X w.heap.size (qT 0 0 0) 58 ->
  Blk (((X.setCell (qR w.heap.size 0) (qI x)).setCell (qR w.heap.size 1) (qI y)).setCell (qR w.heap.size 2) (qI z)) w.heap.size (qT x y z) 58/\qY w (((X.setCell (qR w.heap.size 0) (qI x)).setCell (qR w.heap.size 1) (qI y)).setCell (qR w.heap.size 2) (qI z)):=fun X x y z hB k=>by
  refine ⟨?_,((hB.setCell (p:=(qR w.heap.size 0)) aN _).setCell (p:=(qR w.heap.size 1)) aN _).setCell (p:=(qR w.heap.size 2)) aN _⟩;have:=((k.set 0 (qI x)).set 1 (qI y)).set 2 (qI z);simpa using this
 have FIN:=zh fin;clear fin;by_cases c1:4<n
 .have c1':(4:Int)<(n:Int):=by omega
  have hr:=zh (dU (n:=n) (ms:=ms) (s:=s) (by unfold rsT tbf;rw [xS (show ¬ n<=4 by omega)];simp));obtain ⟨k2,hB2⟩:=FIN.o W 0 0 0 hB0 kb;obtain ⟨q1,q2,q3,q4⟩:=kb.three;obtain ⟨s1,s2,s3,s4⟩:=k2.three;have HX:=zh hB2;clear hB2 hB0 kb k2;go_enter Tryz.func58,Tryz.ntmps58
  go_wp2_with (rw [<- HW.o])
  exact bodyPost_ret (v:=.tuple #[.agg (qT 0 0 0),.bool false]) (by simp [results,Tryz.results58,go_sem,s1,s2,s3]) rfl ⟨by rw [HV.o,hr.o],HX.o⟩
 .have c1':¬ (4:Int)<(n:Int):=by omega
  cases hf:fE s
  .rw [hf] at HF;have hr:=zh (dU (n:=n) (ms:=ms) (s:=s) (by unfold rsT;rw [hf];simp));obtain ⟨k2,hB2⟩:=FIN.o W 0 0 0 hB0 kb;obtain ⟨q1,q2,q3,q4⟩:=kb.three;obtain ⟨s1,s2,s3,s4⟩:=k2.three;have HX:=zh hB2;clear hB2 hB0 kb k2;go_enter Tryz.func58,Tryz.ntmps58
   go_wp2_with (first|(rw [<- HW.o])|(go_at_call 113;refine (HF.o _).mono ?_;rintro e w1 ⟨rfl,rfl⟩))
   exact bodyPost_ret (v:=.tuple #[.agg (qT 0 0 0),.bool false]) (by simp [results,Tryz.results58,go_sem,s1,s2,s3]) rfl ⟨by rw [HV.o,hr.o],HX.o⟩
  .rw [hf] at HF
   have hdot:0<=dot s/\dot s<s.size:=by
    rcases lH s with h0|h0
    .exfalso;unfold fE at hf;rw [h0] at hf;simp at hf
    .exact h0
   have HT:Zh (tbf n ms=true->rsT n ms s=(fst? (cT ms) (dH s).data.toList n).bind fun i=>(fst? (fM (ms.getD i aK).es) (eJ s).data.toList (ms.getD i aK).en).map fun k=>(i,k)):=fun htb=>by unfold rsT;rw [hf,htb];simp
   have HTN:Zh (tbf n ms=false->rsT n ms s=none):=fun htb=>by unfold rsT;rw [htb];simp
   clear hf;go_enter Tryz.func58,Tryz.ntmps58
   go_wp2_with (first|(rw [<- HW.o])|(go_at_call 113;refine (HF.o _).mono ?_;rintro e w1 ⟨rfl,rfl⟩))
   go_loopw [6] (fun i wr=>∃ k:Nat,k<=n/\i=qI k/\Hid (∀ j,j<k->(ms.getD j aK).en<=16)/\qY w wr/\Blk wr w.heap.size (qT 0 0 0) 58) (qf n)
   .exact ⟨0,xC _,rfl,zh (fun j hj=>by omega),hB0,kb⟩
   .obtain ⟨k,hk,rfl,HJ,hB,kw⟩:=hrel;clear hB0 kb;by_cases hlt:k<n
    .have hlt':(k:Int)<(n:Int):=by omega
     obtain ⟨bb,off,rfl,q0,q1,q2,q3,q4,q5,q6,q7⟩:=(h.bw hB).at k hlt
     have HG:=zh (show (ms.getD k aK).en<=16->∀ j,j<k+1->(ms.getD j aK).en<=16 from fun h j hj=>by
      by_cases e:j=k
      .subst e;exact h
      .exact HJ.out j (by omega))
     have HB:=zh (aL0 n ms k hlt);generalize ms.getD k aK=m at *;obtain ⟨nm,ta,tn,tc,tz,ba,bn,bc,bl,da,dn,dc,dz,bss,ra,rn,rc,rz,ia,im,ic,ss,ea,en,ec,es⟩:=m;dsimp only at q0 q1 q2 q3 q4 q5 q6 q7 HB HG;by_cases d:16<en
     .have d':(16:Int)<(en:Int):=by omega
      have hr:=zh (dU (HTN.o (HB.o d)));obtain ⟨k2,hB2⟩:=FIN.o wr 0 0 0 hB kw;obtain ⟨p1,p2,p3,p4⟩:=kw.three;obtain ⟨s1,s2,s3,s4⟩:=k2.three;have HX:=zh hB2;clear hB2 hB kw k2 q0 q1 q2 q3 q4 q5 q6;go_wp2;exact bodyPost_ret (v:=.tuple #[.agg (qT 0 0 0),.bool false]) (by simp [results,Tryz.results58,go_sem,s1,s2,s3]) rfl ⟨by rw [HV.o,hr.o],HX.o⟩
     .have d':¬ (16:Int)<(en:Int):=by omega
      clear q0 q1 q2 q3 q4 q5 q6;go_wp2
      go_roundw
      .exact ⟨k+1,by omega,by go_num,zh (HG.o (by omega)),hB,kw⟩
      .simp [qf,intOf];omega
    .have hkn:k=n:=by omega
     subst hkn;have HT2:=zh (HT.o (aI0 k ms (by omega) HJ.out));clear HT HTN HJ hk hlt;unfold dH eJ at HT2;generalize dot s=p at *;obtain ⟨p0,p1⟩:=hdot;go_wp2_with (go_at_call 114;refine (HD.o _).mono ?_;rintro e w1 ⟨rfl,rfl⟩)
     go_loopw [8] (fun i wx=>∃ j:Nat,j<=k/\i=qI j/\Hid (fst? (cT ms) (s.extract 0 p.toNat).data.toList j=none)/\qY w wx/\Blk wx w.heap.size (qT 0 0 0) 58) (qf k)
     .exact ⟨0,xC _,rfl,zh rfl,hB,kw⟩
     .obtain ⟨j,hj,rfl,HJ,hBx,kx⟩:=hrel;clear hB kw;by_cases hlt:j<k
      .have hlt':(j:Int)<(k:Int):=by omega
       obtain ⟨bb,off,rfl,q0,q1,q2,q3,q4,q5,q6,q7⟩:=(h.bw hBx).at j hlt;have HMS:=zh (fun e=>aDb (cT ms) (s.extract 0 p.toNat).data.toList HJ.out e);have HHT:=zh (fun e=>aGq (cT ms) (s.extract 0 p.toNat).data.toList HJ.out e hlt);obtain ⟨e1,e2⟩:=hE j hlt;have e3:=e1.bw hBx;clear e1;have HRS:=zh (fun i (h:rsT k ms s=some (j,i))=>aCa h);have HT3:Zh (cT ms j=(s.extract 0 p.toNat).data.toList->rsT k ms s=(fst? (fM (ms.getD j aK).es) (s.extract (p+1).toNat s.size).data.toList (ms.getD j aK).en).map (fun i=>(j,i))):=fun e=>by rw [HT2.o,HHT.o e];rfl
       have HNM:Zh (cT ms j=(ms.getD j aK).nm.data.toList):=rfl;clear HHT HJ;generalize cT ms j=mj at *;generalize ms.getD j aK=m at *;obtain ⟨nm,ta,tn,tc,tz,ba,bn,bc,bl,da,dn,dc,dz,bss,ra,rn,rc,rz,ia,im,ic,ss,ea,en,ec,es⟩:=m;dsimp only at q0 q1 q2 q3 q4 q5 q6 q7 e2 e3 HRS HT3 HNM;cases hq:(nm.toList==(s.extract 0 p.toNat).toList)
       .have hne:=zh (show mj≠(s.extract 0 p.toNat).data.toList from fun e=>by
         rw [HNM.o] at e;rw [ByteArray.toList_eq,ByteArray.toList_eq,e] at hq
         simp at hq)
        clear q1 q2 q3 q4 q5 q6 q7;go_wp2_with fail
        go_quiet (fail)
        go_wp2
        go_roundw
        .exact ⟨j+1,by omega,by go_num,zh (HMS.o hne.o),below_drewN hBx nq,kx.bw (below_drewN brf nq)⟩
        .simp [qf,intOf];omega
       .have HT4:=zh (HT3.o (by
         rw [HNM.o];rw [ByteArray.toList_eq,ByteArray.toList_eq] at hq
         simpa using hq))
        clear HT3 HT2 HMS HNM;clear q1 q2 q3 q4 q5 q6;go_wp2_with fail
        go_quiet (fail)
        have q7':(wr.drewN nq).cell? (qR bb (off+j*8+7))=some (qS ea en ec):=((below_drewN (Below.refl wr.heap.size wr) nq).cell (xD wr _ q7)).trans q7;have e4:=e3.bw (below_drewN (Below.refl wr.heap.size wr) nq);have hB4:=below_drewN hBx nq;have k4:=kx.bw (below_drewN (Below.refl wr.heap.size wr) nq);clear q0 q7 e3 hBx kx;generalize wr.drewN nq=w4 at *;go_wp2;go_loopw [9] (fun i wy=>∃ l:Nat,l<=en/\i=qI l/\Hid (fst? (fM es) (s.extract (p+1).toNat s.size).data.toList l=none)/\qY w4 wy) (qf en)
        .exact ⟨0,xC _,rfl,zh rfl,brf⟩
        .obtain ⟨l,hl,rfl,HL,hby⟩:=hrel;have q7:wr.cell? (qR bb (off+j*8+7))=some (qS ea en ec):=(hby.cell (xD w4 _ q7')).trans q7';have hB5:=hB4.trans (hby.mono hB4.size);have k5:=k4.bw hby;by_cases hln:l<en
         .have hln':(l:Int)<(en:Int):=by omega
          have e5:=e4.bw hby;obtain ⟨eb,eo,rfl⟩:=e5.addr (by omega);obtain ⟨x0,x1,x2⟩:=e5.at l hln;have HMS:=zh (fun e=>aDb (fM es) (s.extract (p+1).toNat s.size).data.toList HL.out e);have HHT:=zh (fun e=>aGq (fM es) (s.extract (p+1).toNat s.size).data.toList HL.out e hln);have HNM:Zh (fM es l=(es.getD l zE).1.data.toList):=rfl;have HR2:=zh (HRS.o l);generalize fM es l=xl at *;generalize es.getD l zE=E at *;obtain ⟨xn,xb,xa⟩:=E;dsimp only at x0 x1 x2 HNM HR2;have hbz:qY wr (wr.alloc (.cells #[.string xn,qI xb,qI xa] 163)):=bal;have kE:=Blk.new wr #[.string xn,qI xb,qI xa] 163;have k6:=k5.bw hbz;have hB6:=hB5.trans (hbz.mono hB5.size);have hby6:=hby.trans (hbz.mono hby.size);clear hB5 k5;obtain ⟨z1,z2,z3,z4⟩:=kE.three;cases hq2:(xn.toList==(s.extract (p+1).toNat s.size).toList)
          .have hne:=zh (show xl≠(s.extract (p+1).toNat s.size).data.toList from fun e=>by
            rw [HNM.o] at e;rw [ByteArray.toList_eq,ByteArray.toList_eq,e] at hq2
            simp at hq2)
           go_wp2_with fail
           go_quiet (fail)
           go_wp2
           go_roundw
           .exact ⟨l+1,by omega,by go_num,zh (HMS.o hne.o),below_drewN hby6 nq⟩
           .simp [qf,intOf];omega
          .have hr:=zh (HR2.o (by
            rw [HT4.o,HHT.o (by
             rw [HNM.o];rw [ByteArray.toList_eq,ByteArray.toList_eq] at hq2
             simpa using hq2)]
            rfl))
           go_wp2_with fail
           go_quiet (fail)
           have k7:=k6.bw (below_drewN brf nq);have kE7:=kE.bw (below_drewN brf nq);have hB7:=below_drewN hB6 nq;generalize (wr.alloc (.cells #[.string xn,qI xb,qI xa] 163)).drewN nq=w7 at *;clear z1 z2 z3 z4 k6 kE hB6 hby6 hbz;obtain ⟨z1,z2,z3,z4⟩:=kE7.three;obtain ⟨k8,hB8⟩:=FIN.o w7 j xb xa hB7 k7;obtain ⟨g1,g2,g3,g4⟩:=k7.three;obtain ⟨s1,s2,s3,s4⟩:=k8.three;have HX:=zh hB8;clear hB8 hB7 k7 k8 kE7;go_wp2;exact bodyPost_ret (v:=.tuple #[.agg (qT j xb xa),.bool true]) (by simp [results,Tryz.results58,go_sem,s1,s2,s3]) rfl ⟨by rw [HV.o,hr.o],HX.o⟩
         .have hle:l=en:=by omega
          subst hle;have hr:=zh (dU (n:=k) (ms:=ms) (s:=s) (by rw [HT4.o,HL.out];rfl));obtain ⟨k8,hB8⟩:=FIN.o wr 0 0 0 hB5 k5;obtain ⟨g1,g2,g3,g4⟩:=k5.three;obtain ⟨s1,s2,s3,s4⟩:=k8.three;have HX:=zh hB8;clear hB8 hB5 k5 k8;go_wp2;exact bodyPost_ret (v:=.tuple #[.agg (qT 0 0 0),.bool false]) (by simp [results,Tryz.results58,go_sem,s1,s2,s3]) rfl ⟨by rw [HV.o,hr.o],HX.o⟩
      .have hjk:j=k:=by omega
       subst hjk;have hr:=zh (dU (n:=j) (ms:=ms) (s:=s) (by rw [HT2.o,HJ.out];rfl));obtain ⟨k8,hB8⟩:=FIN.o wr 0 0 0 hBx kx;obtain ⟨g1,g2,g3,g4⟩:=kx.three;obtain ⟨s1,s2,s3,s4⟩:=k8.three;have HX:=zh hB8;clear hB8 hBx kx k8;go_wp2;exact bodyPost_ret (v:=.tuple #[.agg (qT 0 0 0),.bool false]) (by simp [results,Tryz.results58,go_sem,s1,s2,s3]) rfl ⟨by rw [HV.o,hr.o],HX.o⟩
theorem yT {f g:Nat->List UInt8}{s:List UInt8}:∀ k,(∀ i,i<k->f i=g i)->fst? f s k=fst? g s k
 | 0,_=>rfl
 | k+1,h=>by rw [fF,fF,yT k (fun i hi=>h i (by omega)),h k (by omega)]
theorem jR {f g:Nat->Bool}:∀ n,(∀ i,i<n->f i=g i)->(List.range n).all f=(List.range n).all g
 | 0,_=>rfl
 | n+1,h=>by rw [List.range_succ,List.all_append,List.all_append,jR n (fun i hi=>h i (by omega))];simp [h n (by omega)]
def aQh (n:Nat)(ms ms':List Md):Prop:=∀ i,i<n->(ms'.getD i aK).nm=(ms.getD i aK).nm/\(ms'.getD i aK).en=(ms.getD i aK).en/\(ms'.getD i aK).es=(ms.getD i aK).es
theorem aOx {ms:List Md}{s:ByteArray}{k:Nat}(h:rsT n ms s=some (i,k)):i<n:=by
 unfold rsT at h;split at h
 .cases hf:fst? (cT ms) (dH s).data.toList n with
  | none=>rw [hf] at h;cases h
  | some j=>
    rw [hf] at h;simp at h;obtain ⟨k',h1,rfl,rfl⟩:=h;exact tX _ _ _ _ hf
 .cases h
theorem aHp {ms:List Md}{s:ByteArray}(h:aQh n ms ms'):rsT n ms' s=rsT n ms s:=by
 unfold rsT
 have e1:tbf n ms'=tbf n ms:=by
  unfold tbf;rw [jR n (fun i hi=>by rw [(h i hi).2.1])]
 have e2:fst? (cT ms') (dH s).data.toList n=fst? (cT ms) (dH s).data.toList n:=yT n (fun i hi=>by unfold cT;rw [(h i hi).1]);rw [e1,e2];cases hf:fst? (cT ms) (dH s).data.toList n with
 | none=>rfl
 | some j=>
   obtain ⟨_,h2,h3⟩:=h j (tX _ _ _ _ hf);simp only [Option.bind_some];rw [h2,h3]
theorem RowM.ms {W w:qw}{c:Nat}{ms:List Md}(h:RowM W c n ms ms')(hl:ms'.length=n)(hm:MS w a n cap ms):MS W (qP c) n n ms':=by
 obtain ⟨_,_,hr⟩:=h;refine ⟨hl,hm.2.1,fun _=>⟨c,0,rfl,fun i hi=>?_⟩,fun i hi=>aGx (hm.2.2.2.1 i hi) (hr i (by omega)).2,aN⟩;rw [Nat.zero_add];exact (hr i (by omega)).1
theorem RowM.same {W W':qw}{c c':Nat}{ms x y:List Md}{w:qw}(hm:MS w a n cap ms)(h:RowM W c n ms x)(hl:x.length=n)(h':RowM W' c' n ms y)(hl':y.length=n):∀ i,i<n->aLv (x.getD i aK) (y.getD i aK):=fun i hi=>
 aB8 (hm.2.2.2.1 i hi).b.1 (h.2.2 i (by omega)).2 (h'.2.2 i (by omega)).2
def cfo (s w k d:Int):Bool:=decide (0<=s/\s<=4/\1<=w/\w<=64/\0<=k/\k<=1024/\k%32=0/\0<=d/\d<=100)
theorem aC9 (x:Int)(w:qw):
 qC 226 #[qI x] w fun e w'=>e=.returned (.bool (decide (0<=x/\x%32=0)))/\w=w':=by
 go_enter Tryz.func226,Tryz.ntmps226
 go_wp2
 all_goals
  go_ret;refine ⟨aA ?_,rfl⟩;rw [xJ];simp;try omega
theorem aIz (v m:Int)(w:qw):
 qC 155 #[qI v,qI m] w fun e w'=>e=.returned (.bool (decide (0<=v/\v<=m)))/\w=w':=by
 go_enter Tryz.func155,Tryz.ntmps155
 go_wp2
 all_goals
  go_ret;refine ⟨aA ?_,rfl⟩;rw [xJ];simp;try omega
theorem vL (s c k d:Int)(w:qw):
 qC 180 #[.agg (qW s c k d)] w (qB w (.bool (cfo s c k d))):=by
 have HB:=zh ((Below.refl w.heap.size w).alloc aN (.cells (qW s c k d) 37));go_enter Tryz.func180,Tryz.ntmps180
 go_wp2
 all_goals
  go_ret;refine ⟨aA ?_,HB.o⟩;unfold cfo;rw [xJ];simp;try omega
theorem wA (s c k d:Int)(w:qw):
 qC 210 #[.agg (qW s c k d)] w (qB w (.bool (cfo s c k d))):=by
 have HB:=zh ((Below.refl w.heap.size w).alloc aN (.cells (qW s c k d) 37));have HF:∀ b:Bool,b=cfo s c k d ↔ (b=true ↔ (0<=s/\s<=4/\1<=c/\c<=64/\0<=k/\k<=1024/\k%32=0/\0<=d/\d<=100)):=fun b=>by unfold cfo;rw [xJ];simp
 have HF:=zh HF;go_enter Tryz.func210,Tryz.ntmps210
 go_wp2_with (first
  | (go_at_call 226;refine (aC9 _ _).mono ?_;rintro e w1 ⟨rfl,rfl⟩)
  | (go_at_call 155;refine (aIz _ _ _).mono ?_;rintro e w1 ⟨rfl,rfl⟩))
 all_goals
  go_ret;refine ⟨aA ?_,HB.o⟩;rw [HF.o];simp_all;try omega
theorem zJ (s c k d:Int)(w:qw):
 qC 33 #[.agg (qW s c k d)] w (qB w (.agg (qW s c k d))):=by
 go_enter Tryz.func33,Tryz.ntmps33
 go_wp2;refine bodyPost_ret (v:=.agg (qW s c k d)) (by simp [results,Tryz.results33,go_sem]) rfl ⟨rfl,?_⟩;exact ((bal.alloc (by simp) _).alloc (by simp;omega) _)
def Md.pm (m:Md):PMod:=⟨m.nm,m.tz,m.bl.map (fun B=>B.2.2.2),m.dz,m.bss,m.rz,m.ss,m.es⟩
def zP:PMod:=⟨⟨#[]⟩,[],[],[],0,[],[],[]⟩
def dm (P:PMod):Md:=⟨P.nm,none,P.tz.length,P.tz.length,P.tz,none,P.bl.length,P.bl.length,lN P.bl,none,P.dz.length,P.dz.length,P.dz,P.bss,none,P.rz.length,P.rz.length,P.rz,none,P.ss.length,P.ss.length,P.ss,none,P.es.length,P.es.length,P.es⟩
def Md.md (m:Md)(w:qw):Prop:=MD w m.nm m.ta m.tn m.tc m.tz m.ba m.bn m.bc m.bl m.da m.dn m.dc m.dz m.bss m.ra m.rn m.rc m.rz m.ia m.im m.ic m.ss m.ea m.en m.ec m.es
theorem aKk {w:qw}(h:m.md w):mdo m.nm m.tn m.tz m.bn m.bl m.dn m.bss m.rn m.rz m.im m.ss m.en m.es=fB m.pm:=by
 have hb:=h.b.1;have e:m.pm.bl.length=m.bn:=by simp [Md.pm,hb]
 unfold fB;rw [show m.pm.tz.length=m.tn from h.t.1,show m.pm.dz.length=m.dn from h.d.1,show m.pm.rz.length=m.rn from h.r.1,show m.pm.ss.length=m.im from h.i.1,show m.pm.es.length=m.en from h.e.1,e,<- hb];refine aMx (by rw [hb];simp [lN,e]) (fun i hi=>?_);have hr:=(h.b.2.2.2.1 i (by omega)).1
 have e2:(lN m.pm.bl).getD i zB=(none,(m.bl.getD i zB).2.2.2.length,(m.bl.getD i zB).2.2.2.length,(m.bl.getD i zB).2.2.2):=by
  simp [lN,Md.pm,xB,hi]
 rw [e2];exact ⟨hr.symm,rfl⟩
abbrev Tg:=Int×Int×Int
def iD (ps:List PMod)(s:ByteArray):Option Tg:=(rsT ps.length (ps.map dm) s).map fun x=>((x.1:Int),((ps.getD x.1 zP).es.getD x.2 zE).2.1,((ps.getD x.1 zP).es.getD x.2 zE).2.2)
def tgV:Option Tg->Value
 | some t=>.tuple #[.agg (qT t.1 t.2.1 t.2.2),.bool true]
 | none=>.tuple #[.agg (qT 0 0 0),.bool false]
theorem fD {α β:Type}(f:α->β)(l:List α)(i:Nat)(a:α)(b:β)(h:i<l.length:=by omega):(l.map f).getD i b=f (l.getD i a):=by
 simp [xB,h]
theorem aJm {ms:List Md}{s:ByteArray}(hl:ms.length=n)(he:∀ i,i<n->(ms.getD i aK).es.length=(ms.getD i aK).en):rsv n ms s=tgV (iD (ms.map Md.pm) s):=by
 have hr:rsT (ms.map Md.pm).length ((ms.map Md.pm).map dm) s=rsT n ms s:=by
  rw [xH,hl];refine aHp (fun i hi=>?_);rw [List.map_map,fD _ _ _ aK _];exact ⟨rfl,by rw [<- he i hi];rfl,rfl⟩
 unfold iD rsv;rw [hr];cases e:rsT n ms s with
 | none=>rfl
 | some x=>
   obtain ⟨i,k⟩:=x;have hi:=aOx e;have hg:(ms.map Md.pm).getD i zP=(ms.getD i aK).pm:=fD _ _ _ aK _;simp only [Option.map_some,tgV,hg];rfl
def zT:Tg:=(0,0,0)
abbrev pP (ps:List PMod)(P:PMod):Prop:=∀ i,i<P.ss.length->(iD ps (P.ss.getD i zS)).isSome=true
def tgs (ps:List PMod)(P:PMod):List Tg:=(List.range P.ss.length).map fun i=>(iD ps (P.ss.getD i zS)).getD zT
def rnd (x:Int):Int:=(x+31)/32*32
def cB (P:PMod):Nat->Int
 | 0=>0
 | k+1=>cB P k+rnd (4*((P.bl.getD k []).length:Int))
def tsz (P:PMod):Int:=rnd (4*(P.tz.length:Int))
def msz (P:PMod):Int:=tsz P+cB P P.bl.length
def dsz (P:PMod):Int:=rnd ((P.dz.length:Int)+P.bss)
def Fl (ps:List PMod):Nat->Int
 | 0=>0
 | i+1=>Fl ps i+msz (ps.getD i zP)
def Ra (ps:List PMod):Nat->Int
 | 0=>0
 | i+1=>Ra ps i+dsz (ps.getD i zP)
structure Pl where
 text:Int
 banks:List Int
 data:Int
 size:Int
def plc (ps:List PMod)(i:Nat):Pl:=⟨Fl ps i,(List.range (ps.getD i zP).bl.length).map fun k=>Fl ps i+tsz (ps.getD i zP)+cB (ps.getD i zP) k,65536+Ra ps i,dsz (ps.getD i zP)⟩
structure Lay where
 places:List Pl
 stack:Int
 slots:List Int
 flash:Int
 ram:Int
 targets:List (List Tg)
abbrev qL (L:Lay)(a:Option Addr)(b c:Nat)(d:Option Addr)(e f:Nat)(g:Option Addr)(h i:Nat):Array Value:=#[.slice a b c,.int .i64 L.stack,.slice d e f,.int .i64 L.flash,.int .i64 L.ram,.slice g h i]
abbrev qJ {α β:Type}(L:Lay)(a:qO)(xs:List α)(c:Nat)(d:qO)(f:Nat)(g:qO)(ts:List β)(i:Nat):Array Value:=qL L a xs.length c d L.slots.length f g ts.length i
def slt (ps:List PMod)(w k:Int)(i:Nat):Int:=65536+Ra ps ps.length+k+(i:Int)*rnd (4*w)
def lay (ps:List PMod)(s w k:Int):Lay:=⟨(List.range ps.length).map (plc ps),65536+Ra ps ps.length,(List.range s.toNat).map (slt ps w k),Fl ps ps.length,Ra ps ps.length+k+(s.toNat:Int)*rnd (4*w),(List.range ps.length).map fun i=>tgs ps (ps.getD i zP)⟩
abbrev fQ (ps:List PMod):Prop:=∀ i,i<ps.length->fB (ps.getD i zP)=0
abbrev nms (ps:List PMod):Prop:=∀ i,i<ps.length->∀ k,k<i->(ps.getD k zP).nm≠(ps.getD i zP).nm
abbrev jS (ps:List PMod):Prop:=∀ i,i<ps.length->pP ps (ps.getD i zP)
abbrev jV (ps:List PMod)(w:Int):Prop:=∀ i,i<ps.length->∀ k,k<(ps.getD i zP).bl.length->(((ps.getD i zP).bl.getD k []).length:Int)<=w
def dT (ps:List PMod)(s w k d:Int):Int:=
 if cfo s w k d=false then 1 else if ps.length<1\/4<ps.length then 2 else if ¬ fQ ps then 3 else if ¬ nms ps then 4 else 0
def lkc (ps:List PMod)(s w k d:Int):Int:=
 if dT ps s w k d≠0 then dT ps s w k d else if ¬ jS ps then 5 else if 0<s/\¬ jV ps w then 6 else if 16384<(lay ps s w k).flash then 7 else if 16384<(lay ps s w k).ram then 8 else 0
structure MSD (w:qw)(a:qO)(n cap:Nat)(ms:List Md):Prop where
 s:MS w a n cap ms
 d:∀ i,i<n->(ms.getD i aK).md w
theorem MSD.bw {w w':qw}{ms:List Md}(h:MSD w a n cap ms)(hb:qY w w'):MSD w' a n cap ms:=⟨h.s.bw hb,fun i hi=>MD.bw (h.d i hi) hb⟩
def aD (ms:List Md):List PMod:=ms.map Md.pm
theorem bR (ms:List Md):(aD ms).length=ms.length:=by simp [aD]
theorem cH {ms:List Md}(h:i<ms.length:=by omega):(aD ms).getD i zP=(ms.getD i aK).pm:=fD _ _ _ aK _ h
def L0:Lay:=⟨[],0,[],0,0,[]⟩
def lkL (ps:List PMod)(s w k d:Int):Lay:=if lkc ps s w k d=0 then lay ps s w k else L0
theorem aJa (h:cfo s w k d=false):dT ps s w k d=1:=if_pos h
theorem aI9 (h:cfo s w k d=true)(h2:ps.length<1\/4<ps.length):dT ps s w k d=2:=by
 unfold dT;rw [if_neg (by rw [h];decide),if_pos h2]
theorem aI8 (h:cfo s w k d=true)(h2:¬ (ps.length<1\/4<ps.length))(i:Nat)(hi:i<ps.length)(h3:fB (ps.getD i zP)≠0):dT ps s w k d=3:=by
 unfold dT;rw [if_neg (by rw [h];decide),if_neg h2,if_pos (fun v=>h3 (v i hi))]
theorem aOq (h:cfo s w k d=true)(h2:¬ (ps.length<1\/4<ps.length))(h3:fQ ps)(i j:Nat)(hi:i<ps.length)(hj:j<i)(h4:(ps.getD j zP).nm=(ps.getD i zP).nm):dT ps s w k d=4:=by
 unfold dT;rw [if_neg (by rw [h];decide),if_neg h2,if_neg (fun v=>v h3),if_pos (fun v=>v i hi j hj h4)]
theorem aJb (h:cfo s w k d=true)(h2:¬ (ps.length<1\/4<ps.length))(h3:fQ ps)(h4:nms ps):dT ps s w k d=0:=by
 unfold dT;rw [if_neg (by rw [h];decide),if_neg h2,if_neg (fun v=>v h3),if_neg (fun v=>v h4)]
theorem iO {B:Nat}{a W:qw}(h:Below B a W)(n:Nat):Below B a (W.drewN n):=⟨h.os,h.tape,h.output,h.size,h.block⟩
theorem aOn {a:ByteArray}(h:a≠b):(a.toList==b.toList)=false:=by
 rw [beq_eq_false_iff_ne];intro e;apply h;rw [ByteArray.toList_eq,ByteArray.toList_eq] at e;cases a
 cases b
 simp at e;rw [e]
theorem dM (x:Int)(w:qw)(h0:0<=x:=by omega)(h1:x<=4294967295:=by omega):qC 171 #[qI x] w fun e w'=>e=.returned (qI (rnd x))/\w'=w:=by
 have hd:(x+31).tdiv 32=(x+31)/32:=Int.tdiv_eq_ediv_of_nonneg (by omega);go_enter Tryz.func171,Tryz.ntmps171
 go_wp2;go_ret;exact ⟨aH (by unfold rnd;rw [show x+31=x+32-1 by omega]),rfl⟩
theorem Md.okS {w:qw}(h:m.md w):qC 181 #[.agg (qM m.nm m.ta m.tn m.tc m.ba m.bn m.bc m.da m.dn m.dc m.bss m.ra m.rn m.rc m.ia m.im m.ic m.ea m.en m.ec)] w (qB w (qI (fB m.pm))):=by
 have:=vK _ _ _ _ _ _ _ _ _ _ _ _ _ _ _ _ _ _ _ _ _ _ _ _ _ _ w h;rw [aKk h] at this;exact this
theorem aC1 (a:qO)(n cap:Nat)(ms:List Md)(s c k d:Int)(w:qw)(h:MSD w a n cap ms):
 qC 138 #[qS a n cap,.agg (qW s c k d)] w (qB w (qI (dT (aD ms) s c k d))):=by
 have hA:qY w (w.alloc (.cells (qW s c k d) 37)):=bal;have hl:=h.s.1;have hm1:=h.s.2.1;unfold maxLen at hm1;have hpl:=bR ms;have HH:=zh h;have HC:=zh (fun W=>vL s c k d W);clear h;go_enter Tryz.func138,Tryz.ntmps138
 go_wp2_with fail
 refine (HC.o _).mono ?_;rintro e w1 ⟨rfl,hb1⟩;have HB1:=zh (hA.trans (hb1.mono (by simp)));clear hA hb1 HC;cases hcf:cfo s c k d with
 | false=>
   have HS:=zh (aJa (ps:=aD ms) hcf);go_wp2;go_ret;exact ⟨aH HS.o.symm,HB1.o⟩
 | true=>
   by_cases hn2:n<1\/4<n
   .have HS:=zh (aI9 (ps:=aD ms) hcf (by omega));by_cases hn1:n<1
    .have hn1':(n:Int)<1:=by omega
     clear hn2;go_wp2;go_ret;exact ⟨aH HS.o.symm,HB1.o⟩
    .have hn1':¬ (n:Int)<1:=by omega
     have hn4':(4:Int)<(n:Int):=by omega
     clear hn2;go_wp2;go_ret;exact ⟨aH HS.o.symm,HB1.o⟩
   have hn1':¬ (n:Int)<1:=by omega
   have hn4':¬ (4:Int)<(n:Int):=by omega
   have HN2:=zh (show ¬ ((aD ms).length<1\/4<(aD ms).length) by rw [hpl,hl];exact hn2);clear hn2;go_wp2;go_loopw [5] (fun i wr=>∃ m:Nat,m<=n/\i=qI m/\(∀ j,j<m->fB ((aD ms).getD j zP)=0)/\qY w wr) (qf n)
   .exact ⟨0,xC _,rfl,fun j hj=>absurd hj (by omega),HB1.o⟩
   .obtain ⟨m,hm,rfl,hv,B⟩:=hrel;by_cases hlt:m<n
    .have hlt':(m:Int)<(n:Int):=by omega
     have H:=HH.o.bw B;obtain ⟨b,off,rfl,q0,q1,q2,q3,q4,q5,q6,q7⟩:=H.s.at m hlt;have HOK:=zh (Md.okS (H.d m hlt));rw [<- cH] at HOK;have HV:=zh hv;have HB:=zh B;obtain ⟨V,hV⟩:=eqx (fB ((aD ms).getD m zP));rw [<- hV] at HOK;have HVV:=zh hV;generalize ms.getD m aK=M at *;clear hv B H hV;go_wp2_with fail
     refine HOK.o.mono ?_;rintro e w2 ⟨rfl,hb2⟩;have HB2:=zh (HB.o.trans (hb2.mono HB.o.size));clear hb2 HOK HB q0 q1 q2 q3 q4 q5 q6 q7;by_cases hz:V=0
     .subst hz
      have HV2:=zh (show ∀ j,j<m+1->fB ((aD ms).getD j zP)=0 from fun j hj=>by
       by_cases e:j=m
       .subst e;exact HVV.o.symm
       .exact HV.o j (by omega))
      go_wp2
      go_roundw
      .exact ⟨m+1,by omega,by go_num,HV2.o,HB2.o⟩
      .simp [qf,intOf];omega
     .have hz':(V !=0)=true:=by simp [hz]
      have HS:=zh (aI8 (ps:=aD ms) hcf HN2.o m (by omega) (by rw [<- HVV.o];exact hz));go_wp2;go_ret;exact ⟨aH HS.o.symm,HB2.o⟩
    .have hlt':¬ (m:Int)<(n:Int):=by omega
     have HV:Zh (fQ (aD ms)):=fun i hi=>hv i (by omega);have HB:=zh B;clear hv B;go_wp2;go_loopw [6] (fun i wr=>∃ m:Nat,m<=n/\i=qI m/\(∀ i,i<m->∀ k,k<i->((aD ms).getD k zP).nm≠((aD ms).getD i zP).nm)/\qY w wr) (qf n)
     .exact ⟨0,xC _,rfl,fun j hj=>absurd hj (by omega),HB.o⟩
     .obtain ⟨p,hp,rfl,hv,B⟩:=hrel;by_cases hlt2:p<n
      .have hlt2':(p:Int)<(n:Int):=by omega
       have HP:=zh hv;have HB3:=zh B;clear hv B;go_wp2;go_loopw [7] (fun i wr=>∃ q:Nat,q<=p/\i=qI q/\(∀ k,k<q->((aD ms).getD k zP).nm≠((aD ms).getD p zP).nm)/\qY w wr) (qf p)
       .exact ⟨0,xC _,rfl,fun j hj=>absurd hj (by omega),HB3.o⟩
       .obtain ⟨q,hq,rfl,hv,B⟩:=hrel;by_cases hlt3:q<p
        .have hlt3':(q:Int)<(p:Int):=by omega
         have hqn:(q:Int)<(n:Int):=by omega
         have H:=HH.o.bw B;obtain ⟨b,off,rfl,q0,_⟩:=H.s.at q (by omega);obtain ⟨b',off',e',r0,_⟩:=H.s.at p hlt2;simp at e';obtain ⟨rfl,rfl⟩:=e';have e1:((aD ms).getD q zP).nm=(ms.getD q aK).nm:=by rw [cH];rfl
         have e2:((aD ms).getD p zP).nm=(ms.getD p aK).nm:=by rw [cH];rfl
         have HQ:=zh hv;have HB4:=zh B;by_cases hnm:(ms.getD q aK).nm=(ms.getD p aK).nm
         .have HS:=zh (aOq (ps:=aD ms) hcf HN2.o HV.o p q (by omega) hlt3 (by rw [e1,e2];exact hnm));rw [hnm] at q0;have heq:((ms.getD p aK).nm.toList==(ms.getD p aK).nm.toList)=true:=by simp
          generalize ms.getD p aK=M at *;clear hv B H e1 e2 hnm;go_wp2_with fail
          go_quiet (fail)
          go_wp2;go_ret;exact ⟨aH HS.o.symm,iO HB4.o nq⟩
         .have hne:=aOn hnm
          have HQ2:=zh (show ∀ k,k<q+1->((aD ms).getD k zP).nm≠((aD ms).getD p zP).nm from fun k hk=>by
           by_cases e:k=q
           .subst e;rw [e1,e2];exact hnm
           .exact HQ.o k (by omega))
          generalize (ms.getD p aK).nm=N1 at *;generalize (ms.getD q aK).nm=N2 at *;clear hv B H e1 e2 hnm;go_wp2_with fail
          go_quiet (fail)
          go_wp2
          go_roundw
          .exact ⟨q+1,by omega,by go_num,HQ2.o,iO HB4.o nq⟩
          .simp [qf,intOf];omega
        .have hlt3':¬ (q:Int)<(p:Int):=by omega
         have HQ2:=zh (show ∀ i,i<p+1->∀ k,k<i->((aD ms).getD k zP).nm≠((aD ms).getD i zP).nm from fun i hi k hk=>by
          by_cases e:i=p
          .subst e;exact hv k (by omega)
          .exact HP.o i (by omega) k hk)
         have HB4:=zh B;clear hv B;go_wp2
         go_roundw
         .exact ⟨p+1,by omega,by go_num,HQ2.o,HB4.o⟩
         .simp [qf,intOf];omega
      .have hlt2':¬ (p:Int)<(n:Int):=by omega
       have HS:=zh (aJb (ps:=aD ms) hcf HN2.o HV.o (fun i hi k hk=>hv i (by omega) k hk));have HB3:=zh B;clear hv B;go_wp2;go_ret;exact ⟨aH HS.o.symm,HB3.o⟩
structure Vm (nm:ByteArray)(tn:Nat)(tz:qi)(bn:Nat)(bl:List Bk)(dn:Nat)(bss:Int)(rn:Nat)(rz:qi)(im:Nat)(ss:List ByteArray)(en:Nat)(es:List Ex):Prop where
 n:nm.size<=12
 t:tn<=200
 tw:∀ z∈tz,0<=z/\z<=4294967295
 b:bn<=4
 bw:∀ i,i<bl.length->(bl.getD i zB).2.1<=64/\∀ z∈(bl.getD i zB).2.2.2,0<=z/\z<=4294967295
 d:dn<=512
 s:0<=bss/\bss<=512
 r:rn<=16
 rw:∀ i,i<rn->0<=rz.getD i 0/\rz.getD i 0<=512
 i:im<=16
 iw:∀ i,i<im->(ss.getD i zS).size<=25
 e:en<=16
 ew:∀ i,i<en->(es.getD i zE).1.size<=12/\-1<=(es.getD i zE).2.1/\(es.getD i zE).2.1<=4/\0<=(es.getD i zE).2.2/\(es.getD i zE).2.2<=200
theorem aFz {zs:qi}(h:wds zs=true):∀ z∈zs,0<=z/\z<=4294967295:=fun z hz=>by
 unfold wds at h;rw [List.all_eq_true] at h;simpa using h z hz
theorem nB {s:ByteArray}(h:nmo s=true):s.size<=12:=by
 unfold nmo at h;simp at h;omega
theorem aIm {s:ByteArray}(h:fE s=true):s.size<=25:=by
 unfold fE at h;simp only [Bool.and_eq_true,decide_eq_true_eq] at h;obtain ⟨h0,h1,h2⟩:=h;have a1:=nB h1;have a2:=nB h2;have hd:=lH s;unfold dH at a1;unfold eJ at a2;simp only [ByteArray.size_extract] at a1 a2;omega
theorem aAe {f:Nat->Bool}(h:(List.range n).all f=true)(i:Nat)(hi:i<n):f i=true:=by
 rw [List.all_eq_true] at h;exact h i (by simpa using hi)
theorem lA {nm:ByteArray}{tn:Nat}{tz:qi}{bn:Nat}{bl:List Bk}{dn:Nat}{bss:Int}{rn:Nat}{rz:qi}{im:Nat}{ss:List ByteArray}{en:Nat}{es:List Ex}(hbl:bl.length=bn)(h:mdo nm tn tz bn bl dn bss rn rz im ss en es=0):Vm nm tn tz bn bl dn bss rn rz im ss en es:=by
 unfold mdo at h;by_cases c1:nmo nm=false
 .rw [if_pos c1] at h;simp at h
 rw [if_neg c1] at h;by_cases c2:cdo tn tz bn bl=false
 .rw [if_pos c2] at h;simp at h
 rw [if_neg c2] at h;by_cases c3:512<dn\/bss<0\/512<bss
 .rw [if_pos c3] at h;simp at h
 rw [if_neg c3] at h;by_cases c4:rlo rn rz dn=false
 .rw [if_pos c4] at h;simp at h
 rw [if_neg c4] at h;by_cases c5:imo im ss=false
 .rw [if_pos c5] at h;simp at h
 rw [if_neg c5] at h;by_cases c6:exo tn bn bl en es=false
 .rw [if_pos c6] at h;simp at h
 simp only [Bool.not_eq_false] at c1 c2 c4 c5 c6;unfold cdo at c2;unfold rlo at c4;unfold imo at c5;unfold exo at c6;simp only [Bool.and_eq_true,decide_eq_true_eq] at c2 c4 c5 c6;obtain ⟨⟨t1,t2⟩,t3,t4⟩:=c2
 have hb:∀ i,i<bl.length->(bl.getD i zB).2.1<=64/\∀ z∈(bl.getD i zB).2.2.2,0<=z/\z<=4294967295:=fun i hi=>by
  rw [List.all_eq_true] at t4;have hm:bl.getD i zB∈bl:=by simp [xB,hi]
  have:=t4 _ hm;unfold bko at this;simp only [Bool.and_eq_true,decide_eq_true_eq] at this;exact ⟨this.1.2,aFz this.2⟩
 refine ⟨nB c1,t1,aFz t3,t2,hb,by omega,by omega,c4.1,fun i hi=>?_,c5.1,fun i hi=>aIm (aAe c5.2 i hi),c6.1,fun i hi=>?_⟩
 .have:=aAe c4.2 i hi;unfold rlk at this;simp only [Bool.and_eq_true,decide_eq_true_eq] at this;omega
 .have:=aAe c6.2 i hi;unfold ex1 at this;simp only [Bool.and_eq_true,decide_eq_true_eq] at this;obtain ⟨⟨n1,a1,a2⟩,_⟩:=this;have n2:=nB n1
  have hp:pcn tn bn bl (es.getD i zE).2.1<=200/\(0<pcn tn bn bl (es.getD i zE).2.1->-1<=(es.getD i zE).2.1/\(es.getD i zE).2.1<=4):=by
   unfold pcn;split
   .omega
   .split
    .next h1 h2=>
     have:=(hb (es.getD i zE).2.1.toNat (by omega)).1;omega
    .omega
  have:=hp.2 (by omega);omega
def clG (t:Tg):List Value:=[qI t.1,qI t.2.1,qI t.2.2]
theorem aOb:(Tryz.prog.info? 58).map (fun i=>(i.zero,i.size,i.bytes))=some (some (.agg (qT 0 0 0)),3,24):=by kernel_rfl
theorem bI {α:Type}(t:TypeId)(sz:Nat)(f:α->List Value)(w:qw)(base:Nat)(hb:base<=w.heap.size):OG t sz f (w.alloc (.cells #[] t)) base (qS (qP w.heap.size) 0 0) []:=
 ⟨by simp,.inr ⟨w.heap.size,0,#[],rfl,hb,heap_alloc_new w _,aN,by unfold maxLen;omega,by simp,by simp⟩⟩
theorem aLo {a W W':qw}(h:qY a W)(hg:W.grownBy W' row)(hr:∀ k,row=some k->a.heap.size<=k):qY a W':=
 aG h ⟨hg.os,hg.tape,hg.output,hg.size,fun j hj (hs:¬ row=some j)=>hg.block j hj (fun e=>hs e.symm)⟩ hr h.size
theorem eM {W W':qw}{k:Nat}{t:TypeId}(h:Blk W k cs t)(hg:W.grownBy W' row)(hr:some k≠row):Blk W' k cs t:=
 aF (S:=fun j=>row=some j) ⟨hg.os,hg.tape,hg.output,hg.size,fun j hj hs=>hg.block j hj (fun e=>hs e.symm)⟩ h (fun e=>hr e.symm)
def tgN (ps:List PMod)(P:PMod)(m:Nat):List Tg:=(List.range m).map fun i=>(iD ps (P.ss.getD i zS)).getD zT
theorem gN (ps:List PMod)(P:PMod)(m:Nat):(tgN ps P m).length=m:=by simp [tgN]
theorem aB0 (ps:List PMod)(P:PMod)(m:Nat){t:Tg}(h:iD ps (P.ss.getD m zS)=some t):tgN ps P (m+1)=tgN ps P m++[t]:=by
 simp only [tgN,List.range_succ,List.map_append,List.map_cons,List.map_nil,h,Option.getD_some]
theorem aLz (ps:List PMod)(P:PMod):tgN ps P P.ss.length=tgs ps P:=rfl
theorem cA (h:fB P=0):P.es.length<=16/\P.ss.length<=16/\P.tz.length<=200/\P.bl.length<=4/\P.dz.length<=512/\0<=P.bss/\P.bss<=512/\∀ k,k<P.bl.length->(P.bl.getD k []).length<=64:=by
 unfold fB at h;have V:=lA (by simp [lN]) h;refine ⟨V.e,V.i,V.t,V.b,V.d,V.s.1,V.s.2,fun k hk=>?_⟩;have:=(V.bw k (by simp [lN];exact hk)).1;simpa [lN,xB,hk] using this
theorem MSD.es {w:qw}{ms:List Md}(h:MSD w a n cap ms)(hv:fQ (aD ms)):∀ i,i<n->ES w (ms.getD i aK).ea (ms.getD i aK).en (ms.getD i aK).ec (ms.getD i aK).es/\(ms.getD i aK).en<=1048576:=fun i hi=>by
 have hl:=h.s.1;have e:=(h.d i hi).e;refine ⟨e,?_⟩;have h1:=(cA (hv i (by rw [bR];omega))).1;rw [cH] at h1;have h2:(ms.getD i aK).pm.es.length=(ms.getD i aK).en:=e.1;omega
theorem MSD.resS {w:qw}{ms:List Md}(h:MSD w a n cap ms)(hv:fQ (aD ms))(hn:n<=4)(s:ByteArray)(hs:s.size<=1048576):qC 58 #[qS a n cap,.string s] w (qB w (tgV (iD (aD ms) s))):=by
 have:=aAa a n cap ms s w h.s (by omega) hs (h.es hv);rw [aJm h.s.1 (fun i hi=>(h.d i hi).e.1)] at this;exact this
theorem MSD.resI {w:qw}{ms:List Md}(h:MSD w a n cap ms)(hv:fQ (aD ms))(hn:n<=4)(s:ByteArray)(hs:s.size<=1048576):qC 63 #[qS a n cap,.string s] w (qB w (tgV (iD (aD ms) s))):=by
 have:=aA5 a n cap ms s w h.s (by omega) hs (h.es hv);rw [aJm h.s.1 (fun i hi=>(h.d i hi).e.1)] at this;exact this
theorem lT (a:qO)(n cap:Nat)(ms:List Md)(M:Md)(w:qw)(h:MSD w a n cap ms)(hv:fQ (aD ms))(hn:n<=4)(hM:M.md w)(hok:fB M.pm=0):
 qC 139 #[qS a n cap,.agg (qM M.nm M.ta M.tn M.tc M.ba M.bn M.bc M.da M.dn M.dc M.bss M.ra M.rn M.rc M.ia M.im M.ic M.ea M.en M.ec)] w fun e w'=>qY w w'/\((¬ pP (aD ms) M.pm/\∃ v,e=.returned (.tuple #[v,.bool false]))\/(pP (aD ms) M.pm/\∃ a c,e=.returned (.tuple #[.slice a (tgs (aD ms) M.pm).length c,.bool true])/\OG 58 3 clG w' w.heap.size (.slice a (tgs (aD ms) M.pm).length c) (tgs (aD ms) M.pm))):=by
 obtain ⟨iG,hi,hz0,hz1,hz2⟩:=info_parts aOb;have hA:qY w (w.alloc (.cells (qM M.nm M.ta M.tn M.tc M.ba M.bn M.bc M.da M.dn M.dc M.bss M.ra M.rn M.rc M.ia M.im M.ic M.ea M.en M.ec) 138)):=bal;have k0:=Blk.new w (qM M.nm M.ta M.tn M.tc M.ba M.bn M.bc M.da M.dn M.dc M.bss M.ra M.rn M.rc M.ia M.im M.ic M.ea M.en M.ec) 138;have him:M.im<=16:=by have h1:=(cA hok).2.1;have h2:M.pm.ss.length=M.im:=hM.i.1;omega
 have hil:M.pm.ss.length=M.im:=hM.i.1;have HS:=zh (fun (W:qw) (hb:qY w W) (s:ByteArray) (hs:s.size<=1048576)=>(h.bw hb).resS hv hn s hs);have HI:=zh hM.i;have O0:=bI 58 3 clG (w.alloc (.cells (qM M.nm M.ta M.tn M.tc M.ba M.bn M.bc M.da M.dn M.dc M.bss M.ra M.rn M.rc M.ia M.im M.ic M.ea M.en M.ec) 138)) w.heap.size hA.size;have hA2:=hA.trans (((Below.refl _ (w.alloc (.cells (qM M.nm M.ta M.tn M.tc M.ba M.bn M.bc M.da M.dn M.dc M.bss M.ra M.rn M.rc M.ia M.im M.ic M.ea M.en M.ec) 138))).alloc aN (.cells #[] 58)).mono hA.size);have k1:=k0.alloc (.cells #[] 58);try unfold qY at *
 simp only [xF] at O0;have HP:=zh (xA O0 (xA hA2 k1));clear O0 hA hA2 k0 k1 h hM hok;go_enter Tryz.func139,Tryz.ntmps139
 go_wp2_with fail
 go_loopw [6,7] (fun x i wr=>∃ m:Nat,m<=M.im/\i=qI m/\(∀ j,j<m->(iD (aD ms) (M.pm.ss.getD j zS)).isSome=true)/\OG 58 3 clG wr w.heap.size x (tgN (aD ms) M.pm m)/\qY w wr/\Blk wr w.heap.size (qM M.nm M.ta M.tn M.tc M.ba M.bn M.bc M.da M.dn M.dc M.bss M.ra M.rn M.rc M.ia M.im M.ic M.ea M.en M.ec) 138) (fun _ i _=>M.im-(intOf i).toNat)
 .exact ⟨0,xC _,rfl,fun j hj=>absurd hj (by omega),HP.o.1,HP.o.2.1,HP.o.2.2⟩
 .clear HP;obtain ⟨m,hm,rfl,hs,O,B,k⟩:=hrel;have q6:=k.e6;obtain ⟨a',c',rfl⟩:=aR O;rw [gN] at *;by_cases hlt:m<M.im
  .have hlt':(m:Int)<(M.im:Int):=by omega
   obtain ⟨_,_,hsz,hcs,_⟩:=HI.o;obtain ⟨b,off,hia,hc⟩:=hcs (by omega);have c0:=((B.cell (xD w _ (hc m hlt))).trans (hc m hlt));have hss:(M.ss.getD m zS).size<=1048576:=hsz _ (by have:=HI.o.1;simp [xB,show m<M.ss.length by omega]);have HR:=zh (HS.o wr B (M.ss.getD m zS) hss);rw [hia] at q6;clear hia;have HQ:=zh (xA O (xA B k));have HSS:=zh hs;have HTS:=zh (fun t (h:iD (aD ms) (M.ss.getD m zS)=some t)=>aB0 (ps:=aD ms) (P:=M.pm) m h);have HBAD:=zh (fun (h:iD (aD ms) (M.ss.getD m zS)=none)=>(show ¬ pP (aD ms) M.pm from fun hk=>by have:=hk m (by rw [hil];exact hlt);rw [show M.pm.ss.getD m zS=M.ss.getD m zS from rfl,h] at this;cases this))
   have HGO:=zh (fun t (h:iD (aD ms) (M.ss.getD m zS)=some t)=>(show ∀ j,j<m+1->(iD (aD ms) (M.pm.ss.getD j zS)).isSome=true from fun j hj=>by
    by_cases e:j=m
    .subst e;rw [show M.pm.ss.getD j zS=M.ss.getD j zS from rfl,h];rfl
    .exact HSS.o j (by omega)))
   generalize M.ss.getD m zS=str at *;clear O B k hs hc hsz hcs HI HSS;go_wp2_with fail
   refine HR.o.mono ?_;rintro e w1 ⟨rfl,hb1⟩;obtain ⟨O,B,k⟩:=HQ.o;have B1:=B.trans (hb1.mono B.size);cases ho:iD (aD ms) str with
   | none=>
     have HF:=zh (xA (B1.trans (((Below.refl _ w1).alloc aN (.cells (qT 0 0 0) 58)).mono B1.size)) (HBAD.o ho));clear O B k hb1 B1 HQ HR HTS HBAD HGO q6 c0;unfold tgV;go_wp2
     go_ret2
     exact ⟨HF.o.1,.inl ⟨HF.o.2,_,rfl⟩⟩
   | some t=>
     obtain ⟨t1,t2,t3⟩:=t;have al1:qY w1 (w1.alloc (.cells (qT t1 t2 t3) 58)):=bal;have hs1:(w1.alloc (.cells (qT t1 t2 t3) 58)).heap.size=w1.heap.size+1:=by simp
     have k1:=Blk.new w1 (qT t1 t2 t3) 58;have O2:=(O.bw hb1).bw al1;have B2:=B1.trans (al1.mono B1.size);have kk2:=(k.bw hb1).bw al1;have HT2:=zh (HTS.o _ ho);have HG2:=zh (HGO.o _ ho);obtain ⟨x0,x1,x2,_⟩:=k1.three;clear O B k hb1 B1 HQ HR HTS HBAD HGO q6 c0 al1;generalize hW1:w1.alloc (.cells (qT t1 t2 t3) 58)=W1 at *;have HOW:=zh (show (W1.alloc (.cells (qT t1 t2 t3) 58)).ownsRow w.heap.size 58 3 (qS a' m c') m ((tgN (aD ms) M.pm m).flatMap clG) by have:=O2.bw (brf.alloc aN (.cells (qT t1 t2 t3) 58));unfold OG at this;rw [gN] at this;exact this);have HX:=zh (xA O2 (xA B2 kk2));have hsB:=B2.size;rw [<- hW1] at x0 x1 x2;have HW1:=zh hW1;clear O2 B2 kk2 k1 hW1;unfold tgV;go_wp2_with (at_builtin;rw [HW1.o];refine wpList_append_own _ rfl _ _ 190 rfl w.heap.size 58 iG (.agg (qT 0 0 0)) 3 24 Tryz.underlying190 hi hz0 hz1 hz2 rfl (by decide) (qS a' m c') m ((tgN (aD ms) M.pm m).flatMap clG) rfl HOW.o (qR (w1.heap.size+1) 0) 1 1 (clG (t1,t2,t3)) rfl rfl (by rw [<- hs1];exact bT W1 _ _ (clG (t1,t2,t3)) rfl) (by intro u hu;simp [clG] at hu;rcases hu with rfl|rfl|rfl<;>rfl) (by unfold maxLen;omega) (by omega) (by simp;omega) ?_;intro v' w4 hown hgr _)
     obtain ⟨O2,B2,kk2⟩:=HX.o;have al2:qY W1 (W1.alloc (.cells (qT t1 t2 t3) 58)):=bal;have hrow:∀ j,(qS a' m c').ownBlock=some j->w.heap.size<=j:=fun j hj=>(O2.lt j hj).1
     have O4:OG 58 3 clG w4 w.heap.size v' (tgN (aD ms) M.pm (m+1)):=by
      unfold OG;rw [gN,HT2.o,xU,xX];exact hown
     have B4:=aLo (B2.trans (al2.mono B2.size)) hgr hrow
     have k4:=eM (kk2.bw al2) hgr (fun e=>by
      obtain ⟨cs,hk⟩:=aE O2 e.symm
      exact absurd (aI kk2 hk) (by decide))
     have HF:=zh (xA HG2.o (xA O4 (xA B4 k4)));clear O2 B2 kk2 al2 hrow O4 B4 k4 hown hgr HX HOW x0 x1 x2
     go_roundw
     .exact ⟨m+1,by omega,by go_num,HF.o.1,HF.o.2.1,HF.o.2.2.1,HF.o.2.2.2⟩
     .simp [intOf];omega
  .have hlt':¬ (m:Int)<(M.im:Int):=by omega
   have HK:Zh (pP (aD ms) M.pm):=fun j hj=>hs j (by omega);have HX:=zh (xA B O);have HEQ:=zh (show tgN (aD ms) M.pm m=tgs (aD ms) M.pm by rw [<- aLz,hil,show m=M.im by omega]);have HLN:=zh (show m=(tgs (aD ms) M.pm).length by rw [<- HEQ.o,gN]);clear B O k hs;go_wp2
   go_ret2
   refine ⟨HX.o.1,.inr ⟨HK.o,a',c',by rw [<- HLN.o];rfl,?_⟩⟩;have:=HX.o.2;rw [HEQ.o] at this;rw [<- HLN.o];exact this
theorem OG.kept' {α:Type}{t:TypeId}{sz:Nat}{f:α->List Value}{w w':qw}{xs:List α}(h:OG t sz f w base v xs)(hg:w.grownBy w' row)(hk:∀ k,v.ownBlock=some k->row≠some k):OG t sz f w' base v xs:=
 h.kept (S:=fun j=>row=some j) ⟨hg.os,hg.tape,hg.output,hg.size,fun j hj hs=>hg.block j hj (fun e=>hs e.symm)⟩ (fun k hk' e=>hk k hk' e)
structure OR {α β:Type}(th:TypeId)(hs:Nat)(hc:α->List Value)(tr:TypeId)(rs:Nat)(rc:β->List Value)(sv:α->Value)(ct:α->List β)(w:qw)(base lo:Nat)(v:Value)(xs:List α):Prop where
 head:OG th hs hc w base v xs
 rows:∀ x∈xs,OG tr rs rc w lo (sv x) (ct x)
 apart:xs.Pairwise fun A B=>∀ k,(sv A).ownBlock=some k->(sv B).ownBlock≠some k
section
variable {α β:Type}{th:TypeId}{hs:Nat}{hc:α->List Value}{tr:TypeId}{rs:Nat}{rc:β->List Value}{sv:α->Value}{ct:α->List β}{w w':qw}{base lo:Nat}{v:Value}{xs:List α}
theorem OR.bw (h:OR th hs hc tr rs rc sv ct w base lo v xs)(hb:qY w w'):OR th hs hc tr rs rc sv ct w' base lo v xs:=⟨h.head.bw hb,fun x hx=>(h.rows x hx).bw hb,h.apart⟩
theorem OR.mono {base':Nat}(h:OR th hs hc tr rs rc sv ct w base lo v xs)(hb:base'<=base)(hl:lo'<=lo):OR th hs hc tr rs rc sv ct w base' lo' v xs:=⟨h.head.mono hb,fun x hx=>(h.rows x hx).mono hl,h.apart⟩
theorem OR.kept (h:OR th hs hc tr rs rc sv ct w base lo v xs)(t:Turn S w w')(h1:∀ k,v.ownBlock=some k->¬ S k)(h2:∀ x∈xs,∀ k,(sv x).ownBlock=some k->¬ S k):OR th hs hc tr rs rc sv ct w' base lo v xs:=⟨h.head.kept t h1,fun x hx=>(h.rows x hx).kept t (h2 x hx),h.apart⟩
theorem OR.lt (h:OR th hs hc tr rs rc sv ct w base lo v xs):(∀ k,v.ownBlock=some k->base<=k/\k<w.heap.size)/\∀ x∈xs,∀ k,(sv x).ownBlock=some k->lo<=k/\k<w.heap.size:=⟨h.head.lt,fun x hx=>(h.rows x hx).lt⟩
theorem aAn:OR th hs hc tr rs rc sv ct w base lo (qS none 0 0) []:=⟨fJ _ _ _ _ _,by simp,by simp⟩
theorem aJ0 (hb:base<=w.heap.size):OR th hs hc tr rs rc sv ct (w.alloc (.cells #[] th)) base lo (qS (qP w.heap.size) 0 0) []:=⟨bI _ _ _ _ _ hb,by simp,by simp⟩
theorem OR.push {k c:Nat}{v':Value}{x:α}(h:OR th hs hc tr rs rc sv ct w base lo (qS a k c) xs)(hl:xs.length=k)(hx:OG tr rs rc w lo' (sv x) (ct x))(hb:lo<=lo')(hlo:∀ A∈xs,∀ j,(sv A).ownBlock=some j->j<lo')(hown:w'.ownsRow base th hs v' (k+1) (xs.flatMap hc++hc x))(hg:w.grownBy w' (qS a k c).ownBlock)(hne:th≠tr):OR th hs hc tr rs rc sv ct w' base lo v' (xs++[x]):=by
 have key:∀ (u:Value) (ys:List β) (l:Nat),OG tr rs rc w l u ys->∀ j,u.ownBlock=some j->(qS a k c).ownBlock≠some j:=fun u ys l ho j hj e=>by
  obtain ⟨c1,k1⟩:=aE ho hj;obtain ⟨c2,k2⟩:=aE h.head e;exact hne (aI k2 k1)
 refine ⟨?_,?_,?_⟩
 .unfold OG;rw [xI,hl,xU,xX];exact hown
 .intro B hB;rcases List.mem_append.1 hB with hB|hB
  .exact (h.rows B hB).kept' hg (key _ _ _ (h.rows B hB))
  .simp at hB;subst hB;exact (hx.kept' hg (key _ _ _ hx)).mono hb
 .rw [List.pairwise_append];refine ⟨h.apart,by simp,fun B hB X hX j hj e=>?_⟩;simp at hX;subst hX;have h1:=hlo B hB j hj;have h2:=(hx.lt j e).1;omega
end
abbrev PB:=Pl×qO×Nat
def svP (x:PB):Value:=qS x.2.1 x.1.banks.length x.2.2
def clP (x:PB):List Value:=[qI x.1.text,svP x,qI x.1.data,qI x.1.size]
def ctP (x:PB):List Int:=x.1.banks
abbrev OPl:=OR 171 4 clP 3 1 clI svP ctP
abbrev TB:=List Tg×qO×Nat
def svT (x:TB):Value:=qS x.2.1 x.1.length x.2.2
def aBk (x:TB):List Value:=[svT x]
def ctT (x:TB):List Tg:=x.1
abbrev OTg:=OR 190 1 aBk 58 3 clG svT ctT
structure LayO (W:qw)(base:Nat)(L:Lay)(a0:qO)(c0:Nat)(xs:List PB)(a2:qO)(c2:Nat)(a5:qO)(c5:Nat)(ts:List TB):Prop where
 p:OPl W base base (qS a0 xs.length c0) xs
 ps:xs.map (fun x=>x.1)=L.places
 s:OG 3 1 clI W base (qS a2 L.slots.length c2) L.slots
 t:OTg W base base (qS a5 ts.length c5) ts
 tt:ts.map (fun x=>x.1)=L.targets
 sp:∀ k,(qS a2 L.slots.length c2).ownBlock=some k->∀ x∈xs,(svP x).ownBlock≠some k
def mG (L:Lay)(a0:qO)(c0:Nat)(xs:List PB)(a2:qO)(c2:Nat)(a5:qO)(c5:Nat)(ts:List TB):Array Value:=(qL L a0 xs.length c0 a2 L.slots.length c2 a5 ts.length c5)
theorem aOa:(Tryz.prog.info? 171).map (fun i=>(i.zero,i.size,i.bytes))=some (some (.agg #[qI 0,qS none 0 0,qI 0,qI 0]),4,48):=by kernel_rfl
theorem aKv:(Tryz.prog.info? 190).map (fun i=>(i.zero,i.size,i.bytes))=some (some (qS none 0 0),1,24):=by kernel_rfl
theorem rA {w:qw}(h:m.md w)(k:Nat)(hk:k<m.bn):(m.bl.getD k zB).2.1=(m.pm.bl.getD k []).length/\m.pm.bl.length=m.bn:=by
 have hb:=h.b.1;refine ⟨?_,by simp [Md.pm,hb]⟩;have e:m.pm.bl.getD k []=(m.bl.getD k zB).2.2.2:=fD _ _ _ zB _;rw [e];exact (h.b.2.2.2.1 k hk).1.symm
theorem vV (a:qO)(n cap:Nat)(ms:List Md)(s c k d:Int)(w:qw)(h:MSD w a n cap ms):
 qC 140 #[qS a n cap,.agg (qW s c k d)] w fun e w'=>e=.returned (.bool (decide (0<s/\¬ jV (aD ms) c)))/\qY w w':=by
 have hA:qY w (w.alloc (.cells (qW s c k d) 37)):=bal;have k0:=Blk.new w (qW s c k d) 37;have hl:=h.s.1;have hm1:=h.s.2.1;unfold maxLen at hm1;have hpl:=bR ms;have HH:=zh h;obtain ⟨R,hR⟩:=eqx (decide (0<s/\¬ jV (aD ms) c));rw [<- hR];have HR:=zh hR;clear hR;have HB1:=zh (xA hA k0);clear h hA k0;go_enter Tryz.func140,Tryz.ntmps140
 go_wp2;go_loopw [5] (fun i wr=>∃ m:Nat,m<=n/\i=qI m/\(0<s->∀ j,j<m->∀ k,k<((aD ms).getD j zP).bl.length->((((aD ms).getD j zP).bl.getD k []).length:Int)<=c)/\qY w wr/\Blk wr w.heap.size (qW s c k d) 37) (qf n)
 .exact ⟨0,xC _,rfl,fun _ j hj=>absurd hj (by omega),HB1.o.1,HB1.o.2⟩
 .obtain ⟨m,hm,rfl,hv,B,kk⟩:=hrel;by_cases hlt:m<n
  .have hlt':(m:Int)<(n:Int):=by omega
   have HV:=zh hv;have HB2:=zh (xA B kk);clear hv B kk HB1;go_wp2;go_loopw [6] (fun i wr=>∃ q:Nat,q<=(ms.getD m aK).bn/\i=qI q/\(0<s->∀ k,k<q->((((aD ms).getD m zP).bl.getD k []).length:Int)<=c)/\qY w wr/\Blk wr w.heap.size (qW s c k d) 37) (fun i _=>(ms.getD m aK).bn-(intOf i).toNat)
   .exact ⟨0,xC _,rfl,fun _ j hj=>absurd hj (by omega),HB2.o.1,HB2.o.2⟩
   .obtain ⟨q,hq,rfl,hw,B,kk⟩:=hrel;have H:=HH.o.bw B;obtain ⟨b,off,rfl,q0,q1,q2,_⟩:=H.s.at m hlt;have hmd:=H.d m hlt;have hbl:((aD ms).getD m zP).bl.length=(ms.getD m aK).bn:=by rw [cH];show (List.map _ _).length=_;rw [xH];exact hmd.b.1
    have HW:=zh hw;have hbn:(ms.getD m aK).bn<=9223372036854775807:=by have:=hmd.b.2.1;unfold maxLen at this;omega
    by_cases hlt2:q<(ms.getD m aK).bn
    .have hlt2':(q:Int)<((ms.getD m aK).bn:Int):=by omega
     obtain ⟨_,_,hcb,hrb,_⟩:=hmd.b;obtain ⟨b2,off2,hba,hc⟩:=hcb (by omega);have c0:=hc q hlt2;have hlen:=(rA hmd q hlt2).1;rw [<- cH] at hlen;rw [hba] at q2;have y0:=kk.e0;have y1:=kk.e1;have HB3:=zh (xA B kk);obtain ⟨L,hL⟩:∃ L:Nat,L=(((aD ms).getD m zP).bl.getD q []).length:=⟨_,rfl⟩;rw [<- hL] at hlen;rw [hlen] at c0;have hmx:L<=9223372036854775807:=by have:=(hrb q hlt2).2.1;rw [hlen] at this;unfold maxLen at this;omega
     have HSH:=zh (show (0<s->(L:Int)<=c)->0<s->∀ k,k<q+1->((((aD ms).getD m zP).bl.getD k []).length:Int)<=c from fun h1 h2 k hk=>by
      by_cases e:k=q
      .subst e;rw [<- hL];exact h1 h2
      .exact HW.o h2 k (by omega))
     have HBD:Zh (0<s->c<(L:Int)->0<s/\¬ jV (aD ms) c):=fun h1 h2=>⟨h1,fun hs=>by have:=hs m (by omega) q (by omega);rw [<- hL] at this;omega⟩;generalize (ms.getD m aK).bl.getD q zB=bq at *;generalize (ms.getD m aK).bn=bn at *;obtain ⟨bq1,bq2,bq3,bq4⟩:=bq;dsimp only at c0 hlen;clear hw B H hmd hbl hba hc hcb hrb hL hlen q0 q1 kk;by_cases hs0:0<s
     .by_cases hcl:c<(L:Int)
      .have HF:=zh (HBD.o hs0 hcl);go_wp2_with fail
       go_quiet (fail)
       go_wp2;go_ret;exact ⟨aA (by rw [HR.o,xR HF.o]),iO HB3.o.1 nq⟩
      .have HF:=zh (HSH.o (fun _=>by omega));go_wp2_with fail
       go_quiet (fail)
       go_wp2
       go_roundw
       .exact ⟨q+1,by omega,by go_num,HF.o,iO HB3.o.1 nq,HB3.o.2⟩
       .simp [qf,intOf];omega
     .have HF:=zh (HSH.o (fun e=>absurd e hs0));have hs2:decide (0<s)=false:=xS hs0;go_wp2_with fail
      go_quiet (fail)
      go_wp2
      go_roundw
      .exact ⟨q+1,by omega,by go_num,HF.o,iO HB3.o.1 nq,HB3.o.2⟩
      .simp [qf,intOf];omega
    .have hlt2':¬ (q:Int)<((ms.getD m aK).bn:Int):=by omega
     have HV2:=zh (show 0<s->∀ j,j<m+1->∀ k,k<((aD ms).getD j zP).bl.length->((((aD ms).getD j zP).bl.getD k []).length:Int)<=c from fun h1 j hj k hk=>by
      by_cases e:j=m
      .subst e;exact HW.o h1 k (by omega)
      .exact HV.o h1 j (by omega) k hk)
     have HB3:=zh (xA B kk);generalize (ms.getD m aK).bn=bn at *;clear hw B H hmd hbl q0 q1 kk;go_wp2
     go_roundw
     .exact ⟨m+1,by omega,by go_num,HV2.o,HB3.o.1,HB3.o.2⟩
     .simp [qf,intOf];omega
  .have hlt':¬ (m:Int)<(n:Int):=by omega
   have HF:Zh (¬ (0<s/\¬ jV (aD ms) c)):=fun h=>h.2 (fun i hi k hk=>hv h.1 i (by omega) k hk);have HB2:=zh B;clear hv B kk HB1;go_wp2;go_ret;exact ⟨aA (by rw [HR.o,xS HF.o]),HB2.o⟩
theorem aQ {x:Int}(h:0<=x:=by omega):x<=rnd x/\rnd x<=x+31:=by unfold rnd;omega
theorem dZ (h:fB P=0):0<=tsz P/\tsz P<=831:=by
 have h1:=(cA h).2.2.1;have:=aQ (x:=4*(P.tz.length:Int));unfold tsz;omega
theorem cD {P:PMod}(h:fB P=0):∀ k,k<=P.bl.length->0<=cB P k/\cB P k<=(k:Int)*287
 | 0,_=>by simp [cB]
 | k+1,hk=>by
   have ih:=cD h k (by omega);have h1:=(cA h).2.2.2.2.2.2.2 k (by omega);have:=aQ (x:=4*((P.bl.getD k []).length:Int));show 0<=cB P k+rnd (4*((P.bl.getD k []).length:Int))/\cB P k+rnd (4*((P.bl.getD k []).length:Int))<=_;push_cast;omega
theorem iN (h:fB P=0):0<=dsz P/\dsz P<=1055:=by
 obtain ⟨_,_,_,_,h5,h6,h7,_⟩:=cA h;have:=aQ (x:=(P.dz.length:Int)+P.bss);unfold dsz;omega
theorem cM {ps:List PMod}(h:fQ ps):∀ i,i<=ps.length->0<=Fl ps i/\Fl ps i<=(i:Int)*1979
 | 0,_=>by simp [Fl]
 | i+1,hi=>by
   have ih:=cM h i (by omega);have hv:=h i (by omega);have h1:=dZ hv;have h2:=cD hv _ aN;have h3:=(cA hv).2.2.2.1;show 0<=Fl ps i+(tsz (ps.getD i zP)+cB (ps.getD i zP) (ps.getD i zP).bl.length)/\Fl ps i+(tsz (ps.getD i zP)+cB (ps.getD i zP) (ps.getD i zP).bl.length)<=_;push_cast;omega
theorem bO {ps:List PMod}(h:fQ ps):∀ i,i<=ps.length->0<=Ra ps i/\Ra ps i<=(i:Int)*1055
 | 0,_=>by simp [Ra]
 | i+1,hi=>by
   have ih:=bO h i (by omega);have h1:=iN (h i (by omega));show 0<=Ra ps i+dsz (ps.getD i zP)/\Ra ps i+dsz (ps.getD i zP)<=_;push_cast;omega
theorem aM {w:qw}{sz:Nat}{t t':TypeId}{xs:List Value}{k:Nat}(h:w.ownsRow base t sz v n xs)(hk:v.ownBlock=some k)(hb:Blk w k cs t')(hne:t≠t'):False:=by
 obtain ⟨c1,k1⟩:=aE h hk;exact hne (aI k1 hb)
def zL:Array Value:=qz
structure Lst (w W:qw)(s c k d:Int)(cs:Array Value):Prop where
 be:qY w W
 k0:Blk W w.heap.size (qW s c k d) 37
 k1:Blk W (w.heap.size+1) zL 71
 k5:Blk W (w.heap.size+5) cs 71
theorem Lst.bw {w W W':qw}(h:Lst w W s c k d cs)(hb:qY W W'):Lst w W' s c k d cs:=⟨h.be.trans (hb.mono h.be.size),h.k0.bw hb,h.k1.bw hb,h.k5.bw hb⟩
theorem Lst.set {w W:qw}(h:Lst w W s c k d cs)(i:Nat)(v:Value):Lst w (W.setCell (qR (w.heap.size+5) i) v) s c k d (cs.setIfInBounds i v):=
 ⟨aG h.be (aC W (w.heap.size+5) i v) (fun k hk=>by omega) h.be.size,aF (aC W (w.heap.size+5) i v) h.k0 (by omega),aF (aC W (w.heap.size+5) i v) h.k1 (by omega),h.k5.set i v⟩
theorem Lst.other {w W:qw}(h:Lst w W s c k d cs){g:Nat}(hg:w.heap.size+6<=g)(i:Nat)(v:Value):Lst w (W.setCell (qR g i) v) s c k d cs:=
 ⟨aG h.be (aC W g i v) (fun k hk=>by omega) h.be.size,aF (aC W g i v) h.k0 (by omega),aF (aC W g i v) h.k1 (by omega),aF (aC W g i v) h.k5 (by omega)⟩
theorem Lst.grown {w W W':qw}(h:Lst w W s c k d cs)(hg:W.grownBy W' row)(hr:∀ j,row=some j->w.heap.size+2<=j/\j≠w.heap.size+5):Lst w W' s c k d cs:=by
 have t:Turn (fun j=>row=some j) W W':=⟨hg.os,hg.tape,hg.output,hg.size,fun j hj hs=>hg.block j hj (fun e=>hs e.symm)⟩;exact ⟨aG h.be t (fun j hj=>by have:=hr j hj;omega) h.be.size,aF t h.k0 (fun e=>by have:=hr _ e;omega),aF t h.k1 (fun e=>by have:=hr _ e;omega),aF t h.k5 (fun e=>by have:=hr _ e;omega)⟩
theorem Lst.sz {w W:qw}(h:Lst w W s c k d cs):w.heap.size+6<=W.heap.size:=h.k5.lt
theorem Lst.drew {w W:qw}(h:Lst w W s c k d cs):Lst w W.drew s c k d cs:=⟨h.be.drew,h.k0,h.k1,h.k5⟩
structure Lrw (w W:qw)(ps:List PMod)(m:Nat)(a0:qO)(c0:Nat)(xs:List PB)(a5:qO)(c5:Nat)(ts:List TB):Prop where
 P:OPl W (w.heap.size+2) (w.heap.size+6) (qS a0 m c0) xs
 T:OTg W (w.heap.size+2) (w.heap.size+6) (qS a5 m c5) ts
 S:OG 3 1 clI W (w.heap.size+2) (qS (some (qR (w.heap.size+3) 0)) 0 0) []
 pl:xs.length=m
 tl:ts.length=m
 px:xs.map (fun x=>x.1)=(List.range m).map (plc ps)
 tx:ts.map (fun x=>x.1)=(List.range m).map fun i=>tgs ps (ps.getD i zP)
def Lg (w:qw)(j:Nat):Prop:=j=w.heap.size+5
theorem Lrw.kept {w W W':qw}{m:Nat}{xs:List PB}{ts:List TB}(h:Lrw w W ps m a0 c0 xs a5 c5 ts)(L:Lst w W s c k d cs)(t:Turn (Lg w) W W'):Lrw w W' ps m a0 c0 xs a5 c5 ts:=by
 have k5:=L.k5;refine ⟨h.P.kept t (fun k hk e=>?_) (fun x hx k hk e=>?_),h.T.kept t (fun k hk e=>?_) (fun x hx k hk e=>?_),h.S.kept t (fun k hk e=>?_),h.pl,h.tl,h.px,h.tx⟩
 .rw [show k=w.heap.size+5 from e] at hk;exact aM h.P.head hk k5 (by decide)
 .rw [show k=w.heap.size+5 from e] at hk;exact aM (h.P.rows x hx) hk k5 (by decide)
 .rw [show k=w.heap.size+5 from e] at hk;exact aM h.T.head hk k5 (by decide)
 .rw [show k=w.heap.size+5 from e] at hk;exact aM (h.T.rows x hx) hk k5 (by decide)
 .rw [show k=w.heap.size+5 from e] at hk;exact aM h.S hk k5 (by decide)
theorem Lrw.bw {w W W':qw}{m:Nat}{xs:List PB}{ts:List TB}(h:Lrw w W ps m a0 c0 xs a5 c5 ts)(hb:qY W W'):Lrw w W' ps m a0 c0 xs a5 c5 ts:=⟨h.P.bw hb,h.T.bw hb,h.S.bw hb,h.pl,h.tl,h.px,h.tx⟩
def bks (ps:List PMod)(i k:Nat):List Int:=(List.range k).map fun j=>Fl ps i+tsz (ps.getD i zP)+cB (ps.getD i zP) j
theorem nP (ps:List PMod)(i k:Nat):(bks ps i k).length=k:=by simp [bks]
theorem aLm (ps:List PMod)(i k:Nat):bks ps i (k+1)=bks ps i k++[Fl ps i+tsz (ps.getD i zP)+cB (ps.getD i zP) k]:=by simp [bks,List.range_succ]
def LkM (w:qw)(ps:List PMod)(s c k d:Int)(e:Ending)(w':qw):Prop:=qY w w'/\∃ a0 c0 xs a2 c2 a5 c5 ts,e=.returned (.tuple #[.agg (mG (lkL ps s c k d) a0 c0 xs a2 c2 a5 c5 ts),qI (lkc ps s c k d)])/\LayO w' w.heap.size (lkL ps s c k d) a0 c0 xs a2 c2 a5 c5 ts
theorem aM1 (W:qw)(base:Nat):LayO W base L0 none 0 [] none 0 none 0 []:=⟨aAn,rfl,fJ _ _ _ _ _,aAn,rfl,fun k hk=>by simp [Value.ownBlock] at hk⟩
theorem aGj {w w':qw}(hb:qY w w')(hV:lkc ps s c k d=V)(h0:V≠0):LkM w ps s c k d (.returned (.tuple #[.agg zL,qI V])) w':=by
 refine ⟨hb,none,0,[],none,0,none,0,[],?_,?_⟩
 .unfold lkL;rw [if_neg (by rw [hV];exact h0),hV];rfl
 .unfold lkL;rw [if_neg (by rw [hV];exact h0)];exact aM1 _ _
theorem aN5 (h:dT ps s w k d=V)(h0:V≠0):lkc ps s w k d=V:=by unfold lkc;rw [if_pos (by rw [h];exact h0),h]
theorem aN4 (h:dT ps s w k d=0)(h5:¬ jS ps):lkc ps s w k d=5:=by unfold lkc;rw [if_neg (by rw [h];decide),if_pos h5]
theorem aN3 (h:dT ps s w k d=0)(h5:jS ps)(h6:0<s/\¬ jV ps w):lkc ps s w k d=6:=by unfold lkc;rw [if_neg (by rw [h];decide),if_neg (fun e=>e h5),if_pos h6]
theorem aN2 (h:dT ps s w k d=0)(h5:jS ps)(h6:¬ (0<s/\¬ jV ps w))(h7:16384<(lay ps s w k).flash):lkc ps s w k d=7:=by unfold lkc;rw [if_neg (by rw [h];decide),if_neg (fun e=>e h5),if_neg h6,if_pos h7]
theorem aN1 (h:dT ps s w k d=0)(h5:jS ps)(h6:¬ (0<s/\¬ jV ps w))(h7:¬ 16384<(lay ps s w k).flash)(h8:16384<(lay ps s w k).ram):lkc ps s w k d=8:=by unfold lkc;rw [if_neg (by rw [h];decide),if_neg (fun e=>e h5),if_neg h6,if_neg h7,if_pos h8]
theorem aN6 (h:dT ps s w k d=0)(h5:jS ps)(h6:¬ (0<s/\¬ jV ps w))(h7:¬ 16384<(lay ps s w k).flash)(h8:¬ 16384<(lay ps s w k).ram):lkc ps s w k d=0:=by unfold lkc;rw [if_neg (by rw [h];decide),if_neg (fun e=>e h5),if_neg h6,if_neg h7,if_neg h8]
theorem rV (h:dT ps s w k d=0):cfo s w k d=true/\ps.length<=4/\fQ ps:=by
 unfold dT at h;split at h
 .simp at h
 split at h
 .simp at h
 split at h
 .simp at h
 .rename_i h1 h2 h3;exact ⟨by simpa using h1,by omega,xZ.1 h3⟩
theorem mQ {a W:qw}(h:Turn S a W):Turn S a W.drew:=⟨h.os,h.tape,h.output,h.size,h.block⟩
theorem aQd {S:Prop}(main:S->G)(pf:S):G:=main pf
theorem aQu {S F:Nat->Nat->World->Prop}(main:(∀ gp gr W,F gp gr W->S gp gr W)->G)(pf:∀ gp gr W,F gp gr W->S gp gr W):G:=main pf
theorem aM5 (w:qw)(s c k d:Int)(ps:List PMod):
 Lst w ((((((w.alloc (.cells (qW s c k d) 37)).alloc (.cells qz 71)).alloc (.cells #[] 171)).alloc (.cells #[] 3)).alloc (.cells #[] 190)).alloc (.cells #[qS (some (qR (w.heap.size+2) 0)) 0 0,qI 0,qS (some (qR (w.heap.size+3) 0)) 0 0,qI 0,qI 0,qS (some (qR (w.heap.size+4) 0)) 0 0] 71)) s c k d #[qS (some (qR (w.heap.size+2) 0)) 0 0,qI 0,qS (some (qR (w.heap.size+3) 0)) 0 0,qI 0,qI 0,qS (some (qR (w.heap.size+4) 0)) 0 0] /\
 Lrw w ((((((w.alloc (.cells (qW s c k d) 37)).alloc (.cells qz 71)).alloc (.cells #[] 171)).alloc (.cells #[] 3)).alloc (.cells #[] 190)).alloc (.cells #[qS (some (qR (w.heap.size+2) 0)) 0 0,qI 0,qS (some (qR (w.heap.size+3) 0)) 0 0,qI 0,qI 0,qS (some (qR (w.heap.size+4) 0)) 0 0] 71)) ps 0 (some (qR (w.heap.size+2) 0)) 0 [] (some (qR (w.heap.size+4) 0)) 0 []:=by
 have k0:=Blk.new w (qW s c k d) 37;have b0:qY w (w.alloc (.cells (qW s c k d) 37)):=bal;have s0:(w.alloc (.cells (qW s c k d) 37)).heap.size=w.heap.size+1:=by simp
 generalize w.alloc (.cells (qW s c k d) 37)=W0 at *;have k1:=Blk.new W0 qz 71;have b1:qY W0 (W0.alloc (.cells qz 71)):=bal;have s1:(W0.alloc (.cells qz 71)).heap.size=w.heap.size+2:=by simp [s0]
 rw [s0] at k1;generalize W0.alloc (.cells qz 71)=W1 at *;have o2:OPl (W1.alloc (.cells #[] 171)) (w.heap.size+2) (w.heap.size+6) (qS (qP W1.heap.size) 0 0) []:=aJ0 (by omega);have b2:qY W1 (W1.alloc (.cells #[] 171)):=bal;have s2:(W1.alloc (.cells #[] 171)).heap.size=w.heap.size+3:=by simp [s1]
 rw [s1] at o2;generalize W1.alloc (.cells #[] 171)=W2 at *;have o3:=bI 3 1 clI W2 (w.heap.size+2) (by omega);have b3:qY W2 (W2.alloc (.cells #[] 3)):=bal;have s3:(W2.alloc (.cells #[] 3)).heap.size=w.heap.size+4:=by simp [s2]
 rw [s2] at o3;generalize W2.alloc (.cells #[] 3)=W3 at *;have o4:OTg (W3.alloc (.cells #[] 190)) (w.heap.size+2) (w.heap.size+6) (qS (qP W3.heap.size) 0 0) []:=aJ0 (by omega);have b4:qY W3 (W3.alloc (.cells #[] 190)):=bal;have s4:(W3.alloc (.cells #[] 190)).heap.size=w.heap.size+5:=by simp [s3]
 rw [s3] at o4;generalize W3.alloc (.cells #[] 190)=W4 at *;have k5:=Blk.new W4 #[qS (some (qR (w.heap.size+2) 0)) 0 0,qI 0,qS (some (qR (w.heap.size+3) 0)) 0 0,qI 0,qI 0,qS (some (qR (w.heap.size+4) 0)) 0 0] 71;have b5:qY W4 (W4.alloc (.cells #[qS (some (qR (w.heap.size+2) 0)) 0 0,qI 0,qS (some (qR (w.heap.size+3) 0)) 0 0,qI 0,qI 0,qS (some (qR (w.heap.size+4) 0)) 0 0] 71)):=bal;rw [s4] at k5;have c45:=b5;have c35:=b4.trans (c45.mono (by omega));have c25:=b3.trans (c35.mono (by omega));have c15:=b2.trans (c25.mono (by omega));have c05:=b1.trans (c15.mono (by omega));exact ⟨⟨b0.trans (c05.mono (by omega)),k0.bw c05,k1.bw c15,k5⟩,⟨o2.bw c25,o4.bw c45,o3.bw c35,rfl,rfl,rfl,rfl⟩⟩
def st6 (W:qw)(k:Nat)(v0 v1 v2 v3 v4 v5:Value):World:=(((((W.setCell (qR k 0) v0).setCell (qR k 1) v1).setCell (qR k 2) v2).setCell (qR k 3) v3).setCell (qR k 4) v4).setCell (qR k 5) v5
theorem cE (W:qw)(k:Nat)(v0 v1 v2 v3 v4 v5:Value):Turn (fun j=>j=k) W (st6 W k v0 v1 v2 v3 v4 v5):=
 (((((aC W k 0 v0).trans (aC _ k 1 v1)).trans (aC _ k 2 v2)).trans (aC _ k 3 v3)).trans (aC _ k 4 v4)).trans (aC _ k 5 v5)
theorem jL {W:qw}{k:Nat}{t:TypeId}(h:Blk W k zL t)(v0 v1 v2 v3 v4 v5:Value):Blk (st6 W k v0 v1 v2 v3 v4 v5) k #[v0,v1,v2,v3,v4,v5] t:=
 (((((h.set 0 v0).set 1 v1).set 2 v2).set 3 v3).set 4 v4).set 5 v5
theorem aM6 {w W:qw}(k1:Blk W (w.heap.size+1) zL 71)(v0 v1 v2 v3 v4 v5:Value)(Q:Ending->World->Prop)(tmps:Array Value)(h4:tmps[4]?=some (.pointer (some (qR (w.heap.size+1) 0))))(hQ:Q (.returned (.agg #[v0,v1,v2,v3,v4,v5])) (st6 W (w.heap.size+1) v0 v1 v2 v3 v4 v5)):
 bodyPost Tryz.prog Tryz.f141 Q Exit.ret ⟨tmps,[]⟩ (st6 W (w.heap.size+1) v0 v1 v2 v3 v4 v5):=by
 have k:=jL k1 v0 v1 v2 v3 v4 v5;obtain ⟨t0,t1,t2,t3,t4,t5⟩:=k.z6;refine bodyPost_ret_by (v:=.agg #[v0,v1,v2,v3,v4,v5]) ?_ rfl hQ;simp [results,Tryz.results141,go_sem,h4,t0,t1,t2,t3,t4,t5]
open Go Go.Maps Go.WideShapes
set_option linter.all false
set_option maxRecDepth 100000
theorem gP (x:Int)(w:qw)(h0:0<=x:=by omega)(h1:x<=4294967295:=by omega):qC 212 #[qI x] w fun e w'=>e=.returned (qI (rnd x))/\w'=w:=by
 have hd:(x+31).tdiv 32=(x+31)/32:=Int.tdiv_eq_ediv_of_nonneg (by omega);go_enter Tryz.func212,Tryz.ntmps212
 go_wp2;go_ret;exact ⟨aH (by unfold rnd;rw [show x+31=x+32-1 by omega]),rfl⟩
theorem lO (a:qO)(n cap:Nat)(w:qw)(hn:n<=1048576):qC 199 #[qS a n cap] w fun e w'=>e=.returned (qI (rnd (4*(n:Int))))/\w'=w:=by
 have hw:IntKind.i64.wrap (4*(n:Int))=4*(n:Int):=bZ _ (by omega) (by omega);have HR:=zh (gP (4*(n:Int)) w);go_enter Tryz.func199,Tryz.ntmps199
 go_wp2_with fail
 refine HR.o.mono ?_;rintro e w1 ⟨rfl,rfl⟩;go_wp2;go_ret;exact ⟨rfl,rfl⟩
theorem Md.okI {w:qw}(h:m.md w):qC 211 #[.agg (qM m.nm m.ta m.tn m.tc m.ba m.bn m.bc m.da m.dn m.dc m.bss m.ra m.rn m.rc m.ia m.im m.ic m.ea m.en m.ec)] w (qB w (qI (fB m.pm))):=by
 have:=vZ _ _ _ _ _ _ _ _ _ _ _ _ _ _ _ _ _ _ _ _ _ _ _ _ _ _ w h;rw [aKk h] at this;exact this
theorem aPn {a:ByteArray}:a.data.toList=b.data.toList ↔ a=b:=by
 constructor
 .intro e;cases a
  cases b
  simp at e;rw [e]
 .intro e;rw [e]
theorem aJ6 {ms:List Md}(hl:ms.length=n):(size (fd (cT ms) n)=n) ↔ nms (aD ms):=by
 have h:=aBa (cT ms) n;have key:∀ i,i<n->((aD ms).getD i zP).nm=(ms.getD i aK).nm:=fun i hi=>by rw [cH];rfl
 constructor
 .intro e;rw [xR e] at h;intro i hi k hk;rw [bR,hl] at hi;have h':=h.symm;rw [List.all_eq_true] at h';have h1:=h' i (by simpa using hi);rw [List.all_eq_true] at h1;have h2:=h1 k (by simpa using hk);rw [key k (by omega),key i hi];intro e';have e2:cT ms k=cT ms i:=by unfold cT;rw [e']
  rw [e2] at h2;simp at h2
 .intro hn;apply of_decide_eq_true;rw [h,List.all_eq_true];intro i hi;rw [List.all_eq_true];intro k hk;have hi':i<n:=by simpa using hi
  have hk':k<i:=by simpa using hk
  have:=hn i (by rw [bR];omega) k hk';rw [key k (by omega),key i hi'] at this;have h3:cT ms k≠cT ms i:=fun e=>this (aPn.1 e);simp [h3]
end Go.Proofs.YtncccmeomcaabaaGreat
namespace Go.Proofs.YtncccmeomcaabaaGreat
open Go Go.Maps Go.WideShapes
open Go.RowKit
set_option linter.all false
set_option maxRecDepth 100000
variable {R base c lo m n q:Nat}{a:qO}{ps:List PMod}
theorem vS (a:qO)(n cap:Nat)(ms:List Md)(s c k d:Int)(w:qw)(h:MSD w a n cap ms):
 qC 185 #[qS a n cap,.agg (qW s c k d)] w (qB w (qI (dT (aD ms) s c k d))):=by
 have hA:qY w (w.alloc (.cells (qW s c k d) 37)):=bal;have hl:=h.s.1;have hm1:=h.s.2.1;unfold maxLen at hm1;have hpl:=bR ms;have HH:=zh h;have HC:=zh (fun W=>wA s c k d W);clear h;go_enter Tryz.func185,Tryz.ntmps185
 go_wp2_with fail
 refine (HC.o _).mono ?_;rintro e w1 ⟨rfl,hb1⟩;have HB1:=zh (hA.trans (hb1.mono (by simp)));clear hA hb1 HC;cases hcf:cfo s c k d with
 | false=>
   have HS:=zh (aJa (ps:=aD ms) hcf);go_wp2;go_ret;exact ⟨aH HS.o.symm,HB1.o⟩
 | true=>
   by_cases hn2:n<1\/4<n
   .have HS:=zh (aI9 (ps:=aD ms) hcf (by omega));by_cases hn1:n<1
    .have hn1':(n:Int)<1:=by omega
     clear hn2;go_wp2;go_ret;exact ⟨aH HS.o.symm,HB1.o⟩
    .have hn1':¬ (n:Int)<1:=by omega
     have hn4':(4:Int)<(n:Int):=by omega
     clear hn2;go_wp2;go_ret;exact ⟨aH HS.o.symm,HB1.o⟩
   have hn1':¬ (n:Int)<1:=by omega
   have hn4':¬ (4:Int)<(n:Int):=by omega
   have HN2:=zh (show ¬ ((aD ms).length<1\/4<(aD ms).length) by rw [hpl,hl];exact hn2);clear hn2;go_wp2;go_loopw [20] (fun i wr=>∃ m:Nat,m<=n/\i=qI m/\(∀ j,j<m->fB ((aD ms).getD j zP)=0)/\qY w wr) (qf n)
   .exact ⟨0,xC _,rfl,fun j hj=>absurd hj (by omega),HB1.o⟩
   .obtain ⟨m,hm,rfl,hv,B⟩:=hrel;by_cases hlt:m<n
    .have hlt':(m:Int)<(n:Int):=by omega
     have H:=HH.o.bw B;obtain ⟨b,off,rfl,q0,q1,q2,q3,q4,q5,q6,q7⟩:=H.s.at m hlt;have HOK:=zh (fun (W:qw) (hb:qY wr W)=>Md.okI (MD.bw (H.d m hlt) hb));obtain ⟨V,hV⟩:=eqx (fB (ms.getD m aK).pm);rw [<- hV] at HOK;have HVV:=zh (hV.trans (by rw [<- cH]));have HV:=zh hv;have HB:=zh B;generalize ms.getD m aK=M at *;have al:qY wr (wr.alloc (.cells (qM M.nm M.ta M.tn M.tc M.ba M.bn M.bc M.da M.dn M.dc M.bss M.ra M.rn M.rc M.ia M.im M.ic M.ea M.en M.ec) 138)):=bal;obtain ⟨g0,g1,g2,g3,g4,g5,g6,g7⟩:=(Blk.new wr (qM M.nm M.ta M.tn M.tc M.ba M.bn M.bc M.da M.dn M.dc M.bss M.ra M.rn M.rc M.ia M.im M.ic M.ea M.en M.ec) 138).eight;have HAL:=zh al;clear hv B H hV al;go_wp2_with fail
     refine (HOK.o _ HAL.o).mono ?_;rintro e w2 ⟨rfl,hb2⟩;have hb2':=HAL.o.trans (hb2.mono HAL.o.size);have HB2:=zh (HB.o.trans (hb2'.mono HB.o.size));clear hb2 hb2' HOK HB HAL q0 q1 q2 q3 q4 q5 q6 q7 g0 g1 g2 g3 g4 g5 g6 g7;by_cases hz:V=0
     .subst hz
      have HV2:=zh (show ∀ j,j<m+1->fB ((aD ms).getD j zP)=0 from fun j hj=>by
       by_cases e:j=m
       .subst e;exact HVV.o.symm
       .exact HV.o j (by omega))
      go_wp2
      go_roundw
      .exact ⟨m+1,by omega,by go_num,HV2.o,HB2.o⟩
      .simp [qf,intOf];omega
     .have hz':(V !=0)=true:=by simp [hz]
      have HS:=zh (aI8 (ps:=aD ms) hcf HN2.o m (by omega) (by rw [<- HVV.o];exact hz));go_wp2;go_ret;exact ⟨aH HS.o.symm,HB2.o⟩
    .have hlt':¬ (m:Int)<(n:Int):=by omega
     have HV:Zh (fQ (aD ms)):=fun i hi=>hv i (by omega);have HB:=zh B;have HF:=zh (nJ a n cap ms wr (HH.o.s.bw B) (by omega));have hsz:=mJ (cT ms) n;have HNS:=zh (aJ6 (ms:=ms) hl);obtain ⟨Sz,hSz⟩:=eqx (size (fd (cT ms) n));have HSZ:=zh hSz;rw [<- hSz] at hsz HNS;clear hv B hSz;go_wp2_with fail
     refine HF.o.mono ?_;rintro e w2 ⟨rfl,hown,hb2⟩;have hlen:∀ ty,(Builtin.len_ #[176] ty #[.map (some wr.heap.size)]).run Tryz.prog w2=.ok (qI (Sz:Int)) w2:=by intro ty;rw [HSZ.o];exact hown.len Tryz.underlying176 ty
     have HB2:=zh (HB.o.trans (hb2.mono HB.o.size));clear hown hb2 HF HB;by_cases he:Sz=n
     .have HS:=zh (aJb (d:=d) hcf HN2.o HV.o (HNS.o.1 he));subst he;have hne:((Sz:Int) !=(Sz:Int))=false:=by simp
      go_wp2;go_ret;exact ⟨aH HS.o.symm,HB2.o⟩
     .have HS:=zh (show dT (aD ms) s c k d=4 by
       unfold dT
       rw [if_neg (by rw [hcf];decide),if_neg HN2.o,if_neg (fun e=>e HV.o),if_pos (fun e=>he (HNS.o.2 e))])
      have hne:((Sz:Int) !=(n:Int))=true:=by simp;omega
      go_wp2;go_ret;exact ⟨aH HS.o.symm,HB2.o⟩
def GB (ps:List PMod)(m q R:Nat):Prop:=(∀ i,i<ps.length->∀ k,k<(ps.getD i zP).bl.length->(i<m\/(i=m/\k<q))->((ps.getD i zP).bl.getD k []).length<=R)/\(R=0\/∃ i,i<ps.length/\∃ k,k<(ps.getD i zP).bl.length/\((ps.getD i zP).bl.getD k []).length=R)
theorem aNe (ps:List PMod):GB ps 0 0 0:=⟨fun i _ k _ h=>by omega,.inl rfl⟩
theorem GB.next (h:GB ps m q R)(hq:(ps.getD m zP).bl.length<=q):GB ps (m+1) 0 R:=
 ⟨fun i hi k hk e=>h.1 i hi k hk (by
  by_cases e2:i=m
  .subst e2;right;exact ⟨rfl,by omega⟩
  .left;omega),h.2⟩
theorem GB.step (h:GB ps m q R)(hm:m<ps.length)(hq:q<(ps.getD m zP).bl.length):GB ps m (q+1) (max R ((ps.getD m zP).bl.getD q []).length):=by
 refine ⟨fun i hi k hk e=>?_,?_⟩
 .by_cases e2:i=m/\k=q
  .obtain ⟨rfl,rfl⟩:=e2;omega
  .have:=h.1 i hi k hk (by omega);omega
 .by_cases hc:((ps.getD m zP).bl.getD q []).length<=R
  .rw [show max R ((ps.getD m zP).bl.getD q []).length=R by omega];exact h.2
  .exact .inr ⟨m,hm,q,hq,by omega⟩
theorem aGp (h:GB ps ps.length 0 R)(w:Int)(hw:1<=w):(w<(R:Int)) ↔ ¬ jV ps w:=by
 constructor
 .intro h1 hs;rcases h.2 with h2|⟨i,hi,k,hk,e⟩
  .omega
  .have:=hs i hi k hk;omega
 .intro hs;apply Classical.byContradiction;intro hn;exact hs (fun i hi k hk=>by have:=h.1 i hi k hk (.inl hi);omega)
theorem oN (a:qO)(n cap:Nat)(ms:List Md)(w:qw)(h:MSD w a n cap ms)(hv:fQ (aD ms))(hn4:n<=4):
 qC 187 #[qS a n cap] w fun e w'=>∃ R:Nat,e=.returned (qI (R:Int))/\GB (aD ms) (aD ms).length 0 R/\qY w w':=by
 have hl:=h.s.1;have hpl:(aD ms).length=n:=by rw [bR,hl]
 have HH:=zh h;have HVL:=zh hv;clear h hv;go_enter Tryz.func187,Tryz.ntmps187
 go_wp2;go_loopw [3,10] (fun x i wr=>∃ (m R:Nat),m<=n/\i=qI m/\x=qI (R:Int)/\R<=64/\Hid (GB (aD ms) m 0 R)/\qY w wr) (fun _ i _=>n-(intOf i).toNat)
 .exact ⟨0,0,xC _,rfl,rfl,xC _,zh (aNe _),brf⟩
 .obtain ⟨m,R,hm,rfl,rfl,hR,hG,B⟩:=hrel;by_cases hlt:m<n
  .have hlt':(m:Int)<(n:Int):=by omega
   have H:=HH.o.bw B;obtain ⟨b,off,rfl,q0,q1,q2,q3,q4,q5,q6,q7⟩:=H.s.at m hlt;have hmd:=H.d m hlt;obtain ⟨P,hP⟩:=eqx ((aD ms).getD m zP);have hPM:P=(ms.getD m aK).pm:=hP.trans (cH);have hvm:=HVL.o m (by omega);rw [<- hP] at hvm;obtain ⟨_,_,_,vb,_,_,_,vbk⟩:=cA hvm;have eB:(ms.getD m aK).bn=P.bl.length:=by rw [hPM];show _=(List.map _ _).length;rw [xH];exact hmd.b.1.symm
   have HBK:Zh (∀ j,j<P.bl.length->((ms.getD m aK).bl.getD j zB).2.1=(P.bl.getD j []).length):=fun j hj=>by rw [hPM];exact (rA hmd j (by omega)).1
   have HMB:=zh (fun (W:qw) (hb:qY wr W)=>(MD.bw hmd hb).b);have HP:=zh hP;rw [eB] at q2;have HEB:=zh eB;have HB:=zh B;generalize ms.getD m aK=M at *;generalize M.ba=ba at *;have al:qY wr (wr.alloc (.cells (qM M.nm M.ta M.tn M.tc ba P.bl.length M.bc M.da M.dn M.dc M.bss M.ra M.rn M.rc M.ia M.im M.ic M.ea M.en M.ec) 138)):=bal;obtain ⟨g0,g1,g2,g3,g4,g5,g6,g7⟩:=(Blk.new wr (qM M.nm M.ta M.tn M.tc ba P.bl.length M.bc M.da M.dn M.dc M.bss M.ra M.rn M.rc M.ia M.im M.ic M.ea M.en M.ec) 138).eight;have HAL:=zh al;clear B H hmd hP hPM eB al hvm;generalize wr=wo at *;go_wp2_with fail
   go_loopw [3,17] (fun x i wx=>∃ (q R:Nat),q<=P.bl.length/\i=qI q/\x=qI (R:Int)/\R<=64/\Hid (GB (aD ms) m q R)/\qY wo wx) (fun _ i _=>P.bl.length-(intOf i).toNat)
   .exact ⟨0,R,xC _,rfl,rfl,hR,hG,HAL.o⟩
   .obtain ⟨q,R',hq,rfl,rfl,hR',hG',B⟩:=hrel;by_cases hlt2:q<P.bl.length
    .have hlt2':(q:Int)<(P.bl.length:Int):=by omega
     obtain ⟨_,_,hcb,_,_⟩:=HMB.o wr B;obtain ⟨b2,off2,rfl,hc⟩:=hcb (by rw [HEB.o];omega);have cb:=hc q (by rw [HEB.o];exact hlt2);rw [HBK.o q hlt2] at cb;have hLq:=vbk q hlt2;obtain ⟨LQ,hLQ⟩:=eqx ((P.bl.getD q []).length);rw [<- hLQ] at cb hLq;have HG2:=zh (show GB (aD ms) m (q+1) (max R' LQ) by rw [hLQ,HP.o];exact hG'.out.step (by omega) (by rw [<- HP.o];exact hlt2));have hmx:max (R':Int) (LQ:Int)=((max R' LQ:Nat):Int):=by omega
     have HB2:=zh B;generalize M.bl.getD q zB=bq at cb;obtain ⟨bq1,bq2,bq3,bq4⟩:=bq;dsimp only at cb;clear hcb hc hLQ B;go_wp2
     go_roundw
     .exact ⟨q+1,max R' LQ,by omega,by go_num,(by rw [<- hmx];congr 1;split<;>omega),by omega,HG2,HB2.o⟩
     .simp [intOf];omega
    .have hlt2':¬ (q:Int)<(P.bl.length:Int):=by omega
     have HG2:=zh (hG'.out.next (by rw [<- HP.o];omega));have HB2:=zh (HB.o.trans (B.mono HB.o.size));clear B;go_wp2
     go_roundw
     .exact ⟨m+1,R',by omega,by go_num,rfl,hR',HG2,HB2.o⟩
     .simp [intOf];omega
  .have hlt':¬ (m:Int)<(n:Int):=by omega
   have HG:=zh (show GB (aD ms) (aD ms).length 0 R by rw [hpl,<- show m=n by omega];exact hG.out);have HB:=zh B;clear B hG;go_wp2;go_ret;exact ⟨R,rfl,by first|exact HG.o|(have:=HG.o;rw [hpl] at this;exact this),HB.o⟩
theorem aDf:∀ (xs:List Tg) (i:Nat),i<xs.length->(xs.flatMap clG)[i*3]?=some (qI (xs.getD i zT).1)/\(xs.flatMap clG)[i*3+1]?=some (qI (xs.getD i zT).2.1)/\(xs.flatMap clG)[i*3+2]?=some (qI (xs.getD i zT).2.2)
 | [],i,h=>by simp at h
 | x::xs,0,h=>by simp [clG]
 | x::xs,i+1,h=>by
   obtain ⟨h1,h2,h3⟩:=aDf xs i (by simpa using h);rw [show (i+1)*3=i*3+1+1+1 by omega];simp only [xT,clG,List.cons_append,List.nil_append,List.getElem?_cons_succ];exact ⟨h1,h2,h3⟩
theorem aO6 {w:qw}{xs:List Tg}(h:OG 58 3 clG w base (qS a n c) xs)(m:Nat)(hm:m<n):∃ g,a=some (qR g 0)/\w.cell? (qR g (m*3))=some (qI (xs.getD m zT).1)/\w.cell? (qR g (m*3+1))=some (qI (xs.getD m zT).2.1)/\w.cell? (qR g (m*3+2))=some (qI (xs.getD m zT).2.2):=by
 obtain ⟨hl,_,_,h4⟩:=aT h;obtain ⟨g,hg,hc⟩:=h4 (by omega);obtain ⟨e0,e1,e2⟩:=aDf xs m (by omega);exact ⟨g,hg,hc _ _ e0,hc _ _ e1,hc _ _ e2⟩
def zTB:TB:=([],none,0)
theorem aJx {w:qw}{ts:List TB}(h:OTg w base lo (qS a n c) ts)(i:Nat)(hi:i<n):∃ g,a=some (qR g 0)/\w.cell? (qR g i)=some (svT (ts.getD i zTB))/\OG 58 3 clG w lo (svT (ts.getD i zTB)) (ts.getD i zTB).1:=by
 obtain ⟨hl,_,_,h4⟩:=aT h.head;obtain ⟨g,hg,hc⟩:=h4 (by omega);refine ⟨g,hg,hc i _ ?_,h.rows _ (by simp [xB,show i<ts.length by omega])⟩;rw [show ts.flatMap aBk=ts.map svT from cZ _ _];simp [xB,show i<ts.length by omega]
def zPB:PB:=(⟨0,[],0,0⟩,none,0)
theorem aDd:∀ (xs:List PB) (i:Nat),i<xs.length->(xs.flatMap clP)[i*4]?=some (qI (xs.getD i zPB).1.text)/\(xs.flatMap clP)[i*4+1]?=some (svP (xs.getD i zPB))/\(xs.flatMap clP)[i*4+2]?=some (qI (xs.getD i zPB).1.data)/\(xs.flatMap clP)[i*4+3]?=some (qI (xs.getD i zPB).1.size)
 | [],i,h=>by simp at h
 | x::xs,0,h=>by simp [clP]
 | x::xs,i+1,h=>by
   obtain ⟨h1,h2,h3,h4⟩:=aDd xs i (by simpa using h);rw [show (i+1)*4=i*4+1+1+1+1 by omega];simp only [xT,clP,List.cons_append,List.nil_append,List.getElem?_cons_succ];exact ⟨h1,h2,h3,h4⟩
theorem aJ1 {w:qw}{xs:List PB}(h:OPl w base lo (qS a n c) xs)(i:Nat)(hi:i<n):∃ g,a=some (qR g 0)/\w.cell? (qR g (i*4))=some (qI (xs.getD i zPB).1.text)/\w.cell? (qR g (i*4+1))=some (svP (xs.getD i zPB))/\w.cell? (qR g (i*4+2))=some (qI (xs.getD i zPB).1.data)/\w.cell? (qR g (i*4+3))=some (qI (xs.getD i zPB).1.size)/\OG 3 1 clI w lo (svP (xs.getD i zPB)) (xs.getD i zPB).1.banks:=by
 obtain ⟨hl,_,_,h4⟩:=aT h.head;obtain ⟨g,hg,hc⟩:=h4 (by omega);obtain ⟨e0,e1,e2,e3⟩:=aDd xs i (by omega);exact ⟨g,hg,hc _ _ e0,hc _ _ e1,hc _ _ e2,hc _ _ e3,h.rows _ (by simp [xB,show i<xs.length by omega])⟩
theorem fC (n:Int)(h0:0<=n)(h:n<=20)(w:qw):
 qC 244 #[qI n] w fun e w'=>e=.returned (qI ((2:Int)^n.toNat))/\w'=w:=by
 go_enter Tryz.func244,Tryz.ntmps244
 go_wp2;go_loop [3,4] (fun v i=>∃ k:Nat,(k:Int)<=n/\i=qI k/\v=qI ((2:Int)^k)) (fun _ i=>n.toNat-(intOf i).toNat)
 .exact ⟨0,by omega,rfl,rfl⟩
 .obtain ⟨k,hk,rfl,rfl⟩:=hrel;by_cases hlt:(k:Int)<n
  .have hp:=sD k;have hp0:=pow_pos k;have hs:Zh ((2:Int)^(k+1)=(2:Int)^k*2):=Int.pow_succ 2 k;generalize (2:Int)^k=P at *;go_wp2
   go_round
   .exact ⟨k+1,by omega,by go_num,by rw [hs.o]⟩
   .simp [intOf];omega
  .have e:Zh (n.toNat=k):=by show n.toNat=k;omega
   go_wp2;go_ret;exact ⟨aH (by rw [e.o]),rfl⟩
