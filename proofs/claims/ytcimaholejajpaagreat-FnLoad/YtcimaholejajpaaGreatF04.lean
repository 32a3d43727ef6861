import Derived.Deep.RegionLaw
import Derived.Deep.AppendLies
import Derived.Laws.EntriesVeiled
import Derived.Test.YtcimaholejajpaaGreatF03
set_option linter.all false
set_option maxHeartbeats 4000000
namespace Go.Proofs.YtcimaholejajpaaGreat
open Go.RowKit Go.Maps
open Go.Proofs.Tryz
set_option maxRecDepth 100000
variable {G:Prop}{P:PMod}{S:Nat->Prop}{V c d k s w:Int}{a a0 a5:qO}{base c0 c5 cap g i lo lo' n:Nat}{cs:Array Value}{m:Md}{ms:List Md}{ps:List PMod}{row:Option Nat}{v:Value}
theorem dL {s:ByteArray}(h:rsT n ms s=none):rsv n ms s=.tuple #[.agg (qT 0 0 0),.bool false]:=by unfold rsv;rw [h]
theorem zZ {s:ByteArray}{k:Nat}(h:rsT n ms s=some (i,k)):rsv n ms s=.tuple #[.agg #[.int .i64 i,.int .i64 ((ms.getD i zMd).es.getD k zE).2.1,.int .i64 ((ms.getD i zMd).es.getD k zE).2.2],.bool true]:=by unfold rsv;rw [h]
theorem sN (f:Nat->List UInt8)(s:List UInt8)(i:Nat):∀ k,fst? f s k=some i->i<k
 | 0,h=>by cases h
 | k+1,h=>by
   rw [eK] at h;cases hf:fst? f s k with
   | some j=>rw [hf] at h;simp at h;subst h;have:=sN f s j k hf;omega
   | none=>rw [hf] at h;simp at h;omega
theorem aDr {H:Type}{a b:Int}(h:(DataW.lit (.int .i64 a):DataW H)=.lit (.int .i64 b)):b=a:=by
 injection h with h
 injection h with _ h
 exact h.symm
theorem yO (a:qO)(n cap:Nat)(ms:List Md)(s:ByteArray)(w:qw)(h:MS w a n cap ms)(hn:n<=1048576)(hs:s.size<=1048576)(hE:∀ i,i<n->ES w (ms.getD i zMd).ea (ms.getD i zMd).en (ms.getD i zMd).ec (ms.getD i zMd).es/\(ms.getD i zMd).en<=1048576):
 qC 93 #[.slice a n cap,.string s] w (qB w (rsv n ms s)):=by
 obtain ⟨W,hW,hB0,kb⟩:=nwb w (qT 0 0 0) 106;have HW:=zh hW;clear hW;have HC:=zh (fun w=>kZ s w hs);obtain ⟨V,hV⟩:=eqx (rsv n ms s);rw [<- hV];have HV:=zh hV;clear hV;have HTF:=zh (fun w h=>tS a n cap ms w h)
 have fin:∀ (X:qw) (x y z:Int),qY w X->Blk X w.heap.size (qT 0 0 0) 106 ->
  Blk (((X.setCell (qR w.heap.size 0) (.int .i64 x)).setCell (qR w.heap.size 1) (.int .i64 y)).setCell (qR w.heap.size 2) (.int .i64 z)) w.heap.size (qT x y z) 106/\qY w (((X.setCell (qR w.heap.size 0) (.int .i64 x)).setCell (qR w.heap.size 1) (.int .i64 y)).setCell (qR w.heap.size 2) (.int .i64 z)):=fun X x y z hB k=>by
  refine ⟨?_,((hB.setCell (p:=(qR w.heap.size 0)) aL _).setCell (p:=(qR w.heap.size 1)) aL _).setCell (p:=(qR w.heap.size 2)) aL _⟩;have:=((k.set 0 (.int .i64 x)).set 1 (.int .i64 y)).set 2 (.int .i64 z);simpa using this
 have FIN:=zh fin;clear fin;cases hf:eJ s
 .have hr:=zh (dL (n:=n) (ms:=ms) (s:=s) (by unfold rsT;rw [hf];simp));unfold aCu at HC;rw [hf] at HC;go_enter func93,ntmps93
  go_wp2_with (rw [<- HW.o])
  refine (HC.o _).mono ?_;rintro e w1 ⟨rfl,hb1⟩;have k1:=kb.bw hb1;have hB1:=hB0.trans (hb1.mono hB0.size);obtain ⟨k2,hB2⟩:=FIN.o w1 0 0 0 hB1 k1;clear hb1 kb hB0;obtain ⟨q1,q2,q3,q4⟩:=k1.three;obtain ⟨s1,s2,s3,s4⟩:=k2.three;clear k1 k2;have HX:=zh hB2;clear hB2 hB1;go_wp2;exact bodyPost_ret (v:=.tuple #[.agg (qT 0 0 0),.bool false]) (by simp [results,results93,go_sem,s1,s2,s3]) rfl ⟨by rw [HV.o,hr.o],HX.o⟩
 .unfold aCu at HC;rw [hf] at HC;go_enter func93,ntmps93
  go_wp2_with (rw [<- HW.o])
  refine (HC.o _).mono ?_;rintro e w1 ⟨rfl,hb1⟩;have k1:=kb.bw hb1;have hB1:=hB0.trans (hb1.mono hB0.size);clear hb1 kb hB0;have h1:=h.bw hB1;generalize htb:tbf n ms=tb at *;cases tb
  .have hr:=zh (dL (n:=n) (ms:=ms) (s:=s) (by unfold rsT;rw [htb];simp));clear htb;go_wp2_with fail
   refine (HTF.o _ h1).mono ?_;rintro e w2 ⟨rfl,hb2⟩;have k2:=k1.bw hb2;have hB2:=hB1.trans (hb2.mono hB1.size);obtain ⟨k3,hB3⟩:=FIN.o w2 0 0 0 hB2 k2;clear hb2 k1 hB1 h1;obtain ⟨q1,q2,q3,q4⟩:=k2.three;obtain ⟨s1,s2,s3,s4⟩:=k3.three;have HX:=zh hB3;clear hB3 hB2 k2 k3;go_wp2;exact bodyPost_ret (v:=.tuple #[.agg (qT 0 0 0),.bool false]) (by simp [results,results93,go_sem,s1,s2,s3]) rfl ⟨by rw [HV.o,hr.o],HX.o⟩
  .have HT:=zh (show rsT n ms s=(fst? (cQ ms) (dC s).data.toList n).bind fun i=>(fst? (eM (ms.getD i zMd).es) (dU s).data.toList (ms.getD i zMd).en).map fun k=>(i,k) by unfold rsT;rw [hf,htb];simp);clear htb;have HKA:Zh (keyOf prog 9 (.string (dC s))=some (.string (dC s).data.toList)):=Go.WideMaps.keyOf_string_mk underlying9 (by have:=nS s hs;unfold maxLen;omega);have HKB:Zh (keyOf prog 9 (.string (dU s))=some (.string (dU s).data.toList)):=Go.WideMaps.keyOf_string_mk underlying9 (by have:=nR s hs;unfold maxLen;omega);have HFM:=zh (fun w h=>mN a n cap ms w h hn);have HHA:=zh (mJ (cQ ms) (dC s).data.toList n);have HAA:=zh (aH4 (cQ ms) (dC s).data.toList (.lit (.int .i64 0)) n);have HIL:=zh (fun i=>sN (cQ ms) (dC s).data.toList i n);go_wp2_with fail
   refine (HTF.o _ h1).mono ?_;rintro e w2 ⟨rfl,hb2⟩;have k2:=k1.bw hb2;have hB2:=hB1.trans (hb2.mono hB1.size);have h2:=h.bw hB2;clear hb2 k1 hB1 h1;go_wp2_with fail
   refine (HFM.o _ h2).mono ?_;rintro e w3 ⟨rfl,hown,hb3⟩;have k3:=k2.bw hb3;have hB3:=hB2.trans (hb3.mono hB2.size);have h3:=h.bw hB3;clear hb3 k2 hB2 h2;cases hi:fst? (cQ ms) (dC s).data.toList n with
   | none=>
     have hr:=zh (dL (n:=n) (ms:=ms) (s:=s) (by rw [HT.o,hi];rfl));have hh:has (fd (cQ ms) n) (.string (dC s).data.toList)=false:=by rw [<- HHA.o,hi];rfl
     obtain ⟨k4,hB4⟩:=FIN.o w3 0 0 0 hB3 k3;obtain ⟨q1,q2,q3,q4⟩:=k3.three;obtain ⟨s1,s2,s3,s4⟩:=k4.three;have HX:=zh hB4;clear hB4 hB3 k3 k4 h3 hi;go_wp2_with (at_lookup;refine wpList_lookup_own_ok_int _ rfl _ _ 148 rfl 9 3 .i64 uA underlying148 underlying3 (nX _) w2.heap.size n _ rfl hown _ _ rfl HKA.o ?_;intro c hat hwc;clear hat;rw [hh])
     exact bodyPost_ret (v:=.tuple #[.agg (qT 0 0 0),.bool false]) (by simp [results,results93,go_sem,s1,s2,s3]) rfl ⟨by rw [HV.o,hr.o],HX.o⟩
   | some i=>
     have hin:=HIL.o i hi;have hin':(i:Int)<(n:Int):=by omega
     have hh:has (fd (cQ ms) n) (.string (dC s).data.toList)=true:=by rw [<- HHA.o,hi];rfl
     have HC2:=zh (fun (c:Int) (hat:(fd (cQ ms) n).atKey (.string (dC s).data.toList) (.lit (.int .i64 0))=.lit (.int .i64 c))=>show c=(i:Int) from by rw [HAA.o,hi] at hat;exact aDr hat);have HT2:=zh (show rsT n ms s=(fst? (eM (ms.getD i zMd).es) (dU s).data.toList (ms.getD i zMd).en).map (fun k=>(i,k)) by rw [HT.o,hi];rfl);have HRS:=zh (fun k (h:rsT n ms s=some (i,k))=>zZ h);obtain ⟨bb,off,rfl,y0,y1,y2,y3,y4,y5,y6,y7⟩:=h3.at i hin;obtain ⟨e1,e2⟩:=hE i hin;have e3:=e1.bw hB3;clear e1 hi HT HHA HAA HIL h3;generalize ms.getD i zMd=m at *;obtain ⟨nm,ta,tn,tc,tz,ba,bn,bc,bl,da,dn,dc,dz,bss,ra,rn,rc,rz,ia,im,ic,ss,ea,en,ec,es⟩:=m;dsimp only at y0 y1 y2 y3 y4 y5 y6 y7 e2 e3 HT2 HRS;have HFE:=zh (fun w h=>mO ea en ec es w h e2);go_wp2_with (at_lookup;refine wpList_lookup_own_ok_int _ rfl _ _ 148 rfl 9 3 .i64 uA underlying148 underlying3 (nX _) w2.heap.size n _ rfl hown _ _ rfl HKA.o ?_;intro c hat hwc;have hc:=HC2.o c hat;clear hat hwc;subst hc;rw [hh])
     refine (HFE.o _ e3).mono ?_;rintro e w4 ⟨rfl,hown4,hb4⟩;have k4:=k3.bw hb4;have hB4:=hB3.trans (hb4.mono hB3.size);have e4:=e3.bw hb4;have y7':w4.cell? (qR bb (off+i*8+7))=some (.slice ea en ec):=(hb4.cell (xD w3 _ y7)).trans y7;clear hb4 hB3 k3 e3 hown y0 y1 y2 y3 y4 y5 y6 y7 HC2 hh;cases hk:fst? (eM es) (dU s).data.toList en with
     | none=>
       have hr:=zh (dL (n:=n) (ms:=ms) (s:=s) (by rw [HT2.o,hk];rfl));have hh:has (fd (eM es) en) (.string (dU s).data.toList)=false:=by rw [<- mJ,hk];rfl
       obtain ⟨k5,hB5⟩:=FIN.o w4 0 0 0 hB4 k4;obtain ⟨q1,q2,q3,q4⟩:=k4.three;obtain ⟨s1,s2,s3,s4⟩:=k5.three;have HX:=zh hB5;clear hB4 hB5 k4 k5 hk;go_wp2_with (at_lookup;refine wpList_lookup_own_ok_int _ rfl _ _ 148 rfl 9 3 .i64 uA underlying148 underlying3 (nX _) w3.heap.size en _ rfl hown4 _ _ rfl HKB.o ?_;intro c hat hwc;clear hat;rw [hh])
       exact bodyPost_ret (v:=.tuple #[.agg (qT 0 0 0),.bool false]) (by simp [results,results93,go_sem,s1,s2,s3]) rfl ⟨by rw [HV.o,hr.o],HX.o⟩
     | some k=>
       have hkn:=sN (eM es) (dU s).data.toList k en hk;have hkn':(k:Int)<(en:Int):=by omega
       have hr:=zh (HRS.o k (by rw [HT2.o,hk];rfl));have hh:has (fd (eM es) en) (.string (dU s).data.toList)=true:=by rw [<- mJ,hk];rfl
       have HC2:=zh (fun (c:Int) (hat:(fd (eM es) en).atKey (.string (dU s).data.toList) (.lit (.int .i64 0))=.lit (.int .i64 c))=>show c=(k:Int) from by rw [aH4,hk] at hat;exact aDr hat);obtain ⟨eb,eo,rfl⟩:=e4.addr (by omega);obtain ⟨x0,x1,x2⟩:=e4.at k hkn;generalize es.getD k zE=E at *;obtain ⟨xn,xb,xa⟩:=E;dsimp only at x0 x1 x2 hr;obtain ⟨k5',hB5'⟩:=FIN.o w4 i xb xa hB4 k4;have k5:=k5'.alloc (.cells #[.string xn,.int .i64 xb,.int .i64 xa] 91);have hB5:=hB5'.alloc hB5'.size (.cells #[.string xn,.int .i64 xb,.int .i64 xa] 91);clear k5' hB5';have kl:=k4.lt;obtain ⟨q1,q2,q3,q4⟩:=k4.three;obtain ⟨s1,s2,s3,s4⟩:=k5.three;have HX:=zh hB5;clear hB4 hB5 k4 k5 hk e4;go_wp2_with (at_lookup;refine wpList_lookup_own_ok_int _ rfl _ _ 148 rfl 9 3 .i64 uA underlying148 underlying3 (nX _) w3.heap.size en _ rfl hown4 _ _ rfl HKB.o ?_;intro c hat hwc;have hc:=HC2.o c hat;clear hat hwc;subst hc;rw [hh])
       exact bodyPost_ret (v:=.tuple #[.agg (qT i xb xa),.bool true]) (by simp [results,results93,go_sem,s1,s2,s3]) rfl ⟨by rw [HV.o,hr.o],HX.o⟩
theorem aA8 (f:Nat->List UInt8)(s:List UInt8){k j:Nat}(h:fst? f s k=some j):∀ n,k<=n->fst? f s n=some j
 | 0,hn=>by
   obtain rfl:k=0:=by omega
   exact h
 | n+1,hn=>by
   by_cases e:k=n+1
   .subst e;exact h
   .rw [eK,aA8 f s h n (by omega)]
theorem aD1 (f:Nat->List UInt8)(s:List UInt8){k:Nat}(h:fst? f s k=none)(e:f k=s)(hk:k<n):fst? f s n=some k:=
 aA8 f s (k:=k+1) (by rw [eK,h];simp [e]) n hk
theorem aA7 (f:Nat->List UInt8)(s:List UInt8){k:Nat}(h:fst? f s k=none)(e:f k≠s):fst? f s (k+1)=none:=by
 rw [eK,h];simp [e]
theorem aIp (n:Nat)(ms:List Md)(k:Nat)(hk:k<n)(h:16<(ms.getD k zMd).en):tbf n ms=false:=by
 unfold tbf;rw [eW (fun i=>decide ((ms.getD i zMd).en<=16)) n k hk (xS (by omega))];simp
theorem aFx (n:Nat)(ms:List Md)(h4:n<=4)(h:∀ j,j<n->(ms.getD j zMd).en<=16):tbf n ms=true:=by
 unfold tbf;rw [eA (fun i=>decide ((ms.getD i zMd).en<=16)) n (fun j hj=>xR (h j hj)),xR h4];rfl
theorem vY (a:qO)(n cap:Nat)(ms:List Md)(s:ByteArray)(w:qw)(h:MS w a n cap ms)(hn:n<=1048576)(hs:s.size<=1048576)(hE:∀ i,i<n->ES w (ms.getD i zMd).ea (ms.getD i zMd).en (ms.getD i zMd).ec (ms.getD i zMd).es/\(ms.getD i zMd).en<=1048576):
 qC 77 #[qS a n cap,.string s] w (qB w (rsv n ms s)):=by
 obtain ⟨W,hW,hB0,kb⟩:=nwb w (qT 0 0 0) 106;have HW:=zh hW;clear hW;have HF:=zh (fun w=>mG s w hs);have HD:=zh (fun w=>uZ s w hs);obtain ⟨V,hV⟩:=eqx (rsv n ms s);rw [<- hV];have HV:=zh hV;clear hV
 have fin:∀ (X:qw) (x y z:Int),qY w X->Blk X w.heap.size (qT 0 0 0) 106 ->
  Blk (((X.setCell (qR w.heap.size 0) (qI x)).setCell (qR w.heap.size 1) (qI y)).setCell (qR w.heap.size 2) (qI z)) w.heap.size (qT x y z) 106/\qY w (((X.setCell (qR w.heap.size 0) (qI x)).setCell (qR w.heap.size 1) (qI y)).setCell (qR w.heap.size 2) (qI z)):=fun X x y z hB k=>by
  refine ⟨?_,((hB.setCell (p:=(qR w.heap.size 0)) aL _).setCell (p:=(qR w.heap.size 1)) aL _).setCell (p:=(qR w.heap.size 2)) aL _⟩;have:=((k.set 0 (qI x)).set 1 (qI y)).set 2 (qI z);simpa using this
 have FIN:=zh fin;clear fin;by_cases c1:4<n
 .have c1':(4:Int)<(n:Int):=by omega
  have hr:=zh (dL (n:=n) (ms:=ms) (s:=s) (by unfold rsT tbf;rw [xS (show ¬ n<=4 by omega)];simp));obtain ⟨k2,hB2⟩:=FIN.o W 0 0 0 hB0 kb;obtain ⟨q1,q2,q3,q4⟩:=kb.three;obtain ⟨s1,s2,s3,s4⟩:=k2.three;have HX:=zh hB2;clear hB2 hB0 kb k2;go_enter func77,ntmps77
  go_wp2_with (rw [<- HW.o])
  exact bodyPost_ret (v:=.tuple #[.agg (qT 0 0 0),.bool false]) (by simp [results,results77,go_sem,s1,s2,s3]) rfl ⟨by rw [HV.o,hr.o],HX.o⟩
 .have c1':¬ (4:Int)<(n:Int):=by omega
  cases hf:eJ s
  .rw [hf] at HF;have hr:=zh (dL (n:=n) (ms:=ms) (s:=s) (by unfold rsT;rw [hf];simp));obtain ⟨k2,hB2⟩:=FIN.o W 0 0 0 hB0 kb;obtain ⟨q1,q2,q3,q4⟩:=kb.three;obtain ⟨s1,s2,s3,s4⟩:=k2.three;have HX:=zh hB2;clear hB2 hB0 kb k2;go_enter func77,ntmps77
   go_wp2_with (first|(rw [<- HW.o])|(go_at_call 72;refine (HF.o _).mono ?_;rintro e w1 ⟨rfl,rfl⟩))
   exact bodyPost_ret (v:=.tuple #[.agg (qT 0 0 0),.bool false]) (by simp [results,results77,go_sem,s1,s2,s3]) rfl ⟨by rw [HV.o,hr.o],HX.o⟩
  .rw [hf] at HF
   have hdot:0<=dot s/\dot s<s.size:=by
    rcases jY s with h0|h0
    .exfalso;unfold eJ at hf;rw [h0] at hf;simp at hf
    .exact h0
   have HT:Zh (tbf n ms=true->rsT n ms s=(fst? (cQ ms) (dC s).data.toList n).bind fun i=>(fst? (eM (ms.getD i zMd).es) (dU s).data.toList (ms.getD i zMd).en).map fun k=>(i,k)):=fun htb=>by unfold rsT;rw [hf,htb];simp
   have HTN:Zh (tbf n ms=false->rsT n ms s=none):=fun htb=>by unfold rsT;rw [htb];simp
   clear hf;go_enter func77,ntmps77
   go_wp2_with (first|(rw [<- HW.o])|(go_at_call 72;refine (HF.o _).mono ?_;rintro e w1 ⟨rfl,rfl⟩))
   go_loopw [6] (fun i wr=>∃ k:Nat,k<=n/\i=qI k/\Hid (∀ j,j<k->(ms.getD j zMd).en<=16)/\qY w wr/\Blk wr w.heap.size (qT 0 0 0) 106) (qf n)
   .exact ⟨0,xC _,rfl,zh (fun j hj=>by omega),hB0,kb⟩
   .obtain ⟨k,hk,rfl,HJ,hB,kw⟩:=hrel;clear hB0 kb;by_cases hlt:k<n
    .have hlt':(k:Int)<(n:Int):=by omega
     obtain ⟨bb,off,rfl,q0,q1,q2,q3,q4,q5,q6,q7⟩:=(h.bw hB).at k hlt
     have HG:=zh (show (ms.getD k zMd).en<=16->∀ j,j<k+1->(ms.getD j zMd).en<=16 from fun h j hj=>by
      by_cases e:j=k
      .subst e;exact h
      .exact HJ.out j (by omega))
     have HB:=zh (aIp n ms k hlt);generalize ms.getD k zMd=m at *;obtain ⟨nm,ta,tn,tc,tz,ba,bn,bc,bl,da,dn,dc,dz,bss,ra,rn,rc,rz,ia,im,ic,ss,ea,en,ec,es⟩:=m;dsimp only at q0 q1 q2 q3 q4 q5 q6 q7 HB HG;by_cases d:16<en
     .have d':(16:Int)<(en:Int):=by omega
      have hr:=zh (dL (HTN.o (HB.o d)));obtain ⟨k2,hB2⟩:=FIN.o wr 0 0 0 hB kw;obtain ⟨p1,p2,p3,p4⟩:=kw.three;obtain ⟨s1,s2,s3,s4⟩:=k2.three;have HX:=zh hB2;clear hB2 hB kw k2 q0 q1 q2 q3 q4 q5 q6;go_wp2;exact bodyPost_ret (v:=.tuple #[.agg (qT 0 0 0),.bool false]) (by simp [results,results77,go_sem,s1,s2,s3]) rfl ⟨by rw [HV.o,hr.o],HX.o⟩
     .have d':¬ (16:Int)<(en:Int):=by omega
      clear q0 q1 q2 q3 q4 q5 q6;go_wp2
      go_roundw
      .exact ⟨k+1,by omega,by go_num,zh (HG.o (by omega)),hB,kw⟩
      .simp [qf,intOf];omega
    .have hkn:k=n:=by omega
     subst hkn;have HT2:=zh (HT.o (aFx k ms (by omega) HJ.out));clear HT HTN HJ hk hlt;unfold dC dU at HT2;generalize dot s=p at *;obtain ⟨p0,p1⟩:=hdot;go_wp2_with (go_at_call 120;refine (HD.o _).mono ?_;rintro e w1 ⟨rfl,rfl⟩)
     go_loopw [8] (fun i wx=>∃ j:Nat,j<=k/\i=qI j/\Hid (fst? (cQ ms) (s.extract 0 p.toNat).data.toList j=none)/\qY w wx/\Blk wx w.heap.size (qT 0 0 0) 106) (qf k)
     .exact ⟨0,xC _,rfl,zh rfl,hB,kw⟩
     .obtain ⟨j,hj,rfl,HJ,hBx,kx⟩:=hrel;clear hB kw;by_cases hlt:j<k
      .have hlt':(j:Int)<(k:Int):=by omega
       obtain ⟨bb,off,rfl,q0,q1,q2,q3,q4,q5,q6,q7⟩:=(h.bw hBx).at j hlt;have HMS:=zh (fun e=>aA7 (cQ ms) (s.extract 0 p.toNat).data.toList HJ.out e);have HHT:=zh (fun e=>aD1 (cQ ms) (s.extract 0 p.toNat).data.toList HJ.out e hlt);obtain ⟨e1,e2⟩:=hE j hlt;have e3:=e1.bw hBx;clear e1;have HRS:=zh (fun i (h:rsT k ms s=some (j,i))=>zZ h);have HT3:Zh (cQ ms j=(s.extract 0 p.toNat).data.toList->rsT k ms s=(fst? (eM (ms.getD j zMd).es) (s.extract (p+1).toNat s.size).data.toList (ms.getD j zMd).en).map (fun i=>(j,i))):=fun e=>by rw [HT2.o,HHT.o e];rfl
       have HNM:Zh (cQ ms j=(ms.getD j zMd).nm.data.toList):=rfl;clear HHT HJ;generalize cQ ms j=mj at *;generalize ms.getD j zMd=m at *;obtain ⟨nm,ta,tn,tc,tz,ba,bn,bc,bl,da,dn,dc,dz,bss,ra,rn,rc,rz,ia,im,ic,ss,ea,en,ec,es⟩:=m;dsimp only at q0 q1 q2 q3 q4 q5 q6 q7 e2 e3 HRS HT3 HNM;cases hq:(nm.toList==(s.extract 0 p.toNat).toList)
       .have hne:=zh (show mj≠(s.extract 0 p.toNat).data.toList from fun e=>by
         rw [HNM.o] at e;rw [ByteArray.toList_eq,ByteArray.toList_eq,e] at hq
         simp at hq)
        clear q1 q2 q3 q4 q5 q6 q7;go_wp2_with fail
        go_quiet (fail)
        go_wp2
        go_roundw
        .exact ⟨j+1,by omega,by go_num,zh (HMS.o hne.o),below_drewN hBx nq,kx.bw (below_drewN brf nq)⟩
        .simp [qf,intOf];omega
       .have HT4:=zh (HT3.o (by
         rw [HNM.o];rw [ByteArray.toList_eq,ByteArray.toList_eq] at hq
         simpa using hq))
        clear HT3 HT2 HMS HNM;clear q1 q2 q3 q4 q5 q6;go_wp2_with fail
        go_quiet (fail)
        have q7':(wr.drewN nq).cell? (qR bb (off+j*8+7))=some (qS ea en ec):=((below_drewN (Below.refl wr.heap.size wr) nq).cell (xD wr _ q7)).trans q7;have e4:=e3.bw (below_drewN (Below.refl wr.heap.size wr) nq);have hB4:=below_drewN hBx nq;have k4:=kx.bw (below_drewN (Below.refl wr.heap.size wr) nq);clear q0 q7 e3 hBx kx;generalize wr.drewN nq=w4 at *;go_wp2;go_loopw [9] (fun i wy=>∃ l:Nat,l<=en/\i=qI l/\Hid (fst? (eM es) (s.extract (p+1).toNat s.size).data.toList l=none)/\qY w4 wy) (qf en)
        .exact ⟨0,xC _,rfl,zh rfl,brf⟩
        .obtain ⟨l,hl,rfl,HL,hby⟩:=hrel;have q7:wr.cell? (qR bb (off+j*8+7))=some (qS ea en ec):=(hby.cell (xD w4 _ q7')).trans q7';have hB5:=hB4.trans (hby.mono hB4.size);have k5:=k4.bw hby;by_cases hln:l<en
         .have hln':(l:Int)<(en:Int):=by omega
          have e5:=e4.bw hby;obtain ⟨eb,eo,rfl⟩:=e5.addr (by omega);obtain ⟨x0,x1,x2⟩:=e5.at l hln;have HMS:=zh (fun e=>aA7 (eM es) (s.extract (p+1).toNat s.size).data.toList HL.out e);have HHT:=zh (fun e=>aD1 (eM es) (s.extract (p+1).toNat s.size).data.toList HL.out e hln);have HNM:Zh (eM es l=(es.getD l zE).1.data.toList):=rfl;have HR2:=zh (HRS.o l);generalize eM es l=xl at *;generalize es.getD l zE=E at *;obtain ⟨xn,xb,xa⟩:=E;dsimp only at x0 x1 x2 HNM HR2;have hbz:qY wr (wr.alloc (.cells #[.string xn,qI xb,qI xa] 91)):=bal;have kE:=Blk.new wr #[.string xn,qI xb,qI xa] 91;have k6:=k5.bw hbz;have hB6:=hB5.trans (hbz.mono hB5.size);have hby6:=hby.trans (hbz.mono hby.size);clear hB5 k5;obtain ⟨z1,z2,z3,z4⟩:=kE.three;cases hq2:(xn.toList==(s.extract (p+1).toNat s.size).toList)
          .have hne:=zh (show xl≠(s.extract (p+1).toNat s.size).data.toList from fun e=>by
            rw [HNM.o] at e;rw [ByteArray.toList_eq,ByteArray.toList_eq,e] at hq2
            simp at hq2)
           go_wp2_with fail
           go_quiet (fail)
           go_wp2
           go_roundw
           .exact ⟨l+1,by omega,by go_num,zh (HMS.o hne.o),below_drewN hby6 nq⟩
           .simp [qf,intOf];omega
          .have hr:=zh (HR2.o (by
            rw [HT4.o,HHT.o (by
             rw [HNM.o];rw [ByteArray.toList_eq,ByteArray.toList_eq] at hq2
             simpa using hq2)]
            rfl))
           go_wp2_with fail
           go_quiet (fail)
           have k7:=k6.bw (below_drewN brf nq);have kE7:=kE.bw (below_drewN brf nq);have hB7:=below_drewN hB6 nq;generalize (wr.alloc (.cells #[.string xn,qI xb,qI xa] 91)).drewN nq=w7 at *;clear z1 z2 z3 z4 k6 kE hB6 hby6 hbz;obtain ⟨z1,z2,z3,z4⟩:=kE7.three;obtain ⟨k8,hB8⟩:=FIN.o w7 j xb xa hB7 k7;obtain ⟨g1,g2,g3,g4⟩:=k7.three;obtain ⟨s1,s2,s3,s4⟩:=k8.three;have HX:=zh hB8;clear hB8 hB7 k7 k8 kE7;go_wp2;exact bodyPost_ret (v:=.tuple #[.agg (qT j xb xa),.bool true]) (by simp [results,results77,go_sem,s1,s2,s3]) rfl ⟨by rw [HV.o,hr.o],HX.o⟩
         .have hle:l=en:=by omega
          subst hle;have hr:=zh (dL (n:=k) (ms:=ms) (s:=s) (by rw [HT4.o,HL.out];rfl));obtain ⟨k8,hB8⟩:=FIN.o wr 0 0 0 hB5 k5;obtain ⟨g1,g2,g3,g4⟩:=k5.three;obtain ⟨s1,s2,s3,s4⟩:=k8.three;have HX:=zh hB8;clear hB8 hB5 k5 k8;go_wp2;exact bodyPost_ret (v:=.tuple #[.agg (qT 0 0 0),.bool false]) (by simp [results,results77,go_sem,s1,s2,s3]) rfl ⟨by rw [HV.o,hr.o],HX.o⟩
      .have hjk:j=k:=by omega
       subst hjk;have hr:=zh (dL (n:=j) (ms:=ms) (s:=s) (by rw [HT2.o,HJ.out];rfl));obtain ⟨k8,hB8⟩:=FIN.o wr 0 0 0 hBx kx;obtain ⟨g1,g2,g3,g4⟩:=kx.three;obtain ⟨s1,s2,s3,s4⟩:=k8.three;have HX:=zh hB8;clear hB8 hBx kx k8;go_wp2;exact bodyPost_ret (v:=.tuple #[.agg (qT 0 0 0),.bool false]) (by simp [results,results77,go_sem,s1,s2,s3]) rfl ⟨by rw [HV.o,hr.o],HX.o⟩
theorem vF {f g:Nat->List UInt8}{s:List UInt8}:∀ k,(∀ i,i<k->f i=g i)->fst? f s k=fst? g s k
 | 0,_=>rfl
 | k+1,h=>by rw [eK,eK,vF k (fun i hi=>h i (by omega)),h k (by omega)]
theorem jB {f g:Nat->Bool}:∀ n,(∀ i,i<n->f i=g i)->(List.range n).all f=(List.range n).all g
 | 0,_=>rfl
 | n+1,h=>by rw [List.range_succ,List.all_append,List.all_append,jB n (fun i hi=>h i (by omega))];simp [h n (by omega)]
def aOa (n:Nat)(ms ms':List Md):Prop:=∀ i,i<n->(ms'.getD i zMd).nm=(ms.getD i zMd).nm/\(ms'.getD i zMd).en=(ms.getD i zMd).en/\(ms'.getD i zMd).es=(ms.getD i zMd).es
theorem aL4 {s:ByteArray}{k:Nat}(h:rsT n ms s=some (i,k)):i<n:=by
 unfold rsT at h;split at h
 .cases hf:fst? (cQ ms) (dC s).data.toList n with
  | none=>rw [hf] at h;cases h
  | some j=>
    rw [hf] at h;simp at h;obtain ⟨k',h1,rfl,rfl⟩:=h;exact sN _ _ _ _ hf
 .cases h
theorem aEu {ms':List Md}{s:ByteArray}(h:aOa n ms ms'):rsT n ms' s=rsT n ms s:=by
 unfold rsT
 have e1:tbf n ms'=tbf n ms:=by
  unfold tbf;rw [jB n (fun i hi=>by rw [(h i hi).2.1])]
 have e2:fst? (cQ ms') (dC s).data.toList n=fst? (cQ ms) (dC s).data.toList n:=vF n (fun i hi=>by unfold cQ;rw [(h i hi).1]);rw [e1,e2];cases hf:fst? (cQ ms) (dC s).data.toList n with
 | none=>rfl
 | some j=>
   obtain ⟨_,h2,h3⟩:=h j (sN _ _ _ _ hf);simp only [Option.bind_some];rw [h2,h3]
def cfo (s w k d:Int):Bool:=decide (0<=s/\s<=4/\1<=w/\w<=64/\0<=k/\k<=1024/\k%32=0/\0<=d/\d<=100)
theorem aA4 (x:Int)(w:qw):
 qC 49 #[qI x] w fun e w'=>e=.returned (.bool (decide (0<=x/\x%32=0)))/\w=w':=by
 go_enter func49,ntmps49
 go_wp2
 all_goals
  go_ret;refine ⟨aB ?_,rfl⟩;rw [xJ];simp;try omega
theorem aFu (v m:Int)(w:qw):
 qC 50 #[qI v,qI m] w fun e w'=>e=.returned (.bool (decide (0<=v/\v<=m)))/\w=w':=by
 go_enter func50,ntmps50
 go_wp2
 all_goals
  go_ret;refine ⟨aB ?_,rfl⟩;rw [xJ];simp;try omega
theorem kQ (s c k d:Int)(w:qw):
 qC 18 #[.agg (qW s c k d)] w (qB w (.bool (cfo s c k d))):=by
 have HB:=zh ((Below.refl w.heap.size w).alloc aL (.cells (qW s c k d) 25));go_enter func18,ntmps18
 go_wp2
 all_goals
  go_ret;refine ⟨aB ?_,HB.o⟩;unfold cfo;rw [xJ];simp;try omega
theorem kY (s c k d:Int)(w:qw):
 qC 22 #[.agg (qW s c k d)] w (qB w (.bool (cfo s c k d))):=by
 have HB:=zh ((Below.refl w.heap.size w).alloc aL (.cells (qW s c k d) 25));have HF:∀ b:Bool,b=cfo s c k d ↔ (b=true ↔ (0<=s/\s<=4/\1<=c/\c<=64/\0<=k/\k<=1024/\k%32=0/\0<=d/\d<=100)):=fun b=>by unfold cfo;rw [xJ];simp
 have HF:=zh HF;go_enter func22,ntmps22
 go_wp2_with (first
  | (go_at_call 49;refine (aA4 _ _).mono ?_;rintro e w1 ⟨rfl,rfl⟩)
  | (go_at_call 50;refine (aFu _ _ _).mono ?_;rintro e w1 ⟨rfl,rfl⟩))
 all_goals
  go_ret;refine ⟨aB ?_,HB.o⟩;rw [HF.o];simp_all;try omega
def Md.pm (m:Md):PMod:=⟨m.nm,m.tz,m.bl.map (fun B=>B.2.2.2),m.dz,m.bss,m.rz,m.ss,m.es⟩
def zP:PMod:=⟨⟨#[]⟩,[],[],[],0,[],[],[]⟩
def dm (P:PMod):Md:=⟨P.nm,none,P.tz.length,P.tz.length,P.tz,none,P.bl.length,P.bl.length,dO P.bl,none,P.dz.length,P.dz.length,P.dz,P.bss,none,P.rz.length,P.rz.length,P.rz,none,P.ss.length,P.ss.length,P.ss,none,P.es.length,P.es.length,P.es⟩
def Md.md (m:Md)(w:qw):Prop:=MD w m.nm m.ta m.tn m.tc m.tz m.ba m.bn m.bc m.bl m.da m.dn m.dc m.dz m.bss m.ra m.rn m.rc m.rz m.ia m.im m.ic m.ss m.ea m.en m.ec m.es
theorem wY {w:qw}(h:m.md w):mdo m.nm m.tn m.tz m.bn m.bl m.dn m.bss m.rn m.rz m.im m.ss m.en m.es=bI m.pm:=by
 have hb:=h.b.1;have e:m.pm.bl.length=m.bn:=by simp [Md.pm,hb]
 unfold bI;rw [show m.pm.tz.length=m.tn from h.t.1,show m.pm.dz.length=m.dn from h.d.1,show m.pm.rz.length=m.rn from h.r.1,show m.pm.ss.length=m.im from h.i.1,show m.pm.es.length=m.en from h.e.1,e,<- hb];refine aDo (by rw [hb];simp [dO,e]) (fun i hi=>?_);have hr:=(h.b.2.2.2.1 i (by omega)).1
 have e2:(dO m.pm.bl).getD i zB=(none,(m.bl.getD i zB).2.2.2.length,(m.bl.getD i zB).2.2.2.length,(m.bl.getD i zB).2.2.2):=by
  simp [dO,Md.pm,xB,hi]
 rw [e2];exact ⟨hr.symm,rfl⟩
abbrev Tg:=Int×Int×Int
def gM (ps:List PMod)(s:ByteArray):Option Tg:=(rsT ps.length (ps.map dm) s).map fun x=>((x.1:Int),((ps.getD x.1 zP).es.getD x.2 zE).2.1,((ps.getD x.1 zP).es.getD x.2 zE).2.2)
def tgV:Option Tg->Value
 | some t=>.tuple #[.agg (qT t.1 t.2.1 t.2.2),.bool true]
 | none=>.tuple #[.agg (qT 0 0 0),.bool false]
theorem eH {α β:Type}(f:α->β)(l:List α)(i:Nat)(a:α)(b:β)(h:i<l.length:=by omega):(l.map f).getD i b=f (l.getD i a):=by
 simp [xB,h]
theorem aGc {s:ByteArray}(hl:ms.length=n)(he:∀ i,i<n->(ms.getD i zMd).es.length=(ms.getD i zMd).en):rsv n ms s=tgV (gM (ms.map Md.pm) s):=by
 have hr:rsT (ms.map Md.pm).length ((ms.map Md.pm).map dm) s=rsT n ms s:=by
  rw [xH,hl];refine aEu (fun i hi=>?_);rw [List.map_map,eH _ _ _ zMd _];exact ⟨rfl,by rw [<- he i hi];rfl,rfl⟩
 unfold gM rsv;rw [hr];cases e:rsT n ms s with
 | none=>rfl
 | some x=>
   obtain ⟨i,k⟩:=x;have hi:=aL4 e;have hg:(ms.map Md.pm).getD i zP=(ms.getD i zMd).pm:=eH _ _ _ zMd _;simp only [Option.map_some,tgV,hg];rfl
def zT:Tg:=(0,0,0)
abbrev tN (ps:List PMod)(P:PMod):Prop:=∀ i,i<P.ss.length->(gM ps (P.ss.getD i zS)).isSome=true
def tgs (ps:List PMod)(P:PMod):List Tg:=(List.range P.ss.length).map fun i=>(gM ps (P.ss.getD i zS)).getD zT
def rnd (x:Int):Int:=(x+31)/32*32
def cB (P:PMod):Nat->Int
 | 0=>0
 | k+1=>cB P k+rnd (4*((P.bl.getD k []).length:Int))
def tsz (P:PMod):Int:=rnd (4*(P.tz.length:Int))
def msz (P:PMod):Int:=tsz P+cB P P.bl.length
def dsz (P:PMod):Int:=rnd ((P.dz.length:Int)+P.bss)
def Fl (ps:List PMod):Nat->Int
 | 0=>0
 | i+1=>Fl ps i+msz (ps.getD i zP)
def Ra (ps:List PMod):Nat->Int
 | 0=>0
 | i+1=>Ra ps i+dsz (ps.getD i zP)
structure Pl where
 text:Int
 banks:List Int
 data:Int
 size:Int
def plc (ps:List PMod)(i:Nat):Pl:=⟨Fl ps i,(List.range (ps.getD i zP).bl.length).map fun k=>Fl ps i+tsz (ps.getD i zP)+cB (ps.getD i zP) k,65536+Ra ps i,dsz (ps.getD i zP)⟩
structure Lay where
 places:List Pl
 stack:Int
 slots:List Int
 flash:Int
 ram:Int
 targets:List (List Tg)
abbrev qL (L:Lay)(a:Option Addr)(b c:Nat)(d:Option Addr)(e f:Nat)(g:Option Addr)(h i:Nat):Array Value:=#[.slice a b c,.int .i64 L.stack,.slice d e f,.int .i64 L.flash,.int .i64 L.ram,.slice g h i]
abbrev qJ {α β:Type}(L:Lay)(a:qO)(xs:List α)(c:Nat)(d:qO)(f:Nat)(g:qO)(ts:List β)(i:Nat):Array Value:=qL L a xs.length c d L.slots.length f g ts.length i
def slt (ps:List PMod)(w k:Int)(i:Nat):Int:=65536+Ra ps ps.length+k+(i:Int)*rnd (4*w)
def lay (ps:List PMod)(s w k:Int):Lay:=⟨(List.range ps.length).map (plc ps),65536+Ra ps ps.length,(List.range s.toNat).map (slt ps w k),Fl ps ps.length,Ra ps ps.length+k+(s.toNat:Int)*rnd (4*w),(List.range ps.length).map fun i=>tgs ps (ps.getD i zP)⟩
abbrev fV (ps:List PMod):Prop:=∀ i,i<ps.length->bI (ps.getD i zP)=0
abbrev nms (ps:List PMod):Prop:=∀ i,i<ps.length->∀ k,k<i->(ps.getD k zP).nm≠(ps.getD i zP).nm
abbrev kI (ps:List PMod):Prop:=∀ i,i<ps.length->tN ps (ps.getD i zP)
abbrev lB (ps:List PMod)(w:Int):Prop:=∀ i,i<ps.length->∀ k,k<(ps.getD i zP).bl.length->(((ps.getD i zP).bl.getD k []).length:Int)<=w
def dB (ps:List PMod)(s w k d:Int):Int:=
 if cfo s w k d=false then 1 else if ps.length<1\/4<ps.length then 2 else if ¬ fV ps then 3 else if ¬ nms ps then 4 else 0
def lkc (ps:List PMod)(s w k d:Int):Int:=
 if dB ps s w k d≠0 then dB ps s w k d else if ¬ kI ps then 5 else if 0<s/\¬ lB ps w then 6 else if 16384<(lay ps s w k).flash then 7 else if 16384<(lay ps s w k).ram then 8 else 0
structure MSD (w:qw)(a:qO)(n cap:Nat)(ms:List Md):Prop where
 s:MS w a n cap ms
 d:∀ i,i<n->(ms.getD i zMd).md w
theorem MSD.bw {w w':qw}(h:MSD w a n cap ms)(hb:qY w w'):MSD w' a n cap ms:=⟨h.s.bw hb,fun i hi=>MD.bw (h.d i hi) hb⟩
def aF (ms:List Md):List PMod:=ms.map Md.pm
theorem bQ (ms:List Md):(aF ms).length=ms.length:=by simp [aF]
theorem cD (h:i<ms.length:=by omega):(aF ms).getD i zP=(ms.getD i zMd).pm:=eH _ _ _ zMd _ h
def L0:Lay:=⟨[],0,[],0,0,[]⟩
def lkL (ps:List PMod)(s w k d:Int):Lay:=if lkc ps s w k d=0 then lay ps s w k else L0
theorem aF6 (h:cfo s w k d=false):dB ps s w k d=1:=if_pos h
theorem aF5 (h:cfo s w k d=true)(h2:ps.length<1\/4<ps.length):dB ps s w k d=2:=by
 unfold dB;rw [if_neg (by rw [h];decide),if_pos h2]
theorem aF4 (h:cfo s w k d=true)(h2:¬ (ps.length<1\/4<ps.length))(i:Nat)(hi:i<ps.length)(h3:bI (ps.getD i zP)≠0):dB ps s w k d=3:=by
 unfold dB;rw [if_neg (by rw [h];decide),if_neg h2,if_pos (fun v=>h3 (v i hi))]
theorem aLx (h:cfo s w k d=true)(h2:¬ (ps.length<1\/4<ps.length))(h3:fV ps)(i j:Nat)(hi:i<ps.length)(hj:j<i)(h4:(ps.getD j zP).nm=(ps.getD i zP).nm):dB ps s w k d=4:=by
 unfold dB;rw [if_neg (by rw [h];decide),if_neg h2,if_neg (fun v=>v h3),if_pos (fun v=>v i hi j hj h4)]
theorem aF7 (h:cfo s w k d=true)(h2:¬ (ps.length<1\/4<ps.length))(h3:fV ps)(h4:nms ps):dB ps s w k d=0:=by
 unfold dB;rw [if_neg (by rw [h];decide),if_neg h2,if_neg (fun v=>v h3),if_neg (fun v=>v h4)]
theorem iC {B:Nat}{a W:qw}(h:Below B a W)(n:Nat):Below B a (W.drewN n):=⟨h.os,h.tape,h.output,h.size,h.block⟩
theorem aLu {a b:ByteArray}(h:a≠b):(a.toList==b.toList)=false:=by
 rw [beq_eq_false_iff_ne];intro e;apply h;rw [ByteArray.toList_eq,ByteArray.toList_eq] at e;cases a
 cases b
 simp at e;rw [e]
theorem eE (x:Int)(w:qw)(h0:0<=x:=by omega)(h1:x<=4294967295:=by omega):qC 78 #[qI x] w fun e w'=>e=.returned (qI (rnd x))/\w'=w:=by
 have hd:(x+31).tdiv 32=(x+31)/32:=Int.tdiv_eq_ediv_of_nonneg (by omega);go_enter func78,ntmps78
 go_wp2;go_ret;exact ⟨aQ (by unfold rnd;rw [show x+31=x+32-1 by omega]),rfl⟩
theorem Md.okS {w:qw}(h:m.md w):qC 36 #[.agg (qM m.nm m.ta m.tn m.tc m.ba m.bn m.bc m.da m.dn m.dc m.bss m.ra m.rn m.rc m.ia m.im m.ic m.ea m.en m.ec)] w (qB w (qI (bI m.pm))):=by
 have:=dX _ _ _ _ _ _ _ _ _ _ _ _ _ _ _ _ _ _ _ _ _ _ _ _ _ _ w h;rw [wY h] at this;exact this
theorem aAu (a:qO)(n cap:Nat)(ms:List Md)(s c k d:Int)(w:qw)(h:MSD w a n cap ms):
 qC 41 #[qS a n cap,.agg (qW s c k d)] w (qB w (qI (dB (aF ms) s c k d))):=by
 have hA:qY w (w.alloc (.cells (qW s c k d) 25)):=bal;have hl:=h.s.1;have hm1:=h.s.2.1;unfold maxLen at hm1;have hpl:=bQ ms;have HH:=zh h;have HC:=zh (fun W=>kQ s c k d W);clear h;go_enter func41,ntmps41
 go_wp2_with fail
 refine (HC.o _).mono ?_;rintro e w1 ⟨rfl,hb1⟩;have HB1:=zh (hA.trans (hb1.mono (by simp)));clear hA hb1 HC;cases hcf:cfo s c k d with
 | false=>
   have HS:=zh (aF6 (ps:=aF ms) hcf);go_wp2;go_ret;exact ⟨aQ HS.o.symm,HB1.o⟩
 | true=>
   by_cases hn2:n<1\/4<n
   .have HS:=zh (aF5 (ps:=aF ms) hcf (by omega));by_cases hn1:n<1
    .have hn1':(n:Int)<1:=by omega
     clear hn2;go_wp2;go_ret;exact ⟨aQ HS.o.symm,HB1.o⟩
    .have hn1':¬ (n:Int)<1:=by omega
     have hn4':(4:Int)<(n:Int):=by omega
     clear hn2;go_wp2;go_ret;exact ⟨aQ HS.o.symm,HB1.o⟩
   have hn1':¬ (n:Int)<1:=by omega
   have hn4':¬ (4:Int)<(n:Int):=by omega
   have HN2:=zh (show ¬ ((aF ms).length<1\/4<(aF ms).length) by rw [hpl,hl];exact hn2);clear hn2;go_wp2;go_loopw [5] (fun i wr=>∃ m:Nat,m<=n/\i=qI m/\(∀ j,j<m->bI ((aF ms).getD j zP)=0)/\qY w wr) (qf n)
   .exact ⟨0,xC _,rfl,fun j hj=>absurd hj (by omega),HB1.o⟩
   .obtain ⟨m,hm,rfl,hv,B⟩:=hrel;by_cases hlt:m<n
    .have hlt':(m:Int)<(n:Int):=by omega
     have H:=HH.o.bw B;obtain ⟨b,off,rfl,q0,q1,q2,q3,q4,q5,q6,q7⟩:=H.s.at m hlt;have HOK:=zh (Md.okS (H.d m hlt));rw [<- cD] at HOK;have HV:=zh hv;have HB:=zh B;obtain ⟨V,hV⟩:=eqx (bI ((aF ms).getD m zP));rw [<- hV] at HOK;have HVV:=zh hV;generalize ms.getD m zMd=M at *;clear hv B H hV;go_wp2_with fail
     refine HOK.o.mono ?_;rintro e w2 ⟨rfl,hb2⟩;have HB2:=zh (HB.o.trans (hb2.mono HB.o.size));clear hb2 HOK HB q0 q1 q2 q3 q4 q5 q6 q7;by_cases hz:V=0
     .subst hz
      have HV2:=zh (show ∀ j,j<m+1->bI ((aF ms).getD j zP)=0 from fun j hj=>by
       by_cases e:j=m
       .subst e;exact HVV.o.symm
       .exact HV.o j (by omega))
      go_wp2
      go_roundw
      .exact ⟨m+1,by omega,by go_num,HV2.o,HB2.o⟩
      .simp [qf,intOf];omega
     .have hz':(V !=0)=true:=by simp [hz]
      have HS:=zh (aF4 (ps:=aF ms) hcf HN2.o m (by omega) (by rw [<- HVV.o];exact hz));go_wp2;go_ret;exact ⟨aQ HS.o.symm,HB2.o⟩
    .have hlt':¬ (m:Int)<(n:Int):=by omega
     have HV:Zh (fV (aF ms)):=fun i hi=>hv i (by omega);have HB:=zh B;clear hv B;go_wp2;go_loopw [6] (fun i wr=>∃ m:Nat,m<=n/\i=qI m/\(∀ i,i<m->∀ k,k<i->((aF ms).getD k zP).nm≠((aF ms).getD i zP).nm)/\qY w wr) (qf n)
     .exact ⟨0,xC _,rfl,fun j hj=>absurd hj (by omega),HB.o⟩
     .obtain ⟨p,hp,rfl,hv,B⟩:=hrel;by_cases hlt2:p<n
      .have hlt2':(p:Int)<(n:Int):=by omega
       have HP:=zh hv;have HB3:=zh B;clear hv B;go_wp2;go_loopw [7] (fun i wr=>∃ q:Nat,q<=p/\i=qI q/\(∀ k,k<q->((aF ms).getD k zP).nm≠((aF ms).getD p zP).nm)/\qY w wr) (qf p)
       .exact ⟨0,xC _,rfl,fun j hj=>absurd hj (by omega),HB3.o⟩
       .obtain ⟨q,hq,rfl,hv,B⟩:=hrel;by_cases hlt3:q<p
        .have hlt3':(q:Int)<(p:Int):=by omega
         have hqn:(q:Int)<(n:Int):=by omega
         have H:=HH.o.bw B;obtain ⟨b,off,rfl,q0,_⟩:=H.s.at q (by omega);obtain ⟨b',off',e',r0,_⟩:=H.s.at p hlt2;simp at e';obtain ⟨rfl,rfl⟩:=e';have e1:((aF ms).getD q zP).nm=(ms.getD q zMd).nm:=by rw [cD];rfl
         have e2:((aF ms).getD p zP).nm=(ms.getD p zMd).nm:=by rw [cD];rfl
         have HQ:=zh hv;have HB4:=zh B;by_cases hnm:(ms.getD q zMd).nm=(ms.getD p zMd).nm
         .have HS:=zh (aLx (ps:=aF ms) hcf HN2.o HV.o p q (by omega) hlt3 (by rw [e1,e2];exact hnm));rw [hnm] at q0;have heq:((ms.getD p zMd).nm.toList==(ms.getD p zMd).nm.toList)=true:=by simp
          generalize ms.getD p zMd=M at *;clear hv B H e1 e2 hnm;go_wp2_with fail
          go_quiet (fail)
          go_wp2;go_ret;exact ⟨aQ HS.o.symm,iC HB4.o nq⟩
         .have hne:=aLu hnm
          have HQ2:=zh (show ∀ k,k<q+1->((aF ms).getD k zP).nm≠((aF ms).getD p zP).nm from fun k hk=>by
           by_cases e:k=q
           .subst e;rw [e1,e2];exact hnm
           .exact HQ.o k (by omega))
          generalize (ms.getD p zMd).nm=N1 at *;generalize (ms.getD q zMd).nm=N2 at *;clear hv B H e1 e2 hnm;go_wp2_with fail
          go_quiet (fail)
          go_wp2
          go_roundw
          .exact ⟨q+1,by omega,by go_num,HQ2.o,iC HB4.o nq⟩
          .simp [qf,intOf];omega
        .have hlt3':¬ (q:Int)<(p:Int):=by omega
         have HQ2:=zh (show ∀ i,i<p+1->∀ k,k<i->((aF ms).getD k zP).nm≠((aF ms).getD i zP).nm from fun i hi k hk=>by
          by_cases e:i=p
          .subst e;exact hv k (by omega)
          .exact HP.o i (by omega) k hk)
         have HB4:=zh B;clear hv B;go_wp2
         go_roundw
         .exact ⟨p+1,by omega,by go_num,HQ2.o,HB4.o⟩
         .simp [qf,intOf];omega
      .have hlt2':¬ (p:Int)<(n:Int):=by omega
       have HS:=zh (aF7 (ps:=aF ms) hcf HN2.o HV.o (fun i hi k hk=>hv i (by omega) k hk));have HB3:=zh B;clear hv B;go_wp2;go_ret;exact ⟨aQ HS.o.symm,HB3.o⟩
def bM (v:Int)(s:Nat):List Int:=(List.range s).map (bt v)
theorem bE (v:Int)(s:Nat):(bM v s).length=s:=by simp [bM]
theorem aV (v:Int)(s:Nat):∀ z∈bM v s,0<=z/\z<=255:=by
 intro z hz;simp only [bM,List.mem_map] at hz;obtain ⟨j,_,rfl⟩:=hz;exact iA v j
theorem aI4 (v:Int):∀ s,s<=4->put (List.replicate s 0) 0 v s=bM v s
 | 0,_=>rfl
 | 1,_=>rfl
 | 2,_=>rfl
 | 3,_=>rfl
 | 4,_=>rfl
 | s+5,h=>by omega
theorem aIy {w:qw}{zs:qi}(h:aM8 w g zs)(hb:base<=g)(hn:zs.length=n)(hm:n<=maxLen)(hr:∀ z∈zs,0<=z/\z<=255):OB w base (qS (qP g) n n) zs:=by
 subst hn;exact ⟨⟨by simp,.inr ⟨g,zs.length,_,rfl,hb,h,aL,hm,by simp,by rw [xG (by simp)]⟩⟩,hr⟩
theorem bT (v:Int)(s:Nat)(w:qw)(hs:s=1\/s=2\/s=4)(h0:0<=v)(h1:v<=4294967295):
 qC 40 #[qI v,qI s] w fun e w'=>e=.returned (qS (qP w.heap.size) s s)/\OB w' w.heap.size (qS (qP w.heap.size) s s) (bM v s)/\qY w w':=by
 obtain ⟨i0,hi,hz0,hz1,hz2⟩:=info_parts gW;have hs4:s<=4:=by omega
 have hs1:1<=s:=by omega
 clear hs;go_enter func40,ntmps40
 go_wp2_with (at_make;refine wpList_make_full _ rfl _ _ 22 rfl w.heap.size 5 i0 (.int .u8 0) 1 underlying22 hi hz0 hz1 .i64 .i64 _ _ s rfl rfl rfl rfl (by rw [hz2];omega) (by unfold maxLen;omega) aL ?_;intro w1 hown hgr)
 have hrow:=aAa hown;have hbel:=jN hgr;clear hown hgr hi hz0 hz1 hz2;have ho:=aIy (n:=s) hrow (Nat.le_refl w.heap.size) (by simp) (by unfold maxLen;omega) (by intro z hz;simp at hz;omega);go_wp2_with fail
 refine (nH w.heap.size s s 0 s v w1 (pC ho) (by omega) (by omega) (by omega) (by omega) h0 h1).mono ?_;rintro e w2 ⟨rfl,rfl⟩;have hp:=wR ho 0 v s (by omega);rw [aI4 v s hs4] at hp;have hbp:=cT hbel (lU w.heap.size 0 v w1 s) aL;have HX:=zh (xA hp hbp);clear hp hbp ho hbel hrow;have e:(s:Int).toNat=s:=by omega
 rw [e];generalize tX w1 w.heap.size 0 v s=W at *;go_wp2;go_ret;exact ⟨rfl,HX.o.1,HX.o.2⟩
def nA (s:ByteArray):List Int:=s.data.toList.map fun b=>(b.toNat:Int)
theorem lM (s:ByteArray):(nA s).length=s.size:=by simp [nA]
theorem pS (s:ByteArray):∀ z∈nA s,0<=z/\z<=255:=by
 intro z hz;simp only [nA,List.mem_map] at hz;obtain ⟨b,_,rfl⟩:=hz;have:=b.toNat_lt;omega
theorem aEn (w:qw)(s:ByteArray)(cap:Nat)(fr:Nat×Nat)(t:TypeId)(g:Nat)(hg:g=w.heap.size):∀ j u,((nA s).map (Value.int .u8))[j]?=some u->(w.alloc (.cells (bytesRow s cap) t fr)).cell? (((qR g 0):Addr).add j)=some u:=by
 intro j u hj;subst hg;have e:(Addr.add (qR w.heap.size 0) j)=(qR w.heap.size j):=by rw [bZ,Nat.zero_add]
 rw [e,World.cell?_alloc_mark]
 have hl:j<s.size:=by
  by_cases h:j<s.size
  .exact h
  .rw [xO (by simp [nA];omega)] at hj;simp at hj
 rw [<- hj];unfold bytesRow;rw [Array.getElem?_append_left (by simpa using hl)];simp [nA];rfl
theorem aDe (zs:qi):∀ u∈zs.map (Value.int .u8),u.oneCell'=true:=by
 intro u hu;simp only [List.mem_map] at hu;obtain ⟨z,_,rfl⟩:=hu;rfl
theorem wS {w:qw}{xs ys:qi}(hx:∀ z∈xs,0<=z/\z<=255)(hy:∀ z∈ys,0<=z/\z<=255)(h:w.ownsRow base 5 1 v (xs.length+ys.length) (xs.map (Value.int .u8)++ys.map (Value.int .u8))):OB w base v (xs++ys):=
 ⟨by simpa using h,fun z hz=>by
  rcases List.mem_append.1 hz with h|h
  .exact hx z h
  .exact hy z h⟩
theorem aDk {w:qw}{zs:qi}(h:OB w base v zs)(hn:zs.length≠0):∃ g d,v=qS (qP g) zs.length d:=by
 obtain ⟨hl,⟨h0',h1⟩|⟨g,cap',cur,hv,_⟩⟩:=h.1
 .exact absurd h1 hn
 .exact ⟨g,cap',hv⟩
def iS (s:ByteArray):List Int:=bM s.size 1++nA s
theorem fP (s:ByteArray):(iS s).length=1+s.size:=by simp [iS,bE,lM]
def nW (w:qw)(zs:qi)(e:Ending)(w':qw):Prop:=∃ g d,e=.returned (qS (qP g) zs.length d)/\OB w' w.heap.size (qS (qP g) zs.length d) zs/\qY w w'
theorem aCe (s:ByteArray)(w:qw)(hs:s.size<=1048576):qC 38 #[.string s] w (nW w (iS s)):=by
 obtain ⟨i0,hi,hz0,hz1,hz2⟩:=info_parts gW;have hcv:=fun (w:qw)=>run_bytes_of_string (P:=prog) w 9 22 5 s underlying9 underlying22 underlying5;have HL:=zh (xA (bE s.size 1) (lM s));have HN:=zh (fun w=>bT s.size 1 w (Or.inl rfl) (by omega) (by omega));go_enter func38,ntmps38
 go_wp2_with fail
 refine (HN.o _).mono ?_;rintro e w1 ⟨rfl,ho,hb⟩;have HO:=zh (fun (O:Obj)=>(ho.bw ((Below.refl w1.heap.size w1).drew.alloc aL O)).1);have HB:=zh (fun (O:Obj)=>hb.drew.alloc (show w.heap.size<=w1.drew.heap.size from hb.size) O);have hbs:=hb.size;clear ho hb;go_wp2_with (at_builtin;refine wpList_append_own _ rfl _ _ 22 rfl w.heap.size 5 i0 (.int .u8 0) 1 1 underlying22 hi hz0 hz1 hz2 rfl (by decide) (qS (qP w.heap.size) 1 1) 1 ((bM s.size 1).map (Value.int .u8)) rfl (HO.o _) (qR w1.heap.size 0) s.size _ ((nA s).map (Value.int .u8)) rfl (by rw [xH,lM,Nat.mul_one]) (aEn _ s _ _ _ _ rfl) (aDe _) (by unfold maxLen;omega) (by omega) (by simp;omega) ?_;intro v' w3 hown3 hgr3 _)
 have h3:OB w3 w.heap.size v' (iS s):=wS (aV _ _) (pS _) (by rw [HL.o.1,HL.o.2];exact hown3);obtain ⟨g,d,rfl⟩:=aDk h3 (by rw [fP];omega);have hb3:=iW (HB.o _) hgr3 (by simp;omega) aL;go_ret;exact ⟨g,d,rfl,h3,hb3⟩
def dT (s:Nat)(zs:qi)(k:Nat):List Int:=(zs.take k).flatMap fun z=>bM z s
theorem nO (s:Nat)(zs:qi)(k:Nat)(h:k<zs.length):dT s zs (k+1)=dT s zs k++bM (zs.getD k 0) s:=by
 unfold dT;rw [List.take_succ_eq_append_getElem h,xU];simp [xB,h]
theorem sY (s:Nat)(zs:qi):∀ k,k<=zs.length->(dT s zs k).length=k*s
 | 0,_=>by simp [dT]
 | k+1,h=>by rw [nO s zs k (by omega),xI,sY s zs k (by omega),bE,Nat.succ_mul]
theorem sX (s:Nat)(zs:qi)(k:Nat):∀ z∈dT s zs k,0<=z/\z<=255:=by
 intro z hz;simp only [dT,List.mem_flatMap] at hz;obtain ⟨x,_,hz⟩:=hz;exact aV _ _ z hz
theorem bF {xs ys:qi}(hx:∀ z∈xs,0<=z/\z<=255)(hy:∀ z∈ys,0<=z/\z<=255):∀ z∈xs++ys,0<=z/\z<=255:=fun z hz=>by
 rcases List.mem_append.1 hz with h|h
 .exact hx z h
 .exact hy z h
def jC (zs:qi):List Int:=bM zs.length 2++dT 4 zs zs.length
theorem jJ (zs:qi):(jC zs).length=2+zs.length*4:=by simp [jC,bE,sY]
theorem bR {w:qw}{zs:qi}(h:OB w base (qS (qP g) n cap) zs):∀ j u,(zs.map (Value.int .u8))[j]?=some u->w.cell? (((qR g 0):Addr).add j)=some u:=pG h.bs
theorem sF (a:qO)(n cap:Nat)(zs:qi)(w:qw)(h:IS w a n cap zs)(hn:n<=1000)(hr:∀ z∈zs,0<=z/\z<=4294967295):qC 39 #[qS a n cap] w (nW w (jC zs)):=by
 obtain ⟨i0,hi,hz0,hz1,hz2⟩:=info_parts gW;have hl:=h.1;have HN:=zh (fun w=>bT n 2 w (Or.inr (Or.inl rfl)) (by omega) (by omega));have HE:=zh (show jC zs=bM n 2++dT 4 zs n by unfold jC;rw [hl]);go_enter func39,ntmps39
 go_wp2_with fail
 refine (HN.o _).mono ?_;rintro e w1 ⟨rfl,ho,hb⟩
 have H1:OB w1 w.heap.size (qS (qP w.heap.size) 2 2) (bM n 2++dT 4 zs 0):=by
  have e:bM n 2++dT 4 zs 0=bM n 2:=by simp [dT]
  rw [e];exact ho
 clear ho HN;go_wp2;go_loopw [3,4] (fun x i wr=>∃ (k:Nat) (v:Value),k<=n/\i=qI k/\v=x/\OB wr w.heap.size v (bM n 2++dT 4 zs k)/\qY w wr) (fun _ i _=>n-(intOf i).toNat)
 .exact ⟨0,_,xC _,rfl,rfl,H1,hb⟩
 .obtain ⟨k,v,hk,rfl,rfl,hO,hB⟩:=hrel;clear H1 hb;by_cases hlt:k<n
  .have hlt':(k:Int)<(n:Int):=by omega
   obtain ⟨b,off,rfl⟩:=h.addr (by omega);have hc:=(h.bw hB).at k hlt;have hz:0<=zs.getD k 0/\zs.getD k 0<=4294967295:=hr _ (by simp [xB,show k<zs.length by omega]);have HS:=zh (show bM n 2++dT 4 zs (k+1)=(bM n 2++dT 4 zs k)++bM (zs.getD k 0) 4 by rw [nO 4 zs k (by omega),List.append_assoc]);have HR:Zh (∀ z∈bM n 2++dT 4 zs k,0<=z/\z<=255):=bF (aV _ _) (sX _ _ _);have HLN:Zh ((bM n 2++dT 4 zs k).length=2+k*4):=by show _=_;rw [xI,bE,sY 4 zs k (by omega)]
   generalize bM n 2++dT 4 zs k=out at *;generalize zs.getD k 0=z at *;have HN:=zh (fun w=>bT z 4 w (Or.inr (Or.inr rfl)) hz.1 hz.2);go_wp2_with fail
   refine (HN.o _).mono ?_;rintro e w2 ⟨rfl,ho2,hb2⟩;have HO:=zh ((hO.bw hb2).1);have HC:=zh (bR ho2);have hB2:=hB.trans (hb2.mono hB.size);have hlt2:=hO.lt;have hsz:=hB.size;have hol:=HLN.o;clear hO ho2 hb2 hc HN;go_wp2_with (at_builtin;refine wpList_append_own _ rfl _ _ 22 rfl w.heap.size 5 i0 (.int .u8 0) 1 1 underlying22 hi hz0 hz1 hz2 rfl (by decide) v out.length (out.map (Value.int .u8)) rfl HO.o (qR wr.heap.size 0) 4 4 ((bM z 4).map (Value.int .u8)) rfl (by rw [xH,bE]) HC.o (aDe _) (by unfold maxLen;omega) (by omega) (by have:=hB2.size;omega) ?_;intro v' w3 hown3 hgr3 _)
   have h3:OB w3 w.heap.size v' (out++bM z 4):=wS HR.o (aV _ _) (by rw [bE];exact hown3);rw [<- HS.o] at h3;have hb3:qY w w3:=hB2.grown hgr3 (by have:=hB2.size;omega) (fun j hj=>(hlt2 j hj).1)
   go_roundw
   .exact ⟨k+1,v',by omega,by go_num,rfl,h3,hb3⟩
   .simp [intOf];omega
  .obtain rfl:k=n:=by omega
   have h3:=hO;rw [<- HE.o] at h3;obtain ⟨g,d,rfl⟩:=aDk h3 (by rw [jJ];omega);have HX:=zh h3;clear h3 hO;go_wp2;go_ret;exact ⟨g,d,rfl,HX.o,hB⟩
structure Vm (nm:ByteArray)(tn:Nat)(tz:qi)(bn:Nat)(bl:List Bk)(dn:Nat)(bss:Int)(rn:Nat)(rz:qi)(im:Nat)(ss:List ByteArray)(en:Nat)(es:List Ex):Prop where
 n:nm.size<=12
 t:tn<=200
 tw:∀ z∈tz,0<=z/\z<=4294967295
 b:bn<=4
 bw:∀ i,i<bl.length->(bl.getD i zB).2.1<=64/\∀ z∈(bl.getD i zB).2.2.2,0<=z/\z<=4294967295
 d:dn<=512
 s:0<=bss/\bss<=512
 r:rn<=16
 rw:∀ i,i<rn->0<=rz.getD i 0/\rz.getD i 0<=512
 i:im<=16
 iw:∀ i,i<im->(ss.getD i zS).size<=25
 e:en<=16
 ew:∀ i,i<en->(es.getD i zE).1.size<=12/\-1<=(es.getD i zE).2.1/\(es.getD i zE).2.1<=4/\0<=(es.getD i zE).2.2/\(es.getD i zE).2.2<=200
theorem aC3 {zs:qi}(h:wds zs=true):∀ z∈zs,0<=z/\z<=4294967295:=fun z hz=>by
 unfold wds at h;rw [List.all_eq_true] at h;simpa using h z hz
theorem lX {s:ByteArray}(h:nmo s=true):s.size<=12:=by
 unfold nmo at h;simp at h;omega
theorem aFi {s:ByteArray}(h:eJ s=true):s.size<=25:=by
 unfold eJ at h;simp only [Bool.and_eq_true,decide_eq_true_eq] at h;obtain ⟨h0,h1,h2⟩:=h;have a1:=lX h1;have a2:=lX h2;have hd:=jY s;unfold dC at a1;unfold dU at a2;simp only [ByteArray.size_extract] at a1 a2;omega
theorem wA {f:Nat->Bool}(h:(List.range n).all f=true)(i:Nat)(hi:i<n):f i=true:=by
 rw [List.all_eq_true] at h;exact h i (by simpa using hi)
theorem fA {nm:ByteArray}{tn:Nat}{tz:qi}{bn:Nat}{bl:List Bk}{dn:Nat}{bss:Int}{rn:Nat}{rz:qi}{im:Nat}{ss:List ByteArray}{en:Nat}{es:List Ex}(hbl:bl.length=bn)(h:mdo nm tn tz bn bl dn bss rn rz im ss en es=0):Vm nm tn tz bn bl dn bss rn rz im ss en es:=by
 unfold mdo at h;by_cases c1:nmo nm=false
 .rw [if_pos c1] at h;simp at h
 rw [if_neg c1] at h;by_cases c2:cdo tn tz bn bl=false
 .rw [if_pos c2] at h;simp at h
 rw [if_neg c2] at h;by_cases c3:512<dn\/bss<0\/512<bss
 .rw [if_pos c3] at h;simp at h
 rw [if_neg c3] at h;by_cases c4:rlo rn rz dn=false
 .rw [if_pos c4] at h;simp at h
 rw [if_neg c4] at h;by_cases c5:imo im ss=false
 .rw [if_pos c5] at h;simp at h
 rw [if_neg c5] at h;by_cases c6:exo tn bn bl en es=false
 .rw [if_pos c6] at h;simp at h
 simp only [Bool.not_eq_false] at c1 c2 c4 c5 c6;unfold cdo at c2;unfold rlo at c4;unfold imo at c5;unfold exo at c6;simp only [Bool.and_eq_true,decide_eq_true_eq] at c2 c4 c5 c6;obtain ⟨⟨t1,t2⟩,t3,t4⟩:=c2
 have hb:∀ i,i<bl.length->(bl.getD i zB).2.1<=64/\∀ z∈(bl.getD i zB).2.2.2,0<=z/\z<=4294967295:=fun i hi=>by
  rw [List.all_eq_true] at t4;have hm:bl.getD i zB∈bl:=by simp [xB,hi]
  have:=t4 _ hm;unfold bko at this;simp only [Bool.and_eq_true,decide_eq_true_eq] at this;exact ⟨this.1.2,aC3 this.2⟩
 refine ⟨lX c1,t1,aC3 t3,t2,hb,by omega,by omega,c4.1,fun i hi=>?_,c5.1,fun i hi=>aFi (wA c5.2 i hi),c6.1,fun i hi=>?_⟩
 .have:=wA c4.2 i hi;unfold rlk at this;simp only [Bool.and_eq_true,decide_eq_true_eq] at this;omega
 .have:=wA c6.2 i hi;unfold ex1 at this;simp only [Bool.and_eq_true,decide_eq_true_eq] at this;obtain ⟨⟨n1,a1,a2⟩,_⟩:=this;have n2:=lX n1
  have hp:pcn tn bn bl (es.getD i zE).2.1<=200/\(0<pcn tn bn bl (es.getD i zE).2.1->-1<=(es.getD i zE).2.1/\(es.getD i zE).2.1<=4):=by
   unfold pcn;split
   .omega
   .split
    .next h1 h2=>
     have:=(hb (es.getD i zE).2.1.toNat (by omega)).1;omega
    .omega
  have:=hp.2 (by omega);omega
def clG (t:Tg):List Value:=[qI t.1,qI t.2.1,qI t.2.2]
theorem aLl:(prog.info? 106).map (fun i=>(i.zero,i.size,i.bytes))=some (some (.agg (qT 0 0 0)),3,24):=by kernel_rfl
theorem cJ {α:Type}(t:TypeId)(sz:Nat)(f:α->List Value)(w:qw)(base:Nat)(hb:base<=w.heap.size):OG t sz f (w.alloc (.cells #[] t)) base (qS (qP w.heap.size) 0 0) []:=
 ⟨by simp,.inr ⟨w.heap.size,0,#[],rfl,hb,heap_alloc_new w _,aL,by unfold maxLen;omega,by simp,by simp⟩⟩
theorem aBj {a W W':qw}(h:qY a W)(hg:W.grownBy W' row)(hr:∀ k,row=some k->a.heap.size<=k):qY a W':=
 aI h ⟨hg.os,hg.tape,hg.output,hg.size,fun j hj (hs:¬ row=some j)=>hg.block j hj (fun e=>hs e.symm)⟩ hr h.size
theorem dV {W W':qw}{k:Nat}{t:TypeId}(h:Blk W k cs t)(hg:W.grownBy W' row)(hr:some k≠row):Blk W' k cs t:=
 aA (S:=fun j=>row=some j) ⟨hg.os,hg.tape,hg.output,hg.size,fun j hj hs=>hg.block j hj (fun e=>hs e.symm)⟩ h (fun e=>hr e.symm)
def tgN (ps:List PMod)(P:PMod)(m:Nat):List Tg:=(List.range m).map fun i=>(gM ps (P.ss.getD i zS)).getD zT
theorem fY (ps:List PMod)(P:PMod)(m:Nat):(tgN ps P m).length=m:=by simp [tgN]
theorem zV (ps:List PMod)(P:PMod)(m:Nat){t:Tg}(h:gM ps (P.ss.getD m zS)=some t):tgN ps P (m+1)=tgN ps P m++[t]:=by
 simp only [tgN,List.range_succ,List.map_append,List.map_cons,List.map_nil,h,Option.getD_some]
theorem aIn (ps:List PMod)(P:PMod):tgN ps P P.ss.length=tgs ps P:=rfl
theorem bS (h:bI P=0):P.es.length<=16/\P.ss.length<=16/\P.tz.length<=200/\P.bl.length<=4/\P.dz.length<=512/\0<=P.bss/\P.bss<=512/\∀ k,k<P.bl.length->(P.bl.getD k []).length<=64:=by
 unfold bI at h;have V:=fA (by simp [dO]) h;refine ⟨V.e,V.i,V.t,V.b,V.d,V.s.1,V.s.2,fun k hk=>?_⟩;have:=(V.bw k (by simp [dO];exact hk)).1;simpa [dO,xB,hk] using this
theorem MSD.es {w:qw}(h:MSD w a n cap ms)(hv:fV (aF ms)):∀ i,i<n->ES w (ms.getD i zMd).ea (ms.getD i zMd).en (ms.getD i zMd).ec (ms.getD i zMd).es/\(ms.getD i zMd).en<=1048576:=fun i hi=>by
 have hl:=h.s.1;have e:=(h.d i hi).e;refine ⟨e,?_⟩;have h1:=(bS (hv i (by rw [bQ];omega))).1;rw [cD] at h1;have h2:(ms.getD i zMd).pm.es.length=(ms.getD i zMd).en:=e.1;omega
theorem MSD.resS {w:qw}(h:MSD w a n cap ms)(hv:fV (aF ms))(hn:n<=4)(s:ByteArray)(hs:s.size<=1048576):qC 77 #[qS a n cap,.string s] w (qB w (tgV (gM (aF ms) s))):=by
 have:=vY a n cap ms s w h.s (by omega) hs (h.es hv);rw [aGc h.s.1 (fun i hi=>(h.d i hi).e.1)] at this;exact this
theorem MSD.resI {w:qw}(h:MSD w a n cap ms)(hv:fV (aF ms))(hn:n<=4)(s:ByteArray)(hs:s.size<=1048576):qC 93 #[qS a n cap,.string s] w (qB w (tgV (gM (aF ms) s))):=by
 have:=yO a n cap ms s w h.s (by omega) hs (h.es hv);rw [aGc h.s.1 (fun i hi=>(h.d i hi).e.1)] at this;exact this
theorem kS (a:qO)(n cap:Nat)(ms:List Md)(M:Md)(w:qw)(h:MSD w a n cap ms)(hv:fV (aF ms))(hn:n<=4)(hM:M.md w)(hok:bI M.pm=0):
 qC 42 #[qS a n cap,.agg (qM M.nm M.ta M.tn M.tc M.ba M.bn M.bc M.da M.dn M.dc M.bss M.ra M.rn M.rc M.ia M.im M.ic M.ea M.en M.ec)] w fun e w'=>qY w w'/\((¬ tN (aF ms) M.pm/\∃ v,e=.returned (.tuple #[v,.bool false]))\/(tN (aF ms) M.pm/\∃ a c,e=.returned (.tuple #[.slice a (tgs (aF ms) M.pm).length c,.bool true])/\OG 106 3 clG w' w.heap.size (.slice a (tgs (aF ms) M.pm).length c) (tgs (aF ms) M.pm))):=by
 obtain ⟨iG,hi,hz0,hz1,hz2⟩:=info_parts aLl;have hA:qY w (w.alloc (.cells (qM M.nm M.ta M.tn M.tc M.ba M.bn M.bc M.da M.dn M.dc M.bss M.ra M.rn M.rc M.ia M.im M.ic M.ea M.en M.ec) 53)):=bal;have k0:=Blk.new w (qM M.nm M.ta M.tn M.tc M.ba M.bn M.bc M.da M.dn M.dc M.bss M.ra M.rn M.rc M.ia M.im M.ic M.ea M.en M.ec) 53;have him:M.im<=16:=by have h1:=(bS hok).2.1;have h2:M.pm.ss.length=M.im:=hM.i.1;omega
 have hil:M.pm.ss.length=M.im:=hM.i.1;have HS:=zh (fun (W:qw) (hb:qY w W) (s:ByteArray) (hs:s.size<=1048576)=>(h.bw hb).resS hv hn s hs);have HI:=zh hM.i;have O0:=cJ 106 3 clG (w.alloc (.cells (qM M.nm M.ta M.tn M.tc M.ba M.bn M.bc M.da M.dn M.dc M.bss M.ra M.rn M.rc M.ia M.im M.ic M.ea M.en M.ec) 53)) w.heap.size hA.size;have hA2:=hA.trans (((Below.refl _ (w.alloc (.cells (qM M.nm M.ta M.tn M.tc M.ba M.bn M.bc M.da M.dn M.dc M.bss M.ra M.rn M.rc M.ia M.im M.ic M.ea M.en M.ec) 53))).alloc aL (.cells #[] 106)).mono hA.size);have k1:=k0.alloc (.cells #[] 106);try unfold qY at *
 simp only [xF] at O0;have HP:=zh (xA O0 (xA hA2 k1));clear O0 hA hA2 k0 k1 h hM hok;go_enter func42,ntmps42
 go_wp2_with fail
 go_loopw [6,7] (fun x i wr=>∃ m:Nat,m<=M.im/\i=qI m/\(∀ j,j<m->(gM (aF ms) (M.pm.ss.getD j zS)).isSome=true)/\OG 106 3 clG wr w.heap.size x (tgN (aF ms) M.pm m)/\qY w wr/\Blk wr w.heap.size (qM M.nm M.ta M.tn M.tc M.ba M.bn M.bc M.da M.dn M.dc M.bss M.ra M.rn M.rc M.ia M.im M.ic M.ea M.en M.ec) 53) (fun _ i _=>M.im-(intOf i).toNat)
 .exact ⟨0,xC _,rfl,fun j hj=>absurd hj (by omega),HP.o.1,HP.o.2.1,HP.o.2.2⟩
 .clear HP;obtain ⟨m,hm,rfl,hs,O,B,k⟩:=hrel;have q6:=k.e6;obtain ⟨a',c',rfl⟩:=aO O;rw [fY] at *;by_cases hlt:m<M.im
  .have hlt':(m:Int)<(M.im:Int):=by omega
   obtain ⟨_,_,hsz,hcs,_⟩:=HI.o;obtain ⟨b,off,hia,hc⟩:=hcs (by omega);have c0:=((B.cell (xD w _ (hc m hlt))).trans (hc m hlt));have hss:(M.ss.getD m zS).size<=1048576:=hsz _ (by have:=HI.o.1;simp [xB,show m<M.ss.length by omega]);have HR:=zh (HS.o wr B (M.ss.getD m zS) hss);rw [hia] at q6;clear hia;have HQ:=zh (xA O (xA B k));have HSS:=zh hs;have HTS:=zh (fun t (h:gM (aF ms) (M.ss.getD m zS)=some t)=>zV (ps:=aF ms) (P:=M.pm) m h);have HBAD:=zh (fun (h:gM (aF ms) (M.ss.getD m zS)=none)=>(show ¬ tN (aF ms) M.pm from fun hk=>by have:=hk m (by rw [hil];exact hlt);rw [show M.pm.ss.getD m zS=M.ss.getD m zS from rfl,h] at this;cases this))
   have HGO:=zh (fun t (h:gM (aF ms) (M.ss.getD m zS)=some t)=>(show ∀ j,j<m+1->(gM (aF ms) (M.pm.ss.getD j zS)).isSome=true from fun j hj=>by
    by_cases e:j=m
    .subst e;rw [show M.pm.ss.getD j zS=M.ss.getD j zS from rfl,h];rfl
    .exact HSS.o j (by omega)))
   generalize M.ss.getD m zS=str at *;clear O B k hs hc hsz hcs HI HSS;go_wp2_with fail
   refine HR.o.mono ?_;rintro e w1 ⟨rfl,hb1⟩;obtain ⟨O,B,k⟩:=HQ.o;have B1:=B.trans (hb1.mono B.size);cases ho:gM (aF ms) str with
   | none=>
     have HF:=zh (xA (B1.trans (((Below.refl _ w1).alloc aL (.cells (qT 0 0 0) 106)).mono B1.size)) (HBAD.o ho));clear O B k hb1 B1 HQ HR HTS HBAD HGO q6 c0;unfold tgV;go_wp2
     go_ret2
     exact ⟨HF.o.1,.inl ⟨HF.o.2,_,rfl⟩⟩
   | some t=>
     obtain ⟨t1,t2,t3⟩:=t;have al1:qY w1 (w1.alloc (.cells (qT t1 t2 t3) 106)):=bal;have hs1:(w1.alloc (.cells (qT t1 t2 t3) 106)).heap.size=w1.heap.size+1:=by simp
     have k1:=Blk.new w1 (qT t1 t2 t3) 106;have O2:=(O.bw hb1).bw al1;have B2:=B1.trans (al1.mono B1.size);have kk2:=(k.bw hb1).bw al1;have HT2:=zh (HTS.o _ ho);have HG2:=zh (HGO.o _ ho);obtain ⟨x0,x1,x2,_⟩:=k1.three;clear O B k hb1 B1 HQ HR HTS HBAD HGO q6 c0 al1;generalize hW1:w1.alloc (.cells (qT t1 t2 t3) 106)=W1 at *;have HOW:=zh (show (W1.alloc (.cells (qT t1 t2 t3) 106)).ownsRow w.heap.size 106 3 (qS a' m c') m ((tgN (aF ms) M.pm m).flatMap clG) by have:=O2.bw (brf.alloc aL (.cells (qT t1 t2 t3) 106));unfold OG at this;rw [fY] at this;exact this);have HX:=zh (xA O2 (xA B2 kk2));have hsB:=B2.size;rw [<- hW1] at x0 x1 x2;have HW1:=zh hW1;clear O2 B2 kk2 k1 hW1;unfold tgV;go_wp2_with (at_builtin;rw [HW1.o];refine wpList_append_own _ rfl _ _ 98 rfl w.heap.size 106 iG (.agg (qT 0 0 0)) 3 24 underlying98 hi hz0 hz1 hz2 rfl (by decide) (qS a' m c') m ((tgN (aF ms) M.pm m).flatMap clG) rfl HOW.o (qR (w1.heap.size+1) 0) 1 1 (clG (t1,t2,t3)) rfl rfl (by rw [<- hs1];exact aN W1 _ _ (clG (t1,t2,t3)) rfl) (by intro u hu;simp [clG] at hu;rcases hu with rfl|rfl|rfl<;>rfl) (by unfold maxLen;omega) (by omega) (by simp;omega) ?_;intro v' w4 hown hgr _)
     obtain ⟨O2,B2,kk2⟩:=HX.o;have al2:qY W1 (W1.alloc (.cells (qT t1 t2 t3) 106)):=bal;have hrow:∀ j,(qS a' m c').ownBlock=some j->w.heap.size<=j:=fun j hj=>(O2.lt j hj).1
     have O4:OG 106 3 clG w4 w.heap.size v' (tgN (aF ms) M.pm (m+1)):=by
      unfold OG;rw [fY,HT2.o,xU,xX];exact hown
     have B4:=aBj (B2.trans (al2.mono B2.size)) hgr hrow
     have k4:=dV (kk2.bw al2) hgr (fun e=>by
      obtain ⟨cs,hk⟩:=aM O2 e.symm
      exact absurd (aW kk2 hk) (by decide))
     have HF:=zh (xA HG2.o (xA O4 (xA B4 k4)));clear O2 B2 kk2 al2 hrow O4 B4 k4 hown hgr HX HOW x0 x1 x2
     go_roundw
     .exact ⟨m+1,by omega,by go_num,HF.o.1,HF.o.2.1,HF.o.2.2.1,HF.o.2.2.2⟩
     .simp [intOf];omega
  .have hlt':¬ (m:Int)<(M.im:Int):=by omega
   have HK:Zh (tN (aF ms) M.pm):=fun j hj=>hs j (by omega);have HX:=zh (xA B O);have HEQ:=zh (show tgN (aF ms) M.pm m=tgs (aF ms) M.pm by rw [<- aIn,hil,show m=M.im by omega]);have HLN:=zh (show m=(tgs (aF ms) M.pm).length by rw [<- HEQ.o,fY]);clear B O k hs;go_wp2
   go_ret2
   refine ⟨HX.o.1,.inr ⟨HK.o,a',c',by rw [<- HLN.o];rfl,?_⟩⟩;have:=HX.o.2;rw [HEQ.o] at this;rw [<- HLN.o];exact this
theorem OG.kept' {α:Type}{t:TypeId}{sz:Nat}{f:α->List Value}{w w':qw}{xs:List α}(h:OG t sz f w base v xs)(hg:w.grownBy w' row)(hk:∀ k,v.ownBlock=some k->row≠some k):OG t sz f w' base v xs:=
 h.kept (S:=fun j=>row=some j) ⟨hg.os,hg.tape,hg.output,hg.size,fun j hj hs=>hg.block j hj (fun e=>hs e.symm)⟩ (fun k hk' e=>hk k hk' e)
structure OR {α β:Type}(th:TypeId)(hs:Nat)(hc:α->List Value)(tr:TypeId)(rs:Nat)(rc:β->List Value)(sv:α->Value)(ct:α->List β)(w:qw)(base lo:Nat)(v:Value)(xs:List α):Prop where
 head:OG th hs hc w base v xs
 rows:∀ x∈xs,OG tr rs rc w lo (sv x) (ct x)
 apart:xs.Pairwise fun A B=>∀ k,(sv A).ownBlock=some k->(sv B).ownBlock≠some k
section
variable {α β:Type}{th:TypeId}{hs:Nat}{hc:α->List Value}{tr:TypeId}{rs:Nat}{rc:β->List Value}{sv:α->Value}{ct:α->List β}{w w':qw}{base lo:Nat}{v:Value}{xs:List α}
theorem OR.bw (h:OR th hs hc tr rs rc sv ct w base lo v xs)(hb:qY w w'):OR th hs hc tr rs rc sv ct w' base lo v xs:=⟨h.head.bw hb,fun x hx=>(h.rows x hx).bw hb,h.apart⟩
theorem OR.mono {base':Nat}(h:OR th hs hc tr rs rc sv ct w base lo v xs)(hb:base'<=base)(hl:lo'<=lo):OR th hs hc tr rs rc sv ct w base' lo' v xs:=⟨h.head.mono hb,fun x hx=>(h.rows x hx).mono hl,h.apart⟩
theorem OR.kept (h:OR th hs hc tr rs rc sv ct w base lo v xs)(t:Turn S w w')(h1:∀ k,v.ownBlock=some k->¬ S k)(h2:∀ x∈xs,∀ k,(sv x).ownBlock=some k->¬ S k):OR th hs hc tr rs rc sv ct w' base lo v xs:=⟨h.head.kept t h1,fun x hx=>(h.rows x hx).kept t (h2 x hx),h.apart⟩
theorem OR.lt (h:OR th hs hc tr rs rc sv ct w base lo v xs):(∀ k,v.ownBlock=some k->base<=k/\k<w.heap.size)/\∀ x∈xs,∀ k,(sv x).ownBlock=some k->lo<=k/\k<w.heap.size:=⟨h.head.lt,fun x hx=>(h.rows x hx).lt⟩
theorem wO:OR th hs hc tr rs rc sv ct w base lo (qS none 0 0) []:=⟨cE _ _ _ _ _,by simp,by simp⟩
theorem aGq (hb:base<=w.heap.size):OR th hs hc tr rs rc sv ct (w.alloc (.cells #[] th)) base lo (qS (qP w.heap.size) 0 0) []:=⟨cJ _ _ _ _ _ hb,by simp,by simp⟩
theorem OR.push {k c:Nat}{v':Value}{x:α}(h:OR th hs hc tr rs rc sv ct w base lo (qS a k c) xs)(hl:xs.length=k)(hx:OG tr rs rc w lo' (sv x) (ct x))(hb:lo<=lo')(hlo:∀ A∈xs,∀ j,(sv A).ownBlock=some j->j<lo')(hown:w'.ownsRow base th hs v' (k+1) (xs.flatMap hc++hc x))(hg:w.grownBy w' (qS a k c).ownBlock)(hne:th≠tr):OR th hs hc tr rs rc sv ct w' base lo v' (xs++[x]):=by
 have key:∀ (u:Value) (ys:List β) (l:Nat),OG tr rs rc w l u ys->∀ j,u.ownBlock=some j->(qS a k c).ownBlock≠some j:=fun u ys l ho j hj e=>by
  obtain ⟨c1,k1⟩:=aM ho hj;obtain ⟨c2,k2⟩:=aM h.head e;exact hne (aW k2 k1)
 refine ⟨?_,?_,?_⟩
 .unfold OG;rw [xI,hl,xU,xX];exact hown
 .intro B hB;rcases List.mem_append.1 hB with hB|hB
  .exact (h.rows B hB).kept' hg (key _ _ _ (h.rows B hB))
  .simp at hB;subst hB;exact (hx.kept' hg (key _ _ _ hx)).mono hb
 .rw [List.pairwise_append];refine ⟨h.apart,by simp,fun B hB X hX j hj e=>?_⟩;simp at hX;subst hX;have h1:=hlo B hB j hj;have h2:=(hx.lt j e).1;omega
end
abbrev PB:=Pl×qO×Nat
def svP (x:PB):Value:=qS x.2.1 x.1.banks.length x.2.2
def clP (x:PB):List Value:=[qI x.1.text,svP x,qI x.1.data,qI x.1.size]
def ctP (x:PB):List Int:=x.1.banks
abbrev OPl:=OR 136 4 clP 3 1 clI svP ctP
abbrev TB:=List Tg×qO×Nat
def svT (x:TB):Value:=qS x.2.1 x.1.length x.2.2
def zF (x:TB):List Value:=[svT x]
def ctT (x:TB):List Tg:=x.1
abbrev OTg:=OR 98 1 zF 106 3 clG svT ctT
structure LayO (W:qw)(base:Nat)(L:Lay)(a0:qO)(c0:Nat)(xs:List PB)(a2:qO)(c2:Nat)(a5:qO)(c5:Nat)(ts:List TB):Prop where
 p:OPl W base base (qS a0 xs.length c0) xs
 ps:xs.map (fun x=>x.1)=L.places
 s:OG 3 1 clI W base (qS a2 L.slots.length c2) L.slots
 t:OTg W base base (qS a5 ts.length c5) ts
 tt:ts.map (fun x=>x.1)=L.targets
 sp:∀ k,(qS a2 L.slots.length c2).ownBlock=some k->∀ x∈xs,(svP x).ownBlock≠some k
def mC (L:Lay)(a0:qO)(c0:Nat)(xs:List PB)(a2:qO)(c2:Nat)(a5:qO)(c5:Nat)(ts:List TB):Array Value:=(qL L a0 xs.length c0 a2 L.slots.length c2 a5 ts.length c5)
theorem aLk:(prog.info? 136).map (fun i=>(i.zero,i.size,i.bytes))=some (some (.agg #[qI 0,qS none 0 0,qI 0,qI 0]),4,48):=by kernel_rfl
theorem aHs:(prog.info? 98).map (fun i=>(i.zero,i.size,i.bytes))=some (some (qS none 0 0),1,24):=by kernel_rfl
theorem oW {w:qw}(h:m.md w)(k:Nat)(hk:k<m.bn):(m.bl.getD k zB).2.1=(m.pm.bl.getD k []).length/\m.pm.bl.length=m.bn:=by
 have hb:=h.b.1;refine ⟨?_,by simp [Md.pm,hb]⟩;have e:m.pm.bl.getD k []=(m.bl.getD k zB).2.2.2:=eH _ _ _ zB _;rw [e];exact (h.b.2.2.2.1 k hk).1.symm
theorem uC (a:qO)(n cap:Nat)(ms:List Md)(s c k d:Int)(w:qw)(h:MSD w a n cap ms):
 qC 43 #[qS a n cap,.agg (qW s c k d)] w fun e w'=>e=.returned (.bool (decide (0<s/\¬ lB (aF ms) c)))/\qY w w':=by
 have hA:qY w (w.alloc (.cells (qW s c k d) 25)):=bal;have k0:=Blk.new w (qW s c k d) 25;have hl:=h.s.1;have hm1:=h.s.2.1;unfold maxLen at hm1;have hpl:=bQ ms;have HH:=zh h;obtain ⟨R,hR⟩:=eqx (decide (0<s/\¬ lB (aF ms) c));rw [<- hR];have HR:=zh hR;clear hR;have HB1:=zh (xA hA k0);clear h hA k0;go_enter func43,ntmps43
 go_wp2;go_loopw [5] (fun i wr=>∃ m:Nat,m<=n/\i=qI m/\(0<s->∀ j,j<m->∀ k,k<((aF ms).getD j zP).bl.length->((((aF ms).getD j zP).bl.getD k []).length:Int)<=c)/\qY w wr/\Blk wr w.heap.size (qW s c k d) 25) (qf n)
 .exact ⟨0,xC _,rfl,fun _ j hj=>absurd hj (by omega),HB1.o.1,HB1.o.2⟩
 .obtain ⟨m,hm,rfl,hv,B,kk⟩:=hrel;by_cases hlt:m<n
  .have hlt':(m:Int)<(n:Int):=by omega
   have HV:=zh hv;have HB2:=zh (xA B kk);clear hv B kk HB1;go_wp2;go_loopw [6] (fun i wr=>∃ q:Nat,q<=(ms.getD m zMd).bn/\i=qI q/\(0<s->∀ k,k<q->((((aF ms).getD m zP).bl.getD k []).length:Int)<=c)/\qY w wr/\Blk wr w.heap.size (qW s c k d) 25) (fun i _=>(ms.getD m zMd).bn-(intOf i).toNat)
   .exact ⟨0,xC _,rfl,fun _ j hj=>absurd hj (by omega),HB2.o.1,HB2.o.2⟩
   .obtain ⟨q,hq,rfl,hw,B,kk⟩:=hrel;have H:=HH.o.bw B;obtain ⟨b,off,rfl,q0,q1,q2,_⟩:=H.s.at m hlt;have hmd:=H.d m hlt;have hbl:((aF ms).getD m zP).bl.length=(ms.getD m zMd).bn:=by rw [cD];show (List.map _ _).length=_;rw [xH];exact hmd.b.1
    have HW:=zh hw;have hbn:(ms.getD m zMd).bn<=9223372036854775807:=by have:=hmd.b.2.1;unfold maxLen at this;omega
    by_cases hlt2:q<(ms.getD m zMd).bn
    .have hlt2':(q:Int)<((ms.getD m zMd).bn:Int):=by omega
     obtain ⟨_,_,hcb,hrb,_⟩:=hmd.b;obtain ⟨b2,off2,hba,hc⟩:=hcb (by omega);have c0:=hc q hlt2;have hlen:=(oW hmd q hlt2).1;rw [<- cD] at hlen;rw [hba] at q2;have y0:=kk.e0;have y1:=kk.e1;have HB3:=zh (xA B kk);obtain ⟨L,hL⟩:∃ L:Nat,L=(((aF ms).getD m zP).bl.getD q []).length:=⟨_,rfl⟩;rw [<- hL] at hlen;rw [hlen] at c0;have hmx:L<=9223372036854775807:=by have:=(hrb q hlt2).2.1;rw [hlen] at this;unfold maxLen at this;omega
     have HSH:=zh (show (0<s->(L:Int)<=c)->0<s->∀ k,k<q+1->((((aF ms).getD m zP).bl.getD k []).length:Int)<=c from fun h1 h2 k hk=>by
      by_cases e:k=q
      .subst e;rw [<- hL];exact h1 h2
      .exact HW.o h2 k (by omega))
     have HBD:Zh (0<s->c<(L:Int)->0<s/\¬ lB (aF ms) c):=fun h1 h2=>⟨h1,fun hs=>by have:=hs m (by omega) q (by omega);rw [<- hL] at this;omega⟩;generalize (ms.getD m zMd).bl.getD q zB=bq at *;generalize (ms.getD m zMd).bn=bn at *;obtain ⟨bq1,bq2,bq3,bq4⟩:=bq;dsimp only at c0 hlen;clear hw B H hmd hbl hba hc hcb hrb hL hlen q0 q1 kk;by_cases hs0:0<s
     .by_cases hcl:c<(L:Int)
      .have HF:=zh (HBD.o hs0 hcl);go_wp2_with fail
       go_quiet (fail)
       go_wp2;go_ret;exact ⟨aB (by rw [HR.o,xR HF.o]),iC HB3.o.1 nq⟩
      .have HF:=zh (HSH.o (fun _=>by omega));go_wp2_with fail
       go_quiet (fail)
       go_wp2
       go_roundw
       .exact ⟨q+1,by omega,by go_num,HF.o,iC HB3.o.1 nq,HB3.o.2⟩
       .simp [qf,intOf];omega
     .have HF:=zh (HSH.o (fun e=>absurd e hs0));have hs2:decide (0<s)=false:=xS hs0;go_wp2_with fail
      go_quiet (fail)
      go_wp2
      go_roundw
      .exact ⟨q+1,by omega,by go_num,HF.o,iC HB3.o.1 nq,HB3.o.2⟩
      .simp [qf,intOf];omega
    .have hlt2':¬ (q:Int)<((ms.getD m zMd).bn:Int):=by omega
     have HV2:=zh (show 0<s->∀ j,j<m+1->∀ k,k<((aF ms).getD j zP).bl.length->((((aF ms).getD j zP).bl.getD k []).length:Int)<=c from fun h1 j hj k hk=>by
      by_cases e:j=m
      .subst e;exact HW.o h1 k (by omega)
      .exact HV.o h1 j (by omega) k hk)
     have HB3:=zh (xA B kk);generalize (ms.getD m zMd).bn=bn at *;clear hw B H hmd hbl q0 q1 kk;go_wp2
     go_roundw
     .exact ⟨m+1,by omega,by go_num,HV2.o,HB3.o.1,HB3.o.2⟩
     .simp [qf,intOf];omega
  .have hlt':¬ (m:Int)<(n:Int):=by omega
   have HF:Zh (¬ (0<s/\¬ lB (aF ms) c)):=fun h=>h.2 (fun i hi k hk=>hv h.1 i (by omega) k hk);have HB2:=zh B;clear hv B kk HB1;go_wp2;go_ret;exact ⟨aB (by rw [HR.o,xS HF.o]),HB2.o⟩
theorem bA {x:Int}(h:0<=x:=by omega):x<=rnd x/\rnd x<=x+31:=by unfold rnd;omega
theorem fB (h:bI P=0):0<=tsz P/\tsz P<=831:=by
 have h1:=(bS h).2.2.1;have:=bA (x:=4*(P.tz.length:Int));unfold tsz;omega
theorem cL {P:PMod}(h:bI P=0):∀ k,k<=P.bl.length->0<=cB P k/\cB P k<=(k:Int)*287
 | 0,_=>by simp [cB]
 | k+1,hk=>by
   have ih:=cL h k (by omega);have h1:=(bS h).2.2.2.2.2.2.2 k (by omega);have:=bA (x:=4*((P.bl.getD k []).length:Int));show 0<=cB P k+rnd (4*((P.bl.getD k []).length:Int))/\cB P k+rnd (4*((P.bl.getD k []).length:Int))<=_;push_cast;omega
theorem hY (h:bI P=0):0<=dsz P/\dsz P<=1055:=by
 obtain ⟨_,_,_,_,h5,h6,h7,_⟩:=bS h;have:=bA (x:=(P.dz.length:Int)+P.bss);unfold dsz;omega
theorem cN {ps:List PMod}(h:fV ps):∀ i,i<=ps.length->0<=Fl ps i/\Fl ps i<=(i:Int)*1979
 | 0,_=>by simp [Fl]
 | i+1,hi=>by
   have ih:=cN h i (by omega);have hv:=h i (by omega);have h1:=fB hv;have h2:=cL hv _ aL;have h3:=(bS hv).2.2.2.1;show 0<=Fl ps i+(tsz (ps.getD i zP)+cB (ps.getD i zP) (ps.getD i zP).bl.length)/\Fl ps i+(tsz (ps.getD i zP)+cB (ps.getD i zP) (ps.getD i zP).bl.length)<=_;push_cast;omega
theorem bP {ps:List PMod}(h:fV ps):∀ i,i<=ps.length->0<=Ra ps i/\Ra ps i<=(i:Int)*1055
 | 0,_=>by simp [Ra]
 | i+1,hi=>by
   have ih:=bP h i (by omega);have h1:=hY (h i (by omega));show 0<=Ra ps i+dsz (ps.getD i zP)/\Ra ps i+dsz (ps.getD i zP)<=_;push_cast;omega
theorem aP {w:qw}{sz:Nat}{t t':TypeId}{xs:List Value}{k:Nat}(h:w.ownsRow base t sz v n xs)(hk:v.ownBlock=some k)(hb:Blk w k cs t')(hne:t≠t'):False:=by
 obtain ⟨c1,k1⟩:=aM h hk;exact hne (aW k1 hb)
def zL:Array Value:=qz
structure Lst (w W:qw)(s c k d:Int)(cs:Array Value):Prop where
 be:qY w W
 k0:Blk W w.heap.size (qW s c k d) 25
 k1:Blk W (w.heap.size+1) zL 64
 k5:Blk W (w.heap.size+5) cs 64
theorem Lst.bw {w W W':qw}(h:Lst w W s c k d cs)(hb:qY W W'):Lst w W' s c k d cs:=⟨h.be.trans (hb.mono h.be.size),h.k0.bw hb,h.k1.bw hb,h.k5.bw hb⟩
theorem Lst.set {w W:qw}(h:Lst w W s c k d cs)(i:Nat)(v:Value):Lst w (W.setCell (qR (w.heap.size+5) i) v) s c k d (cs.setIfInBounds i v):=
 ⟨aI h.be (aC W (w.heap.size+5) i v) (fun k hk=>by omega) h.be.size,aA (aC W (w.heap.size+5) i v) h.k0 (by omega),aA (aC W (w.heap.size+5) i v) h.k1 (by omega),h.k5.set i v⟩
theorem Lst.other {w W:qw}(h:Lst w W s c k d cs)(hg:w.heap.size+6<=g)(i:Nat)(v:Value):Lst w (W.setCell (qR g i) v) s c k d cs:=
 ⟨aI h.be (aC W g i v) (fun k hk=>by omega) h.be.size,aA (aC W g i v) h.k0 (by omega),aA (aC W g i v) h.k1 (by omega),aA (aC W g i v) h.k5 (by omega)⟩
theorem Lst.grown {w W W':qw}(h:Lst w W s c k d cs)(hg:W.grownBy W' row)(hr:∀ j,row=some j->w.heap.size+2<=j/\j≠w.heap.size+5):Lst w W' s c k d cs:=by
 have t:Turn (fun j=>row=some j) W W':=⟨hg.os,hg.tape,hg.output,hg.size,fun j hj hs=>hg.block j hj (fun e=>hs e.symm)⟩;exact ⟨aI h.be t (fun j hj=>by have:=hr j hj;omega) h.be.size,aA t h.k0 (fun e=>by have:=hr _ e;omega),aA t h.k1 (fun e=>by have:=hr _ e;omega),aA t h.k5 (fun e=>by have:=hr _ e;omega)⟩
theorem Lst.sz {w W:qw}(h:Lst w W s c k d cs):w.heap.size+6<=W.heap.size:=h.k5.lt
theorem Lst.drew {w W:qw}(h:Lst w W s c k d cs):Lst w W.drew s c k d cs:=⟨h.be.drew,h.k0,h.k1,h.k5⟩
structure Lrw (w W:qw)(ps:List PMod)(m:Nat)(a0:qO)(c0:Nat)(xs:List PB)(a5:qO)(c5:Nat)(ts:List TB):Prop where
 P:OPl W (w.heap.size+2) (w.heap.size+6) (qS a0 m c0) xs
 T:OTg W (w.heap.size+2) (w.heap.size+6) (qS a5 m c5) ts
 S:OG 3 1 clI W (w.heap.size+2) (qS (some (qR (w.heap.size+3) 0)) 0 0) []
 pl:xs.length=m
 tl:ts.length=m
 px:xs.map (fun x=>x.1)=(List.range m).map (plc ps)
 tx:ts.map (fun x=>x.1)=(List.range m).map fun i=>tgs ps (ps.getD i zP)
def Lg (w:qw)(j:Nat):Prop:=j=w.heap.size+5
theorem Lrw.kept {w W W':qw}{m:Nat}{xs:List PB}{ts:List TB}(h:Lrw w W ps m a0 c0 xs a5 c5 ts)(L:Lst w W s c k d cs)(t:Turn (Lg w) W W'):Lrw w W' ps m a0 c0 xs a5 c5 ts:=by
 have k5:=L.k5;refine ⟨h.P.kept t (fun k hk e=>?_) (fun x hx k hk e=>?_),h.T.kept t (fun k hk e=>?_) (fun x hx k hk e=>?_),h.S.kept t (fun k hk e=>?_),h.pl,h.tl,h.px,h.tx⟩
 .rw [show k=w.heap.size+5 from e] at hk;exact aP h.P.head hk k5 (by decide)
 .rw [show k=w.heap.size+5 from e] at hk;exact aP (h.P.rows x hx) hk k5 (by decide)
 .rw [show k=w.heap.size+5 from e] at hk;exact aP h.T.head hk k5 (by decide)
 .rw [show k=w.heap.size+5 from e] at hk;exact aP (h.T.rows x hx) hk k5 (by decide)
 .rw [show k=w.heap.size+5 from e] at hk;exact aP h.S hk k5 (by decide)
theorem Lrw.bw {w W W':qw}{m:Nat}{xs:List PB}{ts:List TB}(h:Lrw w W ps m a0 c0 xs a5 c5 ts)(hb:qY W W'):Lrw w W' ps m a0 c0 xs a5 c5 ts:=⟨h.P.bw hb,h.T.bw hb,h.S.bw hb,h.pl,h.tl,h.px,h.tx⟩
def bks (ps:List PMod)(i k:Nat):List Int:=(List.range k).map fun j=>Fl ps i+tsz (ps.getD i zP)+cB (ps.getD i zP) j
theorem mW (ps:List PMod)(i k:Nat):(bks ps i k).length=k:=by simp [bks]
theorem aIf (ps:List PMod)(i k:Nat):bks ps i (k+1)=bks ps i k++[Fl ps i+tsz (ps.getD i zP)+cB (ps.getD i zP) k]:=by simp [bks,List.range_succ]
def LkM (w:qw)(ps:List PMod)(s c k d:Int)(e:Ending)(w':qw):Prop:=qY w w'/\∃ a0 c0 xs a2 c2 a5 c5 ts,e=.returned (.tuple #[.agg (mC (lkL ps s c k d) a0 c0 xs a2 c2 a5 c5 ts),qI (lkc ps s c k d)])/\LayO w' w.heap.size (lkL ps s c k d) a0 c0 xs a2 c2 a5 c5 ts
theorem aJ5 (W:qw)(base:Nat):LayO W base L0 none 0 [] none 0 none 0 []:=⟨wO,rfl,cE _ _ _ _ _,wO,rfl,fun k hk=>by simp [Value.ownBlock] at hk⟩
theorem aDq {w w':qw}(hb:qY w w')(hV:lkc ps s c k d=V)(h0:V≠0):LkM w ps s c k d (.returned (.tuple #[.agg zL,qI V])) w':=by
 refine ⟨hb,none,0,[],none,0,none,0,[],?_,?_⟩
 .unfold lkL;rw [if_neg (by rw [hV];exact h0),hV];rfl
 .unfold lkL;rw [if_neg (by rw [hV];exact h0)];exact aJ5 _ _
theorem aLh (h:dB ps s w k d=V)(h0:V≠0):lkc ps s w k d=V:=by unfold lkc;rw [if_pos (by rw [h];exact h0),h]
theorem aLg (h:dB ps s w k d=0)(h5:¬ kI ps):lkc ps s w k d=5:=by unfold lkc;rw [if_neg (by rw [h];decide),if_pos h5]
theorem aLf (h:dB ps s w k d=0)(h5:kI ps)(h6:0<s/\¬ lB ps w):lkc ps s w k d=6:=by unfold lkc;rw [if_neg (by rw [h];decide),if_neg (fun e=>e h5),if_pos h6]
theorem aLe (h:dB ps s w k d=0)(h5:kI ps)(h6:¬ (0<s/\¬ lB ps w))(h7:16384<(lay ps s w k).flash):lkc ps s w k d=7:=by unfold lkc;rw [if_neg (by rw [h];decide),if_neg (fun e=>e h5),if_neg h6,if_pos h7]
theorem aLd (h:dB ps s w k d=0)(h5:kI ps)(h6:¬ (0<s/\¬ lB ps w))(h7:¬ 16384<(lay ps s w k).flash)(h8:16384<(lay ps s w k).ram):lkc ps s w k d=8:=by unfold lkc;rw [if_neg (by rw [h];decide),if_neg (fun e=>e h5),if_neg h6,if_neg h7,if_pos h8]
theorem aLi (h:dB ps s w k d=0)(h5:kI ps)(h6:¬ (0<s/\¬ lB ps w))(h7:¬ 16384<(lay ps s w k).flash)(h8:¬ 16384<(lay ps s w k).ram):lkc ps s w k d=0:=by unfold lkc;rw [if_neg (by rw [h];decide),if_neg (fun e=>e h5),if_neg h6,if_neg h7,if_neg h8]
theorem pV (h:dB ps s w k d=0):cfo s w k d=true/\ps.length<=4/\fV ps:=by
 unfold dB at h;split at h
 .simp at h
 split at h
 .simp at h
 split at h
 .simp at h
 .rename_i h1 h2 h3;exact ⟨by simpa using h1,by omega,xZ.1 h3⟩
theorem lK {a W:qw}(h:Turn S a W):Turn S a W.drew:=⟨h.os,h.tape,h.output,h.size,h.block⟩
theorem aN4 {S:Prop}(main:S->G)(pf:S):G:=main pf
theorem aOw {S F:Nat->Nat->World->Prop}(main:(∀ gp gr W,F gp gr W->S gp gr W)->G)(pf:∀ gp gr W,F gp gr W->S gp gr W):G:=main pf
theorem aKa (w:qw)(s c k d:Int)(ps:List PMod):
 Lst w ((((((w.alloc (.cells (qW s c k d) 25)).alloc (.cells qz 64)).alloc (.cells #[] 136)).alloc (.cells #[] 3)).alloc (.cells #[] 98)).alloc (.cells #[qS (some (qR (w.heap.size+2) 0)) 0 0,qI 0,qS (some (qR (w.heap.size+3) 0)) 0 0,qI 0,qI 0,qS (some (qR (w.heap.size+4) 0)) 0 0] 64)) s c k d #[qS (some (qR (w.heap.size+2) 0)) 0 0,qI 0,qS (some (qR (w.heap.size+3) 0)) 0 0,qI 0,qI 0,qS (some (qR (w.heap.size+4) 0)) 0 0] /\
 Lrw w ((((((w.alloc (.cells (qW s c k d) 25)).alloc (.cells qz 64)).alloc (.cells #[] 136)).alloc (.cells #[] 3)).alloc (.cells #[] 98)).alloc (.cells #[qS (some (qR (w.heap.size+2) 0)) 0 0,qI 0,qS (some (qR (w.heap.size+3) 0)) 0 0,qI 0,qI 0,qS (some (qR (w.heap.size+4) 0)) 0 0] 64)) ps 0 (some (qR (w.heap.size+2) 0)) 0 [] (some (qR (w.heap.size+4) 0)) 0 []:=by
 have k0:=Blk.new w (qW s c k d) 25;have b0:qY w (w.alloc (.cells (qW s c k d) 25)):=bal;have s0:(w.alloc (.cells (qW s c k d) 25)).heap.size=w.heap.size+1:=by simp
 generalize w.alloc (.cells (qW s c k d) 25)=W0 at *;have k1:=Blk.new W0 qz 64;have b1:qY W0 (W0.alloc (.cells qz 64)):=bal;have s1:(W0.alloc (.cells qz 64)).heap.size=w.heap.size+2:=by simp [s0]
 rw [s0] at k1;generalize W0.alloc (.cells qz 64)=W1 at *;have o2:OPl (W1.alloc (.cells #[] 136)) (w.heap.size+2) (w.heap.size+6) (qS (qP W1.heap.size) 0 0) []:=aGq (by omega);have b2:qY W1 (W1.alloc (.cells #[] 136)):=bal;have s2:(W1.alloc (.cells #[] 136)).heap.size=w.heap.size+3:=by simp [s1]
 rw [s1] at o2;generalize W1.alloc (.cells #[] 136)=W2 at *;have o3:=cJ 3 1 clI W2 (w.heap.size+2) (by omega);have b3:qY W2 (W2.alloc (.cells #[] 3)):=bal;have s3:(W2.alloc (.cells #[] 3)).heap.size=w.heap.size+4:=by simp [s2]
 rw [s2] at o3;generalize W2.alloc (.cells #[] 3)=W3 at *;have o4:OTg (W3.alloc (.cells #[] 98)) (w.heap.size+2) (w.heap.size+6) (qS (qP W3.heap.size) 0 0) []:=aGq (by omega);have b4:qY W3 (W3.alloc (.cells #[] 98)):=bal;have s4:(W3.alloc (.cells #[] 98)).heap.size=w.heap.size+5:=by simp [s3]
 rw [s3] at o4;generalize W3.alloc (.cells #[] 98)=W4 at *;have k5:=Blk.new W4 #[qS (some (qR (w.heap.size+2) 0)) 0 0,qI 0,qS (some (qR (w.heap.size+3) 0)) 0 0,qI 0,qI 0,qS (some (qR (w.heap.size+4) 0)) 0 0] 64;have b5:qY W4 (W4.alloc (.cells #[qS (some (qR (w.heap.size+2) 0)) 0 0,qI 0,qS (some (qR (w.heap.size+3) 0)) 0 0,qI 0,qI 0,qS (some (qR (w.heap.size+4) 0)) 0 0] 64)):=bal;rw [s4] at k5;have c45:=b5;have c35:=b4.trans (c45.mono (by omega));have c25:=b3.trans (c35.mono (by omega));have c15:=b2.trans (c25.mono (by omega));have c05:=b1.trans (c15.mono (by omega));exact ⟨⟨b0.trans (c05.mono (by omega)),k0.bw c05,k1.bw c15,k5⟩,⟨o2.bw c25,o4.bw c45,o3.bw c35,rfl,rfl,rfl,rfl⟩⟩
def st6 (W:qw)(k:Nat)(v0 v1 v2 v3 v4 v5:Value):World:=(((((W.setCell (qR k 0) v0).setCell (qR k 1) v1).setCell (qR k 2) v2).setCell (qR k 3) v3).setCell (qR k 4) v4).setCell (qR k 5) v5
theorem dI (W:qw)(k:Nat)(v0 v1 v2 v3 v4 v5:Value):Turn (fun j=>j=k) W (st6 W k v0 v1 v2 v3 v4 v5):=
 (((((aC W k 0 v0).trans (aC _ k 1 v1)).trans (aC _ k 2 v2)).trans (aC _ k 3 v3)).trans (aC _ k 4 v4)).trans (aC _ k 5 v5)
theorem kF {W:qw}{k:Nat}{t:TypeId}(h:Blk W k zL t)(v0 v1 v2 v3 v4 v5:Value):Blk (st6 W k v0 v1 v2 v3 v4 v5) k #[v0,v1,v2,v3,v4,v5] t:=
 (((((h.set 0 v0).set 1 v1).set 2 v2).set 3 v3).set 4 v4).set 5 v5
theorem aKb {w W:qw}(k1:Blk W (w.heap.size+1) zL 64)(v0 v1 v2 v3 v4 v5:Value)(Q:Ending->World->Prop)(tmps:Array Value)(h4:tmps[4]?=some (.pointer (some (qR (w.heap.size+1) 0))))(hQ:Q (.returned (.agg #[v0,v1,v2,v3,v4,v5])) (st6 W (w.heap.size+1) v0 v1 v2 v3 v4 v5)):
 bodyPost prog f44 Q Exit.ret ⟨tmps,[]⟩ (st6 W (w.heap.size+1) v0 v1 v2 v3 v4 v5):=by
 have k:=kF k1 v0 v1 v2 v3 v4 v5;obtain ⟨t0,t1,t2,t3,t4,t5⟩:=k.z6;refine bodyPost_ret_by (v:=.agg #[v0,v1,v2,v3,v4,v5]) ?_ rfl hQ;simp [results,results44,go_sem,h4,t0,t1,t2,t3,t4,t5]
theorem aBc:∀ (xs:List Tg) (i:Nat),i<xs.length->(xs.flatMap clG)[i*3]?=some (qI (xs.getD i zT).1)/\(xs.flatMap clG)[i*3+1]?=some (qI (xs.getD i zT).2.1)/\(xs.flatMap clG)[i*3+2]?=some (qI (xs.getD i zT).2.2)
 | [],i,h=>by simp at h
 | x::xs,0,h=>by simp [clG]
 | x::xs,i+1,h=>by
   obtain ⟨h1,h2,h3⟩:=aBc xs i (by simpa using h);rw [show (i+1)*3=i*3+1+1+1 by omega];simp only [xT,clG,List.cons_append,List.nil_append,List.getElem?_cons_succ];exact ⟨h1,h2,h3⟩
theorem aMd {w:qw}{c:Nat}{xs:List Tg}(h:OG 106 3 clG w base (qS a n c) xs)(m:Nat)(hm:m<n):∃ g,a=some (qR g 0)/\w.cell? (qR g (m*3))=some (qI (xs.getD m zT).1)/\w.cell? (qR g (m*3+1))=some (qI (xs.getD m zT).2.1)/\w.cell? (qR g (m*3+2))=some (qI (xs.getD m zT).2.2):=by
 obtain ⟨hl,_,_,h4⟩:=bG h;obtain ⟨g,hg,hc⟩:=h4 (by omega);obtain ⟨e0,e1,e2⟩:=aBc xs m (by omega);exact ⟨g,hg,hc _ _ e0,hc _ _ e1,hc _ _ e2⟩
def zTB:TB:=([],none,0)
theorem aGp {w:qw}{c:Nat}{ts:List TB}(h:OTg w base lo (qS a n c) ts)(i:Nat)(hi:i<n):∃ g,a=some (qR g 0)/\w.cell? (qR g i)=some (svT (ts.getD i zTB))/\OG 106 3 clG w lo (svT (ts.getD i zTB)) (ts.getD i zTB).1:=by
 obtain ⟨hl,_,_,h4⟩:=bG h.head;obtain ⟨g,hg,hc⟩:=h4 (by omega);refine ⟨g,hg,hc i _ ?_,h.rows _ (by simp [xB,show i<ts.length by omega])⟩;rw [show ts.flatMap zF=ts.map svT from dN _ _];simp [xB,show i<ts.length by omega]
def zPB:PB:=(⟨0,[],0,0⟩,none,0)
theorem aBb:∀ (xs:List PB) (i:Nat),i<xs.length->(xs.flatMap clP)[i*4]?=some (qI (xs.getD i zPB).1.text)/\(xs.flatMap clP)[i*4+1]?=some (svP (xs.getD i zPB))/\(xs.flatMap clP)[i*4+2]?=some (qI (xs.getD i zPB).1.data)/\(xs.flatMap clP)[i*4+3]?=some (qI (xs.getD i zPB).1.size)
 | [],i,h=>by simp at h
 | x::xs,0,h=>by simp [clP]
 | x::xs,i+1,h=>by
   obtain ⟨h1,h2,h3,h4⟩:=aBb xs i (by simpa using h);rw [show (i+1)*4=i*4+1+1+1+1 by omega];simp only [xT,clP,List.cons_append,List.nil_append,List.getElem?_cons_succ];exact ⟨h1,h2,h3,h4⟩
theorem aGr {w:qw}{c:Nat}{xs:List PB}(h:OPl w base lo (qS a n c) xs)(i:Nat)(hi:i<n):∃ g,a=some (qR g 0)/\w.cell? (qR g (i*4))=some (qI (xs.getD i zPB).1.text)/\w.cell? (qR g (i*4+1))=some (svP (xs.getD i zPB))/\w.cell? (qR g (i*4+2))=some (qI (xs.getD i zPB).1.data)/\w.cell? (qR g (i*4+3))=some (qI (xs.getD i zPB).1.size)/\OG 3 1 clI w lo (svP (xs.getD i zPB)) (xs.getD i zPB).1.banks:=by
 obtain ⟨hl,_,_,h4⟩:=bG h.head;obtain ⟨g,hg,hc⟩:=h4 (by omega);obtain ⟨e0,e1,e2,e3⟩:=aBb xs i (by omega);exact ⟨g,hg,hc _ _ e0,hc _ _ e1,hc _ _ e2,hc _ _ e3,h.rows _ (by simp [xB,show i<xs.length by omega])⟩
def TgS (w:qw)(a:qO)(n cap:Nat)(zs:List Tg):Prop:=
 zs.length=n/\n<=maxLen/\(n≠0->∃ b off,a=some (qR b off)/\∀ i,i<n->w.cell? (qR b (off+i*3))=some (qI (zs.getD i zT).1)/\w.cell? (qR b (off+i*3+1))=some (qI (zs.getD i zT).2.1)/\w.cell? (qR b (off+i*3+2))=some (qI (zs.getD i zT).2.2))/\n<=cap
theorem aE {w w':qw}(hb:qY w w'){b o:Nat}(h:w.cell? (qR b o)=some v):w'.cell? (qR b o)=some v:=(hb.cell (xD w _ h)).trans h
theorem TgS.bw {w w':qw}{zs:List Tg}(h:TgS w a n cap zs)(hb:qY w w'):TgS w' a n cap zs:=by
 obtain ⟨h1,h2,h3,h4⟩:=h;refine ⟨h1,h2,fun hn=>?_,h4⟩;obtain ⟨b,off,e,hc⟩:=h3 hn;exact ⟨b,off,e,fun i hi=>⟨aE hb (hc i hi).1,aE hb (hc i hi).2.1,aE hb (hc i hi).2.2⟩⟩
theorem TgS.at {w:qw}{zs:List Tg}(h:TgS w a n cap zs)(i:Nat)(hi:i<n):∃ b off,a=some (qR b off)/\w.cell? (qR b (off+i*3))=some (qI (zs.getD i zT).1)/\w.cell? (qR b (off+i*3+1))=some (qI (zs.getD i zT).2.1)/\w.cell? (qR b (off+i*3+2))=some (qI (zs.getD i zT).2.2):=by
 obtain ⟨b,off,e,hc⟩:=h.2.2.1 (by omega);exact ⟨b,off,e,hc i hi⟩
def TsS (w:qw)(a:qO)(n cap:Nat)(ts:List TB):Prop:=
 ts.length=n/\n<=maxLen/\(n≠0->∃ b off,a=some (qR b off)/\∀ i,i<n->w.cell? (qR b (off+i))=some (svT (ts.getD i zTB)))/\(∀ i,i<n->TgS w (ts.getD i zTB).2.1 (ts.getD i zTB).1.length (ts.getD i zTB).2.2 (ts.getD i zTB).1)/\n<=cap
theorem TsS.bw {w w':qw}{ts:List TB}(h:TsS w a n cap ts)(hb:qY w w'):TsS w' a n cap ts:=by
 obtain ⟨h1,h2,h3,h4,h5⟩:=h;refine ⟨h1,h2,fun hn=>?_,fun i hi=>(h4 i hi).bw hb,h5⟩;obtain ⟨b,off,e,hc⟩:=h3 hn;exact ⟨b,off,e,fun i hi=>aE hb (hc i hi)⟩
theorem TsS.at {w:qw}{ts:List TB}(h:TsS w a n cap ts)(i:Nat)(hi:i<n):∃ b off,a=some (qR b off)/\w.cell? (qR b (off+i))=some (svT (ts.getD i zTB)):=by
 obtain ⟨b,off,e,hc⟩:=h.2.2.1 (by omega);exact ⟨b,off,e,hc i hi⟩
def PlS (w:qw)(a:qO)(n cap:Nat)(xs:List PB):Prop:=
 xs.length=n/\n<=maxLen/\(n≠0->∃ b off,a=some (qR b off)/\∀ i,i<n->w.cell? (qR b (off+i*4))=some (qI (xs.getD i zPB).1.text)/\w.cell? (qR b (off+i*4+1))=some (svP (xs.getD i zPB))/\w.cell? (qR b (off+i*4+2))=some (qI (xs.getD i zPB).1.data)/\w.cell? (qR b (off+i*4+3))=some (qI (xs.getD i zPB).1.size))/\(∀ i,i<n->IS w (xs.getD i zPB).2.1 (xs.getD i zPB).1.banks.length (xs.getD i zPB).2.2 (xs.getD i zPB).1.banks)/\n<=cap
theorem PlS.bw {w w':qw}{xs:List PB}(h:PlS w a n cap xs)(hb:qY w w'):PlS w' a n cap xs:=by
 obtain ⟨h1,h2,h3,h4,h5⟩:=h;refine ⟨h1,h2,fun hn=>?_,fun i hi=>(h4 i hi).bw hb,h5⟩;obtain ⟨b,off,e,hc⟩:=h3 hn;exact ⟨b,off,e,fun i hi=>⟨aE hb (hc i hi).1,aE hb (hc i hi).2.1,aE hb (hc i hi).2.2.1,aE hb (hc i hi).2.2.2⟩⟩
theorem PlS.at {w:qw}{xs:List PB}(h:PlS w a n cap xs)(i:Nat)(hi:i<n):∃ b off,a=some (qR b off)/\w.cell? (qR b (off+i*4))=some (qI (xs.getD i zPB).1.text)/\w.cell? (qR b (off+i*4+1))=some (svP (xs.getD i zPB))/\w.cell? (qR b (off+i*4+2))=some (qI (xs.getD i zPB).1.data)/\w.cell? (qR b (off+i*4+3))=some (qI (xs.getD i zPB).1.size):=by
 obtain ⟨b,off,e,hc⟩:=h.2.2.1 (by omega);exact ⟨b,off,e,hc i hi⟩
structure LyT (w:qw)(L:Lay)(a0:qO)(c0:Nat)(xs:List PB)(a2:qO)(c2:Nat)(a5:qO)(c5:Nat)(ts:List TB):Prop where
 p:PlS w a0 xs.length c0 xs
 ps:xs.map (fun x=>x.1)=L.places
 s:IS w a2 L.slots.length c2 L.slots
 t:TsS w a5 ts.length c5 ts
 tt:ts.map (fun x=>x.1)=L.targets
 v:wfi L.stack/\wfi L.flash/\wfi L.ram
theorem LyT.bw {w w':qw}{L:Lay}{xs:List PB}{a2:qO}{c2:Nat}{ts:List TB}(h:LyT w L a0 c0 xs a2 c2 a5 c5 ts)(hb:qY w w'):LyT w' L a0 c0 xs a2 c2 a5 c5 ts:=⟨h.p.bw hb,h.ps,h.s.bw hb,h.t.bw hb,h.tt,h.v⟩
theorem cY {α:Type}(z:α)(xs ys:List α)(k:Nat)(h:xs.take k=ys.take k)(hx:k<xs.length)(hy:k<ys.length)(he:xs.getD k z=ys.getD k z):xs.take (k+1)=ys.take (k+1):=by
 rw [List.take_succ_eq_append_getElem hx,List.take_succ_eq_append_getElem hy,h];simp [xB,hx,hy] at he;rw [he]
theorem fN (a a':qO)(n cap n' cap':Nat)(xs ys:qi)(w:qw)(h:IS w a n cap xs)(h':IS w a' n' cap' ys):
 qC 28 #[qS a n cap,qS a' n' cap'] w (qB w (.bool (decide (xs=ys)))):=by
 obtain ⟨hl,hmx,hr,hc,_⟩:=h;obtain ⟨hl',hmx',hr',hc',_⟩:=h';unfold maxLen at hmx hmx';by_cases hn:n=n'
 .subst hn;have hne:((n:Int) !=(n:Int))=false:=by simp
  by_cases hn0:n=0
  .subst hn0;obtain rfl:xs=[]:=xE hl;obtain rfl:ys=[]:=xE hl';clear hc hc';go_enter func28,ntmps28
   go_wp2;go_loop [5] (fun i=>i=qI 0) (fun _=>0)
   .rfl
   .obtain rfl:=hrel;go_wp2;go_ret;exact ⟨rfl,brf⟩
  .obtain ⟨b,off,rfl,hd⟩:=hc hn0;obtain ⟨b',off',rfl,hd'⟩:=hc' hn0;clear hc hc';go_enter func28,ntmps28
   go_wp2;go_loopw [5] (fun i wr=>∃ k:Nat,k<=n/\i=qI k/\xs.take k=ys.take k/\qY w wr) (qf n)
   .exact ⟨0,xC _,rfl,by simp,brf⟩
   .obtain ⟨k,hk,rfl,hT,hB⟩:=hrel;by_cases hlt:k<n
    .have hlt':(k:Int)<(n:Int):=by omega
     have hck:wr.cell? (qR b (off+k))=some (qI (xs.getD k 0)):=(hB.cell (xD w _ (hd k hlt))).trans (hd k hlt);have hck':wr.cell? (qR b' (off'+k))=some (qI (ys.getD k 0)):=(hB.cell (xD w _ (hd' k hlt))).trans (hd' k hlt);by_cases he:xs.getD k 0=ys.getD k 0
     .have hS:=gJ xs ys k hT (by omega) (by omega) he;have HS:Zh (xs.take (k+1)=ys.take (k+1)):=hS;rw [he] at hck;clear hS hT hd hd' he;generalize ys.getD k 0=z at *;have hz:(z !=z)=false:=by simp
      go_wp2
      go_quiet (fail)
      go_wp2
      go_roundw
      .exact ⟨k+1,by omega,by go_num,HS.o,below_drewN hB _⟩
      .simp [qf,intOf];omega
     .have hf:Zh (decide (xs=ys)=false):=by
       show _=_;simp;intro e;exact he (by rw [e])
      have hz:(xs.getD k 0 !=ys.getD k 0)=true:=by simpa using he
      clear hT hd hd' he;generalize ys.getD k 0=z at *;generalize xs.getD k 0=z' at *;go_wp2
      go_quiet (fail)
      go_wp2;go_ret;exact ⟨aB hf.o.symm,below_drewN hB _⟩
    .have hf:Zh (decide (xs=ys)=true):=by
      show _=_;simp;rw [xG (by omega),xG (by omega)] at hT;exact hT
     clear hT hd hd';go_wp2;go_ret;exact ⟨aB hf.o.symm,hB⟩
 .have hf:Zh (decide (xs=ys)=false):=by
   show _=_;simp;intro e;rw [e] at hl;omega
  have hne:((n:Int) !=(n':Int))=true:=by simp;omega
  clear hc hc';go_enter func28,ntmps28
  go_wp2;go_ret;exact ⟨aB hf.o.symm,brf⟩
theorem lP (a a':qO)(n cap n' cap':Nat)(xs ys:qi)(w:qw)(h:IS w a n cap xs)(h':IS w a' n' cap' ys):
 qC 158 #[qS a n cap,qS a' n' cap'] w (qB w (.bool (decide (xs=ys)))):=by
 obtain ⟨hl,hmx,hr,hc,_⟩:=h;obtain ⟨hl',hmx',hr',hc',_⟩:=h';unfold maxLen at hmx hmx';by_cases hn:n=n'
 .subst hn;have hne:((n:Int) !=(n:Int))=false:=by simp
  by_cases hn0:n=0
  .subst hn0;obtain rfl:xs=[]:=xE hl;obtain rfl:ys=[]:=xE hl';clear hc hc';go_enter func158,ntmps158
   go_wp2;go_loop [13] (fun i=>i=qI 0) (fun _=>0)
   .rfl
   .obtain rfl:=hrel;go_wp2;go_ret;exact ⟨rfl,brf⟩
  .obtain ⟨b,off,rfl,hd⟩:=hc hn0;obtain ⟨b',off',rfl,hd'⟩:=hc' hn0;clear hc hc';go_enter func158,ntmps158
   go_wp2;go_loopw [13] (fun i wr=>∃ k:Nat,k<=n/\i=qI k/\xs.take k=ys.take k/\qY w wr) (qf n)
   .exact ⟨0,xC _,rfl,by simp,brf⟩
   .obtain ⟨k,hk,rfl,hT,hB⟩:=hrel;by_cases hlt:k<n
    .have hlt':(k:Int)<(n:Int):=by omega
     have hck:wr.cell? (qR b (off+k))=some (qI (xs.getD k 0)):=(hB.cell (xD w _ (hd k hlt))).trans (hd k hlt);have hck':wr.cell? (qR b' (off'+k))=some (qI (ys.getD k 0)):=(hB.cell (xD w _ (hd' k hlt))).trans (hd' k hlt);by_cases he:xs.getD k 0=ys.getD k 0
     .have hS:=gJ xs ys k hT (by omega) (by omega) he;have HS:Zh (xs.take (k+1)=ys.take (k+1)):=hS;rw [he] at hck;clear hS hT hd hd' he;generalize ys.getD k 0=z at *;have hz:(z !=z)=false:=by simp
      go_wp2
      go_quiet (fail)
      go_wp2
      go_roundw
      .exact ⟨k+1,by omega,by go_num,HS.o,below_drewN hB _⟩
      .simp [qf,intOf];omega
     .have hf:Zh (decide (xs=ys)=false):=by
       show _=_;simp;intro e;exact he (by rw [e])
      have hz:(xs.getD k 0 !=ys.getD k 0)=true:=by simpa using he
      clear hT hd hd' he;generalize ys.getD k 0=z at *;generalize xs.getD k 0=z' at *;go_wp2
      go_quiet (fail)
      go_wp2;go_ret;exact ⟨aB hf.o.symm,below_drewN hB _⟩
    .have hf:Zh (decide (xs=ys)=true):=by
      show _=_;simp;rw [xG (by omega),xG (by omega)] at hT;exact hT
     clear hT hd hd';go_wp2;go_ret;exact ⟨aB hf.o.symm,hB⟩
 .have hf:Zh (decide (xs=ys)=false):=by
   show _=_;simp;intro e;rw [e] at hl;omega
  have hne:((n:Int) !=(n':Int))=true:=by simp;omega
  clear hc hc';go_enter func158,ntmps158
  go_wp2;go_ret;exact ⟨aB hf.o.symm,brf⟩
theorem vV (a a':qO)(n cap n' cap':Nat)(xs ys:List Tg)(w:qw)(h:TgS w a n cap xs)(h':TgS w a' n' cap' ys):
 qC 162 #[qS a n cap,qS a' n' cap'] w (qB w (.bool (decide (xs=ys)))):=by
 have hl:=h.1;have hl':=h'.1;have hmx:=h.2.1;have hmx':=h'.2.1;unfold maxLen at hmx hmx';by_cases hn:n=n'
 .subst hn;have hne:((n:Int) !=(n:Int))=false:=by simp
  go_enter func162,ntmps162
  go_wp2;go_loopw [13] (fun i wr=>∃ k:Nat,k<=n/\i=qI k/\xs.take k=ys.take k/\qY w wr) (qf n)
  .exact ⟨0,xC _,rfl,by simp,brf⟩
  .obtain ⟨k,hk,rfl,hT,hB⟩:=hrel;by_cases hlt:k<n
   .have hlt':(k:Int)<(n:Int):=by omega
    obtain ⟨b,off,rfl,q0,q1,q2⟩:=(h.bw hB).at k hlt;obtain ⟨b',off',rfl,p0,p1,p2⟩:=(h'.bw hB).at k hlt;by_cases he:xs.getD k zT=ys.getD k zT
    .have HS:Zh (xs.take (k+1)=ys.take (k+1)):=cY zT xs ys k hT (by omega) (by omega) he;rw [he] at q0 q1 q2;clear hT he;generalize ys.getD k zT=z at *;obtain ⟨z0,z1,z2⟩:=z;dsimp only at q0 q1 q2 p0 p1 p2;go_wp2
     go_quiet (fail)
     go_wp2
     go_roundw
     .exact ⟨k+1,by omega,by go_num,HS.o,below_drewN hB _⟩
     .simp [qf,intOf];omega
    .have hf:Zh (decide (xs=ys)=false):=by
      show _=_;simp;intro e;exact he (by rw [e])
     clear hT;generalize ys.getD k zT=z at *;generalize xs.getD k zT=z' at *;obtain ⟨z0,z1,z2⟩:=z;obtain ⟨x0,x1,x2⟩:=z';dsimp only at q0 q1 q2 p0 p1 p2;have hne3:¬ (x0=z0/\x1=z1/\x2=z2):=fun e=>he (by rw [e.1,e.2.1,e.2.2]);clear he;by_cases f0:x0=z0
     .by_cases f1:x1=z1
      .have f2:¬ x2=z2:=fun e=>hne3 ⟨f0,f1,e⟩;subst f0 f1;have f2':(x2==z2)=false:=by simpa using f2
       go_wp2
       go_quiet (fail)
       go_wp2;go_ret;exact ⟨aB hf.o.symm,below_drewN hB _⟩
      .subst f0;have f1':(x1==z1)=false:=by simpa using f1
       go_wp2
       go_quiet (fail)
       go_wp2;go_ret;exact ⟨aB hf.o.symm,below_drewN hB _⟩
     .have f0':(x0==z0)=false:=by simpa using f0
      go_wp2
      go_quiet (fail)
      go_wp2;go_ret;exact ⟨aB hf.o.symm,below_drewN hB _⟩
   .have hf:Zh (decide (xs=ys)=true):=by
     show _=_;simp;rw [xG (by omega),xG (by omega)] at hT;exact hT
    clear hT;go_wp2;go_ret;exact ⟨aB hf.o.symm,hB⟩
 .have hf:Zh (decide (xs=ys)=false):=by
   show _=_;simp;intro e;rw [e] at hl;omega
  have hne:((n:Int) !=(n':Int))=true:=by simp;omega
  go_enter func162,ntmps162
  go_wp2;go_ret;exact ⟨aB hf.o.symm,brf⟩
