import Derived.Test.YtngdgogjlpjjpadGreatP00
import Derived.Test.YtngdgogjlpjjpadGreatP01
import Derived.Test.YtngdgogjlpjjpadGreatP04
namespace Go.Proofs.YtngdgogjlpjjpadGreat
open Go.RowKit Go.Maps
set_option linter.unusedVariables false
set_option linter.unusedSimpArgs false
set_option maxRecDepth 100000
theorem rsv_none {n:Nat} {ms:List Md} {s:ByteArray} (h:rsT n ms s=none):rsv n ms s=.tuple #[.agg #[.int .i64 0,.int .i64 0,.int .i64 0],.bool false]:=by unfold rsv;rw [h]
theorem rsv_some {n:Nat} {ms:List Md} {s:ByteArray} {i k:Nat} (h:rsT n ms s=some (i,k)):rsv n ms s=.tuple #[.agg #[.int .i64 i,.int .i64 ((ms.getD i zMd).es.getD k zE).2.1,.int .i64 ((ms.getD i zMd).es.getD k zE).2.2],.bool true]:=by unfold rsv;rw [h]
theorem fst_lt (f:Nat→List UInt8) (s:List UInt8) (i:Nat):∀ k,fst? f s k=some i→i<k
 | 0,h=>by cases h
 | k+1,h=>by
   rw [fst_succ] at h
   cases hf:fst? f s k with
   | some j=>rw [hf] at h;simp at h;subst h;have:=fst_lt f s j k hf;omega
   | none=>rw [hf] at h;simp at h;omega
theorem lit_int {H:Type} {a b:Int} (h:(DataW.lit (.int .i64 a):DataW H)=.lit (.int .i64 b)):b=a:=by
 injection h with h
 injection h with _ h
 exact h.symm
set_option maxHeartbeats 4000000 in
theorem iResolve_any (a:Option Addr) (n cap:Nat) (ms:List Md) (s:ByteArray) (w:World) (h:MS w a n cap ms) (hn:n≤1048576) (hs:s.size≤1048576) (hE:∀ i,i<n→ES w (ms.getD i zMd).ea (ms.getD i zMd).en (ms.getD i zMd).ec (ms.getD i zMd).es∧(ms.getD i zMd).en≤1048576):
 Calls Tryz.prog 146 #[.slice a n cap,.string s] w fun e w'=>e=.returned (rsv n ms s)∧Below w.heap.size w w':=by
 obtain ⟨W,hW⟩:∃ W,W=w.alloc (.cells #[.int .i64 0,.int .i64 0,.int .i64 0] 72):=⟨_,rfl⟩
 have hB0:Below w.heap.size w W:=by rw [hW];exact (Below.refl _ _).alloc (Nat.le_refl _) _
 have kb:Blk W w.heap.size #[.int .i64 0,.int .i64 0,.int .i64 0] 72:=by rw [hW];exact Blk.new _ _ _
 have HW:=hide hW
 clear hW
 have HC:=hide (fun w=>cutImport_any s w hs)
 obtain ⟨V,hV⟩:∃ V,V=rsv n ms s:=⟨_,rfl⟩
 rw [← hV]
 have HV:=hide hV
 clear hV
 have HTF:=hide (fun w h=>tablesFit_any a n cap ms w h)
 have fin:∀ (X:World) (x y z:Int),Below w.heap.size w X→Blk X w.heap.size #[.int .i64 0,.int .i64 0,.int .i64 0] 72 →
  Blk (((X.setCell ⟨w.heap.size,0,none⟩ (.int .i64 x)).setCell ⟨w.heap.size,1,none⟩ (.int .i64 y)).setCell ⟨w.heap.size,2,none⟩ (.int .i64 z)) w.heap.size #[.int .i64 x,.int .i64 y,.int .i64 z] 72∧Below w.heap.size w (((X.setCell ⟨w.heap.size,0,none⟩ (.int .i64 x)).setCell ⟨w.heap.size,1,none⟩ (.int .i64 y)).setCell ⟨w.heap.size,2,none⟩ (.int .i64 z)):=fun X x y z hB k=>by
  refine ⟨?_,((hB.setCell (p:=⟨w.heap.size,0,none⟩) (Nat.le_refl _) _).setCell (p:=⟨w.heap.size,1,none⟩) (Nat.le_refl _) _).setCell (p:=⟨w.heap.size,2,none⟩) (Nat.le_refl _) _⟩
  have:=((k.set 0 (.int .i64 x)).set 1 (.int .i64 y)).set 2 (.int .i64 z)
  simpa using this
 have FIN:=hide fin
 clear fin
 cases hf:full s
 ·have hr:=hide (rsv_none (n:=n) (ms:=ms) (s:=s) (by unfold rsT;rw [hf];simp))
  unfold cutV at HC
  rw [hf] at HC
  go_enter Tryz.func146,Tryz.ntmps146
  go_wp2_with (rw [← HW.out])
  refine (HC.out _).mono ?_
  rintro e w1 ⟨rfl,hb1⟩
  have k1:=kb.below hb1
  have hB1:=hB0.trans (hb1.mono hB0.size)
  obtain ⟨k2,hB2⟩:=FIN.out w1 0 0 0 hB1 k1
  clear hb1 kb hB0
  obtain ⟨q1,q2,q3,q4⟩:=k1.three
  obtain ⟨s1,s2,s3,s4⟩:=k2.three
  clear k1 k2
  have HX:=hide hB2
  clear hB2 hB1
  go_wp2
  exact bodyPost_ret (v:=.tuple #[.agg #[.int .i64 0,.int .i64 0,.int .i64 0],.bool false]) (by simp [results,Tryz.results146,go_sem,s1,s2,s3]) rfl ⟨by rw [HV.out,hr.out],HX.out⟩
 ·unfold cutV at HC
  rw [hf] at HC
  go_enter Tryz.func146,Tryz.ntmps146
  go_wp2_with (rw [← HW.out])
  refine (HC.out _).mono ?_
  rintro e w1 ⟨rfl,hb1⟩
  have k1:=kb.below hb1
  have hB1:=hB0.trans (hb1.mono hB0.size)
  clear hb1 kb hB0
  have h1:=h.below hB1
  generalize htb:tbf n ms=tb at *
  cases tb
  ·have hr:=hide (rsv_none (n:=n) (ms:=ms) (s:=s) (by unfold rsT;rw [htb];simp))
   clear htb
   go_wp2_with fail
   refine (HTF.out _ h1).mono ?_
   rintro e w2 ⟨rfl,hb2⟩
   have k2:=k1.below hb2
   have hB2:=hB1.trans (hb2.mono hB1.size)
   obtain ⟨k3,hB3⟩:=FIN.out w2 0 0 0 hB2 k2
   clear hb2 k1 hB1 h1
   obtain ⟨q1,q2,q3,q4⟩:=k2.three
   obtain ⟨s1,s2,s3,s4⟩:=k3.three
   have HX:=hide hB3
   clear hB3 hB2 k2 k3
   go_wp2
   exact bodyPost_ret (v:=.tuple #[.agg #[.int .i64 0,.int .i64 0,.int .i64 0],.bool false]) (by simp [results,Tryz.results146,go_sem,s1,s2,s3]) rfl ⟨by rw [HV.out,hr.out],HX.out⟩
  ·have HT:=hide (show rsT n ms s=(fst? (mdNm ms) (cutA s).data.toList n).bind fun i=>(fst? (exNm (ms.getD i zMd).es) (cutB s).data.toList (ms.getD i zMd).en).map fun k=>(i,k) by unfold rsT;rw [hf,htb];simp)
   clear htb
   have HKA:=hide (show keyOf Tryz.prog 9 (.string (cutA s))=some (.string (cutA s).data.toList) from Go.WideMaps.keyOf_string_mk Tryz.underlying9 (by have:=cutA_size s hs;unfold maxLen;omega))
   have HKB:=hide (show keyOf Tryz.prog 9 (.string (cutB s))=some (.string (cutB s).data.toList) from Go.WideMaps.keyOf_string_mk Tryz.underlying9 (by have:=cutB_size s hs;unfold maxLen;omega))
   have HFM:=hide (fun w h=>firstOfM_any a n cap ms w h hn)
   have HHA:=hide (fst_has (mdNm ms) (cutA s).data.toList n)
   have HAA:=hide (fd_at (mdNm ms) (cutA s).data.toList (.lit (.int .i64 0)) n)
   have HIL:=hide (fun i=>fst_lt (mdNm ms) (cutA s).data.toList i n)
   go_wp2_with fail
   refine (HTF.out _ h1).mono ?_
   rintro e w2 ⟨rfl,hb2⟩
   have k2:=k1.below hb2
   have hB2:=hB1.trans (hb2.mono hB1.size)
   have h2:=h.below hB2
   clear hb2 k1 hB1 h1
   go_wp2_with fail
   refine (HFM.out _ h2).mono ?_
   rintro e w3 ⟨rfl,hown,hb3⟩
   have k3:=k2.below hb3
   have hB3:=hB2.trans (hb3.mono hB2.size)
   have h3:=h.below hB3
   clear hb3 k2 hB2 h2
   cases hi:fst? (mdNm ms) (cutA s).data.toList n with
   | none=>
     have hr:=hide (rsv_none (n:=n) (ms:=ms) (s:=s) (by rw [HT.out,hi];rfl))
     have hh:has (fd (mdNm ms) n) (.string (cutA s).data.toList)=false:=by rw [← HHA.out,hi];rfl
     obtain ⟨k4,hB4⟩:=FIN.out w3 0 0 0 hB3 k3
     obtain ⟨q1,q2,q3,q4⟩:=k3.three
     obtain ⟨s1,s2,s3,s4⟩:=k4.three
     have HX:=hide hB4
     clear hB4 hB3 k3 k4 h3 hi
     go_wp2_with (at_lookup;refine wpList_lookup_own_ok_int _ rfl _ _ 183 rfl 9 3 .i64 lawS Tryz.underlying183 Tryz.underlying3 (zeroI _) w2.heap.size n _ rfl hown _ _ rfl HKA.out ?_;intro c hat hwc;clear hat;rw [hh])
     exact bodyPost_ret (v:=.tuple #[.agg #[.int .i64 0,.int .i64 0,.int .i64 0],.bool false]) (by simp [results,Tryz.results146,go_sem,s1,s2,s3]) rfl ⟨by rw [HV.out,hr.out],HX.out⟩
   | some i=>
     have hin:=HIL.out i hi
     have hin':(i:Int)<(n:Int):=by omega
     have hh:has (fd (mdNm ms) n) (.string (cutA s).data.toList)=true:=by rw [← HHA.out,hi];rfl
     have HC2:=hide (fun (c:Int) (hat:(fd (mdNm ms) n).atKey (.string (cutA s).data.toList) (.lit (.int .i64 0))=.lit (.int .i64 c))=>show c=(i:Int) from by rw [HAA.out,hi] at hat;exact lit_int hat)
     have HT2:=hide (show rsT n ms s=(fst? (exNm (ms.getD i zMd).es) (cutB s).data.toList (ms.getD i zMd).en).map (fun k=>(i,k)) by rw [HT.out,hi];rfl)
     have HRS:=hide (fun k (h:rsT n ms s=some (i,k))=>rsv_some h)
     obtain ⟨bb,off,rfl,y0,y1,y2,y3,y4,y5,y6,y7⟩:=h3.at i hin
     obtain ⟨e1,e2⟩:=hE i hin
     have e3:=e1.below hB3
     clear e1 hi HT HHA HAA HIL h3
     generalize ms.getD i zMd=m at *
     obtain ⟨nm,ta,tn,tc,tz,ba,bn,bc,bl,da,dn,dc,dz,bss,ra,rn,rc,rz,ia,im,ic,ss,ea,en,ec,es⟩:=m
     dsimp only at y0 y1 y2 y3 y4 y5 y6 y7 e2 e3 HT2 HRS
     have HFE:=hide (fun w h=>firstOfE_any ea en ec es w h e2)
     go_wp2_with (at_lookup;refine wpList_lookup_own_ok_int _ rfl _ _ 183 rfl 9 3 .i64 lawS Tryz.underlying183 Tryz.underlying3 (zeroI _) w2.heap.size n _ rfl hown _ _ rfl HKA.out ?_;intro c hat hwc;have hc:=HC2.out c hat;clear hat hwc;subst hc;rw [hh])
     refine (HFE.out _ e3).mono ?_
     rintro e w4 ⟨rfl,hown4,hb4⟩
     have k4:=k3.below hb4
     have hB4:=hB3.trans (hb4.mono hB3.size)
     have e4:=e3.below hb4
     have y7':w4.cell? ⟨bb,off+i * 8+7,none⟩=some (.slice ea en ec):=(hb4.cell (World.block_lt_of_cell? w3 _ y7)).trans y7
     clear hb4 hB3 k3 e3 hown y0 y1 y2 y3 y4 y5 y6 y7 HC2 hh
     cases hk:fst? (exNm es) (cutB s).data.toList en with
     | none=>
       have hr:=hide (rsv_none (n:=n) (ms:=ms) (s:=s) (by rw [HT2.out,hk];rfl))
       have hh:has (fd (exNm es) en) (.string (cutB s).data.toList)=false:=by rw [← fst_has,hk];rfl
       obtain ⟨k5,hB5⟩:=FIN.out w4 0 0 0 hB4 k4
       obtain ⟨q1,q2,q3,q4⟩:=k4.three
       obtain ⟨s1,s2,s3,s4⟩:=k5.three
       have HX:=hide hB5
       clear hB4 hB5 k4 k5 hk
       go_wp2_with (at_lookup;refine wpList_lookup_own_ok_int _ rfl _ _ 183 rfl 9 3 .i64 lawS Tryz.underlying183 Tryz.underlying3 (zeroI _) w3.heap.size en _ rfl hown4 _ _ rfl HKB.out ?_;intro c hat hwc;clear hat;rw [hh])
       exact bodyPost_ret (v:=.tuple #[.agg #[.int .i64 0,.int .i64 0,.int .i64 0],.bool false]) (by simp [results,Tryz.results146,go_sem,s1,s2,s3]) rfl ⟨by rw [HV.out,hr.out],HX.out⟩
     | some k=>
       have hkn:=fst_lt (exNm es) (cutB s).data.toList k en hk
       have hkn':(k:Int)<(en:Int):=by omega
       have hr:=hide (HRS.out k (by rw [HT2.out,hk];rfl))
       have hh:has (fd (exNm es) en) (.string (cutB s).data.toList)=true:=by rw [← fst_has,hk];rfl
       have HC2:=hide (fun (c:Int) (hat:(fd (exNm es) en).atKey (.string (cutB s).data.toList) (.lit (.int .i64 0))=.lit (.int .i64 c))=>show c=(k:Int) from by rw [fd_at,hk] at hat;exact lit_int hat)
       obtain ⟨eb,eo,rfl⟩:=e4.addr (by omega)
       obtain ⟨x0,x1,x2⟩:=e4.at k hkn
       generalize es.getD k zE=E at *
       obtain ⟨xn,xb,xa⟩:=E
       dsimp only at x0 x1 x2 hr
       obtain ⟨k5',hB5'⟩:=FIN.out w4 i xb xa hB4 k4
       have k5:=k5'.alloc (.cells #[.string xn,.int .i64 xb,.int .i64 xa] 210)
       have hB5:=hB5'.alloc hB5'.size (.cells #[.string xn,.int .i64 xb,.int .i64 xa] 210)
       clear k5' hB5'
       have kl:=k4.lt
       obtain ⟨q1,q2,q3,q4⟩:=k4.three
       obtain ⟨s1,s2,s3,s4⟩:=k5.three
       have HX:=hide hB5
       clear hB4 hB5 k4 k5 hk e4
       go_wp2_with (at_lookup;refine wpList_lookup_own_ok_int _ rfl _ _ 183 rfl 9 3 .i64 lawS Tryz.underlying183 Tryz.underlying3 (zeroI _) w3.heap.size en _ rfl hown4 _ _ rfl HKB.out ?_;intro c hat hwc;have hc:=HC2.out c hat;clear hat hwc;subst hc;rw [hh])
       exact bodyPost_ret (v:=.tuple #[.agg #[.int .i64 i,.int .i64 xb,.int .i64 xa],.bool true]) (by simp [results,Tryz.results146,go_sem,s1,s2,s3]) rfl ⟨by rw [HV.out,hr.out],HX.out⟩
theorem fst_keep (f:Nat→List UInt8) (s:List UInt8) {k j:Nat} (h:fst? f s k=some j):∀ n,k≤n→fst? f s n=some j
 | 0,hn=>by
   obtain rfl:k=0:=by omega
   exact h
 | n+1,hn=>by
   by_cases e:k=n+1
   ·subst e;exact h
   ·rw [fst_succ,fst_keep f s h n (by omega)]
theorem fst_hit (f:Nat→List UInt8) (s:List UInt8) {k n:Nat} (h:fst? f s k=none) (e:f k=s) (hk:k<n):fst? f s n=some k:=
 fst_keep f s (k:=k+1) (by rw [fst_succ,h];simp [e]) n hk
theorem fst_miss (f:Nat→List UInt8) (s:List UInt8) {k:Nat} (h:fst? f s k=none) (e:f k≠s):fst? f s (k+1)=none:=by
 rw [fst_succ,h];simp [e]
theorem tbf_bad (n:Nat) (ms:List Md) (k:Nat) (hk:k<n) (h:16<(ms.getD k zMd).en):tbf n ms=false:=by
 unfold tbf
 rw [rng_bad (fun i=>decide ((ms.getD i zMd).en≤16)) n k hk (decide_eq_false (by omega))]
 simp
theorem tbf_good (n:Nat) (ms:List Md) (h4:n≤4) (h:∀ j,j<n→(ms.getD j zMd).en≤16):tbf n ms=true:=by
 unfold tbf
 rw [rng_good (fun i=>decide ((ms.getD i zMd).en≤16)) n (fun j hj=>decide_eq_true (h j hj)),decide_eq_true h4]
 rfl
set_option maxHeartbeats 4000000 in
theorem sResolve_any (a:Option Addr) (n cap:Nat) (ms:List Md) (s:ByteArray) (w:World) (h:MS w a n cap ms) (hn:n≤1048576) (hs:s.size≤1048576) (hE:∀ i,i<n→ES w (ms.getD i zMd).ea (ms.getD i zMd).en (ms.getD i zMd).ec (ms.getD i zMd).es∧(ms.getD i zMd).en≤1048576):
 Calls Tryz.prog 141 #[.slice a n cap,.string s] w fun e w'=>e=.returned (rsv n ms s)∧Below w.heap.size w w':=by
 obtain ⟨W,hW⟩:∃ W,W=w.alloc (.cells #[.int .i64 0,.int .i64 0,.int .i64 0] 72):=⟨_,rfl⟩
 have hB0:Below w.heap.size w W:=by rw [hW];exact (Below.refl _ _).alloc (Nat.le_refl _) _
 have kb:Blk W w.heap.size #[.int .i64 0,.int .i64 0,.int .i64 0] 72:=by rw [hW];exact Blk.new _ _ _
 have HW:=hide hW
 clear hW
 have HF:=hide (fun w=>l4FullOk_any s w hs)
 have HD:=hide (fun w=>l4Dot_any s w hs)
 obtain ⟨V,hV⟩:∃ V,V=rsv n ms s:=⟨_,rfl⟩
 rw [← hV]
 have HV:=hide hV
 clear hV
 have fin:∀ (X:World) (x y z:Int),Below w.heap.size w X→Blk X w.heap.size #[.int .i64 0,.int .i64 0,.int .i64 0] 72 →
  Blk (((X.setCell ⟨w.heap.size,0,none⟩ (.int .i64 x)).setCell ⟨w.heap.size,1,none⟩ (.int .i64 y)).setCell ⟨w.heap.size,2,none⟩ (.int .i64 z)) w.heap.size #[.int .i64 x,.int .i64 y,.int .i64 z] 72∧Below w.heap.size w (((X.setCell ⟨w.heap.size,0,none⟩ (.int .i64 x)).setCell ⟨w.heap.size,1,none⟩ (.int .i64 y)).setCell ⟨w.heap.size,2,none⟩ (.int .i64 z)):=fun X x y z hB k=>by
  refine ⟨?_,((hB.setCell (p:=⟨w.heap.size,0,none⟩) (Nat.le_refl _) _).setCell (p:=⟨w.heap.size,1,none⟩) (Nat.le_refl _) _).setCell (p:=⟨w.heap.size,2,none⟩) (Nat.le_refl _) _⟩
  have:=((k.set 0 (.int .i64 x)).set 1 (.int .i64 y)).set 2 (.int .i64 z)
  simpa using this
 have FIN:=hide fin
 clear fin
 by_cases c1:4<n
 ·have c1':(4:Int)<(n:Int):=by omega
  have hr:=hide (rsv_none (n:=n) (ms:=ms) (s:=s) (by unfold rsT tbf;rw [decide_eq_false (show ¬ n≤4 by omega)];simp))
  obtain ⟨k2,hB2⟩:=FIN.out W 0 0 0 hB0 kb
  obtain ⟨q1,q2,q3,q4⟩:=kb.three
  obtain ⟨s1,s2,s3,s4⟩:=k2.three
  have HX:=hide hB2
  clear hB2 hB0 kb k2
  go_enter Tryz.func141,Tryz.ntmps141
  go_wp2_with (rw [← HW.out])
  exact bodyPost_ret (v:=.tuple #[.agg #[.int .i64 0,.int .i64 0,.int .i64 0],.bool false]) (by simp [results,Tryz.results141,go_sem,s1,s2,s3]) rfl ⟨by rw [HV.out,hr.out],HX.out⟩
 ·have c1':¬ (4:Int)<(n:Int):=by omega
  cases hf:full s
  ·rw [hf] at HF
   have hr:=hide (rsv_none (n:=n) (ms:=ms) (s:=s) (by unfold rsT;rw [hf];simp))
   obtain ⟨k2,hB2⟩:=FIN.out W 0 0 0 hB0 kb
   obtain ⟨q1,q2,q3,q4⟩:=kb.three
   obtain ⟨s1,s2,s3,s4⟩:=k2.three
   have HX:=hide hB2
   clear hB2 hB0 kb k2
   go_enter Tryz.func141,Tryz.ntmps141
   go_wp2_with (first | (rw [← HW.out]) | (go_at_call 202;refine (HF.out _).mono ?_;rintro e w1 ⟨rfl,rfl⟩))
   exact bodyPost_ret (v:=.tuple #[.agg #[.int .i64 0,.int .i64 0,.int .i64 0],.bool false]) (by simp [results,Tryz.results141,go_sem,s1,s2,s3]) rfl ⟨by rw [HV.out,hr.out],HX.out⟩
  ·rw [hf] at HF
   have hdot:0≤dot s∧dot s<s.size:=by
    rcases dot_range s with h0 | h0
    ·exfalso
     unfold full at hf
     rw [h0] at hf
     simp at hf
    ·exact h0
   have HT:=hide (show tbf n ms=true→rsT n ms s=(fst? (mdNm ms) (cutA s).data.toList n).bind fun i=>(fst? (exNm (ms.getD i zMd).es) (cutB s).data.toList (ms.getD i zMd).en).map fun k=>(i,k) from fun htb=>by unfold rsT;rw [hf,htb];simp)
   have HTN:=hide (show tbf n ms=false→rsT n ms s=none from fun htb=>by unfold rsT;rw [htb];simp)
   clear hf
   go_enter Tryz.func141,Tryz.ntmps141
   go_wp2_with (first | (rw [← HW.out]) | (go_at_call 202;refine (HF.out _).mono ?_;rintro e w1 ⟨rfl,rfl⟩))
   go_loopw [6] (fun i wr=>∃ k:Nat,k≤n∧i=.int .i64 k∧Hid (∀ j,j<k→(ms.getD j zMd).en≤16)∧Below w.heap.size w wr∧Blk wr w.heap.size #[.int .i64 0,.int .i64 0,.int .i64 0] 72) (fun i _=>n - (intOf i).toNat)
   case atStart=>exact ⟨0,Nat.zero_le _,rfl,hide (fun j hj=>by omega),hB0,kb⟩
   case round=>
    obtain ⟨k,hk,rfl,HJ,hB,kw⟩:=hrel
    clear hB0 kb
    by_cases hlt:k<n
    ·have hlt':(k:Int)<(n:Int):=by omega
     obtain ⟨bb,off,rfl,q0,q1,q2,q3,q4,q5,q6,q7⟩:=(h.below hB).at k hlt
     have HG:=hide (show (ms.getD k zMd).en≤16→∀ j,j<k+1→(ms.getD j zMd).en≤16 from fun h j hj=>by
      by_cases e:j=k
      ·subst e;exact h
      ·exact HJ.out j (by omega))
     have HB:=hide (tbf_bad n ms k hlt)
     generalize ms.getD k zMd=m at *
     obtain ⟨nm,ta,tn,tc,tz,ba,bn,bc,bl,da,dn,dc,dz,bss,ra,rn,rc,rz,ia,im,ic,ss,ea,en,ec,es⟩:=m
     dsimp only at q0 q1 q2 q3 q4 q5 q6 q7 HB HG
     by_cases d:16<en
     ·have d':(16:Int)<(en:Int):=by omega
      have hr:=hide (rsv_none (HTN.out (HB.out d)))
      obtain ⟨k2,hB2⟩:=FIN.out wr 0 0 0 hB kw
      obtain ⟨p1,p2,p3,p4⟩:=kw.three
      obtain ⟨s1,s2,s3,s4⟩:=k2.three
      have HX:=hide hB2
      clear hB2 hB kw k2 q0 q1 q2 q3 q4 q5 q6
      go_wp2
      exact bodyPost_ret (v:=.tuple #[.agg #[.int .i64 0,.int .i64 0,.int .i64 0],.bool false]) (by simp [results,Tryz.results141,go_sem,s1,s2,s3]) rfl ⟨by rw [HV.out,hr.out],HX.out⟩
     ·have d':¬ (16:Int)<(en:Int):=by omega
      clear q0 q1 q2 q3 q4 q5 q6
      go_wp2
      go_roundw
      case rel=>exact ⟨k+1,by omega,by go_num,hide (HG.out (by omega)),hB,kw⟩
      case measure=>simp [intOf];omega
    ·have hkn:k=n:=by omega
     subst hkn
     have HT2:=hide (HT.out (tbf_good k ms (by omega) HJ.out))
     clear HT HTN HJ hk hlt
     unfold cutA cutB at HT2
     generalize dot s=p at *
     obtain ⟨p0,p1⟩:=hdot
     go_wp2_with (go_at_call 204;refine (HD.out _).mono ?_;rintro e w1 ⟨rfl,rfl⟩)
     go_loopw [8] (fun i wx=>∃ j:Nat,j≤k∧i=.int .i64 j∧Hid (fst? (mdNm ms) (s.extract 0 p.toNat).data.toList j=none)∧Below w.heap.size w wx∧Blk wx w.heap.size #[.int .i64 0,.int .i64 0,.int .i64 0] 72) (fun i _=>k - (intOf i).toNat)
     case atStart=>exact ⟨0,Nat.zero_le _,rfl,hide rfl,hB,kw⟩
     case round=>
      obtain ⟨j,hj,rfl,HJ,hBx,kx⟩:=hrel
      clear hB kw
      by_cases hlt:j<k
      ·have hlt':(j:Int)<(k:Int):=by omega
       obtain ⟨bb,off,rfl,q0,q1,q2,q3,q4,q5,q6,q7⟩:=(h.below hBx).at j hlt
       have HMS:=hide (fun e=>fst_miss (mdNm ms) (s.extract 0 p.toNat).data.toList HJ.out e)
       have HHT:=hide (fun e=>fst_hit (mdNm ms) (s.extract 0 p.toNat).data.toList HJ.out e hlt)
       obtain ⟨e1,e2⟩:=hE j hlt
       have e3:=e1.below hBx
       clear e1
       have HRS:=hide (fun i (h:rsT k ms s=some (j,i))=>rsv_some h)
       have HT3:=hide (show mdNm ms j=(s.extract 0 p.toNat).data.toList→rsT k ms s=(fst? (exNm (ms.getD j zMd).es) (s.extract (p+1).toNat s.size).data.toList (ms.getD j zMd).en).map (fun i=>(j,i)) from fun e=>by rw [HT2.out,HHT.out e];rfl)
       have HNM:=hide (show mdNm ms j=(ms.getD j zMd).nm.data.toList from rfl)
       clear HHT HJ
       generalize mdNm ms j=mj at *
       generalize ms.getD j zMd=m at *
       obtain ⟨nm,ta,tn,tc,tz,ba,bn,bc,bl,da,dn,dc,dz,bss,ra,rn,rc,rz,ia,im,ic,ss,ea,en,ec,es⟩:=m
       dsimp only at q0 q1 q2 q3 q4 q5 q6 q7 e2 e3 HRS HT3 HNM
       cases hq:(nm.toList == (s.extract 0 p.toNat).toList)
       ·have hne:=hide (show mj≠(s.extract 0 p.toNat).data.toList from fun e=>by
         rw [HNM.out] at e
         rw [ByteArray.toList_eq,ByteArray.toList_eq,e] at hq
         simp at hq)
        clear q1 q2 q3 q4 q5 q6 q7
        go_wp2_with fail
        go_quiet (fail)
        go_wp2
        go_roundw
        case rel=>exact ⟨j+1,by omega,by go_num,hide (HMS.out hne.out),below_drewN hBx nq,kx.below (below_drewN (Below.refl _ _) nq)⟩
        case measure=>simp [intOf];omega
       ·have HT4:=hide (HT3.out (by
         rw [HNM.out]
         rw [ByteArray.toList_eq,ByteArray.toList_eq] at hq
         simpa using hq))
        clear HT3 HT2 HMS HNM
        clear q1 q2 q3 q4 q5 q6
        go_wp2_with fail
        go_quiet (fail)
        have q7':(wr.drewN nq).cell? ⟨bb,off+j * 8+7,none⟩=some (.slice ea en ec):=((below_drewN (Below.refl wr.heap.size wr) nq).cell (World.block_lt_of_cell? wr _ q7)).trans q7
        have e4:=e3.below (below_drewN (Below.refl wr.heap.size wr) nq)
        have hB4:=below_drewN hBx nq
        have k4:=kx.below (below_drewN (Below.refl wr.heap.size wr) nq)
        clear q0 q7 e3 hBx kx
        generalize wr.drewN nq=w4 at *
        go_wp2
        go_loopw [9] (fun i wy=>∃ l:Nat,l≤en∧i=.int .i64 l∧Hid (fst? (exNm es) (s.extract (p+1).toNat s.size).data.toList l=none)∧Below w4.heap.size w4 wy) (fun i _=>en - (intOf i).toNat)
        case atStart=>exact ⟨0,Nat.zero_le _,rfl,hide rfl,Below.refl _ _⟩
        case round=>
         obtain ⟨l,hl,rfl,HL,hby⟩:=hrel
         have q7:wr.cell? ⟨bb,off+j * 8+7,none⟩=some (.slice ea en ec):=(hby.cell (World.block_lt_of_cell? w4 _ q7')).trans q7'
         have hB5:=hB4.trans (hby.mono hB4.size)
         have k5:=k4.below hby
         by_cases hln:l<en
         ·have hln':(l:Int)<(en:Int):=by omega
          have e5:=e4.below hby
          obtain ⟨eb,eo,rfl⟩:=e5.addr (by omega)
          obtain ⟨x0,x1,x2⟩:=e5.at l hln
          have HMS:=hide (fun e=>fst_miss (exNm es) (s.extract (p+1).toNat s.size).data.toList HL.out e)
          have HHT:=hide (fun e=>fst_hit (exNm es) (s.extract (p+1).toNat s.size).data.toList HL.out e hln)
          have HNM:=hide (show exNm es l=(es.getD l zE).1.data.toList from rfl)
          have HR2:=hide (HRS.out l)
          generalize exNm es l=xl at *
          generalize es.getD l zE=E at *
          obtain ⟨xn,xb,xa⟩:=E
          dsimp only at x0 x1 x2 HNM HR2
          have hbz:Below wr.heap.size wr (wr.alloc (.cells #[.string xn,.int .i64 xb,.int .i64 xa] 210)):=(Below.refl _ _).alloc (Nat.le_refl _) _
          have kE:=Blk.new wr #[.string xn,.int .i64 xb,.int .i64 xa] 210
          have k6:=k5.below hbz
          have hB6:=hB5.trans (hbz.mono hB5.size)
          have hby6:=hby.trans (hbz.mono hby.size)
          clear hB5 k5
          obtain ⟨z1,z2,z3,z4⟩:=kE.three
          cases hq2:(xn.toList == (s.extract (p+1).toNat s.size).toList)
          ·have hne:=hide (show xl≠(s.extract (p+1).toNat s.size).data.toList from fun e=>by
            rw [HNM.out] at e
            rw [ByteArray.toList_eq,ByteArray.toList_eq,e] at hq2
            simp at hq2)
           go_wp2_with fail
           go_quiet (fail)
           go_wp2
           go_roundw
           case rel=>exact ⟨l+1,by omega,by go_num,hide (HMS.out hne.out),below_drewN hby6 nq⟩
           case measure=>simp [intOf];omega
          ·have hr:=hide (HR2.out (by
            rw [HT4.out,HHT.out (by
             rw [HNM.out]
             rw [ByteArray.toList_eq,ByteArray.toList_eq] at hq2
             simpa using hq2)]
            rfl))
           go_wp2_with fail
           go_quiet (fail)
           have k7:=k6.below (below_drewN (Below.refl _ _) nq)
           have kE7:=kE.below (below_drewN (Below.refl _ _) nq)
           have hB7:=below_drewN hB6 nq
           generalize (wr.alloc (.cells #[.string xn,.int .i64 xb,.int .i64 xa] 210)).drewN nq=w7 at *
           clear z1 z2 z3 z4 k6 kE hB6 hby6 hbz
           obtain ⟨z1,z2,z3,z4⟩:=kE7.three
           obtain ⟨k8,hB8⟩:=FIN.out w7 j xb xa hB7 k7
           obtain ⟨g1,g2,g3,g4⟩:=k7.three
           obtain ⟨s1,s2,s3,s4⟩:=k8.three
           have HX:=hide hB8
           clear hB8 hB7 k7 k8 kE7
           go_wp2
           exact bodyPost_ret (v:=.tuple #[.agg #[.int .i64 j,.int .i64 xb,.int .i64 xa],.bool true]) (by simp [results,Tryz.results141,go_sem,s1,s2,s3]) rfl ⟨by rw [HV.out,hr.out],HX.out⟩
         ·have hle:l=en:=by omega
          subst hle
          have hr:=hide (rsv_none (n:=k) (ms:=ms) (s:=s) (by rw [HT4.out,HL.out];rfl))
          obtain ⟨k8,hB8⟩:=FIN.out wr 0 0 0 hB5 k5
          obtain ⟨g1,g2,g3,g4⟩:=k5.three
          obtain ⟨s1,s2,s3,s4⟩:=k8.three
          have HX:=hide hB8
          clear hB8 hB5 k5 k8
          go_wp2
          exact bodyPost_ret (v:=.tuple #[.agg #[.int .i64 0,.int .i64 0,.int .i64 0],.bool false]) (by simp [results,Tryz.results141,go_sem,s1,s2,s3]) rfl ⟨by rw [HV.out,hr.out],HX.out⟩
      ·have hjk:j=k:=by omega
       subst hjk
       have hr:=hide (rsv_none (n:=j) (ms:=ms) (s:=s) (by rw [HT2.out,HJ.out];rfl))
       obtain ⟨k8,hB8⟩:=FIN.out wr 0 0 0 hBx kx
       obtain ⟨g1,g2,g3,g4⟩:=kx.three
       obtain ⟨s1,s2,s3,s4⟩:=k8.three
       have HX:=hide hB8
       clear hB8 hBx kx k8
       go_wp2
       exact bodyPost_ret (v:=.tuple #[.agg #[.int .i64 0,.int .i64 0,.int .i64 0],.bool false]) (by simp [results,Tryz.results141,go_sem,s1,s2,s3]) rfl ⟨by rw [HV.out,hr.out],HX.out⟩
theorem fst_congr {f g:Nat→List UInt8} {s:List UInt8}:∀ k,(∀ i,i<k→f i=g i)→fst? f s k=fst? g s k
 | 0,_=>rfl
 | k+1,h=>by rw [fst_succ,fst_succ,fst_congr k (fun i hi=>h i (by omega)),h k (by omega)]
theorem all_congr_range {f g:Nat→Bool}:∀ n,(∀ i,i<n→f i=g i)→(List.range n).all f=(List.range n).all g
 | 0,_=>rfl
 | n+1,h=>by rw [List.range_succ,List.all_append,List.all_append,all_congr_range n (fun i hi=>h i (by omega))];simp [h n (by omega)]
def SameR (n:Nat) (ms ms':List Md):Prop:=∀ i,i<n→(ms'.getD i zMd).nm=(ms.getD i zMd).nm∧(ms'.getD i zMd).en=(ms.getD i zMd).en∧(ms'.getD i zMd).es=(ms.getD i zMd).es
theorem rsT_lt {n:Nat} {ms:List Md} {s:ByteArray} {i k:Nat} (h:rsT n ms s=some (i,k)):i<n:=by
 unfold rsT at h
 split at h
 ·cases hf:fst? (mdNm ms) (cutA s).data.toList n with
  | none=>rw [hf] at h;cases h
  | some j=>
    rw [hf] at h
    simp at h
    obtain ⟨k',h1,rfl,rfl⟩:=h
    exact fst_lt _ _ _ _ hf
 ·cases h
theorem rsT_congr {n:Nat} {ms ms':List Md} {s:ByteArray} (h:SameR n ms ms'):rsT n ms' s=rsT n ms s:=by
 unfold rsT
 have e1:tbf n ms'=tbf n ms:=by
  unfold tbf
  rw [all_congr_range n (fun i hi=>by rw [(h i hi).2.1])]
 have e2:fst? (mdNm ms') (cutA s).data.toList n=fst? (mdNm ms) (cutA s).data.toList n:=fst_congr n (fun i hi=>by unfold mdNm;rw [(h i hi).1])
 rw [e1,e2]
 cases hf:fst? (mdNm ms) (cutA s).data.toList n with
 | none=>rfl
 | some j=>
   obtain ⟨_,h2,h3⟩:=h j (fst_lt _ _ _ _ hf)
   simp only [Option.bind_some]
   rw [h2,h3]
theorem RowM.ms {W w:World} {c n cap:Nat} {a:Option Addr} {ms ms':List Md} (h:RowM W c n ms ms') (hl:ms'.length=n) (hm:MS w a n cap ms):MS W (some ⟨c,0,none⟩) n n ms':=by
 obtain ⟨_,_,hr⟩:=h
 refine ⟨hl,hm.2.1,fun _=>⟨c,0,rfl,fun i hi=>?_⟩,fun i hi=>copy_mt (hm.2.2.2.1 i hi) (hr i (by omega)).2,Nat.le_refl _⟩
 rw [Nat.zero_add]
 exact (hr i (by omega)).1
end Go.Proofs.YtngdgogjlpjjpadGreat
namespace Go.Proofs.YtngdgogjlpjjpadGreat
open Go.RowKit
set_option linter.unusedVariables false
def cfo (s w k d:Int):Bool:=decide (0≤s∧s≤4∧1≤w∧w≤64∧0≤k∧k≤1024∧k % 32=0∧0≤d∧d≤100)
set_option maxHeartbeats 400000 in
theorem grained_any (x:Int) (w:World):
 Calls Tryz.prog 62 #[.int .i64 x] w fun e w'=>e=.returned (.bool (decide (0≤x∧x % 32=0)))∧w=w':=by
 go_enter Tryz.func62,Tryz.ntmps62
 go_wp2
 all_goals
  go_ret
  refine ⟨ret_bool ?_,rfl⟩
  rw [Bool.eq_iff_iff]
  simp
  try omega
set_option maxHeartbeats 400000 in
theorem upTo_any (v m:Int) (w:World):
 Calls Tryz.prog 63 #[.int .i64 v,.int .i64 m] w fun e w'=>e=.returned (.bool (decide (0≤v∧v≤m)))∧w=w':=by
 go_enter Tryz.func63,Tryz.ntmps63
 go_wp2
 all_goals
  go_ret
  refine ⟨ret_bool ?_,rfl⟩
  rw [Bool.eq_iff_iff]
  simp
  try omega
set_option maxHeartbeats 1000000 in
theorem sConfigOk_any (s c k d:Int) (w:World):
 Calls Tryz.prog 11 #[.agg #[.int .i64 s,.int .i64 c,.int .i64 k,.int .i64 d]] w fun e w'=>e=.returned (.bool (cfo s c k d))∧Below w.heap.size w w':=by
 have HB:=hide ((Below.refl w.heap.size w).alloc (Nat.le_refl _) (.cells #[.int .i64 s,.int .i64 c,.int .i64 k,.int .i64 d] 25))
 go_enter Tryz.func11,Tryz.ntmps11
 go_wp2
 all_goals
  go_ret
  refine ⟨ret_bool ?_,HB.out⟩
  unfold cfo
  rw [Bool.eq_iff_iff]
  simp
  try omega
set_option maxHeartbeats 1000000 in
theorem iConfigOk_any (s c k d:Int) (w:World):
 Calls Tryz.prog 10 #[.agg #[.int .i64 s,.int .i64 c,.int .i64 k,.int .i64 d]] w fun e w'=>e=.returned (.bool (cfo s c k d))∧Below w.heap.size w w':=by
 have HB:=hide ((Below.refl w.heap.size w).alloc (Nat.le_refl _) (.cells #[.int .i64 s,.int .i64 c,.int .i64 k,.int .i64 d] 25))
 have HF:∀ b:Bool,b=cfo s c k d ↔ (b=true ↔ (0≤s∧s≤4∧1≤c∧c≤64∧0≤k∧k≤1024∧k % 32=0∧0≤d∧d≤100)):=fun b=>by unfold cfo;rw [Bool.eq_iff_iff];simp
 have HF:=hide HF
 go_enter Tryz.func10,Tryz.ntmps10
 go_wp2_with (first
  | (go_at_call 62;refine (grained_any _ _).mono ?_;rintro e w1 ⟨rfl,rfl⟩)
  | (go_at_call 63;refine (upTo_any _ _ _).mono ?_;rintro e w1 ⟨rfl,rfl⟩))
 all_goals
  go_ret
  refine ⟨ret_bool ?_,HB.out⟩
  rw [HF.out]
  simp_all
  try omega
end Go.Proofs.YtngdgogjlpjjpadGreat
namespace Go.Proofs.YtngdgogjlpjjpadGreat
open Go.RowKit
set_option linter.unusedVariables false
set_option linter.unusedSimpArgs false
set_option maxRecDepth 100000
def Md.pm (m:Md):PMod:=⟨m.nm,m.tz,m.bl.map (fun B=>B.2.2.2),m.dz,m.bss,m.rz,m.ss,m.es⟩
def zP:PMod:=⟨⟨#[]⟩,[],[],[],0,[],[],[]⟩
def dm (P:PMod):Md:=⟨P.nm,none,P.tz.length,P.tz.length,P.tz,none,P.bl.length,P.bl.length,bkOf P.bl,none,P.dz.length,P.dz.length,P.dz,P.bss,none,P.rz.length,P.rz.length,P.rz,none,P.ss.length,P.ss.length,P.ss,none,P.es.length,P.es.length,P.es⟩
def Md.md (m:Md) (w:World):Prop:=MD w m.nm m.ta m.tn m.tc m.tz m.ba m.bn m.bc m.bl m.da m.dn m.dc m.dz m.bss m.ra m.rn m.rc m.rz m.ia m.im m.ic m.ss m.ea m.en m.ec m.es
theorem md_mdo {m:Md} {w:World} (h:m.md w):mdo m.nm m.tn m.tz m.bn m.bl m.dn m.bss m.rn m.rz m.im m.ss m.en m.es=mdoP m.pm:=by
 have hb:=h.b.1
 have e:m.pm.bl.length=m.bn:=by simp [Md.pm,hb]
 unfold mdoP
 rw [show m.pm.tz.length=m.tn from h.t.1,show m.pm.dz.length=m.dn from h.d.1,show m.pm.rz.length=m.rn from h.r.1,show m.pm.ss.length=m.im from h.i.1,show m.pm.es.length=m.en from h.e.1,e,← hb]
 refine mdo_bks (by rw [hb];simp [bkOf,e]) (fun i hi=>?_)
 have hr:=(h.b.2.2.2.1 i (by omega)).1
 have e2:(bkOf m.pm.bl).getD i zB=(none,(m.bl.getD i zB).2.2.2.length,(m.bl.getD i zB).2.2.2.length,(m.bl.getD i zB).2.2.2):=by
  simp [bkOf,Md.pm,List.getD_eq_getElem?_getD,hi]
 rw [e2]
 exact ⟨hr.symm,rfl⟩
abbrev Tg:=Int × Int × Int
def tgOf (ps:List PMod) (s:ByteArray):Option Tg:=(rsT ps.length (ps.map dm) s).map fun x=>((x.1:Int),((ps.getD x.1 zP).es.getD x.2 zE).2.1,((ps.getD x.1 zP).es.getD x.2 zE).2.2)
def tgV:Option Tg→Value
 | some t=>.tuple #[.agg #[.int .i64 t.1,.int .i64 t.2.1,.int .i64 t.2.2],.bool true]
 | none=>.tuple #[.agg #[.int .i64 0,.int .i64 0,.int .i64 0],.bool false]
theorem getD_map {α β:Type} (f:α→β) (l:List α) (i:Nat) (a:α) (b:β) (h:i<l.length):(l.map f).getD i b=f (l.getD i a):=by
 simp [List.getD_eq_getElem?_getD,h]
theorem rsv_tg {n:Nat} {ms:List Md} {s:ByteArray} (hl:ms.length=n) (he:∀ i,i<n→(ms.getD i zMd).es.length=(ms.getD i zMd).en):rsv n ms s=tgV (tgOf (ms.map Md.pm) s):=by
 have hr:rsT (ms.map Md.pm).length ((ms.map Md.pm).map dm) s=rsT n ms s:=by
  rw [List.length_map,hl]
  refine rsT_congr (fun i hi=>?_)
  rw [List.map_map,getD_map _ _ _ zMd _ (by omega)]
  exact ⟨rfl,by rw [← he i hi];rfl,rfl⟩
 unfold tgOf rsv
 rw [hr]
 cases e:rsT n ms s with
 | none=>rfl
 | some x=>
   obtain ⟨i,k⟩:=x
   have hi:=rsT_lt e
   have hg:(ms.map Md.pm).getD i zP=(ms.getD i zMd).pm:=getD_map _ _ _ zMd _ (by omega)
   simp only [Option.map_some,tgV,hg]
   rfl
def zT:Tg:=(0,0,0)
abbrev tgOk (ps:List PMod) (P:PMod):Prop:=∀ i,i<P.ss.length→(tgOf ps (P.ss.getD i zS)).isSome=true
def tgs (ps:List PMod) (P:PMod):List Tg:=(List.range P.ss.length).map fun i=>(tgOf ps (P.ss.getD i zS)).getD zT
def rnd (x:Int):Int:=(x+31) / 32 * 32
def fsum (P:PMod):Nat→Int
 | 0=>0
 | k+1=>fsum P k+rnd (4 * ((P.bl.getD k []).length:Int))
def tsz (P:PMod):Int:=rnd (4 * (P.tz.length:Int))
def msz (P:PMod):Int:=tsz P+fsum P P.bl.length
def dsz (P:PMod):Int:=rnd ((P.dz.length:Int)+P.bss)
def Fl (ps:List PMod):Nat→Int
 | 0=>0
 | i+1=>Fl ps i+msz (ps.getD i zP)
def Ra (ps:List PMod):Nat→Int
 | 0=>0
 | i+1=>Ra ps i+dsz (ps.getD i zP)
structure Pl where
 text:Int
 banks:List Int
 data:Int
 size:Int
def plc (ps:List PMod) (i:Nat):Pl:=⟨Fl ps i,(List.range (ps.getD i zP).bl.length).map fun k=>Fl ps i+tsz (ps.getD i zP)+fsum (ps.getD i zP) k,65536+Ra ps i,dsz (ps.getD i zP)⟩
structure Lay where
 places:List Pl
 stack:Int
 slots:List Int
 flash:Int
 ram:Int
 targets:List (List Tg)
def slt (ps:List PMod) (w k:Int) (i:Nat):Int:=65536+Ra ps ps.length+k+(i:Int) * rnd (4 * w)
def lay (ps:List PMod) (s w k:Int):Lay:=⟨(List.range ps.length).map (plc ps),65536+Ra ps ps.length,(List.range s.toNat).map (slt ps w k),Fl ps ps.length,Ra ps ps.length+k+(s.toNat:Int) * rnd (4 * w),(List.range ps.length).map fun i=>tgs ps (ps.getD i zP)⟩
abbrev vlds (ps:List PMod):Prop:=∀ i,i<ps.length→mdoP (ps.getD i zP)=0
abbrev nms (ps:List PMod):Prop:=∀ i,i<ps.length→∀ k,k<i→(ps.getD k zP).nm≠(ps.getD i zP).nm
abbrev imps (ps:List PMod):Prop:=∀ i,i<ps.length→tgOk ps (ps.getD i zP)
abbrev shrt (ps:List PMod) (w:Int):Prop:=∀ i,i<ps.length→∀ k,k<(ps.getD i zP).bl.length→(((ps.getD i zP).bl.getD k []).length:Int)≤w
def snd4 (ps:List PMod) (s w k d:Int):Int:=
 if cfo s w k d=false then 1 else if ps.length<1∨4<ps.length then 2 else if ¬ vlds ps then 3 else if ¬ nms ps then 4 else 0
def lkc (ps:List PMod) (s w k d:Int):Int:=
 if snd4 ps s w k d≠0 then snd4 ps s w k d else if ¬ imps ps then 5 else if 0<s∧¬ shrt ps w then 6 else if 16384<(lay ps s w k).flash then 7 else if 16384<(lay ps s w k).ram then 8 else 0
structure MSD (w:World) (a:Option Addr) (n cap:Nat) (ms:List Md):Prop where
 s:MS w a n cap ms
 d:∀ i,i<n→(ms.getD i zMd).md w
theorem MSD.below {w w':World} {a:Option Addr} {n cap:Nat} {ms:List Md} (h:MSD w a n cap ms) (hb:Below w.heap.size w w'):MSD w' a n cap ms:=⟨h.s.below hb,fun i hi=>MD.below (h.d i hi) hb⟩
def pmS (ms:List Md):List PMod:=ms.map Md.pm
theorem pmS_len (ms:List Md):(pmS ms).length=ms.length:=by simp [pmS]
theorem pmS_at {ms:List Md} {i:Nat} (h:i<ms.length):(pmS ms).getD i zP=(ms.getD i zMd).pm:=getD_map _ _ _ zMd _ h
def L0:Lay:=⟨[],0,[],0,0,[]⟩
def lkL (ps:List PMod) (s w k d:Int):Lay:=if lkc ps s w k d=0 then lay ps s w k else L0
end Go.Proofs.YtngdgogjlpjjpadGreat
namespace Go.Proofs.YtngdgogjlpjjpadGreat
open Go.RowKit
set_option linter.unusedVariables false
structure Rdr (W:World) (r:Nat) (a:Option Addr) (n c:Nat) (zs:List Int) (k:Nat):Prop where
 blk:Blk W r #[.slice a n c,.int .i64 ((min k n:Nat):Int)] 176
 bs:BS W a n c zs
 small:n≤1000
 far:n≠0→∀ b off,a=some ⟨b,off,none⟩→b≠r
theorem rdr_below {W W':World} {r:Nat} {a:Option Addr} {n c:Nat} {zs:List Int} {k:Nat} (h:Rdr W r a n c zs k) (hb:Below W.heap.size W W'):Rdr W' r a n c zs k:=⟨h.blk.below hb,h.bs.below hb,h.small,h.far⟩
theorem Blk.two {w:World} {g:Nat} {a b:Value} {t:TypeId} (h:Blk w g #[a,b] t):w.cell? ⟨g,0,none⟩=some a∧w.cell? ⟨g,1,none⟩=some b∧∀ i,w.frozen? ⟨g,i,none⟩=false:=
 ⟨by rw [h.cell];rfl,by rw [h.cell];rfl,fun i=>h.frozen i⟩
theorem turn_bs' {S:Nat→Prop} {w w':World} {a:Option Addr} {n cap:Nat} {zs:List Int} (ht:Turn S w w') (h:BS w a n cap zs) (hk:n≠0→∀ k,S k→∀ b off,a=some ⟨b,off,none⟩→b≠k):BS w' a n cap zs:=by
 by_cases hn:n=0
 ·exact ⟨h.1,h.2.1,h.2.2.1,fun e=>absurd hn e,h.2.2.2.2⟩
 ·exact turn_bs ht h (hk hn)
theorem turn_cell (w:World) (r i:Nat) (v:Value):Turn (fun j=>j=r) w (w.setCell ⟨r,i,none⟩ v):=⟨rfl,rfl,rfl,by rw [size_setCell];exact Nat.le_refl _,fun j hj hn=>heap_setCell_other _ _ _ _ hn⟩
set_option maxHeartbeats 1000000 in
theorem l1Open_any (a:Option Addr) (n c n':Nat) (zs:List Int) (w:World) (h:BS w a n c zs) (hn':n'=min n 1000):
 Calls Tryz.prog 50 #[.slice a n c] w fun e w'=>e=.returned (.pointer (some ⟨w.heap.size,0,none⟩))∧Rdr w' w.heap.size a n' c (zs.take 1000) 0∧Below w.heap.size w w':=by
 have hm:=h.2.1
 unfold maxLen at hm
 have hl:=h.1
 have hcap:=h.2.2.2.2
 have hB:∀ o,Below w.heap.size w (w.alloc o):=fun o=>(Below.refl _ _).alloc (Nat.le_refl _) _
 have hfar:n≠0→∀ b off,a=some ⟨b,off,none⟩→b<w.heap.size:=by
  intro hn b off e
  subst e
  exact World.block_lt_of_cell? w _ (h.at 0 (by omega))
 have HFAR:=hide hfar
 clear hfar
 by_cases hn:(1000:Int)<(n:Int)
 ·obtain ⟨b,off,rfl⟩:=h.some (by omega)
  have h':=(h.take 1000 (by omega))
  have hn1:n'=1000:=by omega
  subst hn1
  clear hn'
  go_enter Tryz.func50,Tryz.ntmps50
  go_wp2
  go_ret
  exact ⟨rfl,⟨Blk.new w _ _,h'.below (hB _),Nat.le_refl _,fun _ b' off' e=>by have:=HFAR.out (by omega) b' off' e;omega⟩,hB _⟩
 ·have ht:zs.take 1000=zs:=List.take_of_length_le (by omega)
  rw [ht]
  have hn1:n'=n:=by omega
  subst hn1
  clear hn' ht
  have HB:=hide hB
  have H:=hide h
  clear hB h
  go_enter Tryz.func50,Tryz.ntmps50
  go_wp2
  go_ret
  exact ⟨rfl,⟨by rw [Nat.zero_min];exact Blk.new w _ _,H.out.below (HB.out _),by omega,fun h0 b' off' e=>by have:=HFAR.out h0 b' off' e;omega⟩,HB.out _⟩
set_option maxHeartbeats 1000000 in
theorem next_any (r:Nat) (a:Option Addr) (n c:Nat) (zs:List Int) (k:Nat) (w:World) (h:Rdr w r a n c zs k):
 Calls Tryz.prog 51 #[.pointer (some ⟨r,0,none⟩)] w fun e w'=>e=.returned (.int .i64 (zs.getD k 0))∧Rdr w' r a n c zs (k+1)∧Turn (fun j=>j=r) w w':=by
 obtain ⟨q1,q2,q3⟩:=h.blk.two
 have hs:=h.small
 have hl:=h.bs.1
 by_cases hlt:k<n
 ·have e1:min k n=k:=by omega
  rw [e1] at q2
  have hlt':(k:Int)<(n:Int):=by omega
  obtain ⟨b,off,rfl⟩:=h.bs.some (by omega)
  have hc:=h.bs.at k hlt
  have hr:=h.bs.range k
  have hfin:Rdr (w.setCell ⟨r,1,none⟩ (.int .i64 ((k:Int)+1))) r (some ⟨b,off,none⟩) n c zs (k+1):=by
   refine ⟨?_,?_,hs,h.far⟩
   ·have:=h.blk.set 1 (.int .i64 ((k:Int)+1))
    rw [show (min (k+1) n)=k+1 by omega]
    simpa using this
   ·refine turn_bs' (turn_cell w r 1 _) h.bs ?_
    intro h0 j hj b' off' e
    subst hj
    exact h.far h0 b' off' e
  have HF:=hide hfin
  have HT:=hide (turn_cell w r 1 (.int .i64 ((k:Int)+1)))
  clear hfin h e1
  generalize zs.getD k 0=z at *
  obtain ⟨z0,z1⟩:=hr
  go_enter Tryz.func51,Tryz.ntmps51
  go_wp2
  go_quiet (fail)
  go_wp2
  go_quiet (fail)
  go_wp2
  go_ret
  exact ⟨rfl,⟨HF.out.blk,HF.out.bs,HF.out.small,HF.out.far⟩,⟨HT.out.os,HT.out.tape,HT.out.output,HT.out.size,HT.out.block⟩⟩
 ·have e1:min k n=n:=by omega
  rw [e1] at q2
  have e0:zs.getD k 0=0:=by simp [List.getD_eq_getElem?_getD,show zs.length≤k by omega]
  have hfin:Rdr w r a n c zs (k+1):=⟨by rw [show min (k+1) n=min k n by omega];exact h.blk,h.bs,hs,h.far⟩
  have HF:=hide hfin
  rw [e0]
  have hd:((n:Int)<(n:Int))=False:=by simp
  clear hfin h e1 e0
  go_enter Tryz.func51,Tryz.ntmps51
  go_wp2
  go_quiet (fail)
  go_wp2
  go_ret
  exact ⟨rfl,⟨HF.out.blk,HF.out.bs,HF.out.small,HF.out.far⟩,⟨rfl,rfl,rfl,Nat.le_refl _,fun _ _ _=>rfl⟩⟩
theorem next_is (r:Nat) (a:Option Addr) (n c:Nat) (zs:List Int) (k:Nat) (v:Int) (w:World) (h:Rdr w r a n c zs k) (hv:Hid (zs.getD k 0=v)):
 Calls Tryz.prog 51 #[.pointer (some ⟨r,0,none⟩)] w fun e w'=>e=.returned (.int .i64 v)∧Rdr w' r a n c zs (k+1)∧Turn (fun j=>j=r) w w':=
 (next_any r a n c zs k w h).mono fun e w' he=>⟨by rw [he.1,hv.out],he.2⟩
end Go.Proofs.YtngdgogjlpjjpadGreat
namespace Go.Proofs.YtngdgogjlpjjpadGreat
open Go.RowKit
set_option linter.unusedVariables false
set_option linter.unusedSimpArgs false
set_option maxRecDepth 100000
def strOf (bs:List Int):ByteArray:=⟨(bs.map fun z=>UInt8.ofNat z.toNat).toArray⟩
end Go.Proofs.YtngdgogjlpjjpadGreat
