import Derived.Test.YtngdgogjlpjjpadGreatP03
import Derived.Test.YtngdgogjlpjjpadGreatP13
import Derived.Test.YtngdgogjlpjjpadGreatP17
namespace Go.Proofs.YtngdgogjlpjjpadGreat
open Go.RowKit Go.Maps
set_option linter.unusedVariables false
set_option linter.unusedSimpArgs false
set_option maxRecDepth 100000
theorem fst_keep (f:Nat→List UInt8) (s:List UInt8) {k j:Nat} (h:fst? f s k=some j):∀ n,k≤n→fst? f s n=some j
 | 0,hn=>by
   obtain rfl:k=0:=by omega
   exact h
 | n+1,hn=>by
   by_cases e:k=n+1
   ·subst e;exact h
   ·rw [fst_succ,fst_keep f s h n (by omega)]
theorem fst_hit (f:Nat→List UInt8) (s:List UInt8) {k n:Nat} (h:fst? f s k=none) (e:f k=s) (hk:k<n):fst? f s n=some k:=
 fst_keep f s (k:=k+1) (by rw [fst_succ,h];simp [e]) n hk
theorem fst_miss (f:Nat→List UInt8) (s:List UInt8) {k:Nat} (h:fst? f s k=none) (e:f k≠s):fst? f s (k+1)=none:=by
 rw [fst_succ,h];simp [e]
theorem tbf_bad (n:Nat) (ms:List Md) (k:Nat) (hk:k<n) (h:16<(ms.getD k zMd).en):tbf n ms=false:=by
 unfold tbf
 rw [rng_bad (fun i=>decide ((ms.getD i zMd).en≤16)) n k hk (decide_eq_false (by omega))]
 simp
theorem tbf_good (n:Nat) (ms:List Md) (h4:n≤4) (h:∀ j,j<n→(ms.getD j zMd).en≤16):tbf n ms=true:=by
 unfold tbf
 rw [rng_good (fun i=>decide ((ms.getD i zMd).en≤16)) n (fun j hj=>decide_eq_true (h j hj)),decide_eq_true h4]
 rfl
set_option maxHeartbeats 4000000 in
theorem sResolve_any (a:Option Addr) (n cap:Nat) (ms:List Md) (s:ByteArray) (w:World) (h:MS w a n cap ms) (hn:n≤1048576) (hs:s.size≤1048576) (hE:∀ i,i<n→ES w (ms.getD i zMd).ea (ms.getD i zMd).en (ms.getD i zMd).ec (ms.getD i zMd).es∧(ms.getD i zMd).en≤1048576):
 Calls Tryz.prog 141 #[.slice a n cap,.string s] w fun e w'=>e=.returned (rsv n ms s)∧Below w.heap.size w w':=by
 obtain ⟨W,hW⟩:∃ W,W=w.alloc (.cells #[.int .i64 0,.int .i64 0,.int .i64 0] 72):=⟨_,rfl⟩
 have hB0:Below w.heap.size w W:=by rw [hW];exact (Below.refl _ _).alloc (Nat.le_refl _) _
 have kb:Blk W w.heap.size #[.int .i64 0,.int .i64 0,.int .i64 0] 72:=by rw [hW];exact Blk.new _ _ _
 have HW:=hide hW
 clear hW
 have HF:=hide (fun w=>l4FullOk_any s w hs)
 have HD:=hide (fun w=>l4Dot_any s w hs)
 obtain ⟨V,hV⟩:∃ V,V=rsv n ms s:=⟨_,rfl⟩
 rw [← hV]
 have HV:=hide hV
 clear hV
 have fin:∀ (X:World) (x y z:Int),Below w.heap.size w X→Blk X w.heap.size #[.int .i64 0,.int .i64 0,.int .i64 0] 72 →
  Blk (((X.setCell ⟨w.heap.size,0,none⟩ (.int .i64 x)).setCell ⟨w.heap.size,1,none⟩ (.int .i64 y)).setCell ⟨w.heap.size,2,none⟩ (.int .i64 z)) w.heap.size #[.int .i64 x,.int .i64 y,.int .i64 z] 72∧Below w.heap.size w (((X.setCell ⟨w.heap.size,0,none⟩ (.int .i64 x)).setCell ⟨w.heap.size,1,none⟩ (.int .i64 y)).setCell ⟨w.heap.size,2,none⟩ (.int .i64 z)):=fun X x y z hB k=>by
  refine ⟨?_,((hB.setCell (p:=⟨w.heap.size,0,none⟩) (Nat.le_refl _) _).setCell (p:=⟨w.heap.size,1,none⟩) (Nat.le_refl _) _).setCell (p:=⟨w.heap.size,2,none⟩) (Nat.le_refl _) _⟩
  have:=((k.set 0 (.int .i64 x)).set 1 (.int .i64 y)).set 2 (.int .i64 z)
  simpa using this
 have FIN:=hide fin
 clear fin
 by_cases c1:4<n
 ·have c1':(4:Int)<(n:Int):=by omega
  have hr:=hide (rsv_none (n:=n) (ms:=ms) (s:=s) (by unfold rsT tbf;rw [decide_eq_false (show ¬ n≤4 by omega)];simp))
  obtain ⟨k2,hB2⟩:=FIN.out W 0 0 0 hB0 kb
  obtain ⟨q1,q2,q3,q4⟩:=kb.three
  obtain ⟨s1,s2,s3,s4⟩:=k2.three
  have HX:=hide hB2
  clear hB2 hB0 kb k2
  go_enter Tryz.func141,Tryz.ntmps141
  go_wp2_with (rw [← HW.out])
  exact bodyPost_ret (v:=.tuple #[.agg #[.int .i64 0,.int .i64 0,.int .i64 0],.bool false]) (by simp [results,Tryz.results141,go_sem,s1,s2,s3]) rfl ⟨by rw [HV.out,hr.out],HX.out⟩
 ·have c1':¬ (4:Int)<(n:Int):=by omega
  cases hf:full s
  ·rw [hf] at HF
   have hr:=hide (rsv_none (n:=n) (ms:=ms) (s:=s) (by unfold rsT;rw [hf];simp))
   obtain ⟨k2,hB2⟩:=FIN.out W 0 0 0 hB0 kb
   obtain ⟨q1,q2,q3,q4⟩:=kb.three
   obtain ⟨s1,s2,s3,s4⟩:=k2.three
   have HX:=hide hB2
   clear hB2 hB0 kb k2
   go_enter Tryz.func141,Tryz.ntmps141
   go_wp2_with (first | (rw [← HW.out]) | (go_at_call 202;refine (HF.out _).mono ?_;rintro e w1 ⟨rfl,rfl⟩))
   exact bodyPost_ret (v:=.tuple #[.agg #[.int .i64 0,.int .i64 0,.int .i64 0],.bool false]) (by simp [results,Tryz.results141,go_sem,s1,s2,s3]) rfl ⟨by rw [HV.out,hr.out],HX.out⟩
  ·rw [hf] at HF
   have hdot:0≤dot s∧dot s<s.size:=by
    rcases dot_range s with h0 | h0
    ·exfalso
     unfold full at hf
     rw [h0] at hf
     simp at hf
    ·exact h0
   have HT:=hide (show tbf n ms=true→rsT n ms s=(fst? (mdNm ms) (cutA s).data.toList n).bind fun i=>(fst? (exNm (ms.getD i zMd).es) (cutB s).data.toList (ms.getD i zMd).en).map fun k=>(i,k) from fun htb=>by unfold rsT;rw [hf,htb];simp)
   have HTN:=hide (show tbf n ms=false→rsT n ms s=none from fun htb=>by unfold rsT;rw [htb];simp)
   clear hf
   go_enter Tryz.func141,Tryz.ntmps141
   go_wp2_with (first | (rw [← HW.out]) | (go_at_call 202;refine (HF.out _).mono ?_;rintro e w1 ⟨rfl,rfl⟩))
   go_loopw [6] (fun i wr=>∃ k:Nat,k≤n∧i=.int .i64 k∧Hid (∀ j,j<k→(ms.getD j zMd).en≤16)∧Below w.heap.size w wr∧Blk wr w.heap.size #[.int .i64 0,.int .i64 0,.int .i64 0] 72) (fun i _=>n - (intOf i).toNat)
   case atStart=>exact ⟨0,Nat.zero_le _,rfl,hide (fun j hj=>by omega),hB0,kb⟩
   case round=>
    obtain ⟨k,hk,rfl,HJ,hB,kw⟩:=hrel
    clear hB0 kb
    by_cases hlt:k<n
    ·have hlt':(k:Int)<(n:Int):=by omega
     obtain ⟨bb,off,rfl,q0,q1,q2,q3,q4,q5,q6,q7⟩:=(h.below hB).at k hlt
     have HG:=hide (show (ms.getD k zMd).en≤16→∀ j,j<k+1→(ms.getD j zMd).en≤16 from fun h j hj=>by
      by_cases e:j=k
      ·subst e;exact h
      ·exact HJ.out j (by omega))
     have HB:=hide (tbf_bad n ms k hlt)
     generalize ms.getD k zMd=m at *
     obtain ⟨nm,ta,tn,tc,tz,ba,bn,bc,bl,da,dn,dc,dz,bss,ra,rn,rc,rz,ia,im,ic,ss,ea,en,ec,es⟩:=m
     dsimp only at q0 q1 q2 q3 q4 q5 q6 q7 HB HG
     by_cases d:16<en
     ·have d':(16:Int)<(en:Int):=by omega
      have hr:=hide (rsv_none (HTN.out (HB.out d)))
      obtain ⟨k2,hB2⟩:=FIN.out wr 0 0 0 hB kw
      obtain ⟨p1,p2,p3,p4⟩:=kw.three
      obtain ⟨s1,s2,s3,s4⟩:=k2.three
      have HX:=hide hB2
      clear hB2 hB kw k2 q0 q1 q2 q3 q4 q5 q6
      go_wp2
      exact bodyPost_ret (v:=.tuple #[.agg #[.int .i64 0,.int .i64 0,.int .i64 0],.bool false]) (by simp [results,Tryz.results141,go_sem,s1,s2,s3]) rfl ⟨by rw [HV.out,hr.out],HX.out⟩
     ·have d':¬ (16:Int)<(en:Int):=by omega
      clear q0 q1 q2 q3 q4 q5 q6
      go_wp2
      go_roundw
      case rel=>exact ⟨k+1,by omega,by go_num,hide (HG.out (by omega)),hB,kw⟩
      case measure=>simp [intOf];omega
    ·have hkn:k=n:=by omega
     subst hkn
     have HT2:=hide (HT.out (tbf_good k ms (by omega) HJ.out))
     clear HT HTN HJ hk hlt
     unfold cutA cutB at HT2
     generalize dot s=p at *
     obtain ⟨p0,p1⟩:=hdot
     go_wp2_with (go_at_call 204;refine (HD.out _).mono ?_;rintro e w1 ⟨rfl,rfl⟩)
     go_loopw [8] (fun i wx=>∃ j:Nat,j≤k∧i=.int .i64 j∧Hid (fst? (mdNm ms) (s.extract 0 p.toNat).data.toList j=none)∧Below w.heap.size w wx∧Blk wx w.heap.size #[.int .i64 0,.int .i64 0,.int .i64 0] 72) (fun i _=>k - (intOf i).toNat)
     case atStart=>exact ⟨0,Nat.zero_le _,rfl,hide rfl,hB,kw⟩
     case round=>
      obtain ⟨j,hj,rfl,HJ,hBx,kx⟩:=hrel
      clear hB kw
      by_cases hlt:j<k
      ·have hlt':(j:Int)<(k:Int):=by omega
       obtain ⟨bb,off,rfl,q0,q1,q2,q3,q4,q5,q6,q7⟩:=(h.below hBx).at j hlt
       have HMS:=hide (fun e=>fst_miss (mdNm ms) (s.extract 0 p.toNat).data.toList HJ.out e)
       have HHT:=hide (fun e=>fst_hit (mdNm ms) (s.extract 0 p.toNat).data.toList HJ.out e hlt)
       obtain ⟨e1,e2⟩:=hE j hlt
       have e3:=e1.below hBx
       clear e1
       have HRS:=hide (fun i (h:rsT k ms s=some (j,i))=>rsv_some h)
       have HT3:=hide (show mdNm ms j=(s.extract 0 p.toNat).data.toList→rsT k ms s=(fst? (exNm (ms.getD j zMd).es) (s.extract (p+1).toNat s.size).data.toList (ms.getD j zMd).en).map (fun i=>(j,i)) from fun e=>by rw [HT2.out,HHT.out e];rfl)
       have HNM:=hide (show mdNm ms j=(ms.getD j zMd).nm.data.toList from rfl)
       clear HHT HJ
       generalize mdNm ms j=mj at *
       generalize ms.getD j zMd=m at *
       obtain ⟨nm,ta,tn,tc,tz,ba,bn,bc,bl,da,dn,dc,dz,bss,ra,rn,rc,rz,ia,im,ic,ss,ea,en,ec,es⟩:=m
       dsimp only at q0 q1 q2 q3 q4 q5 q6 q7 e2 e3 HRS HT3 HNM
       cases hq:(nm.toList == (s.extract 0 p.toNat).toList)
       ·have hne:=hide (show mj≠(s.extract 0 p.toNat).data.toList from fun e=>by
         rw [HNM.out] at e
         rw [ByteArray.toList_eq,ByteArray.toList_eq,e] at hq
         simp at hq)
        clear q1 q2 q3 q4 q5 q6 q7
        go_wp2_with fail
        go_quiet (fail)
        go_wp2
        go_roundw
        case rel=>exact ⟨j+1,by omega,by go_num,hide (HMS.out hne.out),below_drewN hBx nq,kx.below (below_drewN (Below.refl _ _) nq)⟩
        case measure=>simp [intOf];omega
       ·have HT4:=hide (HT3.out (by
         rw [HNM.out]
         rw [ByteArray.toList_eq,ByteArray.toList_eq] at hq
         simpa using hq))
        clear HT3 HT2 HMS HNM
        clear q1 q2 q3 q4 q5 q6
        go_wp2_with fail
        go_quiet (fail)
        have q7':(wr.drewN nq).cell? ⟨bb,off+j * 8+7,none⟩=some (.slice ea en ec):=((below_drewN (Below.refl wr.heap.size wr) nq).cell (World.block_lt_of_cell? wr _ q7)).trans q7
        have e4:=e3.below (below_drewN (Below.refl wr.heap.size wr) nq)
        have hB4:=below_drewN hBx nq
        have k4:=kx.below (below_drewN (Below.refl wr.heap.size wr) nq)
        clear q0 q7 e3 hBx kx
        generalize wr.drewN nq=w4 at *
        go_wp2
        go_loopw [9] (fun i wy=>∃ l:Nat,l≤en∧i=.int .i64 l∧Hid (fst? (exNm es) (s.extract (p+1).toNat s.size).data.toList l=none)∧Below w4.heap.size w4 wy) (fun i _=>en - (intOf i).toNat)
        case atStart=>exact ⟨0,Nat.zero_le _,rfl,hide rfl,Below.refl _ _⟩
        case round=>
         obtain ⟨l,hl,rfl,HL,hby⟩:=hrel
         have q7:wr.cell? ⟨bb,off+j * 8+7,none⟩=some (.slice ea en ec):=(hby.cell (World.block_lt_of_cell? w4 _ q7')).trans q7'
         have hB5:=hB4.trans (hby.mono hB4.size)
         have k5:=k4.below hby
         by_cases hln:l<en
         ·have hln':(l:Int)<(en:Int):=by omega
          have e5:=e4.below hby
          obtain ⟨eb,eo,rfl⟩:=e5.addr (by omega)
          obtain ⟨x0,x1,x2⟩:=e5.at l hln
          have HMS:=hide (fun e=>fst_miss (exNm es) (s.extract (p+1).toNat s.size).data.toList HL.out e)
          have HHT:=hide (fun e=>fst_hit (exNm es) (s.extract (p+1).toNat s.size).data.toList HL.out e hln)
          have HNM:=hide (show exNm es l=(es.getD l zE).1.data.toList from rfl)
          have HR2:=hide (HRS.out l)
          generalize exNm es l=xl at *
          generalize es.getD l zE=E at *
          obtain ⟨xn,xb,xa⟩:=E
          dsimp only at x0 x1 x2 HNM HR2
          have hbz:Below wr.heap.size wr (wr.alloc (.cells #[.string xn,.int .i64 xb,.int .i64 xa] 210)):=(Below.refl _ _).alloc (Nat.le_refl _) _
          have kE:=Blk.new wr #[.string xn,.int .i64 xb,.int .i64 xa] 210
          have k6:=k5.below hbz
          have hB6:=hB5.trans (hbz.mono hB5.size)
          have hby6:=hby.trans (hbz.mono hby.size)
          clear hB5 k5
          obtain ⟨z1,z2,z3,z4⟩:=kE.three
          cases hq2:(xn.toList == (s.extract (p+1).toNat s.size).toList)
          ·have hne:=hide (show xl≠(s.extract (p+1).toNat s.size).data.toList from fun e=>by
            rw [HNM.out] at e
            rw [ByteArray.toList_eq,ByteArray.toList_eq,e] at hq2
            simp at hq2)
           go_wp2_with fail
           go_quiet (fail)
           go_wp2
           go_roundw
           case rel=>exact ⟨l+1,by omega,by go_num,hide (HMS.out hne.out),below_drewN hby6 nq⟩
           case measure=>simp [intOf];omega
          ·have hr:=hide (HR2.out (by
            rw [HT4.out,HHT.out (by
             rw [HNM.out]
             rw [ByteArray.toList_eq,ByteArray.toList_eq] at hq2
             simpa using hq2)]
            rfl))
           go_wp2_with fail
           go_quiet (fail)
           have k7:=k6.below (below_drewN (Below.refl _ _) nq)
           have kE7:=kE.below (below_drewN (Below.refl _ _) nq)
           have hB7:=below_drewN hB6 nq
           generalize (wr.alloc (.cells #[.string xn,.int .i64 xb,.int .i64 xa] 210)).drewN nq=w7 at *
           clear z1 z2 z3 z4 k6 kE hB6 hby6 hbz
           obtain ⟨z1,z2,z3,z4⟩:=kE7.three
           obtain ⟨k8,hB8⟩:=FIN.out w7 j xb xa hB7 k7
           obtain ⟨g1,g2,g3,g4⟩:=k7.three
           obtain ⟨s1,s2,s3,s4⟩:=k8.three
           have HX:=hide hB8
           clear hB8 hB7 k7 k8 kE7
           go_wp2
           exact bodyPost_ret (v:=.tuple #[.agg #[.int .i64 j,.int .i64 xb,.int .i64 xa],.bool true]) (by simp [results,Tryz.results141,go_sem,s1,s2,s3]) rfl ⟨by rw [HV.out,hr.out],HX.out⟩
         ·have hle:l=en:=by omega
          subst hle
          have hr:=hide (rsv_none (n:=k) (ms:=ms) (s:=s) (by rw [HT4.out,HL.out];rfl))
          obtain ⟨k8,hB8⟩:=FIN.out wr 0 0 0 hB5 k5
          obtain ⟨g1,g2,g3,g4⟩:=k5.three
          obtain ⟨s1,s2,s3,s4⟩:=k8.three
          have HX:=hide hB8
          clear hB8 hB5 k5 k8
          go_wp2
          exact bodyPost_ret (v:=.tuple #[.agg #[.int .i64 0,.int .i64 0,.int .i64 0],.bool false]) (by simp [results,Tryz.results141,go_sem,s1,s2,s3]) rfl ⟨by rw [HV.out,hr.out],HX.out⟩
      ·have hjk:j=k:=by omega
       subst hjk
       have hr:=hide (rsv_none (n:=j) (ms:=ms) (s:=s) (by rw [HT2.out,HJ.out];rfl))
       obtain ⟨k8,hB8⟩:=FIN.out wr 0 0 0 hBx kx
       obtain ⟨g1,g2,g3,g4⟩:=kx.three
       obtain ⟨s1,s2,s3,s4⟩:=k8.three
       have HX:=hide hB8
       clear hB8 hBx kx k8
       go_wp2
       exact bodyPost_ret (v:=.tuple #[.agg #[.int .i64 0,.int .i64 0,.int .i64 0],.bool false]) (by simp [results,Tryz.results141,go_sem,s1,s2,s3]) rfl ⟨by rw [HV.out,hr.out],HX.out⟩
theorem fst_congr {f g:Nat→List UInt8} {s:List UInt8}:∀ k,(∀ i,i<k→f i=g i)→fst? f s k=fst? g s k
 | 0,_=>rfl
 | k+1,h=>by rw [fst_succ,fst_succ,fst_congr k (fun i hi=>h i (by omega)),h k (by omega)]
theorem all_congr_range {f g:Nat→Bool}:∀ n,(∀ i,i<n→f i=g i)→(List.range n).all f=(List.range n).all g
 | 0,_=>rfl
 | n+1,h=>by rw [List.range_succ,List.all_append,List.all_append,all_congr_range n (fun i hi=>h i (by omega))];simp [h n (by omega)]
def SameR (n:Nat) (ms ms':List Md):Prop:=∀ i,i<n→(ms'.getD i zMd).nm=(ms.getD i zMd).nm∧(ms'.getD i zMd).en=(ms.getD i zMd).en∧(ms'.getD i zMd).es=(ms.getD i zMd).es
theorem rsT_lt {n:Nat} {ms:List Md} {s:ByteArray} {i k:Nat} (h:rsT n ms s=some (i,k)):i<n:=by
 unfold rsT at h
 split at h
 ·cases hf:fst? (mdNm ms) (cutA s).data.toList n with
  | none=>rw [hf] at h;cases h
  | some j=>
    rw [hf] at h
    simp at h
    obtain ⟨k',h1,rfl,rfl⟩:=h
    exact fst_lt _ _ _ _ hf
 ·cases h
theorem rsT_congr {n:Nat} {ms ms':List Md} {s:ByteArray} (h:SameR n ms ms'):rsT n ms' s=rsT n ms s:=by
 unfold rsT
 have e1:tbf n ms'=tbf n ms:=by
  unfold tbf
  rw [all_congr_range n (fun i hi=>by rw [(h i hi).2.1])]
 have e2:fst? (mdNm ms') (cutA s).data.toList n=fst? (mdNm ms) (cutA s).data.toList n:=fst_congr n (fun i hi=>by unfold mdNm;rw [(h i hi).1])
 rw [e1,e2]
 cases hf:fst? (mdNm ms) (cutA s).data.toList n with
 | none=>rfl
 | some j=>
   obtain ⟨_,h2,h3⟩:=h j (fst_lt _ _ _ _ hf)
   simp only [Option.bind_some]
   rw [h2,h3]
theorem RowM.ms {W w:World} {c n cap:Nat} {a:Option Addr} {ms ms':List Md} (h:RowM W c n ms ms') (hl:ms'.length=n) (hm:MS w a n cap ms):MS W (some ⟨c,0,none⟩) n n ms':=by
 obtain ⟨_,_,hr⟩:=h
 refine ⟨hl,hm.2.1,fun _=>⟨c,0,rfl,fun i hi=>?_⟩,fun i hi=>copy_mt (hm.2.2.2.1 i hi) (hr i (by omega)).2,Nat.le_refl _⟩
 rw [Nat.zero_add]
 exact (hr i (by omega)).1
end Go.Proofs.YtngdgogjlpjjpadGreat
namespace Go.Proofs.YtngdgogjlpjjpadGreat
open Go.RowKit
set_option linter.unusedVariables false
set_option linter.unusedSimpArgs false
set_option maxRecDepth 100000
def Md.pm (m:Md):PMod:=⟨m.nm,m.tz,m.bl.map (fun B=>B.2.2.2),m.dz,m.bss,m.rz,m.ss,m.es⟩
def zP:PMod:=⟨⟨#[]⟩,[],[],[],0,[],[],[]⟩
def dm (P:PMod):Md:=⟨P.nm,none,P.tz.length,P.tz.length,P.tz,none,P.bl.length,P.bl.length,bkOf P.bl,none,P.dz.length,P.dz.length,P.dz,P.bss,none,P.rz.length,P.rz.length,P.rz,none,P.ss.length,P.ss.length,P.ss,none,P.es.length,P.es.length,P.es⟩
def Md.md (m:Md) (w:World):Prop:=MD w m.nm m.ta m.tn m.tc m.tz m.ba m.bn m.bc m.bl m.da m.dn m.dc m.dz m.bss m.ra m.rn m.rc m.rz m.ia m.im m.ic m.ss m.ea m.en m.ec m.es
theorem md_mdo {m:Md} {w:World} (h:m.md w):mdo m.nm m.tn m.tz m.bn m.bl m.dn m.bss m.rn m.rz m.im m.ss m.en m.es=mdoP m.pm:=by
 have hb:=h.b.1
 have e:m.pm.bl.length=m.bn:=by simp [Md.pm,hb]
 unfold mdoP
 rw [show m.pm.tz.length=m.tn from h.t.1,show m.pm.dz.length=m.dn from h.d.1,show m.pm.rz.length=m.rn from h.r.1,show m.pm.ss.length=m.im from h.i.1,show m.pm.es.length=m.en from h.e.1,e,← hb]
 refine mdo_bks (by rw [hb];simp [bkOf,e]) (fun i hi=>?_)
 have hr:=(h.b.2.2.2.1 i (by omega)).1
 have e2:(bkOf m.pm.bl).getD i zB=(none,(m.bl.getD i zB).2.2.2.length,(m.bl.getD i zB).2.2.2.length,(m.bl.getD i zB).2.2.2):=by
  simp [bkOf,Md.pm,List.getD_eq_getElem?_getD,hi]
 rw [e2]
 exact ⟨hr.symm,rfl⟩
abbrev Tg:=Int × Int × Int
def tgOf (ps:List PMod) (s:ByteArray):Option Tg:=(rsT ps.length (ps.map dm) s).map fun x=>((x.1:Int),((ps.getD x.1 zP).es.getD x.2 zE).2.1,((ps.getD x.1 zP).es.getD x.2 zE).2.2)
def tgV:Option Tg→Value
 | some t=>.tuple #[.agg #[.int .i64 t.1,.int .i64 t.2.1,.int .i64 t.2.2],.bool true]
 | none=>.tuple #[.agg #[.int .i64 0,.int .i64 0,.int .i64 0],.bool false]
theorem getD_map {α β:Type} (f:α→β) (l:List α) (i:Nat) (a:α) (b:β) (h:i<l.length):(l.map f).getD i b=f (l.getD i a):=by
 simp [List.getD_eq_getElem?_getD,h]
theorem rsv_tg {n:Nat} {ms:List Md} {s:ByteArray} (hl:ms.length=n) (he:∀ i,i<n→(ms.getD i zMd).es.length=(ms.getD i zMd).en):rsv n ms s=tgV (tgOf (ms.map Md.pm) s):=by
 have hr:rsT (ms.map Md.pm).length ((ms.map Md.pm).map dm) s=rsT n ms s:=by
  rw [List.length_map,hl]
  refine rsT_congr (fun i hi=>?_)
  rw [List.map_map,getD_map _ _ _ zMd _ (by omega)]
  exact ⟨rfl,by rw [← he i hi];rfl,rfl⟩
 unfold tgOf rsv
 rw [hr]
 cases e:rsT n ms s with
 | none=>rfl
 | some x=>
   obtain ⟨i,k⟩:=x
   have hi:=rsT_lt e
   have hg:(ms.map Md.pm).getD i zP=(ms.getD i zMd).pm:=getD_map _ _ _ zMd _ (by omega)
   simp only [Option.map_some,tgV,hg]
   rfl
def zT:Tg:=(0,0,0)
abbrev tgOk (ps:List PMod) (P:PMod):Prop:=∀ i,i<P.ss.length→(tgOf ps (P.ss.getD i zS)).isSome=true
def tgs (ps:List PMod) (P:PMod):List Tg:=(List.range P.ss.length).map fun i=>(tgOf ps (P.ss.getD i zS)).getD zT
def rnd (x:Int):Int:=(x+31) / 32 * 32
def fsum (P:PMod):Nat→Int
 | 0=>0
 | k+1=>fsum P k+rnd (4 * ((P.bl.getD k []).length:Int))
def tsz (P:PMod):Int:=rnd (4 * (P.tz.length:Int))
def msz (P:PMod):Int:=tsz P+fsum P P.bl.length
def dsz (P:PMod):Int:=rnd ((P.dz.length:Int)+P.bss)
def Fl (ps:List PMod):Nat→Int
 | 0=>0
 | i+1=>Fl ps i+msz (ps.getD i zP)
def Ra (ps:List PMod):Nat→Int
 | 0=>0
 | i+1=>Ra ps i+dsz (ps.getD i zP)
structure Pl where
 text:Int
 banks:List Int
 data:Int
 size:Int
def plc (ps:List PMod) (i:Nat):Pl:=⟨Fl ps i,(List.range (ps.getD i zP).bl.length).map fun k=>Fl ps i+tsz (ps.getD i zP)+fsum (ps.getD i zP) k,65536+Ra ps i,dsz (ps.getD i zP)⟩
structure Lay where
 places:List Pl
 stack:Int
 slots:List Int
 flash:Int
 ram:Int
 targets:List (List Tg)
def slt (ps:List PMod) (w k:Int) (i:Nat):Int:=65536+Ra ps ps.length+k+(i:Int) * rnd (4 * w)
def lay (ps:List PMod) (s w k:Int):Lay:=⟨(List.range ps.length).map (plc ps),65536+Ra ps ps.length,(List.range s.toNat).map (slt ps w k),Fl ps ps.length,Ra ps ps.length+k+(s.toNat:Int) * rnd (4 * w),(List.range ps.length).map fun i=>tgs ps (ps.getD i zP)⟩
abbrev vlds (ps:List PMod):Prop:=∀ i,i<ps.length→mdoP (ps.getD i zP)=0
abbrev nms (ps:List PMod):Prop:=∀ i,i<ps.length→∀ k,k<i→(ps.getD k zP).nm≠(ps.getD i zP).nm
abbrev imps (ps:List PMod):Prop:=∀ i,i<ps.length→tgOk ps (ps.getD i zP)
abbrev shrt (ps:List PMod) (w:Int):Prop:=∀ i,i<ps.length→∀ k,k<(ps.getD i zP).bl.length→(((ps.getD i zP).bl.getD k []).length:Int)≤w
def snd4 (ps:List PMod) (s w k d:Int):Int:=
 if cfo s w k d=false then 1 else if ps.length<1∨4<ps.length then 2 else if ¬ vlds ps then 3 else if ¬ nms ps then 4 else 0
def lkc (ps:List PMod) (s w k d:Int):Int:=
 if snd4 ps s w k d≠0 then snd4 ps s w k d else if ¬ imps ps then 5 else if 0<s∧¬ shrt ps w then 6 else if 16384<(lay ps s w k).flash then 7 else if 16384<(lay ps s w k).ram then 8 else 0
structure MSD (w:World) (a:Option Addr) (n cap:Nat) (ms:List Md):Prop where
 s:MS w a n cap ms
 d:∀ i,i<n→(ms.getD i zMd).md w
theorem MSD.below {w w':World} {a:Option Addr} {n cap:Nat} {ms:List Md} (h:MSD w a n cap ms) (hb:Below w.heap.size w w'):MSD w' a n cap ms:=⟨h.s.below hb,fun i hi=>MD.below (h.d i hi) hb⟩
def pmS (ms:List Md):List PMod:=ms.map Md.pm
theorem pmS_len (ms:List Md):(pmS ms).length=ms.length:=by simp [pmS]
theorem pmS_at {ms:List Md} {i:Nat} (h:i<ms.length):(pmS ms).getD i zP=(ms.getD i zMd).pm:=getD_map _ _ _ zMd _ h
def L0:Lay:=⟨[],0,[],0,0,[]⟩
def lkL (ps:List PMod) (s w k d:Int):Lay:=if lkc ps s w k d=0 then lay ps s w k else L0
theorem snd4_1 {ps:List PMod} {s w k d:Int} (h:cfo s w k d=false):snd4 ps s w k d=1:=if_pos h
theorem snd4_2 {ps:List PMod} {s w k d:Int} (h:cfo s w k d=true) (h2:ps.length<1∨4<ps.length):snd4 ps s w k d=2:=by
 unfold snd4;rw [if_neg (by rw [h];decide),if_pos h2]
theorem snd4_3 {ps:List PMod} {s w k d:Int} (h:cfo s w k d=true) (h2:¬ (ps.length<1∨4<ps.length)) (i:Nat) (hi:i<ps.length) (h3:mdoP (ps.getD i zP)≠0):snd4 ps s w k d=3:=by
 unfold snd4;rw [if_neg (by rw [h];decide),if_neg h2,if_pos (fun v=>h3 (v i hi))]
theorem snd4_4 {ps:List PMod} {s w k d:Int} (h:cfo s w k d=true) (h2:¬ (ps.length<1∨4<ps.length)) (h3:vlds ps) (i j:Nat) (hi:i<ps.length) (hj:j<i) (h4:(ps.getD j zP).nm=(ps.getD i zP).nm):snd4 ps s w k d=4:=by
 unfold snd4;rw [if_neg (by rw [h];decide),if_neg h2,if_neg (fun v=>v h3),if_pos (fun v=>v i hi j hj h4)]
theorem snd4_0 {ps:List PMod} {s w k d:Int} (h:cfo s w k d=true) (h2:¬ (ps.length<1∨4<ps.length)) (h3:vlds ps) (h4:nms ps):snd4 ps s w k d=0:=by
 unfold snd4;rw [if_neg (by rw [h];decide),if_neg h2,if_neg (fun v=>v h3),if_neg (fun v=>v h4)]
theorem below_dN {B:Nat} {a W:World} (h:Below B a W) (n:Nat):Below B a (W.drewN n):=⟨h.os,h.tape,h.output,h.size,h.block⟩
theorem str_ne {a b:ByteArray} (h:a≠b):(a.toList == b.toList)=false:=by
 rw [beq_eq_false_iff_ne]
 intro e
 apply h
 rw [ByteArray.toList_eq,ByteArray.toList_eq] at e
 cases a
 cases b
 simp at e
 rw [e]
set_option maxHeartbeats 1000000 in
theorem l5Round_any (x:Int) (w:World) (h0:0≤x) (h1:x≤4294967295):Calls Tryz.prog 142 #[.int .i64 x] w fun e w'=>e=.returned (.int .i64 (rnd x))∧w'=w:=by
 have hd:(x+31).tdiv 32=(x+31) / 32:=Int.tdiv_eq_ediv_of_nonneg (by omega)
 go_enter Tryz.func142,Tryz.ntmps142
 go_wp2
 go_ret
 exact ⟨ret_int (by unfold rnd;rw [show x+31=x+32 - 1 by omega]),rfl⟩
theorem Md.okS {m:Md} {w:World} (h:m.md w):Calls Tryz.prog 140 #[.agg #[.string m.nm,.slice m.ta m.tn m.tc,.slice m.ba m.bn m.bc,.slice m.da m.dn m.dc,.int .i64 m.bss,.slice m.ra m.rn m.rc,.slice m.ia m.im m.ic,.slice m.ea m.en m.ec]] w fun e w'=>e=.returned (.int .i64 (mdoP m.pm))∧Below w.heap.size w w':=by
 have:=sModuleOk_any _ _ _ _ _ _ _ _ _ _ _ _ _ _ _ _ _ _ _ _ _ _ _ _ _ _ w h
 rw [md_mdo h] at this
 exact this
set_option maxHeartbeats 4000000 in
theorem l5Sound_any (a:Option Addr) (n cap:Nat) (ms:List Md) (s c k d:Int) (w:World) (h:MSD w a n cap ms):
 Calls Tryz.prog 54 #[.slice a n cap,.agg #[.int .i64 s,.int .i64 c,.int .i64 k,.int .i64 d]] w fun e w'=>e=.returned (.int .i64 (snd4 (pmS ms) s c k d))∧Below w.heap.size w w':=by
 have hA:Below w.heap.size w (w.alloc (.cells #[.int .i64 s,.int .i64 c,.int .i64 k,.int .i64 d] 25)):=(Below.refl _ _).alloc (Nat.le_refl _) _
 have hl:=h.s.1
 have hm1:=h.s.2.1
 unfold maxLen at hm1
 have hpl:=pmS_len ms
 have HH:=hide h
 have HC:=hide (fun W=>sConfigOk_any s c k d W)
 clear h
 go_enter Tryz.func54,Tryz.ntmps54
 go_wp2_with fail
 refine (HC.out _).mono ?_
 rintro e w1 ⟨rfl,hb1⟩
 have HB1:=hide (hA.trans (hb1.mono (by simp)))
 clear hA hb1 HC
 cases hcf:cfo s c k d with
 | false=>
   have HS:=hide (snd4_1 (ps:=pmS ms) hcf)
   go_wp2
   go_ret
   exact ⟨ret_int HS.out.symm,HB1.out⟩
 | true=>
   by_cases hn2:n<1∨4<n
   ·have HS:=hide (snd4_2 (ps:=pmS ms) hcf (by omega))
    by_cases hn1:n<1
    ·have hn1':(n:Int)<1:=by omega
     clear hn2
     go_wp2
     go_ret
     exact ⟨ret_int HS.out.symm,HB1.out⟩
    ·have hn1':¬ (n:Int)<1:=by omega
     have hn4':(4:Int)<(n:Int):=by omega
     clear hn2
     go_wp2
     go_ret
     exact ⟨ret_int HS.out.symm,HB1.out⟩
   have hn1':¬ (n:Int)<1:=by omega
   have hn4':¬ (4:Int)<(n:Int):=by omega
   have HN2:=hide (show ¬ ((pmS ms).length<1∨4<(pmS ms).length) by rw [hpl,hl];exact hn2)
   clear hn2
   go_wp2
   go_loopw [5] (fun i wr=>∃ m:Nat,m≤n∧i=.int .i64 m∧(∀ j,j<m→mdoP ((pmS ms).getD j zP)=0)∧Below w.heap.size w wr) (fun i _=>n - (intOf i).toNat)
   case atStart=>exact ⟨0,Nat.zero_le _,rfl,fun j hj=>absurd hj (by omega),HB1.out⟩
   case round=>
    obtain ⟨m,hm,rfl,hv,B⟩:=hrel
    by_cases hlt:m<n
    ·have hlt':(m:Int)<(n:Int):=by omega
     have H:=HH.out.below B
     obtain ⟨b,off,rfl,q0,q1,q2,q3,q4,q5,q6,q7⟩:=H.s.at m hlt
     have HOK:=hide (Md.okS (H.d m hlt))
     rw [← pmS_at (by omega)] at HOK
     have HV:=hide hv
     have HB:=hide B
     obtain ⟨V,hV⟩:∃ V,V=mdoP ((pmS ms).getD m zP):=⟨_,rfl⟩
     rw [← hV] at HOK
     have HVV:=hide hV
     generalize ms.getD m zMd=M at *
     clear hv B H hV
     go_wp2_with fail
     refine HOK.out.mono ?_
     rintro e w2 ⟨rfl,hb2⟩
     have HB2:=hide (HB.out.trans (hb2.mono HB.out.size))
     clear hb2 HOK HB q0 q1 q2 q3 q4 q5 q6 q7
     by_cases hz:V=0
     ·subst hz
      have HV2:=hide (show ∀ j,j<m+1→mdoP ((pmS ms).getD j zP)=0 from fun j hj=>by
       by_cases e:j=m
       ·subst e;exact HVV.out.symm
       ·exact HV.out j (by omega))
      go_wp2
      go_roundw
      case rel=>exact ⟨m+1,by omega,by go_num,HV2.out,HB2.out⟩
      case measure=>simp [intOf];omega
     ·have hz':(V != 0)=true:=by simp [hz]
      have HS:=hide (snd4_3 (ps:=pmS ms) hcf HN2.out m (by omega) (by rw [← HVV.out];exact hz))
      go_wp2
      go_ret
      exact ⟨ret_int HS.out.symm,HB2.out⟩
    ·have hlt':¬ (m:Int)<(n:Int):=by omega
     have HV:=hide (show vlds (pmS ms) from fun i hi=>hv i (by omega))
     have HB:=hide B
     clear hv B
     go_wp2
     go_loopw [6] (fun i wr=>∃ m:Nat,m≤n∧i=.int .i64 m∧(∀ i,i<m→∀ k,k<i→((pmS ms).getD k zP).nm≠((pmS ms).getD i zP).nm)∧Below w.heap.size w wr) (fun i _=>n - (intOf i).toNat)
     case atStart=>exact ⟨0,Nat.zero_le _,rfl,fun j hj=>absurd hj (by omega),HB.out⟩
     case round=>
      obtain ⟨p,hp,rfl,hv,B⟩:=hrel
      by_cases hlt2:p<n
      ·have hlt2':(p:Int)<(n:Int):=by omega
       have HP:=hide hv
       have HB3:=hide B
       clear hv B
       go_wp2
       go_loopw [7] (fun i wr=>∃ q:Nat,q≤p∧i=.int .i64 q∧(∀ k,k<q→((pmS ms).getD k zP).nm≠((pmS ms).getD p zP).nm)∧Below w.heap.size w wr) (fun i _=>p - (intOf i).toNat)
       case atStart=>exact ⟨0,Nat.zero_le _,rfl,fun j hj=>absurd hj (by omega),HB3.out⟩
       case round=>
        obtain ⟨q,hq,rfl,hv,B⟩:=hrel
        by_cases hlt3:q<p
        ·have hlt3':(q:Int)<(p:Int):=by omega
         have hqn:(q:Int)<(n:Int):=by omega
         have H:=HH.out.below B
         obtain ⟨b,off,rfl,q0,_⟩:=H.s.at q (by omega)
         obtain ⟨b',off',e',r0,_⟩:=H.s.at p hlt2
         simp at e'
         obtain ⟨rfl,rfl⟩:=e'
         have e1:((pmS ms).getD q zP).nm=(ms.getD q zMd).nm:=by rw [pmS_at (by omega)];rfl
         have e2:((pmS ms).getD p zP).nm=(ms.getD p zMd).nm:=by rw [pmS_at (by omega)];rfl
         have HQ:=hide hv
         have HB4:=hide B
         by_cases hnm:(ms.getD q zMd).nm=(ms.getD p zMd).nm
         ·have HS:=hide (snd4_4 (ps:=pmS ms) hcf HN2.out HV.out p q (by omega) hlt3 (by rw [e1,e2];exact hnm))
          rw [hnm] at q0
          have heq:((ms.getD p zMd).nm.toList == (ms.getD p zMd).nm.toList)=true:=by simp
          generalize ms.getD p zMd=M at *
          clear hv B H e1 e2 hnm
          go_wp2_with fail
          go_quiet (fail)
          go_wp2
          go_ret
          exact ⟨ret_int HS.out.symm,below_dN HB4.out nq⟩
         ·have hne:=str_ne hnm
          have HQ2:=hide (show ∀ k,k<q+1→((pmS ms).getD k zP).nm≠((pmS ms).getD p zP).nm from fun k hk=>by
           by_cases e:k=q
           ·subst e;rw [e1,e2];exact hnm
           ·exact HQ.out k (by omega))
          generalize (ms.getD p zMd).nm=N1 at *
          generalize (ms.getD q zMd).nm=N2 at *
          clear hv B H e1 e2 hnm
          go_wp2_with fail
          go_quiet (fail)
          go_wp2
          go_roundw
          case rel=>exact ⟨q+1,by omega,by go_num,HQ2.out,below_dN HB4.out nq⟩
          case measure=>simp [intOf];omega
        ·have hlt3':¬ (q:Int)<(p:Int):=by omega
         have HQ2:=hide (show ∀ i,i<p+1→∀ k,k<i→((pmS ms).getD k zP).nm≠((pmS ms).getD i zP).nm from fun i hi k hk=>by
          by_cases e:i=p
          ·subst e;exact hv k (by omega)
          ·exact HP.out i (by omega) k hk)
         have HB4:=hide B
         clear hv B
         go_wp2
         go_roundw
         case rel=>exact ⟨p+1,by omega,by go_num,HQ2.out,HB4.out⟩
         case measure=>simp [intOf];omega
      ·have hlt2':¬ (p:Int)<(n:Int):=by omega
       have HS:=hide (snd4_0 (ps:=pmS ms) hcf HN2.out HV.out (fun i hi k hk=>hv i (by omega) k hk))
       have HB3:=hide B
       clear hv B
       go_wp2
       go_ret
       exact ⟨ret_int HS.out.symm,HB3.out⟩
def clG (t:Tg):List Value:=[.int .i64 t.1,.int .i64 t.2.1,.int .i64 t.2.2]
theorem infoG:(Tryz.prog.info? 72).map (fun i=>(i.zero,i.size,i.bytes))=some (some (.agg #[.int .i64 0,.int .i64 0,.int .i64 0]),3,24):=by kernel_rfl
theorem og_new' {α:Type} (t:TypeId) (sz:Nat) (f:α→List Value) (w:World) (base:Nat) (hb:base≤w.heap.size):OG t sz f (w.alloc (.cells #[] t)) base (.slice (some ⟨w.heap.size,0,none⟩) 0 0) []:=
 ⟨by simp,.inr ⟨w.heap.size,0,#[],rfl,hb,heap_alloc_new w _,Nat.le_refl _,by unfold maxLen;omega,by simp,by simp⟩⟩
theorem below_gr {a W W':World} {row:Option Nat} (h:Below a.heap.size a W) (hg:W.grownBy W' row) (hr:∀ k,row=some k→a.heap.size≤k):Below a.heap.size a W':=
 below_turn h ⟨hg.os,hg.tape,hg.output,hg.size,fun j hj (hs:¬ row=some j)=>hg.block j hj (fun e=>hs e.symm)⟩ hr h.size
theorem blk_grown {W W':World} {row:Option Nat} {k:Nat} {cs:Array Value} {t:TypeId} (h:Blk W k cs t) (hg:W.grownBy W' row) (hr:some k≠row):Blk W' k cs t:=
 turn_blk (S:=fun j=>row=some j) ⟨hg.os,hg.tape,hg.output,hg.size,fun j hj hs=>hg.block j hj (fun e=>hs e.symm)⟩ h (fun e=>hr e.symm)
def tgN (ps:List PMod) (P:PMod) (m:Nat):List Tg:=(List.range m).map fun i=>(tgOf ps (P.ss.getD i zS)).getD zT
theorem tgN_len (ps:List PMod) (P:PMod) (m:Nat):(tgN ps P m).length=m:=by simp [tgN]
theorem tgN_succ (ps:List PMod) (P:PMod) (m:Nat) {t:Tg} (h:tgOf ps (P.ss.getD m zS)=some t):tgN ps P (m+1)=tgN ps P m++[t]:=by
 simp only [tgN,List.range_succ,List.map_append,List.map_cons,List.map_nil,h,Option.getD_some]
theorem tgN_all (ps:List PMod) (P:PMod):tgN ps P P.ss.length=tgs ps P:=rfl
theorem vld_en {P:PMod} (h:mdoP P=0):P.es.length≤16∧P.ss.length≤16∧P.tz.length≤200∧P.bl.length≤4∧P.dz.length≤512∧0≤P.bss∧P.bss≤512∧∀ k,k<P.bl.length→(P.bl.getD k []).length≤64:=by
 unfold mdoP at h
 have V:=vm_of_mdo (by simp [bkOf]) h
 refine ⟨V.e,V.i,V.t,V.b,V.d,V.s.1,V.s.2,fun k hk=>?_⟩
 have:=(V.bw k (by simp [bkOf];exact hk)).1
 simpa [bkOf,List.getD_eq_getElem?_getD,hk] using this
theorem MSD.es {w:World} {a:Option Addr} {n cap:Nat} {ms:List Md} (h:MSD w a n cap ms) (hv:vlds (pmS ms)):∀ i,i<n→ES w (ms.getD i zMd).ea (ms.getD i zMd).en (ms.getD i zMd).ec (ms.getD i zMd).es∧(ms.getD i zMd).en≤1048576:=fun i hi=>by
 have hl:=h.s.1
 have e:=(h.d i hi).e
 refine ⟨e,?_⟩
 have h1:=(vld_en (hv i (by rw [pmS_len];omega))).1
 rw [pmS_at (by omega)] at h1
 have h2:(ms.getD i zMd).pm.es.length=(ms.getD i zMd).en:=e.1
 omega
theorem MSD.resS {w:World} {a:Option Addr} {n cap:Nat} {ms:List Md} (h:MSD w a n cap ms) (hv:vlds (pmS ms)) (hn:n≤4) (s:ByteArray) (hs:s.size≤1048576):Calls Tryz.prog 141 #[.slice a n cap,.string s] w fun e w'=>e=.returned (tgV (tgOf (pmS ms) s))∧Below w.heap.size w w':=by
 have:=sResolve_any a n cap ms s w h.s (by omega) hs (h.es hv)
 rw [rsv_tg h.s.1 (fun i hi=>(h.d i hi).e.1)] at this
 exact this
theorem MSD.resI {w:World} {a:Option Addr} {n cap:Nat} {ms:List Md} (h:MSD w a n cap ms) (hv:vlds (pmS ms)) (hn:n≤4) (s:ByteArray) (hs:s.size≤1048576):Calls Tryz.prog 146 #[.slice a n cap,.string s] w fun e w'=>e=.returned (tgV (tgOf (pmS ms) s))∧Below w.heap.size w w':=by
 have:=iResolve_any a n cap ms s w h.s (by omega) hs (h.es hv)
 rw [rsv_tg h.s.1 (fun i hi=>(h.d i hi).e.1)] at this
 exact this
set_option maxHeartbeats 4000000 in
theorem l5Targets_any (a:Option Addr) (n cap:Nat) (ms:List Md) (M:Md) (w:World) (h:MSD w a n cap ms) (hv:vlds (pmS ms)) (hn:n≤4) (hM:M.md w) (hok:mdoP M.pm=0):
 Calls Tryz.prog 55 #[.slice a n cap,.agg #[.string M.nm,.slice M.ta M.tn M.tc,.slice M.ba M.bn M.bc,.slice M.da M.dn M.dc,.int .i64 M.bss,.slice M.ra M.rn M.rc,.slice M.ia M.im M.ic,.slice M.ea M.en M.ec]] w fun e w'=>Below w.heap.size w w'∧((¬ tgOk (pmS ms) M.pm∧∃ v,e=.returned (.tuple #[v,.bool false]))∨(tgOk (pmS ms) M.pm∧∃ a c,e=.returned (.tuple #[.slice a (tgs (pmS ms) M.pm).length c,.bool true])∧OG 72 3 clG w' w.heap.size (.slice a (tgs (pmS ms) M.pm).length c) (tgs (pmS ms) M.pm))):=by
 obtain ⟨iG,hi,hz0,hz1,hz2⟩:=info_parts infoG
 have hA:Below w.heap.size w (w.alloc (.cells #[.string M.nm,.slice M.ta M.tn M.tc,.slice M.ba M.bn M.bc,.slice M.da M.dn M.dc,.int .i64 M.bss,.slice M.ra M.rn M.rc,.slice M.ia M.im M.ic,.slice M.ea M.en M.ec] 49)):=(Below.refl _ _).alloc (Nat.le_refl _) _
 have k0:=Blk.new w #[.string M.nm,.slice M.ta M.tn M.tc,.slice M.ba M.bn M.bc,.slice M.da M.dn M.dc,.int .i64 M.bss,.slice M.ra M.rn M.rc,.slice M.ia M.im M.ic,.slice M.ea M.en M.ec] 49
 have him:M.im≤16:=by have h1:=(vld_en hok).2.1;have h2:M.pm.ss.length=M.im:=hM.i.1;omega
 have hil:M.pm.ss.length=M.im:=hM.i.1
 have HS:=hide (fun (W:World) (hb:Below w.heap.size w W) (s:ByteArray) (hs:s.size≤1048576)=>(h.below hb).resS hv hn s hs)
 have HI:=hide hM.i
 have O0:=og_new' 72 3 clG (w.alloc (.cells #[.string M.nm,.slice M.ta M.tn M.tc,.slice M.ba M.bn M.bc,.slice M.da M.dn M.dc,.int .i64 M.bss,.slice M.ra M.rn M.rc,.slice M.ia M.im M.ic,.slice M.ea M.en M.ec] 49)) w.heap.size hA.size
 have hA2:=hA.trans (((Below.refl _ (w.alloc (.cells #[.string M.nm,.slice M.ta M.tn M.tc,.slice M.ba M.bn M.bc,.slice M.da M.dn M.dc,.int .i64 M.bss,.slice M.ra M.rn M.rc,.slice M.ia M.im M.ic,.slice M.ea M.en M.ec] 49))).alloc (Nat.le_refl _) (.cells #[] 72)).mono hA.size)
 have k1:=k0.alloc (.cells #[] 72)
 simp only [World.size_alloc] at O0
 have HP:=hide (And.intro O0 (And.intro hA2 k1))
 clear O0 hA hA2 k0 k1 h hM hok
 go_enter Tryz.func55,Tryz.ntmps55
 go_wp2_with fail
 go_loopw [6,7] (fun x i wr=>∃ m:Nat,m≤M.im∧i=.int .i64 m∧(∀ j,j<m→(tgOf (pmS ms) (M.pm.ss.getD j zS)).isSome=true)∧OG 72 3 clG wr w.heap.size x (tgN (pmS ms) M.pm m)∧Below w.heap.size w wr∧Blk wr w.heap.size #[.string M.nm,.slice M.ta M.tn M.tc,.slice M.ba M.bn M.bc,.slice M.da M.dn M.dc,.int .i64 M.bss,.slice M.ra M.rn M.rc,.slice M.ia M.im M.ic,.slice M.ea M.en M.ec] 49) (fun _ i _=>M.im - (intOf i).toNat)
 case atStart=>exact ⟨0,Nat.zero_le _,rfl,fun j hj=>absurd hj (by omega),HP.out.1,HP.out.2.1,HP.out.2.2⟩
 case round=>
  clear HP
  obtain ⟨m,hm,rfl,hs,O,B,k⟩:=hrel
  have q6:wr.cell? ⟨w.heap.size,6,none⟩=some (.slice M.ia M.im M.ic):=k.cell 6
  obtain ⟨a',c',rfl⟩:=og_shape O
  rw [tgN_len] at *
  by_cases hlt:m<M.im
  ·have hlt':(m:Int)<(M.im:Int):=by omega
   obtain ⟨_,_,hsz,hcs,_⟩:=HI.out
   obtain ⟨b,off,hia,hc⟩:=hcs (by omega)
   have c0:=((B.cell (World.block_lt_of_cell? w _ (hc m hlt))).trans (hc m hlt))
   have hss:(M.ss.getD m zS).size≤1048576:=hsz _ (by have:=HI.out.1;simp [List.getD_eq_getElem?_getD,show m<M.ss.length by omega])
   have HR:=hide (HS.out wr B (M.ss.getD m zS) hss)
   rw [hia] at q6
   clear hia
   have HQ:=hide (And.intro O (And.intro B k))
   have HSS:=hide hs
   have HTS:=hide (fun t (h:tgOf (pmS ms) (M.ss.getD m zS)=some t)=>tgN_succ (ps:=pmS ms) (P:=M.pm) m h)
   have HBAD:=hide (fun (h:tgOf (pmS ms) (M.ss.getD m zS)=none)=>(show ¬ tgOk (pmS ms) M.pm from fun hk=>by have:=hk m (by rw [hil];exact hlt);rw [show M.pm.ss.getD m zS=M.ss.getD m zS from rfl,h] at this;cases this))
   have HGO:=hide (fun t (h:tgOf (pmS ms) (M.ss.getD m zS)=some t)=>(show ∀ j,j<m+1→(tgOf (pmS ms) (M.pm.ss.getD j zS)).isSome=true from fun j hj=>by
    by_cases e:j=m
    ·subst e;rw [show M.pm.ss.getD j zS=M.ss.getD j zS from rfl,h];rfl
    ·exact HSS.out j (by omega)))
   generalize M.ss.getD m zS=str at *
   clear O B k hs hc hsz hcs HI HSS
   go_wp2_with fail
   refine HR.out.mono ?_
   rintro e w1 ⟨rfl,hb1⟩
   obtain ⟨O,B,k⟩:=HQ.out
   have B1:=B.trans (hb1.mono B.size)
   cases ho:tgOf (pmS ms) str with
   | none=>
     have HF:=hide (And.intro (B1.trans (((Below.refl _ w1).alloc (Nat.le_refl _) (.cells #[.int .i64 0,.int .i64 0,.int .i64 0] 72)).mono B1.size)) (HBAD.out ho))
     clear O B k hb1 B1 HQ HR HTS HBAD HGO q6 c0
     unfold tgV
     go_wp2
     go_ret2
     exact ⟨HF.out.1,.inl ⟨HF.out.2,_,rfl⟩⟩
   | some t=>
     obtain ⟨t1,t2,t3⟩:=t
     have al1:Below w1.heap.size w1 (w1.alloc (.cells #[.int .i64 t1,.int .i64 t2,.int .i64 t3] 72)):=(Below.refl _ _).alloc (Nat.le_refl _) _
     have hs1:(w1.alloc (.cells #[.int .i64 t1,.int .i64 t2,.int .i64 t3] 72)).heap.size=w1.heap.size+1:=by simp
     have k1:=Blk.new w1 #[.int .i64 t1,.int .i64 t2,.int .i64 t3] 72
     have O2:=(O.below hb1).below al1
     have B2:=B1.trans (al1.mono B1.size)
     have kk2:=(k.below hb1).below al1
     have HT2:=hide (HTS.out _ ho)
     have HG2:=hide (HGO.out _ ho)
     obtain ⟨x0,x1,x2,_⟩:=k1.three
     clear O B k hb1 B1 HQ HR HTS HBAD HGO q6 c0 al1
     generalize hW1:w1.alloc (.cells #[.int .i64 t1,.int .i64 t2,.int .i64 t3] 72)=W1 at *
     have HOW:=hide (show (W1.alloc (.cells #[.int .i64 t1,.int .i64 t2,.int .i64 t3] 72)).ownsRow w.heap.size 72 3 (.slice a' m c') m ((tgN (pmS ms) M.pm m).flatMap clG) by have:=O2.below ((Below.refl _ _).alloc (Nat.le_refl _) (.cells #[.int .i64 t1,.int .i64 t2,.int .i64 t3] 72));unfold OG at this;rw [tgN_len] at this;exact this)
     have HX:=hide (And.intro O2 (And.intro B2 kk2))
     have hsB:=B2.size
     rw [← hW1] at x0 x1 x2
     have HW1:=hide hW1
     clear O2 B2 kk2 k1 hW1
     unfold tgV
     go_wp2_with (at_builtin;rw [HW1.out];refine wpList_append_own _ rfl _ _ 97 rfl w.heap.size 72 iG (.agg #[.int .i64 0,.int .i64 0,.int .i64 0]) 3 24 Tryz.underlying97 hi hz0 hz1 hz2 rfl (by decide) (.slice a' m c') m ((tgN (pmS ms) M.pm m).flatMap clG) rfl HOW.out ⟨w1.heap.size+1,0,none⟩ 1 1 (clG (t1,t2,t3)) rfl rfl (by rw [← hs1];exact cells_new W1 _ _ (clG (t1,t2,t3)) rfl) (by intro u hu;simp [clG] at hu;rcases hu with rfl | rfl | rfl <;> rfl) (by unfold maxLen;omega) (by omega) (by simp;omega) ?_;intro v' w4 hown hgr _)
     obtain ⟨O2,B2,kk2⟩:=HX.out
     have al2:Below W1.heap.size W1 (W1.alloc (.cells #[.int .i64 t1,.int .i64 t2,.int .i64 t3] 72)):=(Below.refl _ _).alloc (Nat.le_refl _) _
     have hrow:∀ j,(Value.slice a' m c').ownBlock=some j→w.heap.size≤j:=fun j hj=>(O2.lt j hj).1
     have O4:OG 72 3 clG w4 w.heap.size v' (tgN (pmS ms) M.pm (m+1)):=by
      unfold OG
      rw [tgN_len,HT2.out,List.flatMap_append,List.flatMap_singleton]
      exact hown
     have B4:=below_gr (B2.trans (al2.mono B2.size)) hgr hrow
     have k4:=blk_grown (kk2.below al2) hgr (fun e=>by
      obtain ⟨cs,hk⟩:=own_kind O2 e.symm
      exact absurd (blk_kind kk2 hk) (by decide))
     have HF:=hide (And.intro HG2.out (And.intro O4 (And.intro B4 k4)))
     clear O2 B2 kk2 al2 hrow O4 B4 k4 hown hgr HX HOW x0 x1 x2
     go_roundw
     case rel=>exact ⟨m+1,by omega,by go_num,HF.out.1,HF.out.2.1,HF.out.2.2.1,HF.out.2.2.2⟩
     case measure=>simp [intOf];omega
  ·have hlt':¬ (m:Int)<(M.im:Int):=by omega
   have HK:=hide (show tgOk (pmS ms) M.pm from fun j hj=>hs j (by omega))
   have HX:=hide (And.intro B O)
   have HEQ:=hide (show tgN (pmS ms) M.pm m=tgs (pmS ms) M.pm by rw [← tgN_all,hil,show m=M.im by omega])
   have HLN:=hide (show m=(tgs (pmS ms) M.pm).length by rw [← HEQ.out,tgN_len])
   clear B O k hs
   go_wp2
   go_ret2
   refine ⟨HX.out.1,.inr ⟨HK.out,a',c',by rw [← HLN.out];rfl,?_⟩⟩
   have:=HX.out.2
   rw [HEQ.out] at this
   rw [← HLN.out]
   exact this
theorem OG.kept' {α:Type} {t:TypeId} {sz:Nat} {f:α→List Value} {w w':World} {base:Nat} {v:Value} {xs:List α} {row:Option Nat} (h:OG t sz f w base v xs) (hg:w.grownBy w' row) (hk:∀ k,v.ownBlock=some k→row≠some k):OG t sz f w' base v xs:=
 h.kept (S:=fun j=>row=some j) ⟨hg.os,hg.tape,hg.output,hg.size,fun j hj hs=>hg.block j hj (fun e=>hs e.symm)⟩ (fun k hk' e=>hk k hk' e)
structure OR {α β:Type} (th:TypeId) (hs:Nat) (hc:α→List Value) (tr:TypeId) (rs:Nat) (rc:β→List Value) (sv:α→Value) (ct:α→List β) (w:World) (base lo:Nat) (v:Value) (xs:List α):Prop where
 head:OG th hs hc w base v xs
 rows:∀ x ∈ xs,OG tr rs rc w lo (sv x) (ct x)
 apart:xs.Pairwise fun A B=>∀ k,(sv A).ownBlock=some k→(sv B).ownBlock≠some k
section
variable {α β:Type} {th:TypeId} {hs:Nat} {hc:α→List Value} {tr:TypeId} {rs:Nat} {rc:β→List Value} {sv:α→Value} {ct:α→List β} {w w':World} {base lo:Nat} {v:Value} {xs:List α}
theorem OR.below (h:OR th hs hc tr rs rc sv ct w base lo v xs) (hb:Below w.heap.size w w'):OR th hs hc tr rs rc sv ct w' base lo v xs:=⟨h.head.below hb,fun x hx=>(h.rows x hx).below hb,h.apart⟩
theorem OR.mono {base' lo':Nat} (h:OR th hs hc tr rs rc sv ct w base lo v xs) (hb:base'≤base) (hl:lo'≤lo):OR th hs hc tr rs rc sv ct w base' lo' v xs:=⟨h.head.mono hb,fun x hx=>(h.rows x hx).mono hl,h.apart⟩
theorem OR.kept {S:Nat→Prop} (h:OR th hs hc tr rs rc sv ct w base lo v xs) (t:Turn S w w') (h1:∀ k,v.ownBlock=some k→¬ S k) (h2:∀ x ∈ xs,∀ k,(sv x).ownBlock=some k→¬ S k):OR th hs hc tr rs rc sv ct w' base lo v xs:=⟨h.head.kept t h1,fun x hx=>(h.rows x hx).kept t (h2 x hx),h.apart⟩
theorem OR.lt (h:OR th hs hc tr rs rc sv ct w base lo v xs):(∀ k,v.ownBlock=some k→base≤k∧k<w.heap.size)∧∀ x ∈ xs,∀ k,(sv x).ownBlock=some k→lo≤k∧k<w.heap.size:=⟨h.head.lt,fun x hx=>(h.rows x hx).lt⟩
theorem or_nil:OR th hs hc tr rs rc sv ct w base lo (.slice none 0 0) []:=⟨og_nil _ _ _ _ _,by simp,by simp⟩
theorem or_new (hb:base≤w.heap.size):OR th hs hc tr rs rc sv ct (w.alloc (.cells #[] th)) base lo (.slice (some ⟨w.heap.size,0,none⟩) 0 0) []:=⟨og_new' _ _ _ _ _ hb,by simp,by simp⟩
theorem OR.push {lo':Nat} {a:Option Addr} {k c:Nat} {v':Value} {x:α} (h:OR th hs hc tr rs rc sv ct w base lo (.slice a k c) xs) (hl:xs.length=k) (hx:OG tr rs rc w lo' (sv x) (ct x)) (hb:lo≤lo') (hlo:∀ A ∈ xs,∀ j,(sv A).ownBlock=some j→j<lo') (hown:w'.ownsRow base th hs v' (k+1) (xs.flatMap hc++hc x)) (hg:w.grownBy w' (Value.slice a k c).ownBlock) (hne:th≠tr):OR th hs hc tr rs rc sv ct w' base lo v' (xs++[x]):=by
 have key:∀ (u:Value) (ys:List β) (l:Nat),OG tr rs rc w l u ys→∀ j,u.ownBlock=some j→(Value.slice a k c).ownBlock≠some j:=fun u ys l ho j hj e=>by
  obtain ⟨c1,k1⟩:=own_kind ho hj
  obtain ⟨c2,k2⟩:=own_kind h.head e
  exact hne (blk_kind k2 k1)
 refine ⟨?_,?_,?_⟩
 ·unfold OG
  rw [List.length_append,hl,List.flatMap_append,List.flatMap_singleton]
  exact hown
 ·intro B hB
  rcases List.mem_append.1 hB with hB | hB
  ·exact (h.rows B hB).kept' hg (key _ _ _ (h.rows B hB))
  ·simp at hB
   subst hB
   exact (hx.kept' hg (key _ _ _ hx)).mono hb
 ·rw [List.pairwise_append]
  refine ⟨h.apart,by simp,fun B hB X hX j hj e=>?_⟩
  simp at hX
  subst hX
  have h1:=hlo B hB j hj
  have h2:=(hx.lt j e).1
  omega
end
abbrev PB:=Pl × Option Addr × Nat
def svP (x:PB):Value:=.slice x.2.1 x.1.banks.length x.2.2
def clP (x:PB):List Value:=[.int .i64 x.1.text,svP x,.int .i64 x.1.data,.int .i64 x.1.size]
def ctP (x:PB):List Int:=x.1.banks
abbrev OPl:=OR 43 4 clP 3 1 clI svP ctP
abbrev TB:=List Tg × Option Addr × Nat
def svT (x:TB):Value:=.slice x.2.1 x.1.length x.2.2
def clTB (x:TB):List Value:=[svT x]
def ctT (x:TB):List Tg:=x.1
abbrev OTg:=OR 97 1 clTB 72 3 clG svT ctT
structure LayO (W:World) (base:Nat) (L:Lay) (a0:Option Addr) (c0:Nat) (xs:List PB) (a2:Option Addr) (c2:Nat) (a5:Option Addr) (c5:Nat) (ts:List TB):Prop where
 p:OPl W base base (.slice a0 xs.length c0) xs
 ps:xs.map (fun x=>x.1)=L.places
 s:OG 3 1 clI W base (.slice a2 L.slots.length c2) L.slots
 t:OTg W base base (.slice a5 ts.length c5) ts
 tt:ts.map (fun x=>x.1)=L.targets
 sp:∀ k,(Value.slice a2 L.slots.length c2).ownBlock=some k→∀ x ∈ xs,(svP x).ownBlock≠some k
def layV (L:Lay) (a0:Option Addr) (c0:Nat) (xs:List PB) (a2:Option Addr) (c2:Nat) (a5:Option Addr) (c5:Nat) (ts:List TB):Array Value:=#[.slice a0 xs.length c0,.int .i64 L.stack,.slice a2 L.slots.length c2,.int .i64 L.flash,.int .i64 L.ram,.slice a5 ts.length c5]
theorem infoP:(Tryz.prog.info? 43).map (fun i=>(i.zero,i.size,i.bytes))=some (some (.agg #[.int .i64 0,.slice none 0 0,.int .i64 0,.int .i64 0]),4,48):=by kernel_rfl
theorem infoTB:(Tryz.prog.info? 97).map (fun i=>(i.zero,i.size,i.bytes))=some (some (.slice none 0 0),1,24):=by kernel_rfl
end Go.Proofs.YtngdgogjlpjjpadGreat
