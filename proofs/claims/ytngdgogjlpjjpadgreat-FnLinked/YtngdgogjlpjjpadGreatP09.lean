import Derived.Test.YtngdgogjlpjjpadGreatP00
import Derived.Test.YtngdgogjlpjjpadGreatP05
import Derived.Test.YtngdgogjlpjjpadGreatP07
import Derived.Test.YtngdgogjlpjjpadGreatP06
namespace Go.Proofs.YtngdgogjlpjjpadGreat
open Go.RowKit Classical
set_option linter.unusedVariables false
set_option linter.unusedSimpArgs false
set_option maxRecDepth 100000
set_option maxHeartbeats 8000000 in
theorem targetsOf_any (a:Option Addr) (n cap:Nat) (ms:List Md) (w:World) (h:MSD w a n cap ms) (hv:vlds (pmS ms)) (hn:n≤4):
 Calls Tryz.prog 59 #[.slice a n cap] w fun e w'=>Below w.heap.size w w'∧((¬ imps (pmS ms)∧∃ v,e=.returned (.tuple #[v,.bool false]))∨(imps (pmS ms)∧∃ f,e=.returned (.tuple #[.slice (some ⟨w.heap.size,0,none⟩) n n,.bool true])∧Tf w' w.heap.size w.heap.size n f∧∀ i,i<n→(f i).1=tgs (pmS ms) ((pmS ms).getD i zP))):=by
 obtain ⟨iT,hiT,hzT0,hzT1,hzT2⟩:=info_parts infoTB
 obtain ⟨iG,hiG,hzG0,hzG1,hzG2⟩:=info_parts infoG
 have hl:=h.s.1
 have hpl:(pmS ms).length=n:=by rw [pmS_len,hl]
 have HH:=hide h
 have HVL:=hide hv
 clear h hv
 go_enter Tryz.func59,Tryz.ntmps59
 go_wp2_with (at_make;refine wpList_make_full _ rfl _ _ 30 rfl w.heap.size 97 iT (.slice none 0 0) 1 Tryz.underlying30 hiT hzT0 hzT1 .i64 .i64 _ _ n rfl rfl rfl rfl (by rw [hzT2];omega) (by unfold maxLen;omega) (Nat.le_refl _) ?_;intro w1 hown hgr)
 have T0:=made_rows hown w.heap.size
 have B0:=below_grown hgr
 have HT0:=hide (And.intro T0 B0)
 clear hown hgr T0 B0
 go_loopw [16] (fun i wr=>∃ (m:Nat) (f:Nat→TB),m≤n∧i=.int .i64 m∧Tf wr w.heap.size w.heap.size n f∧(∀ i,i<n→(f i).1=if i<m then tgs (pmS ms) ((pmS ms).getD i zP) else [])∧(∀ j,j<m→tgOk (pmS ms) ((pmS ms).getD j zP))∧Below w.heap.size w wr) (fun i _=>n - (intOf i).toNat)
 case atStart=>exact ⟨0,fun _=>([],none,0),Nat.zero_le _,rfl,HT0.out.1,fun i hi=>by simp,fun j hj=>absurd hj (by omega),HT0.out.2⟩
 case round=>
  clear HT0
  obtain ⟨m,f,hm,rfl,F,hf,hk,B⟩:=hrel
  by_cases hlt:m<n
  ·have hlt':(m:Int)<(n:Int):=by omega
   have H:=HH.out.below B
   obtain ⟨b,off,rfl,q0,q1,q2,q3,q4,q5,q6,q7⟩:=H.s.at m hlt
   have hmd:=H.d m hlt
   have hvm:=HVL.out m (by omega)
   obtain ⟨P,hP⟩:∃ P,P=(pmS ms).getD m zP:=⟨_,rfl⟩
   have hPM:P=(ms.getD m zMd).pm:=hP.trans (pmS_at (by omega))
   rw [← hP] at hvm
   have vi:=(vld_en hvm).2.1
   have eI:(ms.getD m zMd).im=P.ss.length:=by rw [hPM];exact hmd.i.1.symm
   have eS:(ms.getD m zMd).ss=P.ss:=by rw [hPM];rfl
   have HMI:=hide (fun (W:World) (hb:Below w.heap.size w W)=>(HH.out.d m hlt).i.below hb)
   rw [eI] at q6
   rw [eI,eS] at HMI
   have HP:=hide hP
   have HB:=hide (And.intro B (And.intro F (And.intro hf hk)))
   generalize ms.getD m zMd=M at *
   generalize M.ia=ia at *
   have al:Below wr.heap.size wr (wr.alloc (.cells #[.string M.nm,.slice M.ta M.tn M.tc,.slice M.ba M.bn M.bc,.slice M.da M.dn M.dc,.int .i64 M.bss,.slice M.ra M.rn M.rc,.slice ia P.ss.length M.ic,.slice M.ea M.en M.ec] 49)):=(Below.refl _ _).alloc (Nat.le_refl _) _
   obtain ⟨g0,g1,g2,g3,g4,g5,g6,g7⟩:=(Blk.new wr #[.string M.nm,.slice M.ta M.tn M.tc,.slice M.ba M.bn M.bc,.slice M.da M.dn M.dc,.int .i64 M.bss,.slice M.ra M.rn M.rc,.slice ia P.ss.length M.ic,.slice M.ea M.en M.ec] 49).eight
   have HAL:=hide (And.intro al (F.below al))
   clear B H hmd hP hPM eI eS al hvm F hf hk
   generalize wr=wo at *
   go_wp2_with fail
   go_loopw [24] (fun i wx=>∃ (q:Nat) (f:Nat→TB),q≤P.ss.length∧i=.int .i64 q∧Tf wx w.heap.size w.heap.size n f∧(∀ i,i<n→(f i).1=if i<m then tgs (pmS ms) ((pmS ms).getD i zP) else if i=m then tgN (pmS ms) P q else [])∧(∀ j,j<q→(tgOf (pmS ms) (P.ss.getD j zS)).isSome=true)∧Turn (fun j=>w.heap.size≤j) wo wx) (fun i _=>P.ss.length - (intOf i).toNat)
   case atStart=>exact ⟨0,f,Nat.zero_le _,rfl,HAL.out.2,fun i hi=>by
    rw [HB.out.2.2.1 i hi]
    by_cases e:i<m
    ·simp [e]
    ·by_cases e2:i=m
     ·simp [e2,tgN]
     ·simp [e,e2],fun j hj=>absurd hj (by omega),turn_below HAL.out.1⟩
   case round=>
    obtain ⟨q,f',hq,rfl,F,hf,hk,T⟩:=hrel
    have B:=below_turn HB.out.1 T (fun j hj=>hj) HB.out.1.size
    by_cases hlt2:q<P.ss.length
    ·have hlt2':(q:Int)<(P.ss.length:Int):=by omega
     obtain ⟨hsl,_,hsz,hcs,_⟩:=HMI.out wr B
     obtain ⟨b2,off2,rfl,hc⟩:=hcs (by omega)
     have c0:=hc q hlt2
     have hss:(P.ss.getD q zS).size≤1048576:=hsz _ (by simp [List.getD_eq_getElem?_getD,hlt2])
     have HR:=hide ((HH.out.below B).resI HVL.out hn (P.ss.getD q zS) hss)
     have HTS:=hide (fun t (h:tgOf (pmS ms) (P.ss.getD q zS)=some t)=>tgN_succ (ps:=pmS ms) (P:=P) q h)
     have HBAD:=hide (fun (h:tgOf (pmS ms) (P.ss.getD q zS)=none)=>(show ¬ imps (pmS ms) from fun hi=>by have:=hi m (by omega) q (by rw [← HP.out];exact hlt2);rw [← HP.out,h] at this;cases this))
     have HGO:=hide (fun t (h:tgOf (pmS ms) (P.ss.getD q zS)=some t)=>(show ∀ j,j<q+1→(tgOf (pmS ms) (P.ss.getD j zS)).isSome=true from fun j hj=>by
      by_cases e:j=q
      ·subst e;rw [h];rfl
      ·exact hk j (by omega)))
     have hX:(f' m).1=tgN (pmS ms) P q:=by rw [hf m hlt,if_neg (by omega),if_pos rfl]
     have hsv:svT (f' m)=.slice (f' m).2.1 q (f' m).2.2:=by unfold svT;rw [hX,tgN_len]
     have HQ:=hide (And.intro F (And.intro hf (And.intro T B)))
     have hgw:=HB.out.1.size
     have hTs:=T.size
     generalize P.ss.getD q zS=str at *
     clear F hk T B hc hsz hcs
     go_wp2_with fail
     refine HR.out.mono ?_
     rintro e w1 ⟨rfl,hb1⟩
     obtain ⟨F,hf,T,B⟩:=HQ.out
     have B1:=B.trans (hb1.mono B.size)
     cases ho:tgOf (pmS ms) str with
     | none=>
       have HF:=hide (And.intro (B1.trans (((Below.refl _ w1).alloc (Nat.le_refl _) (.cells #[.int .i64 0,.int .i64 0,.int .i64 0] 72)).mono B1.size)) (HBAD.out ho))
       clear F hf T B hb1 B1 HQ HR HTS HBAD HGO c0 hX hsv
       unfold tgV
       go_wp2
       go_ret2
       exact ⟨HF.out.1,.inl ⟨HF.out.2,_,rfl⟩⟩
     | some t=>
       obtain ⟨t1,t2,t3⟩:=t
       have al1:Below w1.heap.size w1 (w1.alloc (.cells #[.int .i64 t1,.int .i64 t2,.int .i64 t3] 72)):=(Below.refl _ _).alloc (Nat.le_refl _) _
       have hs1:(w1.alloc (.cells #[.int .i64 t1,.int .i64 t2,.int .i64 t3] 72)).heap.size=w1.heap.size+1:=by simp
       have k1:=Blk.new w1 #[.int .i64 t1,.int .i64 t2,.int .i64 t3] 72
       have F1:=(F.below hb1).below al1
       have T1:=(T.trans (turn_below hb1)).trans (turn_below al1)
       have HT2:=hide (HTS.out _ ho)
       have HG2:=hide (HGO.out _ ho)
       obtain ⟨x0,x1,x2,_⟩:=k1.three
       generalize hW1:w1.alloc (.cells #[.int .i64 t1,.int .i64 t2,.int .i64 t3] 72)=W1 at *
       have al2:Below W1.heap.size W1 (W1.alloc (.cells #[.int .i64 t1,.int .i64 t2,.int .i64 t3] 72)):=(Below.refl _ _).alloc (Nat.le_refl _) _
       have F2a:=F1.below al2
       have F2:Tf (W1.alloc (.cells #[.int .i64 t1,.int .i64 t2,.int .i64 t3] 72)).drew w.heap.size w.heap.size n f':=⟨F2a.head,F2a.rows,F2a.apart⟩
       have HCN:=hide (show ∀ j u,(clG (t1,t2,t3))[j]?=some u→(W1.alloc (.cells #[.int .i64 t1,.int .i64 t2,.int .i64 t3] 72)).drew.cell? ((⟨w1.heap.size+1,0,none⟩:Addr).add j)=some u by have:=cells_new W1 _ 72 (clG (t1,t2,t3)) rfl;rw [hs1] at this;exact this)
       obtain ⟨p3,f3⟩:=F2a.cell m hlt
       rw [hsv] at p3
       obtain ⟨p1,f1⟩:=F1.cell m hlt
       obtain ⟨p2,f2⟩:=F2.cell m hlt
       have hsz1:=hb1.size
       rw [hsv] at p1 p2
       obtain ⟨A,hA⟩:∃ A,A=(f' m).2.1:=⟨_,rfl⟩
       obtain ⟨C,hC⟩:∃ C,C=(f' m).2.2:=⟨_,rfl⟩
       rw [← hA,← hC] at p1 p2 p3 hsv
       have HOW:=hide (show (W1.alloc (.cells #[.int .i64 t1,.int .i64 t2,.int .i64 t3] 72)).drew.ownsRow w.heap.size 72 3 (.slice A q C) q ((tgN (pmS ms) P q).flatMap clG) by have:=F2.rows m hlt;unfold OG at this;rw [hsv,hX,tgN_len] at this;exact this)
       have HHD:=hide (fun (w4:World) (hgr:(W1.alloc (.cells #[.int .i64 t1,.int .i64 t2,.int .i64 t3] 72)).drew.grownBy w4 (Value.slice A q C).ownBlock)=>(show w4.cell? ⟨w.heap.size,m,none⟩=some (.slice A q C)∧w4.frozen? ⟨w.heap.size,m,none⟩=false from by
        obtain ⟨cs,hc1,hc2,hc3⟩:=F2.head
        have hb4:=blk_grown hc1 hgr (fun e=>by have:=F2.rows m hlt;rw [hsv] at this;exact kind_no this e.symm hc1 (by decide))
        exact ⟨(hb4.cell m).trans ((hc3 m hlt).trans (by rw [hsv])),hb4.frozen m⟩))
       have HX:=hide (And.intro F2 (And.intro hf (And.intro (turn_d1 (T1.trans (turn_below al2))) (And.intro hsv hX))))
       have HW1:=hide hW1
       have hgl:=F1.lt.1
       clear F hf T B hb1 B1 HQ HR HTS HBAD HGO c0 al1 k1 F1 T1 al2 F2 F2a hX hsv hA hC hW1
       unfold tgV
       go_wp2_with fail
       rw [HW1.out]
       go_region_law (first
        | (refine step_append_lies _ rfl _ _ 97 rfl w.heap.size 72 iG (.agg #[.int .i64 0,.int .i64 0,.int .i64 0]) 3 24 Tryz.underlying97 hiG hzG0 hzG1 hzG2 rfl (by decide) (.slice A q C) q ((tgN (pmS ms) P q).flatMap clG) rfl HOW.out ⟨w1.heap.size+1,0,none⟩ 1 1 (clG (t1,t2,t3)) rfl rfl HCN.out (by intro u hu;simp [clG] at hu;rcases hu with rfl | rfl | rfl <;> rfl) (by decide) (by unfold maxLen;omega) (by omega) (by simp;omega) _ rfl ?_;intro g4 c4 w4 hown hgr hat hlt4;obtain ⟨p4,f4⟩:=HHD.out w4 hgr))
       all_goals
        obtain ⟨F2,hf,T2,hsv,hX⟩:=HX.out
        have hgr':=hgr
        rw [← hsv] at hgr' hat
        have O4:OG 72 3 clG w4 w.heap.size (svT ((tgN (pmS ms) P (q+1),some ⟨g4,0,none⟩,c4):TB)) (tgN (pmS ms) P (q+1)):=by
         unfold OG svT
         rw [tgN_len,HT2.out,List.flatMap_append,List.flatMap_singleton]
         exact hown
        have U:=F2.update (x:=(tgN (pmS ms) P (q+1),some ⟨g4,0,none⟩,c4)) (g4:=g4) (c4:=c4) hlt hgr' O4 rfl (by simpa using hat)
        have T5:Turn (fun j=>w.heap.size≤j) wo (w4.setCell ⟨w.heap.size,m,none⟩ (svT ((tgN (pmS ms) P (q+1),some ⟨g4,0,none⟩,c4):TB))):=by
         have t4:Turn (fun j=>w.heap.size≤j) _ w4:=⟨hgr.os,hgr.tape,hgr.output,hgr.size,fun j hj hs=>hgr.block j hj (fun e=>hs (by have:=(F2.lt.2 m hlt j (by rw [hsv];exact e.symm)).1;exact this))⟩
         exact (T2.trans t4).trans ((turn_set w4 w.heap.size m _).mono (fun j hj=>by have e:j=w.heap.size:=hj;omega))
        have hsx:svT ((tgN (pmS ms) P (q+1),some ⟨g4,0,none⟩,c4):TB)=.slice (some ⟨g4,0,none⟩) (q+1) c4:=by unfold svT;rw [tgN_len]
        rw [hsx] at U T5
        have HF:=hide (And.intro U (And.intro (show ∀ i,i<n→((fun i=>if i=m then ((tgN (pmS ms) P (q+1),some ⟨g4,0,none⟩,c4):TB) else f' i) i).1=if i<m then tgs (pmS ms) ((pmS ms).getD i zP) else if i=m then tgN (pmS ms) P (q+1) else [] from fun i hi=>by
         by_cases e:i=m
         ·simp [e]
         ·simp only [e,if_false];rw [hf i hi];simp [e]) (And.intro HG2.out T5)))
        clear F2 hf T2 hsv hX hgr' hgr hown hat O4 U T5 hsx HX HOW HHD p4 f4 p1 p2 p3 f1 f2 f3 HCN x0 x1 x2
        go_wp2
        go_roundw
        case rel=>exact ⟨q+1,_,by omega,by go_num,HF.out.1,HF.out.2.1,HF.out.2.2.1,HF.out.2.2.2⟩
        case measure=>simp [intOf];omega
    ·have hlt2':¬ (q:Int)<(P.ss.length:Int):=by omega
     have hqe:q=P.ss.length:=by omega
     have HF:=hide (And.intro B (And.intro F (And.intro (show ∀ i,i<n→(f' i).1=if i<m+1 then tgs (pmS ms) ((pmS ms).getD i zP) else [] from fun i hi=>by
      rw [hf i hi]
      by_cases e:i<m
      ·rw [if_pos e,if_pos (by omega)]
      ·by_cases e2:i=m
       ·rw [if_neg e,if_pos e2,if_pos (by omega),e2,← HP.out,hqe];rfl
       ·rw [if_neg e,if_neg e2,if_neg (by omega)]) (show ∀ j,j<m+1→tgOk (pmS ms) ((pmS ms).getD j zP) from fun j hj=>by
      by_cases e:j=m
      ·subst e;rw [← HP.out];intro i hi;exact hk i (by omega)
      ·exact HB.out.2.2.2 j (by omega)))))
     clear F hf hk T B hqe
     go_wp2
     go_roundw
     case rel=>exact ⟨m+1,f',by omega,by go_num,HF.out.2.1,HF.out.2.2.1,HF.out.2.2.2,HF.out.1⟩
     case measure=>simp [intOf];omega
  ·have hlt':¬ (m:Int)<(n:Int):=by omega
   have HI:=hide (show imps (pmS ms) from fun i hi=>hk i (by omega))
   have HF:=hide (And.intro B (And.intro F (show ∀ i,i<n→(f i).1=tgs (pmS ms) ((pmS ms).getD i zP) from fun i hi=>by rw [hf i hi,if_pos (by omega)])))
   clear B F hf hk
   go_wp2
   go_ret2
   exact ⟨HF.out.1,.inr (by first | exact ⟨HI.out,f,rfl,HF.out.2.1,HF.out.2.2⟩ | exact ⟨HI.out,rfl,f,HF.out.2.1,HF.out.2.2⟩)⟩
theorem rnd_rnd (x:Int):rnd (rnd x)=rnd x:=by unfold rnd;omega
theorem rnd_whole {x:Int} (h:x % 32=0):rnd x=x:=by unfold rnd;omega
def alF (x:Int):Array Value:=#[.int .i64 x,.func (.func 147) #[] #[]]
def alR (x:Int):Array Value:=#[.int .i64 x,.func (.func 148) #[] #[]]
structure Lo (w W:World) (s c k d fx rx:Int) (cs:Array Value):Prop where
 be:Below w.heap.size w W
 k0:Blk W w.heap.size #[.int .i64 s,.int .i64 c,.int .i64 k,.int .i64 d] 25
 k1:Blk W (w.heap.size+1) zL 32
 k2:Blk W (w.heap.size+2) (alF fx) 188
 k3:Blk W (w.heap.size+3) (alR rx) 190
 k4:Blk W (w.heap.size+4) cs 32
theorem Lo.sz {w W:World} {s c k d fx rx:Int} {cs:Array Value} (h:Lo w W s c k d fx rx cs):w.heap.size+5≤W.heap.size:=h.k4.lt
theorem Lo.below {w W W':World} {s c k d fx rx:Int} {cs:Array Value} (h:Lo w W s c k d fx rx cs) (hb:Below W.heap.size W W'):Lo w W' s c k d fx rx cs:=⟨h.be.trans (hb.mono h.be.size),h.k0.below hb,h.k1.below hb,h.k2.below hb,h.k3.below hb,h.k4.below hb⟩
theorem Lo.drew {w W:World} {s c k d fx rx:Int} {cs:Array Value} (h:Lo w W s c k d fx rx cs):Lo w W.drew s c k d fx rx cs:=⟨h.be.drew,h.k0,h.k1,h.k2,h.k3,h.k4⟩
theorem Lo.set {w W:World} {s c k d fx rx:Int} {cs:Array Value} (h:Lo w W s c k d fx rx cs) (i:Nat) (v:Value):Lo w (W.setCell ⟨w.heap.size+4,i,none⟩ v) s c k d fx rx (cs.setIfInBounds i v):=by
 have t:=turn_set W (w.heap.size+4) i v
 exact ⟨below_turn h.be t (fun k hk=>by omega) h.be.size,turn_blk t h.k0 (by omega),turn_blk t h.k1 (by omega),turn_blk t h.k2 (by omega),turn_blk t h.k3 (by omega),h.k4.set i v⟩
theorem Lo.other {w W:World} {s c k d fx rx:Int} {cs:Array Value} (h:Lo w W s c k d fx rx cs) {g:Nat} (hg:w.heap.size+5≤g) (i:Nat) (v:Value):Lo w (W.setCell ⟨g,i,none⟩ v) s c k d fx rx cs:=by
 have t:=turn_set W g i v
 exact ⟨below_turn h.be t (fun k hk=>by omega) h.be.size,turn_blk t h.k0 (by omega),turn_blk t h.k1 (by omega),turn_blk t h.k2 (by omega),turn_blk t h.k3 (by omega),turn_blk t h.k4 (by omega)⟩
theorem Lo.callF {w W W':World} {s c k d fx rx fx':Int} {cs:Array Value} (h:Lo w W s c k d fx rx cs) (t:Turn (fun j=>j=w.heap.size+2) W W') (k2:Blk W' (w.heap.size+2) (alF fx') 188):Lo w W' s c k d fx' rx cs:=
 ⟨below_turn h.be t (fun k hk=>by omega) h.be.size,turn_blk t h.k0 (by omega),turn_blk t h.k1 (by omega),k2,turn_blk t h.k3 (by omega),turn_blk t h.k4 (by omega)⟩
theorem Lo.callR {w W W':World} {s c k d fx rx rx':Int} {cs:Array Value} (h:Lo w W s c k d fx rx cs) (t:Turn (fun j=>j=w.heap.size+3) W W') (k3:Blk W' (w.heap.size+3) (alR rx') 190):Lo w W' s c k d fx rx' cs:=
 ⟨below_turn h.be t (fun k hk=>by omega) h.be.size,turn_blk t h.k0 (by omega),turn_blk t h.k1 (by omega),turn_blk t h.k2 (by omega),k3,turn_blk t h.k4 (by omega)⟩
theorem Lo.grown {w W W':World} {s c k d fx rx:Int} {cs:Array Value} {row:Option Nat} (h:Lo w W s c k d fx rx cs) (hg:W.grownBy W' row) (hr:∀ j,row=some j→w.heap.size+5≤j):Lo w W' s c k d fx rx cs:=by
 have t:Turn (fun j=>row=some j) W W':=⟨hg.os,hg.tape,hg.output,hg.size,fun j hj hs=>hg.block j hj (fun e=>hs e.symm)⟩
 exact ⟨below_turn h.be t (fun j hj=>by have:=hr j hj;omega) h.be.size,turn_blk t h.k0 (fun e=>by have:=hr _ e;omega),turn_blk t h.k1 (fun e=>by have:=hr _ e;omega),turn_blk t h.k2 (fun e=>by have:=hr _ e;omega),turn_blk t h.k3 (fun e=>by have:=hr _ e;omega),turn_blk t h.k4 (fun e=>by have:=hr _ e;omega)⟩
theorem lo_new (w:World) (s c k d:Int):Lo w (((((w.alloc (.cells #[.int .i64 s,.int .i64 c,.int .i64 k,.int .i64 d] 25)).alloc (.cells #[.slice none 0 0,.int .i64 0,.slice none 0 0,.int .i64 0,.int .i64 0,.slice none 0 0] 32)).alloc (.cells #[.int .i64 0,.func (.func 147) #[] #[]] 188)).alloc (.cells #[.int .i64 65536,.func (.func 148) #[] #[]] 190)).alloc (.cells #[.slice none 0 0,.int .i64 0,.slice none 0 0,.int .i64 0,.int .i64 0,.slice none 0 0] 32)) s c k d 0 65536 zL:=by
 have k0:=Blk.new w #[.int .i64 s,.int .i64 c,.int .i64 k,.int .i64 d] 25
 have b0:Below w.heap.size w (w.alloc (.cells #[.int .i64 s,.int .i64 c,.int .i64 k,.int .i64 d] 25)):=(Below.refl _ _).alloc (Nat.le_refl _) _
 have s0:(w.alloc (.cells #[.int .i64 s,.int .i64 c,.int .i64 k,.int .i64 d] 25)).heap.size=w.heap.size+1:=by simp
 generalize w.alloc (.cells #[.int .i64 s,.int .i64 c,.int .i64 k,.int .i64 d] 25)=W0 at *
 have k1:=Blk.new W0 #[.slice none 0 0,.int .i64 0,.slice none 0 0,.int .i64 0,.int .i64 0,.slice none 0 0] 32
 have b1:Below W0.heap.size W0 (W0.alloc (.cells #[.slice none 0 0,.int .i64 0,.slice none 0 0,.int .i64 0,.int .i64 0,.slice none 0 0] 32)):=(Below.refl _ _).alloc (Nat.le_refl _) _
 have s1:(W0.alloc (.cells #[.slice none 0 0,.int .i64 0,.slice none 0 0,.int .i64 0,.int .i64 0,.slice none 0 0] 32)).heap.size=w.heap.size+2:=by simp [s0]
 rw [s0] at k1
 generalize W0.alloc (.cells #[.slice none 0 0,.int .i64 0,.slice none 0 0,.int .i64 0,.int .i64 0,.slice none 0 0] 32)=W1 at *
 have k2:=Blk.new W1 #[.int .i64 0,.func (.func 147) #[] #[]] 188
 have b2:Below W1.heap.size W1 (W1.alloc (.cells #[.int .i64 0,.func (.func 147) #[] #[]] 188)):=(Below.refl _ _).alloc (Nat.le_refl _) _
 have s2:(W1.alloc (.cells #[.int .i64 0,.func (.func 147) #[] #[]] 188)).heap.size=w.heap.size+3:=by simp [s1]
 rw [s1] at k2
 generalize W1.alloc (.cells #[.int .i64 0,.func (.func 147) #[] #[]] 188)=W2 at *
 have k3:=Blk.new W2 #[.int .i64 65536,.func (.func 148) #[] #[]] 190
 have b3:Below W2.heap.size W2 (W2.alloc (.cells #[.int .i64 65536,.func (.func 148) #[] #[]] 190)):=(Below.refl _ _).alloc (Nat.le_refl _) _
 have s3:(W2.alloc (.cells #[.int .i64 65536,.func (.func 148) #[] #[]] 190)).heap.size=w.heap.size+4:=by simp [s2]
 rw [s2] at k3
 generalize W2.alloc (.cells #[.int .i64 65536,.func (.func 148) #[] #[]] 190)=W3 at *
 have k4:=Blk.new W3 #[.slice none 0 0,.int .i64 0,.slice none 0 0,.int .i64 0,.int .i64 0,.slice none 0 0] 32
 have b4:Below W3.heap.size W3 (W3.alloc (.cells #[.slice none 0 0,.int .i64 0,.slice none 0 0,.int .i64 0,.int .i64 0,.slice none 0 0] 32)):=(Below.refl _ _).alloc (Nat.le_refl _) _
 rw [s3] at k4
 have c34:=b4
 have c24:=b3.trans (c34.mono (by omega))
 have c14:=b2.trans (c24.mono (by omega))
 have c04:=b1.trans (c14.mono (by omega))
 exact ⟨b0.trans (c04.mono (by omega)),k0.below c04,k1.below c14,k2.below c24,k3.below c34,k4⟩
def Lq (w:World) (j:Nat):Prop:=w.heap.size≤j∧j<w.heap.size+5
theorem lay_endI {w W:World} (k1:Blk W (w.heap.size+1) zL 32) (v0 v1 v2 v3 v4 v5:Value) (Q:Ending→World→Prop) (tmps:Array Value) (h4:tmps[4]?=some (.pointer (some ⟨w.heap.size+1,0,none⟩))) (hQ:Q (.returned (.agg #[v0,v1,v2,v3,v4,v5])) (st6 W (w.heap.size+1) v0 v1 v2 v3 v4 v5)):
 bodyPost Tryz.prog Tryz.f61 Q Exit.ret ⟨tmps,[]⟩ (st6 W (w.heap.size+1) v0 v1 v2 v3 v4 v5):=by
 have k:=blk_st6 k1 v0 v1 v2 v3 v4 v5
 have t0:(st6 W (w.heap.size+1) v0 v1 v2 v3 v4 v5).cell? ⟨w.heap.size+1,0,none⟩=some v0:=k.cell 0
 have t1:(st6 W (w.heap.size+1) v0 v1 v2 v3 v4 v5).cell? ⟨w.heap.size+1,1,none⟩=some v1:=k.cell 1
 have t2:(st6 W (w.heap.size+1) v0 v1 v2 v3 v4 v5).cell? ⟨w.heap.size+1,2,none⟩=some v2:=k.cell 2
 have t3:(st6 W (w.heap.size+1) v0 v1 v2 v3 v4 v5).cell? ⟨w.heap.size+1,3,none⟩=some v3:=k.cell 3
 have t4:(st6 W (w.heap.size+1) v0 v1 v2 v3 v4 v5).cell? ⟨w.heap.size+1,4,none⟩=some v4:=k.cell 4
 have t5:(st6 W (w.heap.size+1) v0 v1 v2 v3 v4 v5).cell? ⟨w.heap.size+1,5,none⟩=some v5:=k.cell 5
 refine bodyPost_ret_by (v:=.agg #[v0,v1,v2,v3,v4,v5]) ?_ rfl hQ
 simp [results,Tryz.results61,go_sem,h4,t0,t1,t2,t3,t4,t5]
set_option maxHeartbeats 20000000 in
theorem layOut_any (a:Option Addr) (n cap:Nat) (ms:List Md) (s c k d:Int) (w:World) (h:MSD w a n cap ms) (hn:n≤4) (hcf:cfo s c k d=true) (hv:vlds (pmS ms)):
 Calls Tryz.prog 61 #[.slice a n cap,.agg #[.int .i64 s,.int .i64 c,.int .i64 k,.int .i64 d]] w fun e w'=>Below w.heap.size w w'∧∃ a0 c0 xs a2 c2,e=.returned (.agg (layV ⟨(lay (pmS ms) s c k).places,(lay (pmS ms) s c k).stack,(lay (pmS ms) s c k).slots,(lay (pmS ms) s c k).flash,(lay (pmS ms) s c k).ram,[]⟩ a0 c0 xs a2 c2 none 0 []))∧LayO w' w.heap.size ⟨(lay (pmS ms) s c k).places,(lay (pmS ms) s c k).stack,(lay (pmS ms) s c k).slots,(lay (pmS ms) s c k).flash,(lay (pmS ms) s c k).ram,[]⟩ a0 c0 xs a2 c2 none 0 []:=by
 have N0:=lo_new w s c k d
 have hl:=h.s.1
 have hpl:(pmS ms).length=n:=by rw [pmS_len,hl]
 have HH:=hide h
 have HVD:=hide hv
 obtain ⟨hs0,hs1,hc0,hc1,hk0,hk1,hk2,_⟩:=of_decide_eq_true hcf
 have HN:=hide N0
 clear h N0 hcf hv
 go_enter Tryz.func61,Tryz.ntmps61
 go_wp2_with fail
 go_loopw [15] (fun i wr=>∃ (m:Nat) (a0:Option Addr) (c0:Nat) (xs:List PB),m≤n∧i=.int .i64 m∧Lo w wr s c k d (Fl (pmS ms) m) (65536+Ra (pmS ms) m) #[.slice a0 m c0,.int .i64 0,.slice none 0 0,.int .i64 0,.int .i64 0,.slice none 0 0]∧OPl wr (w.heap.size+5) (w.heap.size+5) (.slice a0 m c0) xs∧xs.length=m∧xs.map (fun x=>x.1)=(List.range m).map (plc (pmS ms))) (fun i _=>n - (intOf i).toNat)
 case atStart=>exact ⟨0,none,0,[],Nat.zero_le _,rfl,HN.out,or_nil,rfl,rfl⟩
 case round=>
  clear HN
  obtain ⟨m,a0,c0,xs,hm,rfl,S,PX,xl,xp⟩:=hrel
  generalize wr=wo at *
  by_cases hlt:m<n
  ·have hlt':(m:Int)<(n:Int):=by omega
   have H:=HH.out.below S.be
   obtain ⟨b,off,rfl,q0,q1,q2,q3,q4,q5,q6,q7⟩:=H.s.at m hlt
   have hmd:=HH.out.d m hlt
   have hvm:=HVD.out m (by omega)
   obtain ⟨P,hP⟩:∃ P,P=(pmS ms).getD m zP:=⟨_,rfl⟩
   have hPM:P=(ms.getD m zMd).pm:=hP.trans (pmS_at (by omega))
   rw [← hP] at hvm
   have rT:0≤rnd (4 * (P.tz.length:Int))∧rnd (4 * (P.tz.length:Int))≤831:=tsz_range hvm
   have rD:0≤(rnd ((P.dz.length:Int)+P.bss))∧(rnd ((P.dz.length:Int)+P.bss))≤1055:=dsz_range hvm
   have rF:=Fl_range HVD.out m (by omega)
   have rR:=Ra_range HVD.out m (by omega)
   obtain ⟨_,_,vt,vb,vd,vs0,vs1,vbk⟩:=vld_en hvm
   have eT:(ms.getD m zMd).tn=P.tz.length:=by rw [hPM];exact hmd.t.1.symm
   have eD:(ms.getD m zMd).dn=P.dz.length:=by rw [hPM];exact hmd.d.1.symm
   have eS:(ms.getD m zMd).bss=P.bss:=by rw [hPM];rfl
   have eB:(ms.getD m zMd).bn=P.bl.length:=by rw [hPM];show _=(List.map _ _).length;rw [List.length_map];exact hmd.b.1.symm
   have HBK:=hide (show ∀ j,j<P.bl.length→((ms.getD m zMd).bl.getD j zB).2.1=(P.bl.getD j []).length from fun j hj=>by rw [hPM];exact (pm_bank hmd j (by omega)).1)
   have HBS:=hide hmd.b
   rw [eB] at HBS
   have HVM:=hide hvm
   have HPP:=hide hP
   generalize ms.getD m zMd=M at *
   rw [eT] at q1
   rw [eB] at q2
   rw [eD] at q3
   rw [eS] at q4
   have al:Below wo.heap.size wo ((wo.alloc (.cells #[.string M.nm,.slice M.ta P.tz.length M.tc,.slice M.ba P.bl.length M.bc,.slice M.da P.dz.length M.dc,.int .i64 P.bss,.slice M.ra M.rn M.rc,.slice M.ia M.im M.ic,.slice M.ea M.en M.ec] 49)).alloc (.cells #[.int .i64 0,.slice none 0 0,.int .i64 0,.int .i64 0] 43)):=((Below.refl _ _).alloc (Nat.le_refl _) _).alloc (by simp) _
   have kM:=(Blk.new wo #[.string M.nm,.slice M.ta P.tz.length M.tc,.slice M.ba P.bl.length M.bc,.slice M.da P.dz.length M.dc,.int .i64 P.bss,.slice M.ra M.rn M.rc,.slice M.ia M.im M.ic,.slice M.ea M.en M.ec] 49).alloc (.cells #[.int .i64 0,.slice none 0 0,.int .i64 0,.int .i64 0] 43)
   have kp:=Blk.new (wo.alloc (.cells #[.string M.nm,.slice M.ta P.tz.length M.tc,.slice M.ba P.bl.length M.bc,.slice M.da P.dz.length M.dc,.int .i64 P.bss,.slice M.ra M.rn M.rc,.slice M.ia M.im M.ic,.slice M.ea M.en M.ec] 49)) #[.int .i64 0,.slice none 0 0,.int .i64 0,.int .i64 0] 43
   simp only [World.size_alloc] at kp
   have S1:=S.below al
   have hgw:=S.sz
   have g1:((wo.alloc (.cells #[.string M.nm,.slice M.ta P.tz.length M.tc,.slice M.ba P.bl.length M.bc,.slice M.da P.dz.length M.dc,.int .i64 P.bss,.slice M.ra M.rn M.rc,.slice M.ia M.im M.ic,.slice M.ea M.en M.ec] 49)).alloc (.cells #[.int .i64 0,.slice none 0 0,.int .i64 0,.int .i64 0] 43)).cell? ⟨wo.heap.size,1,none⟩=some (.slice M.ta P.tz.length M.tc):=kM.cell 1
   have HPL:=hide (placeS_any (w.heap.size+2) (Fl (pmS ms) m) M.ta P.tz.length M.tc ((wo.alloc (.cells #[.string M.nm,.slice M.ta P.tz.length M.tc,.slice M.ba P.bl.length M.bc,.slice M.da P.dz.length M.dc,.int .i64 P.bss,.slice M.ra M.rn M.rc,.slice M.ia M.im M.ic,.slice M.ea M.en M.ec] 49)).alloc (.cells #[.int .i64 0,.slice none 0 0,.int .i64 0,.int .i64 0] 43)) S1.k2 (by omega) (by omega) (by omega))
   have HQ:=hide (And.intro S1 (And.intro kM (And.intro kp (turn_below (S:=Lq w) al))))
   have HPX:=hide (And.intro PX (And.intro xl xp))
   clear H hmd hP hPM eT eD eS eB al S hvm kM kp S1 PX xl xp
   go_wp2_with fail
   refine HPL.out.mono ?_
   rintro e w1 ⟨rfl,B1,U1⟩
   obtain ⟨S1,kM,kp,TT⟩:=HQ.out
   have S2:=S1.callF (fx':=(Fl (pmS ms) m+rnd (4 * (P.tz.length:Int)))) U1 B1
   have kM2:=turn_blk U1 kM (by omega)
   have kp2:=turn_blk U1 kp (by omega)
   have TT2:=TT.trans (U1.mono (S':=Lq w) (fun j hj=>by have e:j=w.heap.size+2:=hj;unfold Lq;omega))
   have y0:w1.cell? ⟨wo.heap.size+1,0,none⟩=some (.int .i64 0):=kp2.cell 0
   have f0:=kp2.frozen 0
   have S3:=S2.other (g:=wo.heap.size+1) (by omega) 0 (.int .i64 (Fl (pmS ms) m))
   have tp:=turn_set w1 (wo.heap.size+1) 0 (.int .i64 (Fl (pmS ms) m))
   have kM3:=turn_blk tp kM2 (by omega)
   have kp3:Blk (w1.setCell ⟨wo.heap.size+1,0,none⟩ (.int .i64 (Fl (pmS ms) m))) (wo.heap.size+1) #[.int .i64 (Fl (pmS ms) m),.slice none 0 0,.int .i64 0,.int .i64 0] 43:=kp2.set 0 (.int .i64 (Fl (pmS ms) m))
   have TT3:=turn_new' TT2 (show wo.heap.size≤wo.heap.size+1 by omega) 0 (.int .i64 (Fl (pmS ms) m))
   have g2:(w1.setCell ⟨wo.heap.size+1,0,none⟩ (.int .i64 (Fl (pmS ms) m))).cell? ⟨wo.heap.size,2,none⟩=some (.slice M.ba P.bl.length M.bc):=kM3.cell 2
   have g2':w1.cell? ⟨wo.heap.size,2,none⟩=some (.slice M.ba P.bl.length M.bc):=kM2.cell 2
   have HPA:=hide (placeAll_any (w.heap.size+2) (Fl (pmS ms) m+rnd (4 * (P.tz.length:Int))) P M.ba M.bc M.bl w (w1.setCell ⟨wo.heap.size+1,0,none⟩ (.int .i64 (Fl (pmS ms) m))) S3.k2 HVM.out (by omega) (by omega) S3.be (by omega) HBS.out HBK.out)
   have HQ3:=hide (And.intro S3 (And.intro kM3 (And.intro kp3 TT3)))
   clear S1 kM kp TT S2 kM2 kp2 TT2 S3 tp kM3 kp3 TT3 HQ HPL B1 U1 g1
   go_wp2_with fail
   refine HPA.out.mono ?_
   rintro e w2 ⟨ar,cr,rfl,O,B2,U2⟩
   obtain ⟨S3,kM3,kp3,TT3⟩:=HQ3.out
   have hbs:wo.heap.size+2≤(w1.setCell ⟨wo.heap.size+1,0,none⟩ (.int .i64 (Fl (pmS ms) m))).heap.size:=kp3.lt
   have O:=O.mono hbs
   have S4:=S3.callF (fx':=(Fl (pmS ms) m+rnd (4 * (P.tz.length:Int)))+fsum P P.bl.length) U2 B2
   have kM4:=turn_blk U2 kM3 (by omega)
   have kp4:=turn_blk U2 kp3 (by omega)
   have TT4:=TT3.trans (U2.mono (S':=Lq w) (fun j hj=>by have e:j=w.heap.size+2:=hj;unfold Lq;omega))
   have y1:w2.cell? ⟨wo.heap.size+1,1,none⟩=some (.slice none 0 0):=kp4.cell 1
   have f1:=kp4.frozen 1
   have tp:=turn_set w2 (wo.heap.size+1) 1 (.slice ar P.bl.length cr)
   have S5:=S4.other (g:=wo.heap.size+1) (by omega) 1 (.slice ar P.bl.length cr)
   have kM5:=turn_blk tp kM4 (by omega)
   have kp5:Blk (w2.setCell ⟨wo.heap.size+1,1,none⟩ (.slice ar P.bl.length cr)) (wo.heap.size+1) #[.int .i64 (Fl (pmS ms) m),.slice ar P.bl.length cr,.int .i64 0,.int .i64 0] 43:=kp4.set 1 (.slice ar P.bl.length cr)
   have TT5:=turn_new' TT4 (show wo.heap.size≤wo.heap.size+1 by omega) 1 (.slice ar P.bl.length cr)
   have O5:=O.kept tp (fun k hk e=>by have:=(O.lt k hk).1;have e':k=wo.heap.size+1:=e;omega)
   have g3:(w2.setCell ⟨wo.heap.size+1,1,none⟩ (.slice ar P.bl.length cr)).cell? ⟨wo.heap.size,3,none⟩=some (.slice M.da P.dz.length M.dc):=kM5.cell 3
   have g4:(w2.setCell ⟨wo.heap.size+1,1,none⟩ (.slice ar P.bl.length cr)).cell? ⟨wo.heap.size,4,none⟩=some (.int .i64 P.bss):=kM5.cell 4
   have g3':w2.cell? ⟨wo.heap.size,3,none⟩=some (.slice M.da P.dz.length M.dc):=kM4.cell 3
   have g4':w2.cell? ⟨wo.heap.size,4,none⟩=some (.int .i64 P.bss):=kM4.cell 4
   have y3:(w2.setCell ⟨wo.heap.size+1,1,none⟩ (.slice ar P.bl.length cr)).cell? ⟨wo.heap.size+1,3,none⟩=some (.int .i64 0):=kp5.cell 3
   have y3':w2.cell? ⟨wo.heap.size+1,3,none⟩=some (.int .i64 0):=kp4.cell 3
   have f3:(w2.setCell ⟨wo.heap.size+1,1,none⟩ (.slice ar P.bl.length cr)).frozen? ⟨wo.heap.size+1,3,none⟩=false:=kp5.frozen 3
   have f3':=kp4.frozen 3
   have hwd:IntKind.i64.wrap ((P.dz.length:Int)+P.bss)=(P.dz.length:Int)+P.bss:=wraps62 _ (by omega) (by omega)
   have tq:=turn_set (w2.setCell ⟨wo.heap.size+1,1,none⟩ (.slice ar P.bl.length cr)) (wo.heap.size+1) 3 (.int .i64 (rnd ((P.dz.length:Int)+P.bss)))
   have S6:=S5.other (g:=wo.heap.size+1) (by omega) 3 (.int .i64 (rnd ((P.dz.length:Int)+P.bss)))
   have kp6:Blk ((w2.setCell ⟨wo.heap.size+1,1,none⟩ (.slice ar P.bl.length cr)).setCell ⟨wo.heap.size+1,3,none⟩ (.int .i64 (rnd ((P.dz.length:Int)+P.bss)))) (wo.heap.size+1) #[.int .i64 (Fl (pmS ms) m),.slice ar P.bl.length cr,.int .i64 0,.int .i64 (rnd ((P.dz.length:Int)+P.bss))] 43:=kp5.set 3 (.int .i64 (rnd ((P.dz.length:Int)+P.bss)))
   have TT6:=turn_new' TT5 (show wo.heap.size≤wo.heap.size+1 by omega) 3 (.int .i64 (rnd ((P.dz.length:Int)+P.bss)))
   have O6:=O5.kept tq (fun k hk e=>by have:=(O5.lt k hk).1;have e':k=wo.heap.size+1:=e;omega)
   have z3:((w2.setCell ⟨wo.heap.size+1,1,none⟩ (.slice ar P.bl.length cr)).setCell ⟨wo.heap.size+1,3,none⟩ (.int .i64 (rnd ((P.dz.length:Int)+P.bss)))).cell? ⟨wo.heap.size+1,3,none⟩=some (.int .i64 (rnd ((P.dz.length:Int)+P.bss))):=kp6.cell 3
   have HPI:=hide (placeI_any (w.heap.size+3) (65536+Ra (pmS ms) m) (rnd ((P.dz.length:Int)+P.bss)) ((w2.setCell ⟨wo.heap.size+1,1,none⟩ (.slice ar P.bl.length cr)).setCell ⟨wo.heap.size+1,3,none⟩ (.int .i64 (rnd ((P.dz.length:Int)+P.bss)))) S6.k3 (by omega) (by omega) (by omega) (by omega))
   have HQ6:=hide (And.intro S6 (And.intro kp6 (And.intro TT6 O6)))
   clear S3 kM3 kp3 TT3 S4 kM4 kp4 TT4 tp S5 kM5 kp5 TT5 O O5 tq S6 kp6 TT6 O6 HQ3 HPA B2 U2 g2 g2' y0 f0 hbs
   go_wp2_with fail
   refine (roundUp_any ((P.dz.length:Int)+P.bss) _ (by omega) (by omega)).mono ?_
   rintro e wz ⟨rfl,rfl⟩
   go_wp2_with fail
   refine HPI.out.mono ?_
   rintro e w3 ⟨rfl,B3,U3⟩
   obtain ⟨S6,kp6,TT6,O6⟩:=HQ6.out
   have rR1:=Ra_range HVD.out (m+1) (by omega)
   have rF1:=Fl_range HVD.out (m+1) (by omega)
   have eR:(65536+Ra (pmS ms) m)+rnd (rnd ((P.dz.length:Int)+P.bss))=65536+Ra (pmS ms) (m+1):=by
    rw [rnd_rnd]
    show _=65536+(Ra (pmS ms) m+dsz ((pmS ms).getD m zP))
    rw [← HPP.out]
    show _=65536+(Ra (pmS ms) m+(rnd ((P.dz.length:Int)+P.bss)))
    omega
   have eF:(Fl (pmS ms) m+rnd (4 * (P.tz.length:Int)))+fsum P P.bl.length=Fl (pmS ms) (m+1):=by
    show _=Fl (pmS ms) m+msz ((pmS ms).getD m zP)
    rw [← HPP.out]
    show _=Fl (pmS ms) m+(rnd (4 * (P.tz.length:Int))+fsum P P.bl.length)
    omega
   have S7:=S6.callR (rx':=(65536+Ra (pmS ms) m)+rnd (rnd ((P.dz.length:Int)+P.bss))) U3 B3
   rw [eR,eF] at S7
   have kp7:=turn_blk U3 kp6 (by omega)
   have TT7:=TT6.trans (U3.mono (S':=Lq w) (fun j hj=>by have e:j=w.heap.size+3:=hj;unfold Lq;omega))
   have O7:=O6.kept U3 (fun k hk e=>by have:=(O6.lt k hk).1;have e':k=w.heap.size+3:=e;omega)
   have y2:w3.cell? ⟨wo.heap.size+1,2,none⟩=some (.int .i64 0):=kp7.cell 2
   have f2:=kp7.frozen 2
   have tp:=turn_set w3 (wo.heap.size+1) 2 (.int .i64 (65536+Ra (pmS ms) m))
   have S8:=S7.other (g:=wo.heap.size+1) (by omega) 2 (.int .i64 (65536+Ra (pmS ms) m))
   have kp8:Blk (w3.setCell ⟨wo.heap.size+1,2,none⟩ (.int .i64 (65536+Ra (pmS ms) m))) (wo.heap.size+1) #[.int .i64 (Fl (pmS ms) m),.slice ar P.bl.length cr,.int .i64 (65536+Ra (pmS ms) m),.int .i64 (rnd ((P.dz.length:Int)+P.bss))] 43:=kp7.set 2 (.int .i64 (65536+Ra (pmS ms) m))
   have TT8:=turn_new' TT7 (show wo.heap.size≤wo.heap.size+1 by omega) 2 (.int .i64 (65536+Ra (pmS ms) m))
   have O8:=O7.kept tp (fun k hk e=>by have:=(O7.lt k hk).1;have e':k=wo.heap.size+1:=e;omega)
   have PX8:=HPX.out.1.kept TT8 (fun k hk e=>by have:=(HPX.out.1.lt.1 k hk).1;unfold Lq at e;omega) (fun x hx k hk e=>by have:=(HPX.out.1.lt.2 x hx k hk).1;unfold Lq at e;omega)
   have p0:(w3.setCell ⟨wo.heap.size+1,2,none⟩ (.int .i64 (65536+Ra (pmS ms) m))).cell? ⟨w.heap.size+1+1+1+1,0,none⟩=some (.slice a0 m c0):=S8.k4.cell 0
   have p0':w3.cell? ⟨w.heap.size+1+1+1+1,0,none⟩=some (.slice a0 m c0):=S7.k4.cell 0
   have r0:(w3.setCell ⟨wo.heap.size+1,2,none⟩ (.int .i64 (65536+Ra (pmS ms) m))).cell? ⟨wo.heap.size+1,0,none⟩=some (.int .i64 (Fl (pmS ms) m)):=kp8.cell 0
   have r1:(w3.setCell ⟨wo.heap.size+1,2,none⟩ (.int .i64 (65536+Ra (pmS ms) m))).cell? ⟨wo.heap.size+1,1,none⟩=some (.slice ar P.bl.length cr):=kp8.cell 1
   have r2:(w3.setCell ⟨wo.heap.size+1,2,none⟩ (.int .i64 (65536+Ra (pmS ms) m))).cell? ⟨wo.heap.size+1,2,none⟩=some (.int .i64 (65536+Ra (pmS ms) m)):=kp8.cell 2
   have r3:(w3.setCell ⟨wo.heap.size+1,2,none⟩ (.int .i64 (65536+Ra (pmS ms) m))).cell? ⟨wo.heap.size+1,3,none⟩=some (.int .i64 (rnd ((P.dz.length:Int)+P.bss))):=kp8.cell 3
   have r0':w3.cell? ⟨wo.heap.size+1,0,none⟩=some (.int .i64 (Fl (pmS ms) m)):=kp7.cell 0
   have r1':w3.cell? ⟨wo.heap.size+1,1,none⟩=some (.slice ar P.bl.length cr):=kp7.cell 1
   have r3':w3.cell? ⟨wo.heap.size+1,3,none⟩=some (.int .i64 (rnd ((P.dz.length:Int)+P.bss))):=kp7.cell 3
   have hTs:=TT8.size
   have hsC:(w3.setCell ⟨wo.heap.size+1,2,none⟩ (.int .i64 (65536+Ra (pmS ms) m))).heap.size=w3.heap.size:=size_setCell _ _ _
   obtain ⟨iP,hiP,hzP0,hzP1,hzP2⟩:=info_parts infoP
   have al2:Below (w3.setCell ⟨wo.heap.size+1,2,none⟩ (.int .i64 (65536+Ra (pmS ms) m))).heap.size (w3.setCell ⟨wo.heap.size+1,2,none⟩ (.int .i64 (65536+Ra (pmS ms) m))) ((w3.setCell ⟨wo.heap.size+1,2,none⟩ (.int .i64 (65536+Ra (pmS ms) m))).alloc (.cells #[.int .i64 (Fl (pmS ms) m),.slice ar P.bl.length cr,.int .i64 (65536+Ra (pmS ms) m),.int .i64 (rnd ((P.dz.length:Int)+P.bss))] 43)):=(Below.refl _ _).alloc (Nat.le_refl _) _
   have HOW:=hide (show ((w3.setCell ⟨wo.heap.size+1,2,none⟩ (.int .i64 (65536+Ra (pmS ms) m))).alloc (.cells #[.int .i64 (Fl (pmS ms) m),.slice ar P.bl.length cr,.int .i64 (65536+Ra (pmS ms) m),.int .i64 (rnd ((P.dz.length:Int)+P.bss))] 43)).ownsRow (w.heap.size+5) 43 4 (.slice a0 m c0) m (xs.flatMap clP) by have:=PX8.head.below al2;unfold OG at this;rw [HPX.out.2.1] at this;exact this)
   have HCL:=hide (show clP ((⟨(Fl (pmS ms) m),bkx P (Fl (pmS ms) m+rnd (4 * (P.tz.length:Int))) P.bl.length,(65536+Ra (pmS ms) m),(rnd ((P.dz.length:Int)+P.bss))⟩,ar,cr):PB)=[.int .i64 (Fl (pmS ms) m),.slice ar P.bl.length cr,.int .i64 (65536+Ra (pmS ms) m),.int .i64 (rnd ((P.dz.length:Int)+P.bss))] by simp [clP,svP,bkx_len])
   have HCN:=hide (show ∀ j u,([.int .i64 (Fl (pmS ms) m),.slice ar P.bl.length cr,.int .i64 (65536+Ra (pmS ms) m),.int .i64 (rnd ((P.dz.length:Int)+P.bss))]:List Value)[j]?=some u→((w3.setCell ⟨wo.heap.size+1,2,none⟩ (.int .i64 (65536+Ra (pmS ms) m))).alloc (.cells #[.int .i64 (Fl (pmS ms) m),.slice ar P.bl.length cr,.int .i64 (65536+Ra (pmS ms) m),.int .i64 (rnd ((P.dz.length:Int)+P.bss))] 43)).cell? ((⟨w3.heap.size,0,none⟩:Addr).add j)=some u by rw [← hsC];exact cells_new (w3.setCell ⟨wo.heap.size+1,2,none⟩ (.int .i64 (65536+Ra (pmS ms) m))) _ _ [.int .i64 (Fl (pmS ms) m),.slice ar P.bl.length cr,.int .i64 (65536+Ra (pmS ms) m),.int .i64 (rnd ((P.dz.length:Int)+P.bss))] rfl)
   have HLO:=hide (show ∀ A ∈ xs,∀ j,(svP A).ownBlock=some j→j<wo.heap.size+2 from fun A hA j hj=>by have:=(HPX.out.1.lt.2 A hA j hj).2;omega)
   have HPLC:=hide (show plc (pmS ms) m=⟨(Fl (pmS ms) m),bkx P (Fl (pmS ms) m+rnd (4 * (P.tz.length:Int))) P.bl.length,(65536+Ra (pmS ms) m),(rnd ((P.dz.length:Int)+P.bss))⟩ by unfold plc bkx;rw [← HPP.out];rfl)
   have HQ8:=hide (And.intro (S8.below al2) (And.intro (PX8.below al2) (O8.below al2)))
   have HPL2:=hide HPX.out.2
   have hlw:(w3.setCell ⟨wo.heap.size+1,2,none⟩ (.int .i64 (65536+Ra (pmS ms) m))).heap.size+1=((w3.setCell ⟨wo.heap.size+1,2,none⟩ (.int .i64 (65536+Ra (pmS ms) m))).alloc (.cells #[.int .i64 (Fl (pmS ms) m),.slice ar P.bl.length cr,.int .i64 (65536+Ra (pmS ms) m),.int .i64 (rnd ((P.dz.length:Int)+P.bss))] 43)).heap.size:=by simp
   have hwl:w.heap.size+5≤w3.heap.size:=by have:=S7.sz;omega
   clear S6 kp6 TT6 O6 S7 kp7 TT7 O7 tp S8 kp8 TT8 O8 PX8 al2 HQ6 HPI B3 U3 eR eF y1 f1 g3 g4 g3' g4' y3 y3' f3 f3' z3
   go_wp2_with (at_builtin;refine wpList_append_own _ rfl _ _ 28 rfl (w.heap.size+5) 43 iP (.agg #[.int .i64 0,.slice none 0 0,.int .i64 0,.int .i64 0]) 4 48 Tryz.underlying28 hiP hzP0 hzP1 hzP2 rfl (by decide) (.slice a0 m c0) m (xs.flatMap clP) rfl HOW.out ⟨w3.heap.size,0,none⟩ 1 1 [.int .i64 (Fl (pmS ms) m),.slice ar P.bl.length cr,.int .i64 (65536+Ra (pmS ms) m),.int .i64 (rnd ((P.dz.length:Int)+P.bss))] rfl rfl HCN.out (by intro u hu;simp at hu;rcases hu with rfl | rfl | rfl | rfl <;> rfl) (by unfold maxLen;omega) (by omega) (by simp;omega) ?_;intro v' w4 hown hgr _;obtain ⟨S8,PX8,O8⟩:=HQ8.out;have hrow:∀ j,(Value.slice a0 m c0).ownBlock=some j→w.heap.size+5≤j:=(fun j hj=>(PX8.lt.1 j hj).1);have P4:=PX8.push (x:=((⟨(Fl (pmS ms) m),bkx P (Fl (pmS ms) m+rnd (4 * (P.tz.length:Int))) P.bl.length,(65536+Ra (pmS ms) m),(rnd ((P.dz.length:Int)+P.bss))⟩,ar,cr):PB)) HPL2.out.1 (by show OG _ _ _ _ _ (.slice ar (bkx P (Fl (pmS ms) m+rnd (4 * (P.tz.length:Int))) P.bl.length).length cr) _;rw [bkx_len];exact O8) (by omega) HLO.out (by rw [HCL.out];exact hown) hgr (by decide);have S9:=S8.grown hgr hrow;obtain ⟨a0',c0',rfl⟩:=og_shape P4.head;rw [show (xs++[((⟨(Fl (pmS ms) m),bkx P (Fl (pmS ms) m+rnd (4 * (P.tz.length:Int))) P.bl.length,(65536+Ra (pmS ms) m),(rnd ((P.dz.length:Int)+P.bss))⟩,ar,cr):PB)]).length=m+1 by rw [List.length_append,HPL2.out.1];rfl] at P4 ⊢;have p4:w4.cell? ⟨w.heap.size+4,0,none⟩=some (.slice a0 m c0):=S9.k4.cell 0;have f4:=S9.k4.frozen 0;have H9:=hide (And.intro S9 P4);clear S8 PX8 O8 hrow P4 S9 hown hgr HOW HQ8 p0 p0' r0 r1 r2 r3 r0' r1' r3')
   obtain ⟨S9,P9⟩:=H9.out
   have t9:=turn_set w4 (w.heap.size+4) 0 (.slice a0' (m+1) c0')
   have S10:Lo w (w4.setCell ⟨w.heap.size+4,0,none⟩ (.slice a0' (m+1) c0')) s c k d (Fl (pmS ms) (m+1)) (65536+Ra (pmS ms) (m+1)) #[.slice a0' (m+1) c0',.int .i64 0,.slice none 0 0,.int .i64 0,.int .i64 0,.slice none 0 0]:=S9.set 0 (.slice a0' (m+1) c0')
   have P10:=P9.kept t9 (fun k hk e=>by have:=(P9.lt.1 k hk).1;have e':k=w.heap.size+4:=e;omega) (fun x hx k hk e=>by have:=(P9.lt.2 x hx k hk).1;have e':k=w.heap.size+4:=e;omega)
   have H10:=hide (And.intro S10 (And.intro P10 (And.intro (show (xs++[((⟨(Fl (pmS ms) m),bkx P (Fl (pmS ms) m+rnd (4 * (P.tz.length:Int))) P.bl.length,(65536+Ra (pmS ms) m),(rnd ((P.dz.length:Int)+P.bss))⟩,ar,cr):PB)]).length=m+1 by rw [List.length_append,HPL2.out.1];rfl) (show (xs++[((⟨(Fl (pmS ms) m),bkx P (Fl (pmS ms) m+rnd (4 * (P.tz.length:Int))) P.bl.length,(65536+Ra (pmS ms) m),(rnd ((P.dz.length:Int)+P.bss))⟩,ar,cr):PB)]).map (fun x=>x.1)=(List.range (m+1)).map (plc (pmS ms)) by rw [List.map_append,HPL2.out.2,List.range_succ,List.map_append];simp only [List.map_cons,List.map_nil];rw [HPLC.out]))))
   clear S9 P9 t9 S10 P10 H9 p4 f4
   go_wp2
   go_roundw
   case rel=>exact ⟨m+1,a0',c0',_,by omega,by go_num,H10.out.1,H10.out.2.1,H10.out.2.2.1,H10.out.2.2.2⟩
   case measure=>simp [intOf];omega
  ·have hlt':¬ (m:Int)<(n:Int):=by omega
   have hmn:m=n:=by omega
   subst hmn
   have rF:=Fl_range HVD.out m (by omega)
   have rR:=Ra_range HVD.out m (by omega)
   obtain ⟨sn,rfl⟩:∃ sn:Nat,s=(sn:Int):=⟨s.toNat,by omega⟩
   obtain ⟨RW,hRW⟩:∃ RW,RW=rnd (4 * c):=⟨_,rfl⟩
   have rRW:0≤RW∧RW≤287:=by have:=rnd_range (x:=4 * c) (by omega);omega
   have HRW:=hide hRW
   have c2:wo.cell? ⟨w.heap.size,2,none⟩=some (.int .i64 k):=S.k0.cell 2
   have HPI:=hide (placeI_any (w.heap.size+3) (65536+Ra (pmS ms) m) k wo S.k3 (by omega) (by omega) (by omega) (by omega))
   have HK:=hide (rnd_whole hk2)
   have HQ:=hide (And.intro S (And.intro PX (And.intro xl xp)))
   clear S PX xl xp hRW
   go_wp2_with fail
   refine HPI.out.mono ?_
   rintro e w1 ⟨rfl,B1,U1⟩
   rw [HK.out] at B1
   obtain ⟨S,PX,xl,xp⟩:=HQ.out
   have S1:=S.callR (rx':=(65536+Ra (pmS ms) m)+k) U1 B1
   have PX1:=PX.kept U1 (fun j hj e=>by have:=(PX.lt.1 j hj).1;have e':j=w.heap.size+3:=e;omega) (fun x hx j hj e=>by have:=(PX.lt.2 x hx j hj).1;have e':j=w.heap.size+3:=e;omega)
   have HXL:=hide (show ∀ x ∈ xs,∀ j,(svP x).ownBlock=some j→j<w1.heap.size from fun x hx j hj=>(PX1.lt.2 x hx j hj).2)
   have y1:w1.cell? ⟨w.heap.size+4,1,none⟩=some (.int .i64 0):=S1.k4.cell 1
   have f1:=S1.k4.frozen 1
   have S2:Lo w (w1.setCell ⟨w.heap.size+1+1+1+1,1,none⟩ (.int .i64 (65536+Ra (pmS ms) m))) sn c k d (Fl (pmS ms) m) ((65536+Ra (pmS ms) m)+k) #[.slice a0 m c0,.int .i64 (65536+Ra (pmS ms) m),.slice none 0 0,.int .i64 0,.int .i64 0,.slice none 0 0]:=S1.set 1 (.int .i64 (65536+Ra (pmS ms) m))
   have t2:Turn (fun j=>j=w.heap.size+4) w1 (w1.setCell ⟨w.heap.size+1+1+1+1,1,none⟩ (.int .i64 (65536+Ra (pmS ms) m))):=turn_set w1 (w.heap.size+4) 1 (.int .i64 (65536+Ra (pmS ms) m))
   have PX2:=PX1.kept t2 (fun j hj e=>by have:=(PX1.lt.1 j hj).1;have e':j=w.heap.size+4:=e;omega) (fun x hx j hj e=>by have:=(PX1.lt.2 x hx j hj).1;have e':j=w.heap.size+4:=e;omega)
   have c0':(w1.setCell ⟨w.heap.size+1+1+1+1,1,none⟩ (.int .i64 (65536+Ra (pmS ms) m))).cell? ⟨w.heap.size,0,none⟩=some (.int .i64 (sn:Int)):=S2.k0.cell 0
   have c0'':w1.cell? ⟨w.heap.size,0,none⟩=some (.int .i64 (sn:Int)):=S1.k0.cell 0
   have hsz1:=S1.sz
   have HXX:=hide (And.intro xl xp)
   have HQ2:=hide (And.intro S2 PX2)
   have HZ:=hide (show (65536+Ra (pmS ms) m)+k=(65536+Ra (pmS ms) m)+k+((0:Nat):Int) * RW by simp)
   obtain ⟨iI,hiI,hz0,hz1,hz2⟩:=info_parts infoI
   clear S PX xl xp S1 PX1 S2 t2 PX2 B1 U1 HPI HQ c2
   go_wp2_with fail
   go_loopw [52] (fun i wx=>∃ (q:Nat) (a2:Option Addr) (c2:Nat) (RQ:Int),q≤sn∧i=.int .i64 q∧Hid (RQ=(65536+Ra (pmS ms) m)+k+(q:Int) * RW)∧Lo w wx sn c k d (Fl (pmS ms) m) RQ #[.slice a0 m c0,.int .i64 (65536+Ra (pmS ms) m),.slice a2 q c2,.int .i64 0,.int .i64 0,.slice none 0 0]∧OG 3 1 clI wx w1.heap.size (.slice a2 q c2) ((List.range q).map (slt (pmS ms) c k))∧OPl wx (w.heap.size+5) (w.heap.size+5) (.slice a0 m c0) xs∧w1.heap.size≤wx.heap.size) (fun i _=>sn - (intOf i).toNat)
   case atStart=>exact ⟨0,none,0,_,Nat.zero_le _,rfl,HZ,HQ2.out.1,og_nil _ _ _ _ _,HQ2.out.2,by rw [size_setCell];exact Nat.le_refl _⟩
   case round=>
    clear HQ2 y1 f1 c0' c0'' HZ
    obtain ⟨q,a2,c2,RQ,hq,rfl,hRQ,S,O,PX,hsw⟩:=hrel
    have rRQ:0≤RQ∧RQ≤100000:=by
     have:=hRQ.out
     have h1:(q:Int) * RW≤4 * 287:=Int.mul_le_mul (by omega) (by omega) (by omega) (by omega)
     have h0:0≤(q:Int) * RW:=Int.mul_nonneg (by omega) (by omega)
     omega
    by_cases hlt2:q<sn
    ·have hlt2':(q:Int)<(sn:Int):=by omega
     have p2:wr.cell? ⟨w.heap.size+4,2,none⟩=some (.slice a2 q c2):=S.k4.cell 2
     have v1:wr.cell? ⟨w.heap.size,1,none⟩=some (.int .i64 c):=S.k0.cell 1
     have hwc:IntKind.i64.wrap (4 * c)=4 * c:=wraps62 _ (by omega) (by omega)
     have HSU:=hide (show (List.range (q+1)).map (slt (pmS ms) c k)=(List.range q).map (slt (pmS ms) c k)++[RQ] by
      rw [List.range_succ,List.map_append]
      simp only [List.map_cons,List.map_nil]
      congr 2
      unfold slt
      rw [hpl,hRQ.out,HRW.out])
     have HLN:=hide (show ((List.range q).map (slt (pmS ms) c k)).length=q by simp)
     have HNQ:=hide (show RQ+RW=(65536+Ra (pmS ms) m)+k+((q+1:Nat):Int) * RW by rw [hRQ.out];push_cast;rw [Int.add_mul];omega)
     have HO:=hide (And.intro S (And.intro O PX))
     have hszr:=S.sz
     clear S O PX hRQ
     go_wp2_with fail
     go_region_law (first
      | (refine step_append_lies _ rfl _ _ 29 rfl w1.heap.size 3 iI (.int .i64 0) 1 8 Tryz.underlying29 hiI hz0 hz1 hz2 rfl (by decide) (.slice a2 q c2) q (((List.range q).map (slt (pmS ms) c k)).flatMap clI) rfl HOW.out ⟨wa.heap.size,0,none⟩ 1 1 (clI RQ) rfl rfl (cells_new wa _ _ (clI RQ) rfl) (by intro u hu;simp [clI] at hu;subst hu;rfl) (by decide) (by unfold maxLen;omega) (by omega) (by simp;omega) _ rfl ?_;intro g4 c4 w4 hown hgr hat hlt4;have hrw:∀ j,(Value.slice a2 q c2).ownBlock=some j→w.heap.size+5≤j:=(fun j hj=>by have:=(OAL.out.lt j hj).1;omega);have p4:w4.cell? ⟨w.heap.size+4,2,none⟩=some (.slice a2 q c2):=(SAL.out.grown hgr hrw).k4.cell 2;have f4:=(SAL.out.grown hgr hrw).k4.frozen 2)
      | (go_simp;go_at_call 151;refine (placeI_any (w.heap.size+3) RQ (4 * c) _ (by first | exact HO.out.1.k3 | exact HO.out.1.drew.k3) (by omega) (by omega) (by omega) (by omega)).mono ?_;rintro e wa ⟨rfl,Ba,Ua⟩;rw [← HRW.out] at Ba;have Ua':Turn (fun j=>j=w.heap.size+3) wr wa:=⟨Ua.os,Ua.tape,Ua.output,Ua.size,Ua.block⟩;have SA:=HO.out.1.callR (rx':=RQ+RW) Ua' Ba;have hsa:=Ua'.size;have OA:=HO.out.2.1.kept Ua' (fun j hj e=>by have:=(HO.out.2.1.lt j hj).1;have e':j=w.heap.size+3:=e;omega);have XA:=HO.out.2.2.kept Ua' (fun j hj e=>by have:=(HO.out.2.2.lt.1 j hj).1;have e':j=w.heap.size+3:=e;omega) (fun x hx j hj e=>by have:=(HO.out.2.2.lt.2 x hx j hj).1;have e':j=w.heap.size+3:=e;omega);have al:Below wa.heap.size wa (wa.alloc (.cells #[.int .i64 RQ] 3)):=(Below.refl _ _).alloc (Nat.le_refl _) _;have pa:wa.cell? ⟨w.heap.size+4,2,none⟩=some (.slice a2 q c2):=SA.k4.cell 2;have SAL:=hide (SA.below al);have OAL:=hide (OA.below al);have XAL:=hide (XA.below al);have pb:(wa.alloc (.cells #[.int .i64 RQ] 3)).cell? ⟨w.heap.size+4,2,none⟩=some (.slice a2 q c2):=SAL.out.k4.cell 2;have va:wa.cell? ⟨w.heap.size,1,none⟩=some (.int .i64 c):=SA.k0.cell 1;have HOW:=hide (show (wa.alloc (.cells #[.int .i64 RQ] 3)).ownsRow w1.heap.size 3 1 (.slice a2 q c2) q (((List.range q).map (slt (pmS ms) c k)).flatMap clI) by have:=OAL.out;unfold OG at this;rw [HLN.out] at this;exact this);clear Ba Ua Ua' SA OA XA al))
     all_goals
      have S4:=SAL.out.grown hgr hrw
      have O4:OG 3 1 clI w4 w1.heap.size (.slice (some ⟨g4,0,none⟩) (q+1) c4) ((List.range (q+1)).map (slt (pmS ms) c k)):=by
       unfold OG
       rw [HSU.out,List.length_append,HLN.out,List.flatMap_append,List.flatMap_singleton]
       exact hown
      have X4:OPl w4 (w.heap.size+5) (w.heap.size+5) (.slice a0 m c0) xs:=⟨XAL.out.head.kept' hgr (fun k hk e=>by obtain ⟨cc,k1⟩:=own_kind OAL.out e;exact kind_no XAL.out.head hk k1 (by decide)),fun x hx=>(XAL.out.rows x hx).kept' hgr (fun k hk e=>by have h1:=(OAL.out.lt k e).1;have h2:=HXL.out x hx k hk;omega),XAL.out.apart⟩
      have t5:=turn_set w4 (w.heap.size+4) 2 (.slice (some ⟨g4,0,none⟩) (q+1) c4)
      have S5:Lo w (w4.setCell ⟨w.heap.size+4,2,none⟩ (.slice (some ⟨g4,0,none⟩) (q+1) c4)) sn c k d (Fl (pmS ms) m) (RQ+RW) #[.slice a0 m c0,.int .i64 (65536+Ra (pmS ms) m),.slice (some ⟨g4,0,none⟩) (q+1) c4,.int .i64 0,.int .i64 0,.slice none 0 0]:=S4.set 2 (.slice (some ⟨g4,0,none⟩) (q+1) c4)
      have O5:=O4.kept t5 (fun k hk e=>by have:=(O4.lt k hk).1;have e':k=w.heap.size+4:=e;omega)
      have X5:=X4.kept t5 (fun k hk e=>by have:=(X4.lt.1 k hk).1;have e':k=w.heap.size+4:=e;omega) (fun x hx k hk e=>by have:=(X4.lt.2 x hx k hk).1;have e':k=w.heap.size+4:=e;omega)
      have hs5:w1.heap.size≤(w4.setCell ⟨w.heap.size+4,2,none⟩ (.slice (some ⟨g4,0,none⟩) (q+1) c4)).heap.size:=by
       have h1:=hgr.size
       have h2:(wa.alloc (.cells #[.int .i64 RQ] 3)).heap.size=wa.heap.size+1:=by simp
       rw [size_setCell]
       first | omega | (
        have h3:wa.heap.size≤w4.heap.size:=by (try simp at h1);omega
        omega)
      have H5:=hide (And.intro S5 (And.intro O5 (And.intro X5 hs5)))
      clear S4 O4 X4 t5 S5 O5 X5 hs5 SAL OAL XAL HOW hown hgr hat hlt4 hrw p4 f4 pa pb va HO p2 v1
      go_wp2
      go_roundw
      case rel=>exact ⟨q+1,_,_,_,by omega,by go_num,HNQ,H5.out.1,H5.out.2.1,H5.out.2.2.1,H5.out.2.2.2⟩
      case measure=>simp [intOf];omega
    ·have hlt2':¬ (q:Int)<(sn:Int):=by omega
     have hqs:q=sn:=by omega
     have hRQ0:65536≤RQ:=by
      have:=hRQ.out
      have h0:0≤(q:Int) * RW:=Int.mul_nonneg (by omega) (by omega)
      omega
     have hw:IntKind.i64.wrap (RQ - 65536)=RQ - 65536:=wraps62 _ (by omega) (by omega)
     have S1:Lo w (wr.setCell ⟨w.heap.size+1+1+1+1,3,none⟩ (.int .i64 (Fl (pmS ms) m))) sn c k d (Fl (pmS ms) m) RQ #[.slice a0 m c0,.int .i64 (65536+Ra (pmS ms) m),.slice a2 q c2,.int .i64 (Fl (pmS ms) m),.int .i64 0,.slice none 0 0]:=S.set 3 (.int .i64 (Fl (pmS ms) m))
     have S2:Lo w ((wr.setCell ⟨w.heap.size+1+1+1+1,3,none⟩ (.int .i64 (Fl (pmS ms) m))).setCell ⟨w.heap.size+1+1+1+1,4,none⟩ (.int .i64 (RQ - 65536))) sn c k d (Fl (pmS ms) m) RQ #[.slice a0 m c0,.int .i64 (65536+Ra (pmS ms) m),.slice a2 q c2,.int .i64 (Fl (pmS ms) m),.int .i64 (RQ - 65536),.slice none 0 0]:=S1.set 4 (.int .i64 (RQ - 65536))
     have t1:Turn (fun j=>j=w.heap.size+4) wr (wr.setCell ⟨w.heap.size+1+1+1+1,3,none⟩ (.int .i64 (Fl (pmS ms) m))):=turn_set wr (w.heap.size+4) 3 (.int .i64 (Fl (pmS ms) m))
     have t2:Turn (fun j=>j=w.heap.size+4) (wr.setCell ⟨w.heap.size+1+1+1+1,3,none⟩ (.int .i64 (Fl (pmS ms) m))) ((wr.setCell ⟨w.heap.size+1+1+1+1,3,none⟩ (.int .i64 (Fl (pmS ms) m))).setCell ⟨w.heap.size+1+1+1+1,4,none⟩ (.int .i64 (RQ - 65536))):=turn_set _ (w.heap.size+4) 4 (.int .i64 (RQ - 65536))
     have t12:=t1.trans t2
     have O2:=O.kept t12 (fun k hk e=>by have:=(O.lt k hk).1;have e':k=w.heap.size+4:=e;omega)
     have X2:=PX.kept t12 (fun k hk e=>by have:=(PX.lt.1 k hk).1;have e':k=w.heap.size+4:=e;omega) (fun x hx k hk e=>by have:=(PX.lt.2 x hx k hk).1;have e':k=w.heap.size+4:=e;omega)
     have a0c:wr.cell? ⟨w.heap.size+2,0,none⟩=some (.int .i64 (Fl (pmS ms) m)):=S.k2.cell 0
     have b0c:(wr.setCell ⟨w.heap.size+1+1+1+1,3,none⟩ (.int .i64 (Fl (pmS ms) m))).cell? ⟨w.heap.size+1+1+1,0,none⟩=some (.int .i64 RQ):=S1.k3.cell 0
     have b0c':wr.cell? ⟨w.heap.size+1+1+1,0,none⟩=some (.int .i64 RQ):=S.k3.cell 0
     have l3:wr.cell? ⟨w.heap.size+4,3,none⟩=some (.int .i64 0):=S.k4.cell 3
     have n3:=S.k4.frozen 3
     have l4:(wr.setCell ⟨w.heap.size+1+1+1+1,3,none⟩ (.int .i64 (Fl (pmS ms) m))).cell? ⟨w.heap.size+1+1+1+1,4,none⟩=some (.int .i64 0):=S1.k4.cell 4
     have l4':wr.cell? ⟨w.heap.size+1+1+1+1,4,none⟩=some (.int .i64 0):=S.k4.cell 4
     have n4:(wr.setCell ⟨w.heap.size+1+1+1+1,3,none⟩ (.int .i64 (Fl (pmS ms) m))).frozen? ⟨w.heap.size+1+1+1+1,4,none⟩=false:=S1.k4.frozen 4
     have n4':wr.frozen? ⟨w.heap.size+1+1+1+1,4,none⟩=false:=S.k4.frozen 4
     have v0:((wr.setCell ⟨w.heap.size+1+1+1+1,3,none⟩ (.int .i64 (Fl (pmS ms) m))).setCell ⟨w.heap.size+1+1+1+1,4,none⟩ (.int .i64 (RQ - 65536))).cell? ⟨w.heap.size+1+1+1+1,0,none⟩=some (.slice a0 m c0):=S2.k4.cell 0
     have v1:((wr.setCell ⟨w.heap.size+1+1+1+1,3,none⟩ (.int .i64 (Fl (pmS ms) m))).setCell ⟨w.heap.size+1+1+1+1,4,none⟩ (.int .i64 (RQ - 65536))).cell? ⟨w.heap.size+1+1+1+1,1,none⟩=some (.int .i64 (65536+Ra (pmS ms) m)):=S2.k4.cell 1
     have v2:((wr.setCell ⟨w.heap.size+1+1+1+1,3,none⟩ (.int .i64 (Fl (pmS ms) m))).setCell ⟨w.heap.size+1+1+1+1,4,none⟩ (.int .i64 (RQ - 65536))).cell? ⟨w.heap.size+1+1+1+1,2,none⟩=some (.slice a2 q c2):=S2.k4.cell 2
     have v3:((wr.setCell ⟨w.heap.size+1+1+1+1,3,none⟩ (.int .i64 (Fl (pmS ms) m))).setCell ⟨w.heap.size+1+1+1+1,4,none⟩ (.int .i64 (RQ - 65536))).cell? ⟨w.heap.size+1+1+1+1,3,none⟩=some (.int .i64 (Fl (pmS ms) m)):=S2.k4.cell 3
     have v4:((wr.setCell ⟨w.heap.size+1+1+1+1,3,none⟩ (.int .i64 (Fl (pmS ms) m))).setCell ⟨w.heap.size+1+1+1+1,4,none⟩ (.int .i64 (RQ - 65536))).cell? ⟨w.heap.size+1+1+1+1,4,none⟩=some (.int .i64 (RQ - 65536)):=S2.k4.cell 4
     have v5:((wr.setCell ⟨w.heap.size+1+1+1+1,3,none⟩ (.int .i64 (Fl (pmS ms) m))).setCell ⟨w.heap.size+1+1+1+1,4,none⟩ (.int .i64 (RQ - 65536))).cell? ⟨w.heap.size+1+1+1+1,5,none⟩=some (.slice none 0 0):=S2.k4.cell 5
     have u0:((wr.setCell ⟨w.heap.size+1+1+1+1,3,none⟩ (.int .i64 (Fl (pmS ms) m))).setCell ⟨w.heap.size+1+1+1+1,4,none⟩ (.int .i64 (RQ - 65536))).cell? ⟨w.heap.size+1,0,none⟩=some (.slice none 0 0):=S2.k1.cell 0
     have u1:((wr.setCell ⟨w.heap.size+1+1+1+1,3,none⟩ (.int .i64 (Fl (pmS ms) m))).setCell ⟨w.heap.size+1+1+1+1,4,none⟩ (.int .i64 (RQ - 65536))).cell? ⟨w.heap.size+1,1,none⟩=some (.int .i64 0):=S2.k1.cell 1
     have u2:((wr.setCell ⟨w.heap.size+1+1+1+1,3,none⟩ (.int .i64 (Fl (pmS ms) m))).setCell ⟨w.heap.size+1+1+1+1,4,none⟩ (.int .i64 (RQ - 65536))).cell? ⟨w.heap.size+1,2,none⟩=some (.slice none 0 0):=S2.k1.cell 2
     have u3:((wr.setCell ⟨w.heap.size+1+1+1+1,3,none⟩ (.int .i64 (Fl (pmS ms) m))).setCell ⟨w.heap.size+1+1+1+1,4,none⟩ (.int .i64 (RQ - 65536))).cell? ⟨w.heap.size+1,3,none⟩=some (.int .i64 0):=S2.k1.cell 3
     have u4:((wr.setCell ⟨w.heap.size+1+1+1+1,3,none⟩ (.int .i64 (Fl (pmS ms) m))).setCell ⟨w.heap.size+1+1+1+1,4,none⟩ (.int .i64 (RQ - 65536))).cell? ⟨w.heap.size+1,4,none⟩=some (.int .i64 0):=S2.k1.cell 4
     have u5:((wr.setCell ⟨w.heap.size+1+1+1+1,3,none⟩ (.int .i64 (Fl (pmS ms) m))).setCell ⟨w.heap.size+1+1+1+1,4,none⟩ (.int .i64 (RQ - 65536))).cell? ⟨w.heap.size+1,5,none⟩=some (.slice none 0 0):=S2.k1.cell 5
     have z0:((wr.setCell ⟨w.heap.size+1+1+1+1,3,none⟩ (.int .i64 (Fl (pmS ms) m))).setCell ⟨w.heap.size+1+1+1+1,4,none⟩ (.int .i64 (RQ - 65536))).frozen? ⟨w.heap.size+1,0,none⟩=false:=S2.k1.frozen 0
     have z1:((wr.setCell ⟨w.heap.size+1+1+1+1,3,none⟩ (.int .i64 (Fl (pmS ms) m))).setCell ⟨w.heap.size+1+1+1+1,4,none⟩ (.int .i64 (RQ - 65536))).frozen? ⟨w.heap.size+1,1,none⟩=false:=S2.k1.frozen 1
     have z2:((wr.setCell ⟨w.heap.size+1+1+1+1,3,none⟩ (.int .i64 (Fl (pmS ms) m))).setCell ⟨w.heap.size+1+1+1+1,4,none⟩ (.int .i64 (RQ - 65536))).frozen? ⟨w.heap.size+1,2,none⟩=false:=S2.k1.frozen 2
     have z3:((wr.setCell ⟨w.heap.size+1+1+1+1,3,none⟩ (.int .i64 (Fl (pmS ms) m))).setCell ⟨w.heap.size+1+1+1+1,4,none⟩ (.int .i64 (RQ - 65536))).frozen? ⟨w.heap.size+1,3,none⟩=false:=S2.k1.frozen 3
     have z4:((wr.setCell ⟨w.heap.size+1+1+1+1,3,none⟩ (.int .i64 (Fl (pmS ms) m))).setCell ⟨w.heap.size+1+1+1+1,4,none⟩ (.int .i64 (RQ - 65536))).frozen? ⟨w.heap.size+1,4,none⟩=false:=S2.k1.frozen 4
     have z5:((wr.setCell ⟨w.heap.size+1+1+1+1,3,none⟩ (.int .i64 (Fl (pmS ms) m))).setCell ⟨w.heap.size+1+1+1+1,4,none⟩ (.int .i64 (RQ - 65536))).frozen? ⟨w.heap.size+1,5,none⟩=false:=S2.k1.frozen 5
     have HLAY:=hide (show lay (pmS ms) sn c k=⟨(List.range m).map (plc (pmS ms)),(65536+Ra (pmS ms) m),(List.range q).map (slt (pmS ms) c k),(Fl (pmS ms) m),RQ - 65536,(List.range m).map fun i=>tgs (pmS ms) ((pmS ms).getD i zP)⟩ by
      unfold lay
      rw [hpl,hRQ.out,HRW.out,Int.toNat_natCast,hqs]
      congr 1
      omega)
     have t26:=turn_st6 ((wr.setCell ⟨w.heap.size+1+1+1+1,3,none⟩ (.int .i64 (Fl (pmS ms) m))).setCell ⟨w.heap.size+1+1+1+1,4,none⟩ (.int .i64 (RQ - 65536))) (w.heap.size+1) (.slice a0 m c0) (.int .i64 (65536+Ra (pmS ms) m)) (.slice a2 q c2) (.int .i64 (Fl (pmS ms) m)) (.int .i64 (RQ - 65536)) (.slice none 0 0)
     have X26:=X2.kept t26 (fun k hk e=>by have:=(X2.lt.1 k hk).1;have e':k=w.heap.size+1:=e;omega) (fun x hx k hk e=>by have:=(X2.lt.2 x hx k hk).1;have e':k=w.heap.size+1:=e;omega)
     have O26:=O2.kept t26 (fun k hk e=>by have:=(O2.lt k hk).1;have e':k=w.heap.size+1:=e;omega)
     have B26:=below_turn S2.be t26 (fun j hj=>by have e':j=w.heap.size+1:=hj;omega) S2.be.size
     have SP:∀ j,(Value.slice a2 q c2).ownBlock=some j→∀ x ∈ xs,(svP x).ownBlock≠some j:=fun j hj x hx e=>by have h1:=(O.lt j hj).1;have h2:=HXL.out x hx j e;omega
     have HFIN:=hide (And.intro S2.k1 (And.intro X26 (And.intro O26 (And.intro B26 SP))))
     clear S S1 S2 t1 t2 t12 O PX O2 X2 t26 X26 O26 B26 SP hqs hRQ
     go_wp2
     refine lay_endI HFIN.out.1 _ _ _ _ _ _ _ _ rfl ?_
     obtain ⟨_,X26,O26,B26,SP⟩:=HFIN.out
     refine ⟨B26,a0,c0,xs,a2,c2,?_,?_⟩
     ·unfold layV
      rw [HLAY.out,HXX.out.1]
      simp
     ·rw [HLAY.out]
      exact ⟨by rw [HXX.out.1];exact X26.mono (by omega) (by omega),HXX.out.2,by simpa using O26.mono (by omega),or_nil,rfl,by simpa using SP⟩
structure Kin (w W:World) (s c k d:Int):Prop where
 be:Below w.heap.size w W
 k0:Blk W w.heap.size #[.int .i64 s,.int .i64 c,.int .i64 k,.int .i64 d] 25
 k1:Blk W (w.heap.size+1) zL 32
theorem Kin.below {w W W':World} {s c k d:Int} (h:Kin w W s c k d) (hb:Below W.heap.size W W'):Kin w W' s c k d:=⟨h.be.trans (hb.mono h.be.size),h.k0.below hb,h.k1.below hb⟩
theorem Kin.drew {w W:World} {s c k d:Int} (h:Kin w W s c k d):Kin w W.drew s c k d:=⟨h.be.drew,h.k0,h.k1⟩
theorem kin_new (w:World) (s c k d:Int):Kin w ((w.alloc (.cells #[.int .i64 s,.int .i64 c,.int .i64 k,.int .i64 d] 25)).alloc (.cells #[.slice none 0 0,.int .i64 0,.slice none 0 0,.int .i64 0,.int .i64 0,.slice none 0 0] 32)) s c k d:=by
 have k0:=Blk.new w #[.int .i64 s,.int .i64 c,.int .i64 k,.int .i64 d] 25
 have b0:Below w.heap.size w (w.alloc (.cells #[.int .i64 s,.int .i64 c,.int .i64 k,.int .i64 d] 25)):=(Below.refl _ _).alloc (Nat.le_refl _) _
 have s0:(w.alloc (.cells #[.int .i64 s,.int .i64 c,.int .i64 k,.int .i64 d] 25)).heap.size=w.heap.size+1:=by simp
 generalize w.alloc (.cells #[.int .i64 s,.int .i64 c,.int .i64 k,.int .i64 d] 25)=W0 at *
 have k1:=Blk.new W0 #[.slice none 0 0,.int .i64 0,.slice none 0 0,.int .i64 0,.int .i64 0,.slice none 0 0] 32
 have b1:Below W0.heap.size W0 (W0.alloc (.cells #[.slice none 0 0,.int .i64 0,.slice none 0 0,.int .i64 0,.int .i64 0,.slice none 0 0] 32)):=(Below.refl _ _).alloc (Nat.le_refl _) _
 rw [s0] at k1
 exact ⟨b0.trans (b1.mono (by omega)),k0.below b1,k1⟩
theorem link_endI {w W:World} (k1:Blk W (w.heap.size+1) zL 32) (v0 v1 v2 v3 v4 v5:Value) (V:Int) (Q:Ending→World→Prop) (tmps:Array Value) (h4:tmps[4]?=some (.pointer (some ⟨w.heap.size+1,0,none⟩))) (h5:tmps[5]?=some (.int .i64 V)) (hQ:Q (.returned (.tuple #[.agg #[v0,v1,v2,v3,v4,v5],.int .i64 V])) (st6 W (w.heap.size+1) v0 v1 v2 v3 v4 v5)):
 bodyPost Tryz.prog Tryz.f9 Q Exit.ret ⟨tmps,[]⟩ (st6 W (w.heap.size+1) v0 v1 v2 v3 v4 v5):=by
 have k:=blk_st6 k1 v0 v1 v2 v3 v4 v5
 have t0:(st6 W (w.heap.size+1) v0 v1 v2 v3 v4 v5).cell? ⟨w.heap.size+1,0,none⟩=some v0:=k.cell 0
 have t1:(st6 W (w.heap.size+1) v0 v1 v2 v3 v4 v5).cell? ⟨w.heap.size+1,1,none⟩=some v1:=k.cell 1
 have t2:(st6 W (w.heap.size+1) v0 v1 v2 v3 v4 v5).cell? ⟨w.heap.size+1,2,none⟩=some v2:=k.cell 2
 have t3:(st6 W (w.heap.size+1) v0 v1 v2 v3 v4 v5).cell? ⟨w.heap.size+1,3,none⟩=some v3:=k.cell 3
 have t4:(st6 W (w.heap.size+1) v0 v1 v2 v3 v4 v5).cell? ⟨w.heap.size+1,4,none⟩=some v4:=k.cell 4
 have t5:(st6 W (w.heap.size+1) v0 v1 v2 v3 v4 v5).cell? ⟨w.heap.size+1,5,none⟩=some v5:=k.cell 5
 refine bodyPost_ret_by (v:=.tuple #[.agg #[v0,v1,v2,v3,v4,v5],.int .i64 V]) ?_ rfl hQ
 simp [results,Tryz.results9,go_sem,h4,h5,t0,t1,t2,t3,t4,t5]
theorem link_noI {w W:World} {ps:List PMod} {s c k d V:Int} (S:Kin w W s c k d) (hV:lkc ps s c k d=V) (h0:V≠0) (tmps:Array Value) (h4:tmps[4]?=some (.pointer (some ⟨w.heap.size+1,0,none⟩))) (h5:tmps[5]?=some (.int .i64 V)):
 bodyPost Tryz.prog Tryz.f9 (LkM w ps s c k d) Exit.ret ⟨tmps,[]⟩ (st6 W (w.heap.size+1) (.slice none 0 0) (.int .i64 0) (.slice none 0 0) (.int .i64 0) (.int .i64 0) (.slice none 0 0)):=
 link_endI S.k1 _ _ _ _ _ _ V _ tmps h4 h5 (lk_none (below_turn S.be (turn_st6 _ _ _ _ _ _ _ _) (fun j hj=>by have e:j=w.heap.size+1:=hj;omega) S.be.size) hV h0)
theorem flat_clG:∀ (xs:List Tg) (i:Nat),i<xs.length→(xs.flatMap clG)[i * 3]?=some (.int .i64 (xs.getD i zT).1)∧(xs.flatMap clG)[i * 3+1]?=some (.int .i64 (xs.getD i zT).2.1)∧(xs.flatMap clG)[i * 3+2]?=some (.int .i64 (xs.getD i zT).2.2)
 | [],i,h=>by simp at h
 | x :: xs,0,h=>by simp [clG]
 | x :: xs,i+1,h=>by
   obtain ⟨h1,h2,h3⟩:=flat_clG xs i (by simpa using h)
   rw [show (i+1) * 3=i * 3+1+1+1 by omega]
   simp only [List.flatMap_cons,clG,List.cons_append,List.nil_append,List.getElem?_cons_succ]
   exact ⟨h1,h2,h3⟩
theorem ogG_at {w:World} {base n c:Nat} {a:Option Addr} {xs:List Tg} (h:OG 72 3 clG w base (.slice a n c) xs) (m:Nat) (hm:m<n):∃ g,a=some ⟨g,0,none⟩∧w.cell? ⟨g,m * 3,none⟩=some (.int .i64 (xs.getD m zT).1)∧w.cell? ⟨g,m * 3+1,none⟩=some (.int .i64 (xs.getD m zT).2.1)∧w.cell? ⟨g,m * 3+2,none⟩=some (.int .i64 (xs.getD m zT).2.2):=by
 obtain ⟨hl,_,_,h4⟩:=og_parts h
 obtain ⟨g,hg,hc⟩:=h4 (by omega)
 obtain ⟨e0,e1,e2⟩:=flat_clG xs m (by omega)
 exact ⟨g,hg,hc _ _ e0,hc _ _ e1,hc _ _ e2⟩
def zTB:TB:=([],none,0)
theorem OTg.below' {w w':World} {base lo:Nat} {v:Value} {ts:List TB} (h:OTg w base lo v ts) (hb:Below w.heap.size w w'):OTg w' base lo v ts:=OR.below h hb
theorem otg_at {w:World} {base lo n c:Nat} {a:Option Addr} {ts:List TB} (h:OTg w base lo (.slice a n c) ts) (i:Nat) (hi:i<n):∃ g,a=some ⟨g,0,none⟩∧w.cell? ⟨g,i,none⟩=some (svT (ts.getD i zTB))∧OG 72 3 clG w lo (svT (ts.getD i zTB)) (ts.getD i zTB).1:=by
 obtain ⟨hl,_,_,h4⟩:=og_parts h.head
 obtain ⟨g,hg,hc⟩:=h4 (by omega)
 refine ⟨g,hg,hc i _ ?_,h.rows _ (by simp [List.getD_eq_getElem?_getD,show i<ts.length by omega])⟩
 rw [show ts.flatMap clTB=ts.map svT from flat_one _ _]
 simp [List.getD_eq_getElem?_getD,show i<ts.length by omega]
def zPB:PB:=(⟨0,[],0,0⟩,none,0)
theorem flat_clP:∀ (xs:List PB) (i:Nat),i<xs.length→(xs.flatMap clP)[i * 4]?=some (.int .i64 (xs.getD i zPB).1.text)∧(xs.flatMap clP)[i * 4+1]?=some (svP (xs.getD i zPB))∧(xs.flatMap clP)[i * 4+2]?=some (.int .i64 (xs.getD i zPB).1.data)∧(xs.flatMap clP)[i * 4+3]?=some (.int .i64 (xs.getD i zPB).1.size)
 | [],i,h=>by simp at h
 | x :: xs,0,h=>by simp [clP]
 | x :: xs,i+1,h=>by
   obtain ⟨h1,h2,h3,h4⟩:=flat_clP xs i (by simpa using h)
   rw [show (i+1) * 4=i * 4+1+1+1+1 by omega]
   simp only [List.flatMap_cons,clP,List.cons_append,List.nil_append,List.getElem?_cons_succ]
   exact ⟨h1,h2,h3,h4⟩
theorem opl_at {w:World} {base lo n c:Nat} {a:Option Addr} {xs:List PB} (h:OPl w base lo (.slice a n c) xs) (i:Nat) (hi:i<n):∃ g,a=some ⟨g,0,none⟩∧w.cell? ⟨g,i * 4,none⟩=some (.int .i64 (xs.getD i zPB).1.text)∧w.cell? ⟨g,i * 4+1,none⟩=some (svP (xs.getD i zPB))∧w.cell? ⟨g,i * 4+2,none⟩=some (.int .i64 (xs.getD i zPB).1.data)∧w.cell? ⟨g,i * 4+3,none⟩=some (.int .i64 (xs.getD i zPB).1.size)∧OG 3 1 clI w lo (svP (xs.getD i zPB)) (xs.getD i zPB).1.banks:=by
 obtain ⟨hl,_,_,h4⟩:=og_parts h.head
 obtain ⟨g,hg,hc⟩:=h4 (by omega)
 obtain ⟨e0,e1,e2,e3⟩:=flat_clP xs i (by omega)
 exact ⟨g,hg,hc _ _ e0,hc _ _ e1,hc _ _ e2,hc _ _ e3,h.rows _ (by simp [List.getD_eq_getElem?_getD,show i<xs.length by omega])⟩
structure LayR (L:Lay):Prop where
 p:∀ x ∈ L.places,∀ z ∈ x.banks,wfi z
 s:∀ z ∈ L.slots,wfi z
 n:L.places.length≤1048576∧L.targets.length≤1048576∧∀ x ∈ L.targets,x.length≤1048576
def St (f:Nat→TB) (n j:Nat):Prop:=∃ i,i<n∧(svT (f i)).ownBlock=some j
structure Rt (w:World) (base:Nat) (a:Option Addr) (n:Nat) (f:Nat→TB) (X:Nat→List Tg):Prop where
 head:n≠0→∃ g cs,a=some ⟨g,0,none⟩∧¬ St f n g∧Blk w g cs 97∧∀ i,i<n→cs[i]?=some (svT (f i))
 rows:∀ i,i<n→OG 72 3 clG w base (svT (f i)) (X i)
 apart:∀ i j,i<n→j<n→i≠j→∀ k,(svT (f i)).ownBlock=some k→(svT (f j)).ownBlock≠some k
theorem Rt.kept {w w':World} {base:Nat} {a:Option Addr} {n:Nat} {f:Nat→TB} {X:Nat→List Tg} {S:Nat→Prop} (h:Rt w base a n f X) (t:Turn S w w') (hs:∀ i,i<n→∀ k,(svT (f i)).ownBlock=some k→¬ S k) (hh:n≠0→∀ g cs,a=some ⟨g,0,none⟩→Blk w g cs 97→¬ S g):Rt w' base a n f X:=
 ⟨fun hn=>by obtain ⟨g,cs,ha,h1,h2,h3⟩:=h.head hn;exact ⟨g,cs,ha,h1,turn_blk t h2 (hh hn g cs ha h2),h3⟩,fun i hi=>(h.rows i hi).kept t (hs i hi),h.apart⟩
structure Y3 (W:World) (base:Nat) (a0:Option Addr) (n:Nat) (f:Nat→Rw3) (V:Nat→Int × Int × Int) (X:Nat→List Int) (v2:Value) (Z:List Int) (a5:Option Addr) (tn:Nat) (F:Nat→TB) (G:Nat→List Tg):Prop where
 p:Rp W base a0 n f V X
 s:OI W base v2 Z
 t:Rt W base a5 tn F G
 sp:∀ k,v2.ownBlock=some k→¬ Sr f n k
section
variable {W W':World} {base:Nat} {a0:Option Addr} {n:Nat} {f:Nat→Rw3} {V V':Nat→Int × Int × Int} {X X':Nat→List Int} {v2:Value} {Z Z':List Int} {a5:Option Addr} {tn:Nat} {F:Nat→TB} {G G':Nat→List Tg}
theorem Y3.kr (h:Y3 W base a0 n f V X v2 Z a5 tn F G) {i:Nat} (hi:i<n) {j:Nat} (hj:(svR (f i)).ownBlock=some j):∃ cs,Blk W j cs 3:=own_kind (h.p.rows i hi).1 hj
theorem Y3.kt (h:Y3 W base a0 n f V X v2 Z a5 tn F G) {i:Nat} (hi:i<tn) {j:Nat} (hj:(svT (F i)).ownBlock=some j):∃ cs,Blk W j cs 72:=own_kind (h.t.rows i hi) hj
theorem Y3.kp (h:Y3 W base a0 n f V X v2 Z a5 tn F G) {j:Nat} (hj:Sp a0 f n j):(∃ cs,Blk W j cs 3)∨∃ cs,Blk W j cs 43:=by
 rcases hj with ⟨i,hi,e⟩ | ⟨hn,g,ha,rfl⟩
 ·exact .inl (h.kr hi e)
 ·obtain ⟨g',cs,ha',_,hb,_⟩:=h.p.head hn
  rw [ha'] at ha
  simp at ha
  subst ha
  exact .inr ⟨cs,hb⟩
theorem Y3.below (h:Y3 W base a0 n f V X v2 Z a5 tn F G) (hb:Below W.heap.size W W'):Y3 W' base a0 n f V X v2 Z a5 tn F G:=
 ⟨h.p.kept (S:=fun _=>False) (turn_below hb) (fun _ _ _ _ s=>s) (fun _ _ _ _ _ s=>s),h.s.below hb,h.t.kept (S:=fun _=>False) (turn_below hb) (fun _ _ _ _ s=>s) (fun _ _ _ _ _ s=>s),h.sp⟩
def Sy (a0:Option Addr) (n:Nat) (f:Nat→Rw3) (v2:Value) (tn:Nat) (F:Nat→TB) (j:Nat):Prop:=Sp a0 f n j∨v2.ownBlock=some j∨St F tn j
theorem Y3.lt (h:Y3 W base a0 n f V X v2 Z a5 tn F G) {j:Nat} (hj:Sy a0 n f v2 tn F j):base≤j∧j<W.heap.size:=by
 rcases hj with (⟨i,hi,e⟩ | ⟨hn,g,ha,rfl⟩) | hj | ⟨i,hi,e⟩
 ·exact (h.p.rows i hi).lt j e
 ·obtain ⟨g',cs,ha',_,hb,_⟩:=h.p.head hn
  have:=h.p.hb hn _ ha
  rw [ha'] at ha
  simp at ha
  subst ha
  exact ⟨this,hb.lt⟩
 ·exact h.s.lt j hj
 ·exact (h.t.rows i hi).lt j e
end
theorem Blk.lay {w:World} {b:Nat} {v0 v1 v2 v3 v4 v5:Value} (h:Blk w b #[v0,v1,v2,v3,v4,v5] 32):w.cell? ⟨b,0,none⟩=some v0∧w.cell? ⟨b,1,none⟩=some v1∧w.cell? ⟨b,2,none⟩=some v2∧w.cell? ⟨b,3,none⟩=some v3∧w.cell? ⟨b,4,none⟩=some v4∧w.cell? ⟨b,5,none⟩=some v5:=⟨h.cell 0,h.cell 1,h.cell 2,h.cell 3,h.cell 4,h.cell 5⟩
def TgS (w:World) (a:Option Addr) (n cap:Nat) (zs:List Tg):Prop:=
 zs.length=n∧n≤maxLen∧(n≠0→∃ b off,a=some ⟨b,off,none⟩∧∀ i,i<n→w.cell? ⟨b,off+i * 3,none⟩=some (.int .i64 (zs.getD i zT).1)∧w.cell? ⟨b,off+i * 3+1,none⟩=some (.int .i64 (zs.getD i zT).2.1)∧w.cell? ⟨b,off+i * 3+2,none⟩=some (.int .i64 (zs.getD i zT).2.2))∧n≤cap
theorem cell_below {w w':World} (hb:Below w.heap.size w w') {b o:Nat} {v:Value} (h:w.cell? ⟨b,o,none⟩=some v):w'.cell? ⟨b,o,none⟩=some v:=(hb.cell (World.block_lt_of_cell? w _ h)).trans h
theorem TgS.below {w w':World} {a:Option Addr} {n cap:Nat} {zs:List Tg} (h:TgS w a n cap zs) (hb:Below w.heap.size w w'):TgS w' a n cap zs:=by
 obtain ⟨h1,h2,h3,h4⟩:=h
 refine ⟨h1,h2,fun hn=>?_,h4⟩
 obtain ⟨b,off,e,hc⟩:=h3 hn
 exact ⟨b,off,e,fun i hi=>⟨cell_below hb (hc i hi).1,cell_below hb (hc i hi).2.1,cell_below hb (hc i hi).2.2⟩⟩
theorem TgS.at {w:World} {a:Option Addr} {n cap:Nat} {zs:List Tg} (h:TgS w a n cap zs) (i:Nat) (hi:i<n):∃ b off,a=some ⟨b,off,none⟩∧w.cell? ⟨b,off+i * 3,none⟩=some (.int .i64 (zs.getD i zT).1)∧w.cell? ⟨b,off+i * 3+1,none⟩=some (.int .i64 (zs.getD i zT).2.1)∧w.cell? ⟨b,off+i * 3+2,none⟩=some (.int .i64 (zs.getD i zT).2.2):=by
 obtain ⟨b,off,e,hc⟩:=h.2.2.1 (by omega)
 exact ⟨b,off,e,hc i hi⟩
def TsS (w:World) (a:Option Addr) (n cap:Nat) (ts:List TB):Prop:=
 ts.length=n∧n≤maxLen∧(n≠0→∃ b off,a=some ⟨b,off,none⟩∧∀ i,i<n→w.cell? ⟨b,off+i,none⟩=some (svT (ts.getD i zTB)))∧(∀ i,i<n→TgS w (ts.getD i zTB).2.1 (ts.getD i zTB).1.length (ts.getD i zTB).2.2 (ts.getD i zTB).1)∧n≤cap
theorem TsS.below {w w':World} {a:Option Addr} {n cap:Nat} {ts:List TB} (h:TsS w a n cap ts) (hb:Below w.heap.size w w'):TsS w' a n cap ts:=by
 obtain ⟨h1,h2,h3,h4,h5⟩:=h
 refine ⟨h1,h2,fun hn=>?_,fun i hi=>(h4 i hi).below hb,h5⟩
 obtain ⟨b,off,e,hc⟩:=h3 hn
 exact ⟨b,off,e,fun i hi=>cell_below hb (hc i hi)⟩
theorem TsS.at {w:World} {a:Option Addr} {n cap:Nat} {ts:List TB} (h:TsS w a n cap ts) (i:Nat) (hi:i<n):∃ b off,a=some ⟨b,off,none⟩∧w.cell? ⟨b,off+i,none⟩=some (svT (ts.getD i zTB)):=by
 obtain ⟨b,off,e,hc⟩:=h.2.2.1 (by omega)
 exact ⟨b,off,e,hc i hi⟩
def PlS (w:World) (a:Option Addr) (n cap:Nat) (xs:List PB):Prop:=
 xs.length=n∧n≤maxLen∧(n≠0→∃ b off,a=some ⟨b,off,none⟩∧∀ i,i<n→w.cell? ⟨b,off+i * 4,none⟩=some (.int .i64 (xs.getD i zPB).1.text)∧w.cell? ⟨b,off+i * 4+1,none⟩=some (svP (xs.getD i zPB))∧w.cell? ⟨b,off+i * 4+2,none⟩=some (.int .i64 (xs.getD i zPB).1.data)∧w.cell? ⟨b,off+i * 4+3,none⟩=some (.int .i64 (xs.getD i zPB).1.size))∧(∀ i,i<n→IS w (xs.getD i zPB).2.1 (xs.getD i zPB).1.banks.length (xs.getD i zPB).2.2 (xs.getD i zPB).1.banks)∧n≤cap
theorem PlS.below {w w':World} {a:Option Addr} {n cap:Nat} {xs:List PB} (h:PlS w a n cap xs) (hb:Below w.heap.size w w'):PlS w' a n cap xs:=by
 obtain ⟨h1,h2,h3,h4,h5⟩:=h
 refine ⟨h1,h2,fun hn=>?_,fun i hi=>(h4 i hi).below hb,h5⟩
 obtain ⟨b,off,e,hc⟩:=h3 hn
 exact ⟨b,off,e,fun i hi=>⟨cell_below hb (hc i hi).1,cell_below hb (hc i hi).2.1,cell_below hb (hc i hi).2.2.1,cell_below hb (hc i hi).2.2.2⟩⟩
theorem PlS.at {w:World} {a:Option Addr} {n cap:Nat} {xs:List PB} (h:PlS w a n cap xs) (i:Nat) (hi:i<n):∃ b off,a=some ⟨b,off,none⟩∧w.cell? ⟨b,off+i * 4,none⟩=some (.int .i64 (xs.getD i zPB).1.text)∧w.cell? ⟨b,off+i * 4+1,none⟩=some (svP (xs.getD i zPB))∧w.cell? ⟨b,off+i * 4+2,none⟩=some (.int .i64 (xs.getD i zPB).1.data)∧w.cell? ⟨b,off+i * 4+3,none⟩=some (.int .i64 (xs.getD i zPB).1.size):=by
 obtain ⟨b,off,e,hc⟩:=h.2.2.1 (by omega)
 exact ⟨b,off,e,hc i hi⟩
structure LyT (w:World) (L:Lay) (a0:Option Addr) (c0:Nat) (xs:List PB) (a2:Option Addr) (c2:Nat) (a5:Option Addr) (c5:Nat) (ts:List TB):Prop where
 p:PlS w a0 xs.length c0 xs
 ps:xs.map (fun x=>x.1)=L.places
 s:IS w a2 L.slots.length c2 L.slots
 t:TsS w a5 ts.length c5 ts
 tt:ts.map (fun x=>x.1)=L.targets
 v:wfi L.stack∧wfi L.flash∧wfi L.ram
theorem LyT.below {w w':World} {L:Lay} {a0:Option Addr} {c0:Nat} {xs:List PB} {a2:Option Addr} {c2:Nat} {a5:Option Addr} {c5:Nat} {ts:List TB} (h:LyT w L a0 c0 xs a2 c2 a5 c5 ts) (hb:Below w.heap.size w w'):LyT w' L a0 c0 xs a2 c2 a5 c5 ts:=⟨h.p.below hb,h.ps,h.s.below hb,h.t.below hb,h.tt,h.v⟩
theorem take_succ_eq {α:Type} (z:α) (xs ys:List α) (k:Nat) (h:xs.take k=ys.take k) (hx:k<xs.length) (hy:k<ys.length) (he:xs.getD k z=ys.getD k z):xs.take (k+1)=ys.take (k+1):=by
 rw [List.take_succ_eq_append_getElem hx,List.take_succ_eq_append_getElem hy,h]
 simp [List.getD_eq_getElem?_getD,hx,hy] at he
 rw [he]
set_option maxHeartbeats 1000000 in
theorem l5SameNums_any (a a':Option Addr) (n cap n' cap':Nat) (xs ys:List Int) (w:World) (h:IS w a n cap xs) (h':IS w a' n' cap' ys):
 Calls Tryz.prog 65 #[.slice a n cap,.slice a' n' cap'] w fun e w'=>e=.returned (.bool (decide (xs=ys)))∧Below w.heap.size w w':=by
 obtain ⟨hl,hmx,hr,hc,_⟩:=h
 obtain ⟨hl',hmx',hr',hc',_⟩:=h'
 unfold maxLen at hmx hmx'
 by_cases hn:n=n'
 ·subst hn
  have hne:((n:Int) != (n:Int))=false:=by simp
  by_cases hn0:n=0
  ·subst hn0
   obtain rfl:xs=[]:=List.eq_nil_of_length_eq_zero hl
   obtain rfl:ys=[]:=List.eq_nil_of_length_eq_zero hl'
   clear hc hc'
   go_enter Tryz.func65,Tryz.ntmps65
   go_wp2
   go_loop [5] (fun i=>i=.int .i64 0) (fun _=>0)
   case atStart=>rfl
   case round=>
    obtain rfl:=hrel
    go_wp2
    go_ret
    exact ⟨rfl,Below.refl _ _⟩
  ·obtain ⟨b,off,rfl,hd⟩:=hc hn0
   obtain ⟨b',off',rfl,hd'⟩:=hc' hn0
   clear hc hc'
   go_enter Tryz.func65,Tryz.ntmps65
   go_wp2
   go_loopw [5] (fun i wr=>∃ k:Nat,k≤n∧i=.int .i64 k∧xs.take k=ys.take k∧Below w.heap.size w wr) (fun i _=>n - (intOf i).toNat)
   case atStart=>exact ⟨0,Nat.zero_le _,rfl,by simp,Below.refl _ _⟩
   case round=>
    obtain ⟨k,hk,rfl,hT,hB⟩:=hrel
    by_cases hlt:k<n
    ·have hlt':(k:Int)<(n:Int):=by omega
     have hck:wr.cell? ⟨b,off+k,none⟩=some (.int .i64 (xs.getD k 0)):=(hB.cell (World.block_lt_of_cell? w _ (hd k hlt))).trans (hd k hlt)
     have hck':wr.cell? ⟨b',off'+k,none⟩=some (.int .i64 (ys.getD k 0)):=(hB.cell (World.block_lt_of_cell? w _ (hd' k hlt))).trans (hd' k hlt)
     by_cases he:xs.getD k 0=ys.getD k 0
     ·have hS:=take_eq_succI xs ys k hT (by omega) (by omega) he
      have HS:Hid (xs.take (k+1)=ys.take (k+1)):=hS
      rw [he] at hck
      clear hS hT hd hd' he
      generalize ys.getD k 0=z at *
      have hz:(z != z)=false:=by simp
      go_wp2
      go_quiet (fail)
      go_wp2
      go_roundw
      case rel=>exact ⟨k+1,by omega,by go_num,HS.out,below_drewN hB _⟩
      case measure=>simp [intOf];omega
     ·have hf:Hid (decide (xs=ys)=false):=by
       show _=_
       simp
       intro e
       exact he (by rw [e])
      have hz:(xs.getD k 0 != ys.getD k 0)=true:=by simpa using he
      clear hT hd hd' he
      generalize ys.getD k 0=z at *
      generalize xs.getD k 0=z' at *
      go_wp2
      go_quiet (fail)
      go_wp2
      go_ret
      exact ⟨ret_bool hf.out.symm,below_drewN hB _⟩
    ·have hf:Hid (decide (xs=ys)=true):=by
      show _=_
      simp
      rw [List.take_of_length_le (by omega),List.take_of_length_le (by omega)] at hT
      exact hT
     clear hT hd hd'
     go_wp2
     go_ret
     exact ⟨ret_bool hf.out.symm,hB⟩
 ·have hf:Hid (decide (xs=ys)=false):=by
   show _=_
   simp
   intro e
   rw [e] at hl
   omega
  have hne:((n:Int) != (n':Int))=true:=by simp;omega
  clear hc hc'
  go_enter Tryz.func65,Tryz.ntmps65
  go_wp2
  go_ret
  exact ⟨ret_bool hf.out.symm,Below.refl _ _⟩
set_option maxHeartbeats 1000000 in
theorem sliceEqI_any (a a':Option Addr) (n cap n' cap':Nat) (xs ys:List Int) (w:World) (h:IS w a n cap xs) (h':IS w a' n' cap' ys):
 Calls Tryz.prog 214 #[.slice a n cap,.slice a' n' cap'] w fun e w'=>e=.returned (.bool (decide (xs=ys)))∧Below w.heap.size w w':=by
 obtain ⟨hl,hmx,hr,hc,_⟩:=h
 obtain ⟨hl',hmx',hr',hc',_⟩:=h'
 unfold maxLen at hmx hmx'
 by_cases hn:n=n'
 ·subst hn
  have hne:((n:Int) != (n:Int))=false:=by simp
  by_cases hn0:n=0
  ·subst hn0
   obtain rfl:xs=[]:=List.eq_nil_of_length_eq_zero hl
   obtain rfl:ys=[]:=List.eq_nil_of_length_eq_zero hl'
   clear hc hc'
   go_enter Tryz.func214,Tryz.ntmps214
   go_wp2
   go_loop [13] (fun i=>i=.int .i64 0) (fun _=>0)
   case atStart=>rfl
   case round=>
    obtain rfl:=hrel
    go_wp2
    go_ret
    exact ⟨rfl,Below.refl _ _⟩
  ·obtain ⟨b,off,rfl,hd⟩:=hc hn0
   obtain ⟨b',off',rfl,hd'⟩:=hc' hn0
   clear hc hc'
   go_enter Tryz.func214,Tryz.ntmps214
   go_wp2
   go_loopw [13] (fun i wr=>∃ k:Nat,k≤n∧i=.int .i64 k∧xs.take k=ys.take k∧Below w.heap.size w wr) (fun i _=>n - (intOf i).toNat)
   case atStart=>exact ⟨0,Nat.zero_le _,rfl,by simp,Below.refl _ _⟩
   case round=>
    obtain ⟨k,hk,rfl,hT,hB⟩:=hrel
    by_cases hlt:k<n
    ·have hlt':(k:Int)<(n:Int):=by omega
     have hck:wr.cell? ⟨b,off+k,none⟩=some (.int .i64 (xs.getD k 0)):=(hB.cell (World.block_lt_of_cell? w _ (hd k hlt))).trans (hd k hlt)
     have hck':wr.cell? ⟨b',off'+k,none⟩=some (.int .i64 (ys.getD k 0)):=(hB.cell (World.block_lt_of_cell? w _ (hd' k hlt))).trans (hd' k hlt)
     by_cases he:xs.getD k 0=ys.getD k 0
     ·have hS:=take_eq_succI xs ys k hT (by omega) (by omega) he
      have HS:Hid (xs.take (k+1)=ys.take (k+1)):=hS
      rw [he] at hck
      clear hS hT hd hd' he
      generalize ys.getD k 0=z at *
      have hz:(z != z)=false:=by simp
      go_wp2
      go_quiet (fail)
      go_wp2
      go_roundw
      case rel=>exact ⟨k+1,by omega,by go_num,HS.out,below_drewN hB _⟩
      case measure=>simp [intOf];omega
     ·have hf:Hid (decide (xs=ys)=false):=by
       show _=_
       simp
       intro e
       exact he (by rw [e])
      have hz:(xs.getD k 0 != ys.getD k 0)=true:=by simpa using he
      clear hT hd hd' he
      generalize ys.getD k 0=z at *
      generalize xs.getD k 0=z' at *
      go_wp2
      go_quiet (fail)
      go_wp2
      go_ret
      exact ⟨ret_bool hf.out.symm,below_drewN hB _⟩
    ·have hf:Hid (decide (xs=ys)=true):=by
      show _=_
      simp
      rw [List.take_of_length_le (by omega),List.take_of_length_le (by omega)] at hT
      exact hT
     clear hT hd hd'
     go_wp2
     go_ret
     exact ⟨ret_bool hf.out.symm,hB⟩
 ·have hf:Hid (decide (xs=ys)=false):=by
   show _=_
   simp
   intro e
   rw [e] at hl
   omega
  have hne:((n:Int) != (n':Int))=true:=by simp;omega
  clear hc hc'
  go_enter Tryz.func214,Tryz.ntmps214
  go_wp2
  go_ret
  exact ⟨ret_bool hf.out.symm,Below.refl _ _⟩
set_option maxHeartbeats 2000000 in
theorem sliceEqT_any (a a':Option Addr) (n cap n' cap':Nat) (xs ys:List Tg) (w:World) (h:TgS w a n cap xs) (h':TgS w a' n' cap' ys):
 Calls Tryz.prog 218 #[.slice a n cap,.slice a' n' cap'] w fun e w'=>e=.returned (.bool (decide (xs=ys)))∧Below w.heap.size w w':=by
 have hl:=h.1
 have hl':=h'.1
 have hmx:=h.2.1
 have hmx':=h'.2.1
 unfold maxLen at hmx hmx'
 by_cases hn:n=n'
 ·subst hn
  have hne:((n:Int) != (n:Int))=false:=by simp
  go_enter Tryz.func218,Tryz.ntmps218
  go_wp2
  go_loopw [13] (fun i wr=>∃ k:Nat,k≤n∧i=.int .i64 k∧xs.take k=ys.take k∧Below w.heap.size w wr) (fun i _=>n - (intOf i).toNat)
  case atStart=>exact ⟨0,Nat.zero_le _,rfl,by simp,Below.refl _ _⟩
  case round=>
   obtain ⟨k,hk,rfl,hT,hB⟩:=hrel
   by_cases hlt:k<n
   ·have hlt':(k:Int)<(n:Int):=by omega
    obtain ⟨b,off,rfl,q0,q1,q2⟩:=(h.below hB).at k hlt
    obtain ⟨b',off',rfl,p0,p1,p2⟩:=(h'.below hB).at k hlt
    by_cases he:xs.getD k zT=ys.getD k zT
    ·have HS:Hid (xs.take (k+1)=ys.take (k+1)):=take_succ_eq zT xs ys k hT (by omega) (by omega) he
     rw [he] at q0 q1 q2
     clear hT he
     generalize ys.getD k zT=z at *
     obtain ⟨z0,z1,z2⟩:=z
     dsimp only at q0 q1 q2 p0 p1 p2
     go_wp2
     go_quiet (fail)
     go_wp2
     go_roundw
     case rel=>exact ⟨k+1,by omega,by go_num,HS.out,below_drewN hB _⟩
     case measure=>simp [intOf];omega
    ·have hf:Hid (decide (xs=ys)=false):=by
      show _=_
      simp
      intro e
      exact he (by rw [e])
     clear hT
     generalize ys.getD k zT=z at *
     generalize xs.getD k zT=z' at *
     obtain ⟨z0,z1,z2⟩:=z
     obtain ⟨x0,x1,x2⟩:=z'
     dsimp only at q0 q1 q2 p0 p1 p2
     have hne3:¬ (x0=z0∧x1=z1∧x2=z2):=fun e=>he (by rw [e.1,e.2.1,e.2.2])
     clear he
     by_cases f0:x0=z0
     ·by_cases f1:x1=z1
      ·have f2:¬ x2=z2:=fun e=>hne3 ⟨f0,f1,e⟩
       subst f0 f1
       have f2':(x2 == z2)=false:=by simpa using f2
       go_wp2
       go_quiet (fail)
       go_wp2
       go_ret
       exact ⟨ret_bool hf.out.symm,below_drewN hB _⟩
      ·subst f0
       have f1':(x1 == z1)=false:=by simpa using f1
       go_wp2
       go_quiet (fail)
       go_wp2
       go_ret
       exact ⟨ret_bool hf.out.symm,below_drewN hB _⟩
     ·have f0':(x0 == z0)=false:=by simpa using f0
      go_wp2
      go_quiet (fail)
      go_wp2
      go_ret
      exact ⟨ret_bool hf.out.symm,below_drewN hB _⟩
   ·have hf:Hid (decide (xs=ys)=true):=by
     show _=_
     simp
     rw [List.take_of_length_le (by omega),List.take_of_length_le (by omega)] at hT
     exact hT
    clear hT
    go_wp2
    go_ret
    exact ⟨ret_bool hf.out.symm,hB⟩
 ·have hf:Hid (decide (xs=ys)=false):=by
   show _=_
   simp
   intro e
   rw [e] at hl
   omega
  have hne:((n:Int) != (n':Int))=true:=by simp;omega
  go_enter Tryz.func218,Tryz.ntmps218
  go_wp2
  go_ret
  exact ⟨ret_bool hf.out.symm,Below.refl _ _⟩
end Go.Proofs.YtngdgogjlpjjpadGreat
