import Derived.Test.YtngdgogjlpjjpaeGreatP14
import Derived.Test.YtngdgogjlpjjpaeGreatP15
import Derived.Test.YtngdgogjlpjjpaeGreatP13
import Derived.Test.YtngdgogjlpjjpaeGreatP16
set_option maxHeartbeats 8000000
namespace Go.Proofs.YtngdgogjlpjjpaeGreat
open Go.RowKit Classical
set_option linter.unusedVariables false
set_option linter.unusedSimpArgs false
set_option maxRecDepth 100000
structure Kst (w W:World)(s c k d:Int):Prop where
 be:Below w.heap.size w W
 k0:Blk W w.heap.size #[.int .i64 s,.int .i64 c,.int .i64 k,.int .i64 d] 44
 k1:Blk W (w.heap.size+1) zL 36
 k2:Blk W (w.heap.size+2) zL 36
theorem Kst.below {w W W':World}{s c k d:Int}(h:Kst w W s c k d)(hb:Below W.heap.size W W'):Kst w W' s c k d:=⟨h.be.trans (hb.mono h.be.size),h.k0.below hb,h.k1.below hb,h.k2.below hb⟩
theorem Kst.drew {w W:World}{s c k d:Int}(h:Kst w W s c k d):Kst w W.drew s c k d:=⟨h.be.drew,h.k0,h.k1,h.k2⟩
theorem kst_new (w:World)(s c k d:Int):Kst w (((w.alloc (.cells #[.int .i64 s,.int .i64 c,.int .i64 k,.int .i64 d] 44)).alloc (.cells #[.slice none 0 0,.int .i64 0,.slice none 0 0,.int .i64 0,.int .i64 0,.slice none 0 0] 36)).alloc (.cells #[.slice none 0 0,.int .i64 0,.slice none 0 0,.int .i64 0,.int .i64 0,.slice none 0 0] 36)) s c k d:=by
 have k0:=Blk.new w #[.int .i64 s,.int .i64 c,.int .i64 k,.int .i64 d] 44
 have b0:Below w.heap.size w (w.alloc (.cells #[.int .i64 s,.int .i64 c,.int .i64 k,.int .i64 d] 44)):=(Below.refl _ _).alloc (Nat.le_refl _) _
 have s0:(w.alloc (.cells #[.int .i64 s,.int .i64 c,.int .i64 k,.int .i64 d] 44)).heap.size=w.heap.size+1:=by simp
 generalize w.alloc (.cells #[.int .i64 s,.int .i64 c,.int .i64 k,.int .i64 d] 44)=W0 at *
 have k1:=Blk.new W0 #[.slice none 0 0,.int .i64 0,.slice none 0 0,.int .i64 0,.int .i64 0,.slice none 0 0] 36
 have b1:Below W0.heap.size W0 (W0.alloc (.cells #[.slice none 0 0,.int .i64 0,.slice none 0 0,.int .i64 0,.int .i64 0,.slice none 0 0] 36)):=(Below.refl _ _).alloc (Nat.le_refl _) _
 have s1:(W0.alloc (.cells #[.slice none 0 0,.int .i64 0,.slice none 0 0,.int .i64 0,.int .i64 0,.slice none 0 0] 36)).heap.size=w.heap.size+2:=by simp [s0]
 rw [s0] at k1
 generalize W0.alloc (.cells #[.slice none 0 0,.int .i64 0,.slice none 0 0,.int .i64 0,.int .i64 0,.slice none 0 0] 36)=W1 at *
 have k2:=Blk.new W1 #[.slice none 0 0,.int .i64 0,.slice none 0 0,.int .i64 0,.int .i64 0,.slice none 0 0] 36
 have b2:Below W1.heap.size W1 (W1.alloc (.cells #[.slice none 0 0,.int .i64 0,.slice none 0 0,.int .i64 0,.int .i64 0,.slice none 0 0] 36)):=(Below.refl _ _).alloc (Nat.le_refl _) _
 rw [s1] at k2
 have c12:=b1.trans (b2.mono (by omega))
 exact ⟨b0.trans (c12.mono (by omega)),k0.below c12,k1.below b2,k2⟩
theorem link_end {w W:World}(k1:Blk W (w.heap.size+1) zL 36)(v0 v1 v2 v3 v4 v5:Value)(V:Int)(Q:Ending→World→Prop)(tmps:Array Value)(h4:tmps[4]?=some (.pointer (some ⟨w.heap.size+1,0,none⟩)))(h5:tmps[5]?=some (.int .i64 V))(hQ:Q (.returned (.tuple #[.agg #[v0,v1,v2,v3,v4,v5],.int .i64 V])) (st6 W (w.heap.size+1) v0 v1 v2 v3 v4 v5)):
 bodyPost Tryz.prog Tryz.f72 Q Exit.ret ⟨tmps,[]⟩ (st6 W (w.heap.size+1) v0 v1 v2 v3 v4 v5):=by
 have k:=blk_st6 k1 v0 v1 v2 v3 v4 v5
 have t0:(st6 W (w.heap.size+1) v0 v1 v2 v3 v4 v5).cell? ⟨w.heap.size+1,0,none⟩=some v0:=k.cell 0
 have t1:(st6 W (w.heap.size+1) v0 v1 v2 v3 v4 v5).cell? ⟨w.heap.size+1,1,none⟩=some v1:=k.cell 1
 have t2:(st6 W (w.heap.size+1) v0 v1 v2 v3 v4 v5).cell? ⟨w.heap.size+1,2,none⟩=some v2:=k.cell 2
 have t3:(st6 W (w.heap.size+1) v0 v1 v2 v3 v4 v5).cell? ⟨w.heap.size+1,3,none⟩=some v3:=k.cell 3
 have t4:(st6 W (w.heap.size+1) v0 v1 v2 v3 v4 v5).cell? ⟨w.heap.size+1,4,none⟩=some v4:=k.cell 4
 have t5:(st6 W (w.heap.size+1) v0 v1 v2 v3 v4 v5).cell? ⟨w.heap.size+1,5,none⟩=some v5:=k.cell 5
 refine bodyPost_ret_by (v:=.tuple #[.agg #[v0,v1,v2,v3,v4,v5],.int .i64 V]) ?_ rfl hQ
 simp [results,Tryz.results72,go_sem,h4,h5,t0,t1,t2,t3,t4,t5]
theorem link_no {w W:World}{ps:List PMod}{s c k d V:Int}(S:Kst w W s c k d)(hV:lkc ps s c k d=V)(h0:V≠0)(tmps:Array Value)(h4:tmps[4]?=some (.pointer (some ⟨w.heap.size+1,0,none⟩)))(h5:tmps[5]?=some (.int .i64 V)):
 bodyPost Tryz.prog Tryz.f72 (LkM w ps s c k d) Exit.ret ⟨tmps,[]⟩ (st6 W (w.heap.size+1) (.slice none 0 0) (.int .i64 0) (.slice none 0 0) (.int .i64 0) (.int .i64 0) (.slice none 0 0)):=
 link_end S.k1 _ _ _ _ _ _ V _ tmps h4 h5 (lk_none (below_turn S.be (turn_st6 _ _ _ _ _ _ _ _) (fun j hj=>by have e:j=w.heap.size+1:=hj;omega) S.be.size) hV h0)
theorem sLink_any (a:Option Addr)(n cap:Nat)(ms:List Md)(s c k d:Int)(w:World)(h:MSD w a n cap ms):
 Calls Tryz.prog 72 #[.slice a n cap,.agg #[.int .i64 s,.int .i64 c,.int .i64 k,.int .i64 d]] w (LkM w (pmS ms) s c k d):=by
 have K0:=kst_new w s c k d
 have hl:=h.s.1
 have hpl:(pmS ms).length=n:=by rw [pmS_len,hl]
 have HH:=hide h
 have HSND:=hide (fun (W:World) (hb:Below w.heap.size w W)=>l5Sound_any a n cap ms s c k d W (h.below hb))
 obtain ⟨V,hV⟩:∃ V,V=snd4 (pmS ms) s c k d:=⟨_,rfl⟩
 rw [← hV] at HSND
 have HV:=hide hV
 have HK:=hide K0
 have c0:(((w.alloc (.cells #[.int .i64 s,.int .i64 c,.int .i64 k,.int .i64 d] 44)).alloc (.cells #[.slice none 0 0,.int .i64 0,.slice none 0 0,.int .i64 0,.int .i64 0,.slice none 0 0] 36)).alloc (.cells #[.slice none 0 0,.int .i64 0,.slice none 0 0,.int .i64 0,.int .i64 0,.slice none 0 0] 36)).cell? ⟨w.heap.size,0,none⟩=some (.int .i64 s):=K0.k0.cell 0
 have c1:(((w.alloc (.cells #[.int .i64 s,.int .i64 c,.int .i64 k,.int .i64 d] 44)).alloc (.cells #[.slice none 0 0,.int .i64 0,.slice none 0 0,.int .i64 0,.int .i64 0,.slice none 0 0] 36)).alloc (.cells #[.slice none 0 0,.int .i64 0,.slice none 0 0,.int .i64 0,.int .i64 0,.slice none 0 0] 36)).cell? ⟨w.heap.size,1,none⟩=some (.int .i64 c):=K0.k0.cell 1
 have c2:(((w.alloc (.cells #[.int .i64 s,.int .i64 c,.int .i64 k,.int .i64 d] 44)).alloc (.cells #[.slice none 0 0,.int .i64 0,.slice none 0 0,.int .i64 0,.int .i64 0,.slice none 0 0] 36)).alloc (.cells #[.slice none 0 0,.int .i64 0,.slice none 0 0,.int .i64 0,.int .i64 0,.slice none 0 0] 36)).cell? ⟨w.heap.size,2,none⟩=some (.int .i64 k):=K0.k0.cell 2
 have c3:(((w.alloc (.cells #[.int .i64 s,.int .i64 c,.int .i64 k,.int .i64 d] 44)).alloc (.cells #[.slice none 0 0,.int .i64 0,.slice none 0 0,.int .i64 0,.int .i64 0,.slice none 0 0] 36)).alloc (.cells #[.slice none 0 0,.int .i64 0,.slice none 0 0,.int .i64 0,.int .i64 0,.slice none 0 0] 36)).cell? ⟨w.heap.size,3,none⟩=some (.int .i64 d):=K0.k0.cell 3
 clear h K0 hV
 go_enter Tryz.func72,Tryz.ntmps72
 go_wp2_with fail
 refine (HSND.out _ HK.out.be).mono ?_
 rintro e w1 ⟨rfl,hb1⟩
 have S1:=HK.out.below hb1
 clear hb1 c0 c1 c2 c3 HK
 by_cases hV0:V=0
 ·have hs4:=HV.out
  rw [hV0] at hs4
  obtain ⟨hcf,h4,hvl⟩:=snd4_parts hs4.symm
  have HS4:=hide hs4.symm
  have HVL:=hide hvl
  have HCF:=hide hcf
  rw [hpl] at h4
  subst hV0
  clear hs4 hvl hcf
  have HK1:=hide S1
  clear S1
  go_wp2
  go_loopw [7] (fun i wr=>∃ m:Nat,m≤n∧i=.int .i64 m∧(∀ j,j<m→tgOk (pmS ms) ((pmS ms).getD j zP))∧Kst w wr s c k d) (fun i _=>n - (intOf i).toNat)
  case atStart=>exact ⟨0,Nat.zero_le _,rfl,fun j hj=>absurd hj (by omega),HK1.out⟩
  case round=>
   clear HK1
   obtain ⟨m,hm,rfl,hv,S⟩:=hrel
   by_cases hlt:m<n
   ·have hlt':(m:Int)<(n:Int):=by omega
    have H:=HH.out.below S.be
    obtain ⟨b,off,rfl,q0,q1,q2,q3,q4,q5,q6,q7⟩:=H.s.at m hlt
    have HTA:=hide (l5Targets_any (some ⟨b,off,none⟩) n cap ms (ms.getD m zMd) wr H HVL.out h4 (H.d m hlt) (by rw [← pmS_at (by omega)];exact HVL.out m (by omega)))
    have HEP:=hide (pmS_at (ms:=ms) (i:=m) (by omega))
    have HG:=hide (And.intro hv S)
    generalize ms.getD m zMd=M at *
    clear H hv S
    go_wp2_with fail
    refine HTA.out.mono ?_
    rintro e w2 ⟨hb2,H2⟩
    have S2:=HG.out.2.below hb2
    clear hb2 HTA q0 q1 q2 q3 q4 q5 q6 q7
    rcases H2 with ⟨hno,v,rfl⟩ | ⟨hyes,at',ct',rfl,_⟩
    ·have HP:=hide (lkc_5 (d:=d) (k:=k) (w:=c) (s:=s) HS4.out (fun hi=>hno (by rw [← HEP.out];exact hi m (by omega))))
     have HS:=hide S2
     have u0:w2.cell? ⟨w.heap.size+1+1,0,none⟩=some (.slice none 0 0):=S2.k2.cell 0
     have u1:w2.cell? ⟨w.heap.size+1+1,1,none⟩=some (.int .i64 0):=S2.k2.cell 1
     have u2:w2.cell? ⟨w.heap.size+1+1,2,none⟩=some (.slice none 0 0):=S2.k2.cell 2
     have u3:w2.cell? ⟨w.heap.size+1+1,3,none⟩=some (.int .i64 0):=S2.k2.cell 3
     have u4:w2.cell? ⟨w.heap.size+1+1,4,none⟩=some (.int .i64 0):=S2.k2.cell 4
     have u5:w2.cell? ⟨w.heap.size+1+1,5,none⟩=some (.slice none 0 0):=S2.k2.cell 5
     have p0:w2.cell? ⟨w.heap.size+1,0,none⟩=some (.slice none 0 0):=S2.k1.cell 0
     have p1:w2.cell? ⟨w.heap.size+1,1,none⟩=some (.int .i64 0):=S2.k1.cell 1
     have p2:w2.cell? ⟨w.heap.size+1,2,none⟩=some (.slice none 0 0):=S2.k1.cell 2
     have p3:w2.cell? ⟨w.heap.size+1,3,none⟩=some (.int .i64 0):=S2.k1.cell 3
     have p4:w2.cell? ⟨w.heap.size+1,4,none⟩=some (.int .i64 0):=S2.k1.cell 4
     have p5:w2.cell? ⟨w.heap.size+1,5,none⟩=some (.slice none 0 0):=S2.k1.cell 5
     have y0:w2.frozen? ⟨w.heap.size+1,0,none⟩=false:=S2.k1.frozen 0
     have y1:w2.frozen? ⟨w.heap.size+1,1,none⟩=false:=S2.k1.frozen 1
     have y2:w2.frozen? ⟨w.heap.size+1,2,none⟩=false:=S2.k1.frozen 2
     have y3:w2.frozen? ⟨w.heap.size+1,3,none⟩=false:=S2.k1.frozen 3
     have y4:w2.frozen? ⟨w.heap.size+1,4,none⟩=false:=S2.k1.frozen 4
     have y5:w2.frozen? ⟨w.heap.size+1,5,none⟩=false:=S2.k1.frozen 5
     clear S2 hno
     go_wp2
     exact link_no HS.out HP.out (by decide) _ rfl rfl
    ·have HV2:=hide (show ∀ j,j<m+1→tgOk (pmS ms) ((pmS ms).getD j zP) from fun j hj=>by
      by_cases e:j=m
      ·subst e;rw [HEP.out];exact hyes
      ·exact HG.out.1 j (by omega))
     have HS:=hide S2
     clear S2 hyes
     go_wp2
     go_roundw
     case rel=>exact ⟨m+1,by omega,by go_num,HV2.out,HS.out⟩
     case measure=>simp [intOf];omega
   ·have hlt':¬ (m:Int)<(n:Int):=by omega
    have HI:=hide (show imps (pmS ms) from fun i hi=>hv i (by omega))
    have HTL:=hide (l5TooLong_any a n cap ms s c k d wr (HH.out.below S.be))
    obtain ⟨B,hB⟩:∃ B,B=decide (0<s∧¬ shrt (pmS ms) c):=⟨_,rfl⟩
    rw [← hB] at HTL
    have HB:=hide hB
    have HS:=hide S
    have c0:wr.cell? ⟨w.heap.size,0,none⟩=some (.int .i64 s):=S.k0.cell 0
    have c1:wr.cell? ⟨w.heap.size,1,none⟩=some (.int .i64 c):=S.k0.cell 1
    have c2:wr.cell? ⟨w.heap.size,2,none⟩=some (.int .i64 k):=S.k0.cell 2
    have c3:wr.cell? ⟨w.heap.size,3,none⟩=some (.int .i64 d):=S.k0.cell 3
    clear S hv hB
    go_wp2_with fail
    refine HTL.out.mono ?_
    rintro e w3 ⟨rfl,hb3⟩
    have S3:=HS.out.below hb3
    clear hb3 HTL HS c0 c1 c2 c3
    cases B with
    | true=>
      have HP:=hide (lkc_6 (d:=d) (k:=k) HS4.out HI.out (of_decide_eq_true HB.out.symm))
      have HS:=hide S3
      have u0:w3.cell? ⟨w.heap.size+1+1,0,none⟩=some (.slice none 0 0):=S3.k2.cell 0
      have u1:w3.cell? ⟨w.heap.size+1+1,1,none⟩=some (.int .i64 0):=S3.k2.cell 1
      have u2:w3.cell? ⟨w.heap.size+1+1,2,none⟩=some (.slice none 0 0):=S3.k2.cell 2
      have u3:w3.cell? ⟨w.heap.size+1+1,3,none⟩=some (.int .i64 0):=S3.k2.cell 3
      have u4:w3.cell? ⟨w.heap.size+1+1,4,none⟩=some (.int .i64 0):=S3.k2.cell 4
      have u5:w3.cell? ⟨w.heap.size+1+1,5,none⟩=some (.slice none 0 0):=S3.k2.cell 5
      have p0:w3.cell? ⟨w.heap.size+1,0,none⟩=some (.slice none 0 0):=S3.k1.cell 0
      have p1:w3.cell? ⟨w.heap.size+1,1,none⟩=some (.int .i64 0):=S3.k1.cell 1
      have p2:w3.cell? ⟨w.heap.size+1,2,none⟩=some (.slice none 0 0):=S3.k1.cell 2
      have p3:w3.cell? ⟨w.heap.size+1,3,none⟩=some (.int .i64 0):=S3.k1.cell 3
      have p4:w3.cell? ⟨w.heap.size+1,4,none⟩=some (.int .i64 0):=S3.k1.cell 4
      have p5:w3.cell? ⟨w.heap.size+1,5,none⟩=some (.slice none 0 0):=S3.k1.cell 5
      have y0:w3.frozen? ⟨w.heap.size+1,0,none⟩=false:=S3.k1.frozen 0
      have y1:w3.frozen? ⟨w.heap.size+1,1,none⟩=false:=S3.k1.frozen 1
      have y2:w3.frozen? ⟨w.heap.size+1,2,none⟩=false:=S3.k1.frozen 2
      have y3:w3.frozen? ⟨w.heap.size+1,3,none⟩=false:=S3.k1.frozen 3
      have y4:w3.frozen? ⟨w.heap.size+1,4,none⟩=false:=S3.k1.frozen 4
      have y5:w3.frozen? ⟨w.heap.size+1,5,none⟩=false:=S3.k1.frozen 5
      clear S3
      go_wp2
      exact link_no HS.out HP.out (by decide) _ rfl rfl
    | false=>
      have HN6:=hide (of_decide_eq_false HB.out.symm)
      have HLA:=hide (l5Lay_any a n cap ms s c k d w3 (HH.out.below S3.be) h4 HCF.out HVL.out HI.out)
      have HS:=hide S3
      have c0:w3.cell? ⟨w.heap.size,0,none⟩=some (.int .i64 s):=S3.k0.cell 0
      have c1:w3.cell? ⟨w.heap.size,1,none⟩=some (.int .i64 c):=S3.k0.cell 1
      have c2:w3.cell? ⟨w.heap.size,2,none⟩=some (.int .i64 k):=S3.k0.cell 2
      have c3:w3.cell? ⟨w.heap.size,3,none⟩=some (.int .i64 d):=S3.k0.cell 3
      clear S3
      go_wp2_with fail
      refine HLA.out.mono ?_
      rintro e w4 ⟨hb4,a0,d0,xs,a2,d2,a5,d5,ts,rfl,LO⟩
      have S4:=HS.out.below hb4
      obtain ⟨L,hL⟩:∃ L,L=lay (pmS ms) s c k:=⟨_,rfl⟩
      rw [← hL] at LO ⊢
      have HLL:=hide hL
      have al:Below w4.heap.size w4 (w4.alloc (.cells #[.slice a0 xs.length d0,.int .i64 L.stack,.slice a2 L.slots.length d2,.int .i64 L.flash,.int .i64 L.ram,.slice a5 ts.length d5] 36)):=(Below.refl _ _).alloc (Nat.le_refl _) _
      have kL:=Blk.new w4 #[.slice a0 xs.length d0,.int .i64 L.stack,.slice a2 L.slots.length d2,.int .i64 L.flash,.int .i64 L.ram,.slice a5 ts.length d5] 36
      have S5:=S4.below al
      have LO5:LayO (w4.alloc (.cells #[.slice a0 xs.length d0,.int .i64 L.stack,.slice a2 L.slots.length d2,.int .i64 L.flash,.int .i64 L.ram,.slice a5 ts.length d5] 36)) w3.heap.size L a0 d0 xs a2 d2 a5 d5 ts:=⟨LO.p.below al,LO.ps,LO.s.below al,LO.t.below al,LO.tt,LO.sp⟩
      have hs34:=hb4.size
      have hs3:=HS.out.k2.lt
      have l0:(w4.alloc (.cells #[.slice a0 xs.length d0,.int .i64 L.stack,.slice a2 L.slots.length d2,.int .i64 L.flash,.int .i64 L.ram,.slice a5 ts.length d5] 36)).cell? ⟨w4.heap.size,0,none⟩=some (.slice a0 xs.length d0):=kL.cell 0
      have l1:(w4.alloc (.cells #[.slice a0 xs.length d0,.int .i64 L.stack,.slice a2 L.slots.length d2,.int .i64 L.flash,.int .i64 L.ram,.slice a5 ts.length d5] 36)).cell? ⟨w4.heap.size,1,none⟩=some (.int .i64 L.stack):=kL.cell 1
      have l2:(w4.alloc (.cells #[.slice a0 xs.length d0,.int .i64 L.stack,.slice a2 L.slots.length d2,.int .i64 L.flash,.int .i64 L.ram,.slice a5 ts.length d5] 36)).cell? ⟨w4.heap.size,2,none⟩=some (.slice a2 L.slots.length d2):=kL.cell 2
      have l3:(w4.alloc (.cells #[.slice a0 xs.length d0,.int .i64 L.stack,.slice a2 L.slots.length d2,.int .i64 L.flash,.int .i64 L.ram,.slice a5 ts.length d5] 36)).cell? ⟨w4.heap.size,3,none⟩=some (.int .i64 L.flash):=kL.cell 3
      have l4:(w4.alloc (.cells #[.slice a0 xs.length d0,.int .i64 L.stack,.slice a2 L.slots.length d2,.int .i64 L.flash,.int .i64 L.ram,.slice a5 ts.length d5] 36)).cell? ⟨w4.heap.size,4,none⟩=some (.int .i64 L.ram):=kL.cell 4
      have l5:(w4.alloc (.cells #[.slice a0 xs.length d0,.int .i64 L.stack,.slice a2 L.slots.length d2,.int .i64 L.flash,.int .i64 L.ram,.slice a5 ts.length d5] 36)).cell? ⟨w4.heap.size,5,none⟩=some (.slice a5 ts.length d5):=kL.cell 5
      have HS5:=hide (And.intro S5 LO5)
      have hz5:(w4.alloc (.cells #[.slice a0 xs.length d0,.int .i64 L.stack,.slice a2 L.slots.length d2,.int .i64 L.flash,.int .i64 L.ram,.slice a5 ts.length d5] 36)).heap.size=w4.heap.size+1:=by simp
      clear hb4 S4 LO al kL hL HS HLA c0 c1 c2 c3
      unfold layV
      by_cases h7:16384<L.flash
      ·have HP:=hide (lkc_7 (d:=d) HS4.out HI.out HN6.out (by rw [← HLL.out];exact h7))
       have u0:(w4.alloc (.cells #[.slice a0 xs.length d0,.int .i64 L.stack,.slice a2 L.slots.length d2,.int .i64 L.flash,.int .i64 L.ram,.slice a5 ts.length d5] 36)).cell? ⟨w.heap.size+1+1,0,none⟩=some (.slice none 0 0):=S5.k2.cell 0
       have u1:(w4.alloc (.cells #[.slice a0 xs.length d0,.int .i64 L.stack,.slice a2 L.slots.length d2,.int .i64 L.flash,.int .i64 L.ram,.slice a5 ts.length d5] 36)).cell? ⟨w.heap.size+1+1,1,none⟩=some (.int .i64 0):=S5.k2.cell 1
       have u2:(w4.alloc (.cells #[.slice a0 xs.length d0,.int .i64 L.stack,.slice a2 L.slots.length d2,.int .i64 L.flash,.int .i64 L.ram,.slice a5 ts.length d5] 36)).cell? ⟨w.heap.size+1+1,2,none⟩=some (.slice none 0 0):=S5.k2.cell 2
       have u3:(w4.alloc (.cells #[.slice a0 xs.length d0,.int .i64 L.stack,.slice a2 L.slots.length d2,.int .i64 L.flash,.int .i64 L.ram,.slice a5 ts.length d5] 36)).cell? ⟨w.heap.size+1+1,3,none⟩=some (.int .i64 0):=S5.k2.cell 3
       have u4:(w4.alloc (.cells #[.slice a0 xs.length d0,.int .i64 L.stack,.slice a2 L.slots.length d2,.int .i64 L.flash,.int .i64 L.ram,.slice a5 ts.length d5] 36)).cell? ⟨w.heap.size+1+1,4,none⟩=some (.int .i64 0):=S5.k2.cell 4
       have u5:(w4.alloc (.cells #[.slice a0 xs.length d0,.int .i64 L.stack,.slice a2 L.slots.length d2,.int .i64 L.flash,.int .i64 L.ram,.slice a5 ts.length d5] 36)).cell? ⟨w.heap.size+1+1,5,none⟩=some (.slice none 0 0):=S5.k2.cell 5
       have p0:(w4.alloc (.cells #[.slice a0 xs.length d0,.int .i64 L.stack,.slice a2 L.slots.length d2,.int .i64 L.flash,.int .i64 L.ram,.slice a5 ts.length d5] 36)).cell? ⟨w.heap.size+1,0,none⟩=some (.slice none 0 0):=S5.k1.cell 0
       have p1:(w4.alloc (.cells #[.slice a0 xs.length d0,.int .i64 L.stack,.slice a2 L.slots.length d2,.int .i64 L.flash,.int .i64 L.ram,.slice a5 ts.length d5] 36)).cell? ⟨w.heap.size+1,1,none⟩=some (.int .i64 0):=S5.k1.cell 1
       have p2:(w4.alloc (.cells #[.slice a0 xs.length d0,.int .i64 L.stack,.slice a2 L.slots.length d2,.int .i64 L.flash,.int .i64 L.ram,.slice a5 ts.length d5] 36)).cell? ⟨w.heap.size+1,2,none⟩=some (.slice none 0 0):=S5.k1.cell 2
       have p3:(w4.alloc (.cells #[.slice a0 xs.length d0,.int .i64 L.stack,.slice a2 L.slots.length d2,.int .i64 L.flash,.int .i64 L.ram,.slice a5 ts.length d5] 36)).cell? ⟨w.heap.size+1,3,none⟩=some (.int .i64 0):=S5.k1.cell 3
       have p4:(w4.alloc (.cells #[.slice a0 xs.length d0,.int .i64 L.stack,.slice a2 L.slots.length d2,.int .i64 L.flash,.int .i64 L.ram,.slice a5 ts.length d5] 36)).cell? ⟨w.heap.size+1,4,none⟩=some (.int .i64 0):=S5.k1.cell 4
       have p5:(w4.alloc (.cells #[.slice a0 xs.length d0,.int .i64 L.stack,.slice a2 L.slots.length d2,.int .i64 L.flash,.int .i64 L.ram,.slice a5 ts.length d5] 36)).cell? ⟨w.heap.size+1,5,none⟩=some (.slice none 0 0):=S5.k1.cell 5
       have y0:(w4.alloc (.cells #[.slice a0 xs.length d0,.int .i64 L.stack,.slice a2 L.slots.length d2,.int .i64 L.flash,.int .i64 L.ram,.slice a5 ts.length d5] 36)).frozen? ⟨w.heap.size+1,0,none⟩=false:=S5.k1.frozen 0
       have y1:(w4.alloc (.cells #[.slice a0 xs.length d0,.int .i64 L.stack,.slice a2 L.slots.length d2,.int .i64 L.flash,.int .i64 L.ram,.slice a5 ts.length d5] 36)).frozen? ⟨w.heap.size+1,1,none⟩=false:=S5.k1.frozen 1
       have y2:(w4.alloc (.cells #[.slice a0 xs.length d0,.int .i64 L.stack,.slice a2 L.slots.length d2,.int .i64 L.flash,.int .i64 L.ram,.slice a5 ts.length d5] 36)).frozen? ⟨w.heap.size+1,2,none⟩=false:=S5.k1.frozen 2
       have y3:(w4.alloc (.cells #[.slice a0 xs.length d0,.int .i64 L.stack,.slice a2 L.slots.length d2,.int .i64 L.flash,.int .i64 L.ram,.slice a5 ts.length d5] 36)).frozen? ⟨w.heap.size+1,3,none⟩=false:=S5.k1.frozen 3
       have y4:(w4.alloc (.cells #[.slice a0 xs.length d0,.int .i64 L.stack,.slice a2 L.slots.length d2,.int .i64 L.flash,.int .i64 L.ram,.slice a5 ts.length d5] 36)).frozen? ⟨w.heap.size+1,4,none⟩=false:=S5.k1.frozen 4
       have y5:(w4.alloc (.cells #[.slice a0 xs.length d0,.int .i64 L.stack,.slice a2 L.slots.length d2,.int .i64 L.flash,.int .i64 L.ram,.slice a5 ts.length d5] 36)).frozen? ⟨w.heap.size+1,5,none⟩=false:=S5.k1.frozen 5
       clear S5 LO5
       go_wp2
       exact link_no HS5.out.1 HP.out (by decide) _ rfl rfl
      ·have h7':¬ 16384<L.flash:=h7
       by_cases h8:16384<L.ram
       ·have HP:=hide (lkc_8 (d:=d) HS4.out HI.out HN6.out (by rw [← HLL.out];exact h7) (by rw [← HLL.out];exact h8))
        have u0:(w4.alloc (.cells #[.slice a0 xs.length d0,.int .i64 L.stack,.slice a2 L.slots.length d2,.int .i64 L.flash,.int .i64 L.ram,.slice a5 ts.length d5] 36)).cell? ⟨w.heap.size+1+1,0,none⟩=some (.slice none 0 0):=S5.k2.cell 0
        have u1:(w4.alloc (.cells #[.slice a0 xs.length d0,.int .i64 L.stack,.slice a2 L.slots.length d2,.int .i64 L.flash,.int .i64 L.ram,.slice a5 ts.length d5] 36)).cell? ⟨w.heap.size+1+1,1,none⟩=some (.int .i64 0):=S5.k2.cell 1
        have u2:(w4.alloc (.cells #[.slice a0 xs.length d0,.int .i64 L.stack,.slice a2 L.slots.length d2,.int .i64 L.flash,.int .i64 L.ram,.slice a5 ts.length d5] 36)).cell? ⟨w.heap.size+1+1,2,none⟩=some (.slice none 0 0):=S5.k2.cell 2
        have u3:(w4.alloc (.cells #[.slice a0 xs.length d0,.int .i64 L.stack,.slice a2 L.slots.length d2,.int .i64 L.flash,.int .i64 L.ram,.slice a5 ts.length d5] 36)).cell? ⟨w.heap.size+1+1,3,none⟩=some (.int .i64 0):=S5.k2.cell 3
        have u4:(w4.alloc (.cells #[.slice a0 xs.length d0,.int .i64 L.stack,.slice a2 L.slots.length d2,.int .i64 L.flash,.int .i64 L.ram,.slice a5 ts.length d5] 36)).cell? ⟨w.heap.size+1+1,4,none⟩=some (.int .i64 0):=S5.k2.cell 4
        have u5:(w4.alloc (.cells #[.slice a0 xs.length d0,.int .i64 L.stack,.slice a2 L.slots.length d2,.int .i64 L.flash,.int .i64 L.ram,.slice a5 ts.length d5] 36)).cell? ⟨w.heap.size+1+1,5,none⟩=some (.slice none 0 0):=S5.k2.cell 5
        have p0:(w4.alloc (.cells #[.slice a0 xs.length d0,.int .i64 L.stack,.slice a2 L.slots.length d2,.int .i64 L.flash,.int .i64 L.ram,.slice a5 ts.length d5] 36)).cell? ⟨w.heap.size+1,0,none⟩=some (.slice none 0 0):=S5.k1.cell 0
        have p1:(w4.alloc (.cells #[.slice a0 xs.length d0,.int .i64 L.stack,.slice a2 L.slots.length d2,.int .i64 L.flash,.int .i64 L.ram,.slice a5 ts.length d5] 36)).cell? ⟨w.heap.size+1,1,none⟩=some (.int .i64 0):=S5.k1.cell 1
        have p2:(w4.alloc (.cells #[.slice a0 xs.length d0,.int .i64 L.stack,.slice a2 L.slots.length d2,.int .i64 L.flash,.int .i64 L.ram,.slice a5 ts.length d5] 36)).cell? ⟨w.heap.size+1,2,none⟩=some (.slice none 0 0):=S5.k1.cell 2
        have p3:(w4.alloc (.cells #[.slice a0 xs.length d0,.int .i64 L.stack,.slice a2 L.slots.length d2,.int .i64 L.flash,.int .i64 L.ram,.slice a5 ts.length d5] 36)).cell? ⟨w.heap.size+1,3,none⟩=some (.int .i64 0):=S5.k1.cell 3
        have p4:(w4.alloc (.cells #[.slice a0 xs.length d0,.int .i64 L.stack,.slice a2 L.slots.length d2,.int .i64 L.flash,.int .i64 L.ram,.slice a5 ts.length d5] 36)).cell? ⟨w.heap.size+1,4,none⟩=some (.int .i64 0):=S5.k1.cell 4
        have p5:(w4.alloc (.cells #[.slice a0 xs.length d0,.int .i64 L.stack,.slice a2 L.slots.length d2,.int .i64 L.flash,.int .i64 L.ram,.slice a5 ts.length d5] 36)).cell? ⟨w.heap.size+1,5,none⟩=some (.slice none 0 0):=S5.k1.cell 5
        have y0:(w4.alloc (.cells #[.slice a0 xs.length d0,.int .i64 L.stack,.slice a2 L.slots.length d2,.int .i64 L.flash,.int .i64 L.ram,.slice a5 ts.length d5] 36)).frozen? ⟨w.heap.size+1,0,none⟩=false:=S5.k1.frozen 0
        have y1:(w4.alloc (.cells #[.slice a0 xs.length d0,.int .i64 L.stack,.slice a2 L.slots.length d2,.int .i64 L.flash,.int .i64 L.ram,.slice a5 ts.length d5] 36)).frozen? ⟨w.heap.size+1,1,none⟩=false:=S5.k1.frozen 1
        have y2:(w4.alloc (.cells #[.slice a0 xs.length d0,.int .i64 L.stack,.slice a2 L.slots.length d2,.int .i64 L.flash,.int .i64 L.ram,.slice a5 ts.length d5] 36)).frozen? ⟨w.heap.size+1,2,none⟩=false:=S5.k1.frozen 2
        have y3:(w4.alloc (.cells #[.slice a0 xs.length d0,.int .i64 L.stack,.slice a2 L.slots.length d2,.int .i64 L.flash,.int .i64 L.ram,.slice a5 ts.length d5] 36)).frozen? ⟨w.heap.size+1,3,none⟩=false:=S5.k1.frozen 3
        have y4:(w4.alloc (.cells #[.slice a0 xs.length d0,.int .i64 L.stack,.slice a2 L.slots.length d2,.int .i64 L.flash,.int .i64 L.ram,.slice a5 ts.length d5] 36)).frozen? ⟨w.heap.size+1,4,none⟩=false:=S5.k1.frozen 4
        have y5:(w4.alloc (.cells #[.slice a0 xs.length d0,.int .i64 L.stack,.slice a2 L.slots.length d2,.int .i64 L.flash,.int .i64 L.ram,.slice a5 ts.length d5] 36)).frozen? ⟨w.heap.size+1,5,none⟩=false:=S5.k1.frozen 5
        clear S5 LO5
        go_wp2
        exact link_no HS5.out.1 HP.out (by decide) _ rfl rfl
       ·have HP:=hide (lkc_0 (d:=d) HS4.out HI.out HN6.out (by rw [← HLL.out];exact h7) (by rw [← HLL.out];exact h8))
        have p0:(w4.alloc (.cells #[.slice a0 xs.length d0,.int .i64 L.stack,.slice a2 L.slots.length d2,.int .i64 L.flash,.int .i64 L.ram,.slice a5 ts.length d5] 36)).cell? ⟨w.heap.size+1,0,none⟩=some (.slice none 0 0):=S5.k1.cell 0
        have p1:(w4.alloc (.cells #[.slice a0 xs.length d0,.int .i64 L.stack,.slice a2 L.slots.length d2,.int .i64 L.flash,.int .i64 L.ram,.slice a5 ts.length d5] 36)).cell? ⟨w.heap.size+1,1,none⟩=some (.int .i64 0):=S5.k1.cell 1
        have p2:(w4.alloc (.cells #[.slice a0 xs.length d0,.int .i64 L.stack,.slice a2 L.slots.length d2,.int .i64 L.flash,.int .i64 L.ram,.slice a5 ts.length d5] 36)).cell? ⟨w.heap.size+1,2,none⟩=some (.slice none 0 0):=S5.k1.cell 2
        have p3:(w4.alloc (.cells #[.slice a0 xs.length d0,.int .i64 L.stack,.slice a2 L.slots.length d2,.int .i64 L.flash,.int .i64 L.ram,.slice a5 ts.length d5] 36)).cell? ⟨w.heap.size+1,3,none⟩=some (.int .i64 0):=S5.k1.cell 3
        have p4:(w4.alloc (.cells #[.slice a0 xs.length d0,.int .i64 L.stack,.slice a2 L.slots.length d2,.int .i64 L.flash,.int .i64 L.ram,.slice a5 ts.length d5] 36)).cell? ⟨w.heap.size+1,4,none⟩=some (.int .i64 0):=S5.k1.cell 4
        have p5:(w4.alloc (.cells #[.slice a0 xs.length d0,.int .i64 L.stack,.slice a2 L.slots.length d2,.int .i64 L.flash,.int .i64 L.ram,.slice a5 ts.length d5] 36)).cell? ⟨w.heap.size+1,5,none⟩=some (.slice none 0 0):=S5.k1.cell 5
        have y0:(w4.alloc (.cells #[.slice a0 xs.length d0,.int .i64 L.stack,.slice a2 L.slots.length d2,.int .i64 L.flash,.int .i64 L.ram,.slice a5 ts.length d5] 36)).frozen? ⟨w.heap.size+1,0,none⟩=false:=S5.k1.frozen 0
        have y1:(w4.alloc (.cells #[.slice a0 xs.length d0,.int .i64 L.stack,.slice a2 L.slots.length d2,.int .i64 L.flash,.int .i64 L.ram,.slice a5 ts.length d5] 36)).frozen? ⟨w.heap.size+1,1,none⟩=false:=S5.k1.frozen 1
        have y2:(w4.alloc (.cells #[.slice a0 xs.length d0,.int .i64 L.stack,.slice a2 L.slots.length d2,.int .i64 L.flash,.int .i64 L.ram,.slice a5 ts.length d5] 36)).frozen? ⟨w.heap.size+1,2,none⟩=false:=S5.k1.frozen 2
        have y3:(w4.alloc (.cells #[.slice a0 xs.length d0,.int .i64 L.stack,.slice a2 L.slots.length d2,.int .i64 L.flash,.int .i64 L.ram,.slice a5 ts.length d5] 36)).frozen? ⟨w.heap.size+1,3,none⟩=false:=S5.k1.frozen 3
        have y4:(w4.alloc (.cells #[.slice a0 xs.length d0,.int .i64 L.stack,.slice a2 L.slots.length d2,.int .i64 L.flash,.int .i64 L.ram,.slice a5 ts.length d5] 36)).frozen? ⟨w.heap.size+1,4,none⟩=false:=S5.k1.frozen 4
        have y5:(w4.alloc (.cells #[.slice a0 xs.length d0,.int .i64 L.stack,.slice a2 L.slots.length d2,.int .i64 L.flash,.int .i64 L.ram,.slice a5 ts.length d5] 36)).frozen? ⟨w.heap.size+1,5,none⟩=false:=S5.k1.frozen 5
        clear S5 LO5
        go_wp2
        refine link_end HS5.out.1.k1 _ _ _ _ _ _ 0 _ _ rfl rfl ?_
        obtain ⟨S5,LO5⟩:=HS5.out
        have t:=turn_st6 (w4.alloc (.cells #[.slice a0 xs.length d0,.int .i64 L.stack,.slice a2 L.slots.length d2,.int .i64 L.flash,.int .i64 L.ram,.slice a5 ts.length d5] 36)) (w.heap.size+1) (.slice a0 xs.length d0) (.int .i64 L.stack) (.slice a2 L.slots.length d2) (.int .i64 L.flash) (.int .i64 L.ram) (.slice a5 ts.length d5)
        refine ⟨below_turn S5.be t (fun j hj=>by have e:j=w.heap.size+1:=hj;omega) S5.be.size,a0,d0,xs,a2,d2,a5,d5,ts,?_,?_⟩
        ·unfold lkL;rw [if_pos HP.out,HP.out,← HLL.out];rfl
        ·unfold lkL;rw [if_pos HP.out,← HLL.out]
         have hno:∀ k,w3.heap.size≤k→¬ (k=w.heap.size+1):=fun k hk e=>by omega
         exact ⟨(LO5.p.kept t (fun k hk=>hno k (LO5.p.lt.1 k hk).1) (fun x hx k hk=>hno k (LO5.p.lt.2 x hx k hk).1)).mono (by omega) (by omega),LO5.ps,(LO5.s.kept t (fun k hk=>hno k (LO5.s.lt k hk).1)).mono (by omega),(LO5.t.kept t (fun k hk=>hno k (LO5.t.lt.1 k hk).1) (fun x hx k hk=>hno k (LO5.t.lt.2 x hx k hk).1)).mono (by omega) (by omega),LO5.tt,LO5.sp⟩
 ·have hV0':(V != 0)=true:=by simp [hV0]
  have HP:=hide (lkc_1 (ps:=pmS ms) HV.out.symm hV0)
  have HS:=hide S1
  have u0:w1.cell? ⟨w.heap.size+1+1,0,none⟩=some (.slice none 0 0):=S1.k2.cell 0
  have u1:w1.cell? ⟨w.heap.size+1+1,1,none⟩=some (.int .i64 0):=S1.k2.cell 1
  have u2:w1.cell? ⟨w.heap.size+1+1,2,none⟩=some (.slice none 0 0):=S1.k2.cell 2
  have u3:w1.cell? ⟨w.heap.size+1+1,3,none⟩=some (.int .i64 0):=S1.k2.cell 3
  have u4:w1.cell? ⟨w.heap.size+1+1,4,none⟩=some (.int .i64 0):=S1.k2.cell 4
  have u5:w1.cell? ⟨w.heap.size+1+1,5,none⟩=some (.slice none 0 0):=S1.k2.cell 5
  have p0:w1.cell? ⟨w.heap.size+1,0,none⟩=some (.slice none 0 0):=S1.k1.cell 0
  have p1:w1.cell? ⟨w.heap.size+1,1,none⟩=some (.int .i64 0):=S1.k1.cell 1
  have p2:w1.cell? ⟨w.heap.size+1,2,none⟩=some (.slice none 0 0):=S1.k1.cell 2
  have p3:w1.cell? ⟨w.heap.size+1,3,none⟩=some (.int .i64 0):=S1.k1.cell 3
  have p4:w1.cell? ⟨w.heap.size+1,4,none⟩=some (.int .i64 0):=S1.k1.cell 4
  have p5:w1.cell? ⟨w.heap.size+1,5,none⟩=some (.slice none 0 0):=S1.k1.cell 5
  have y0:w1.frozen? ⟨w.heap.size+1,0,none⟩=false:=S1.k1.frozen 0
  have y1:w1.frozen? ⟨w.heap.size+1,1,none⟩=false:=S1.k1.frozen 1
  have y2:w1.frozen? ⟨w.heap.size+1,2,none⟩=false:=S1.k1.frozen 2
  have y3:w1.frozen? ⟨w.heap.size+1,3,none⟩=false:=S1.k1.frozen 3
  have y4:w1.frozen? ⟨w.heap.size+1,4,none⟩=false:=S1.k1.frozen 4
  have y5:w1.frozen? ⟨w.heap.size+1,5,none⟩=false:=S1.k1.frozen 5
  have c0:w1.cell? ⟨w.heap.size,0,none⟩=some (.int .i64 s):=S1.k0.cell 0
  have c1:w1.cell? ⟨w.heap.size,1,none⟩=some (.int .i64 c):=S1.k0.cell 1
  have c2:w1.cell? ⟨w.heap.size,2,none⟩=some (.int .i64 k):=S1.k0.cell 2
  have c3:w1.cell? ⟨w.heap.size,3,none⟩=some (.int .i64 d):=S1.k0.cell 3
  clear S1
  go_wp2_with fail
  go_region_law (first
   | (go_simp;go_at_call 159;refine (HSND.out _ (by first | exact HS.out.be | exact HS.out.drew.be)).mono ?_;rintro e w12 ⟨rfl,hb12⟩;have HE2:=hide (show Kst w w12 s c k d from (by first | exact HS.out.below hb12 | exact HS.out.drew.below hb12));have vu0:w12.cell? ⟨w.heap.size+1+1,0,none⟩=some (.slice none 0 0):=HE2.out.k2.cell 0;have vu1:w12.cell? ⟨w.heap.size+1+1,1,none⟩=some (.int .i64 0):=HE2.out.k2.cell 1;have vu2:w12.cell? ⟨w.heap.size+1+1,2,none⟩=some (.slice none 0 0):=HE2.out.k2.cell 2;have vu3:w12.cell? ⟨w.heap.size+1+1,3,none⟩=some (.int .i64 0):=HE2.out.k2.cell 3;have vu4:w12.cell? ⟨w.heap.size+1+1,4,none⟩=some (.int .i64 0):=HE2.out.k2.cell 4;have vu5:w12.cell? ⟨w.heap.size+1+1,5,none⟩=some (.slice none 0 0):=HE2.out.k2.cell 5;have vp0:w12.cell? ⟨w.heap.size+1,0,none⟩=some (.slice none 0 0):=HE2.out.k1.cell 0;have vp1:w12.cell? ⟨w.heap.size+1,1,none⟩=some (.int .i64 0):=HE2.out.k1.cell 1;have vp2:w12.cell? ⟨w.heap.size+1,2,none⟩=some (.slice none 0 0):=HE2.out.k1.cell 2;have vp3:w12.cell? ⟨w.heap.size+1,3,none⟩=some (.int .i64 0):=HE2.out.k1.cell 3;have vp4:w12.cell? ⟨w.heap.size+1,4,none⟩=some (.int .i64 0):=HE2.out.k1.cell 4;have vp5:w12.cell? ⟨w.heap.size+1,5,none⟩=some (.slice none 0 0):=HE2.out.k1.cell 5;have vy0:w12.frozen? ⟨w.heap.size+1,0,none⟩=false:=HE2.out.k1.frozen 0;have vy1:w12.frozen? ⟨w.heap.size+1,1,none⟩=false:=HE2.out.k1.frozen 1;have vy2:w12.frozen? ⟨w.heap.size+1,2,none⟩=false:=HE2.out.k1.frozen 2;have vy3:w12.frozen? ⟨w.heap.size+1,3,none⟩=false:=HE2.out.k1.frozen 3;have vy4:w12.frozen? ⟨w.heap.size+1,4,none⟩=false:=HE2.out.k1.frozen 4;have vy5:w12.frozen? ⟨w.heap.size+1,5,none⟩=false:=HE2.out.k1.frozen 5;have vc0:w12.cell? ⟨w.heap.size,0,none⟩=some (.int .i64 s):=HE2.out.k0.cell 0;have vc1:w12.cell? ⟨w.heap.size,1,none⟩=some (.int .i64 c):=HE2.out.k0.cell 1;have vc2:w12.cell? ⟨w.heap.size,2,none⟩=some (.int .i64 k):=HE2.out.k0.cell 2;have vc3:w12.cell? ⟨w.heap.size,3,none⟩=some (.int .i64 d):=HE2.out.k0.cell 3;clear hb12))
  all_goals
   go_wp2
   exact link_no HE2.out HP.out hV0 _ rfl rfl
def bkx (P:PMod)(x:Int)(k:Nat):List Int:=(List.range k).map fun j=>x+fsum P j
theorem bkx_len (P:PMod)(x:Int)(k:Nat):(bkx P x k).length=k:=by simp [bkx]
theorem bkx_succ (P:PMod)(x:Int)(k:Nat):bkx P x (k+1)=bkx P x k++[x+fsum P k]:=by simp [bkx,List.range_succ]
theorem placeAll_any (g:Nat)(x:Int)(P:PMod)(ba:Option Addr)(bc:Nat)(bl:List Bk)(w0 w:World)(h:Blk w g #[.int .i64 x,.func (.func 187) #[] #[]] 266)(hP:mdoP P=0)(hx0:0≤x)(hx1:x≤900000)(hB:Below w0.heap.size w0 w)(hg:w0.heap.size≤g)(hb:BKS w0 ba P.bl.length bc bl)(hlen:∀ j,j<P.bl.length→(bl.getD j zB).2.1=(P.bl.getD j []).length):
 Calls Tryz.prog 231 #[.pointer (some ⟨g,0,none⟩),.slice ba P.bl.length bc] w fun e w'=>∃ a' c',e=.returned (.slice a' P.bl.length c')∧OG 3 1 clI w' w.heap.size (.slice a' P.bl.length c') (bkx P x P.bl.length)∧Blk w' g #[.int .i64 (x+fsum P P.bl.length),.func (.func 187) #[] #[]] 266∧Turn (fun j=>j=g) w w':=by
 obtain ⟨iI,hiI,hz0,hz1,hz2⟩:=info_parts infoI
 obtain ⟨_,_,_,vb,_,_,_,vbk⟩:=vld_en hP
 have HFS:=hide (fun k hk=>fsum_range hP k hk)
 have HBB:=hide (fun (W:World) (t:Turn (fun j=>j=g) w W)=>hb.below (below_turn hB t (fun j hj=>by have e:j=g:=hj;omega) hB.size))
 have HLEN:=hide hlen
 have hgl:=h.lt
 have HH:=hide h
 clear h hb hlen hB hP
 go_enter Tryz.func231,Tryz.ntmps231
 go_wp2
 go_loopw [5,10] (fun v i wr=>∃ (q:Nat) (a':Option Addr) (c':Nat),q≤P.bl.length∧i=.int .i64 q∧v=.slice a' q c'∧OG 3 1 clI wr w.heap.size (.slice a' q c') (bkx P x q)∧Blk wr g #[.int .i64 (x+fsum P q),.func (.func 187) #[] #[]] 266∧Turn (fun j=>j=g) w wr) (fun _ i _=>P.bl.length - (intOf i).toNat)
 case atStart=>exact ⟨0,none,0,Nat.zero_le _,rfl,rfl,og_nil _ _ _ _ _,by have:=HH.out;rw [show x+fsum P 0=x by simp [fsum]];exact this,Turn.refl _ _⟩
 case round=>
  obtain ⟨q,a',c',hq,rfl,rfl,O,B,T⟩:=hrel
  by_cases hlt:q<P.bl.length
  ·have hlt':(q:Int)<(P.bl.length:Int):=by omega
   obtain ⟨_,_,hcb,_,_⟩:=HBB.out wr T
   obtain ⟨b2,off2,rfl,hc⟩:=hcb (by omega)
   have cb:=hc q hlt
   rw [HLEN.out q hlt] at cb
   have hLq:=vbk q hlt
   obtain ⟨LQ,hLQ⟩:∃ LQ,LQ=(P.bl.getD q []).length:=⟨_,rfl⟩
   rw [← hLQ] at cb hLq
   have rq:=HFS.out q (by omega)
   have HFE:=hide (show x+fsum P q+rnd (4 * (LQ:Int))=x+fsum P (q+1) by rw [hLQ];show _=x+(fsum P q+rnd (4 * ((P.bl.getD q []).length:Int)));omega)
   have HSU:=hide (bkx_succ P x q)
   obtain ⟨xq,hxq⟩:∃ xq,xq=x+fsum P q:=⟨_,rfl⟩
   rw [← hxq] at HFE HSU B
   have rxq:0≤xq∧xq≤1000000:=by omega
   generalize bl.getD q zB=bq at cb
   obtain ⟨bq1,bq2,bq3,bq4⟩:=bq
   dsimp only at cb
   have HPL:=hide (placeS_any g xq bq1 LQ bq3 wr B (by omega) (by omega) (by omega))
   have HQ:=hide (And.intro O T)
   clear hcb hc hLQ hxq O B T
   go_wp2_with fail
   refine HPL.out.mono ?_
   rintro e w1 ⟨rfl,B1,T1⟩
   obtain ⟨O,T⟩:=HQ.out
   have O1:=O.turn T1 (fun j hj=>by have e:j=g:=hj;omega)
   have T2:=T.trans T1
   have al:Below w1.heap.size w1 (w1.alloc (.cells #[.int .i64 xq] 3)):=(Below.refl _ _).alloc (Nat.le_refl _) _
   have HOW:=hide (show (w1.alloc (.cells #[.int .i64 xq] 3)).ownsRow w.heap.size 3 1 (.slice a' q c') q ((bkx P x q).flatMap clI) by have:=O1.below al;unfold OG at this;rw [bkx_len] at this;exact this)
   have hs1:=T2.size
   have HR:=hide (And.intro (O1.below al) (And.intro (B1.below al) (T2.trans (turn_below al))))
   clear O T O1 T2 al B1 T1 HPL HQ cb
   go_wp2_with (at_builtin;refine wpList_append_own _ rfl _ _ 24 rfl w.heap.size 3 iI (.int .i64 0) 1 8 Tryz.underlying24 hiI hz0 hz1 hz2 rfl (by decide) (.slice a' q c') q ((bkx P x q).flatMap clI) rfl HOW.out ⟨w1.heap.size,0,none⟩ 1 1 (clI xq) rfl rfl (cells_new w1 _ _ (clI xq) rfl) (by intro u hu;simp [clI] at hu;subst hu;rfl) (by unfold maxLen;omega) (by omega) (by simp;omega) ?_;intro v' w4 hown hgr _)
   obtain ⟨O1,B1,T1⟩:=HR.out
   have hrow:∀ j,(Value.slice a' q c').ownBlock=some j→w.heap.size≤j:=fun j hj=>(O1.lt j hj).1
   have O4:OG 3 1 clI w4 w.heap.size v' (bkx P x (q+1)):=by
    unfold OG
    rw [bkx_len,HSU.out,List.flatMap_append,List.flatMap_singleton]
    exact hown
   have B4:=blk_grown B1 hgr (fun e=>by have:=hrow _ e.symm;omega)
   have T4:=turn_grown T1 hgr hrow
   obtain ⟨a4,c4,rfl⟩:=og_shape O4
   rw [bkx_len] at O4
   have HX:=hide (And.intro O4 (And.intro B4 T4))
   have HL:=hide (bkx_len P x (q+1))
   clear O1 B1 T1 hrow O4 B4 T4 hown hgr HR HOW
   go_roundw
   case rel=>exact ⟨q+1,a4,c4,by omega,by go_num,by rw [HL.out],HX.out.1,by rw [← HFE.out];exact HX.out.2.1,HX.out.2.2⟩
   case measure=>simp [intOf];omega
  ·have hlt':¬ (q:Int)<(P.bl.length:Int):=by omega
   have e:q=P.bl.length:=by omega
   rw [e] at O B
   have HX:=hide (And.intro O (And.intro B T))
   have HE:=hide e
   clear O B T e
   go_wp2
   go_ret
   exact ⟨a',c',by rw [← HE.out];rfl,HX.out.1,HX.out.2.1,HX.out.2.2⟩
theorem targetsOf_any (a:Option Addr)(n cap:Nat)(ms:List Md)(w:World)(h:MSD w a n cap ms)(hv:vlds (pmS ms))(hn:n≤4):
 Calls Tryz.prog 168 #[.slice a n cap] w fun e w'=>Below w.heap.size w w'∧((¬ imps (pmS ms)∧∃ v,e=.returned (.tuple #[v,.bool false]))∨(imps (pmS ms)∧∃ f,e=.returned (.tuple #[.slice (some ⟨w.heap.size,0,none⟩) n n,.bool true])∧Tf w' w.heap.size w.heap.size n f∧∀ i,i<n→(f i).1=tgs (pmS ms) ((pmS ms).getD i zP))):=by
 obtain ⟨iT,hiT,hzT0,hzT1,hzT2⟩:=info_parts infoTB
 obtain ⟨iG,hiG,hzG0,hzG1,hzG2⟩:=info_parts infoG
 have hl:=h.s.1
 have hpl:(pmS ms).length=n:=by rw [pmS_len,hl]
 have HH:=hide h
 have HVL:=hide hv
 clear h hv
 go_enter Tryz.func168,Tryz.ntmps168
 go_wp2_with (at_make;refine wpList_make_full _ rfl _ _ 34 rfl w.heap.size 189 iT (.slice none 0 0) 1 Tryz.underlying34 hiT hzT0 hzT1 .i64 .i64 _ _ n rfl rfl rfl rfl (by rw [hzT2];omega) (by unfold maxLen;omega) (Nat.le_refl _) ?_;intro w1 hown hgr)
 have T0:=made_rows hown w.heap.size
 have B0:=below_grown hgr
 have HT0:=hide (And.intro T0 B0)
 clear hown hgr T0 B0
 go_loopw [16] (fun i wr=>∃ (m:Nat) (f:Nat→TB),m≤n∧i=.int .i64 m∧Tf wr w.heap.size w.heap.size n f∧(∀ i,i<n→(f i).1=if i<m then tgs (pmS ms) ((pmS ms).getD i zP) else [])∧(∀ j,j<m→tgOk (pmS ms) ((pmS ms).getD j zP))∧Below w.heap.size w wr) (fun i _=>n - (intOf i).toNat)
 case atStart=>exact ⟨0,fun _=>([],none,0),Nat.zero_le _,rfl,HT0.out.1,fun i hi=>by simp,fun j hj=>absurd hj (by omega),HT0.out.2⟩
 case round=>
  clear HT0
  obtain ⟨m,f,hm,rfl,F,hf,hk,B⟩:=hrel
  by_cases hlt:m<n
  ·have hlt':(m:Int)<(n:Int):=by omega
   have H:=HH.out.below B
   obtain ⟨b,off,rfl,q0,q1,q2,q3,q4,q5,q6,q7⟩:=H.s.at m hlt
   have hmd:=H.d m hlt
   have hvm:=HVL.out m (by omega)
   obtain ⟨P,hP⟩:∃ P,P=(pmS ms).getD m zP:=⟨_,rfl⟩
   have hPM:P=(ms.getD m zMd).pm:=hP.trans (pmS_at (by omega))
   rw [← hP] at hvm
   have vi:=(vld_en hvm).2.1
   have eI:(ms.getD m zMd).im=P.ss.length:=by rw [hPM];exact hmd.i.1.symm
   have eS:(ms.getD m zMd).ss=P.ss:=by rw [hPM];rfl
   have HMI:=hide (fun (W:World) (hb:Below w.heap.size w W)=>(HH.out.d m hlt).i.below hb)
   rw [eI] at q6
   rw [eI,eS] at HMI
   have HP:=hide hP
   have HB:=hide (And.intro B (And.intro F (And.intro hf hk)))
   generalize ms.getD m zMd=M at *
   generalize M.ia=ia at *
   have al:Below wr.heap.size wr (wr.alloc (.cells #[.string M.nm,.slice M.ta M.tn M.tc,.slice M.ba M.bn M.bc,.slice M.da M.dn M.dc,.int .i64 M.bss,.slice M.ra M.rn M.rc,.slice ia P.ss.length M.ic,.slice M.ea M.en M.ec] 104)):=(Below.refl _ _).alloc (Nat.le_refl _) _
   obtain ⟨g0,g1,g2,g3,g4,g5,g6,g7⟩:=(Blk.new wr #[.string M.nm,.slice M.ta M.tn M.tc,.slice M.ba M.bn M.bc,.slice M.da M.dn M.dc,.int .i64 M.bss,.slice M.ra M.rn M.rc,.slice ia P.ss.length M.ic,.slice M.ea M.en M.ec] 104).eight
   have HAL:=hide (And.intro al (F.below al))
   clear B H hmd hP hPM eI eS al hvm F hf hk
   generalize wr=wo at *
   go_wp2_with fail
   go_loopw [24] (fun i wx=>∃ (q:Nat) (f:Nat→TB),q≤P.ss.length∧i=.int .i64 q∧Tf wx w.heap.size w.heap.size n f∧(∀ i,i<n→(f i).1=if i<m then tgs (pmS ms) ((pmS ms).getD i zP) else if i=m then tgN (pmS ms) P q else [])∧(∀ j,j<q→(tgOf (pmS ms) (P.ss.getD j zS)).isSome=true)∧Turn (fun j=>w.heap.size≤j) wo wx) (fun i _=>P.ss.length - (intOf i).toNat)
   case atStart=>exact ⟨0,f,Nat.zero_le _,rfl,HAL.out.2,fun i hi=>by
    rw [HB.out.2.2.1 i hi]
    by_cases e:i<m
    ·simp [e]
    ·by_cases e2:i=m
     ·simp [e2,tgN]
     ·simp [e,e2],fun j hj=>absurd hj (by omega),turn_below HAL.out.1⟩
   case round=>
    obtain ⟨q,f',hq,rfl,F,hf,hk,T⟩:=hrel
    have B:=below_turn HB.out.1 T (fun j hj=>hj) HB.out.1.size
    by_cases hlt2:q<P.ss.length
    ·have hlt2':(q:Int)<(P.ss.length:Int):=by omega
     obtain ⟨hsl,_,hsz,hcs,_⟩:=HMI.out wr B
     obtain ⟨b2,off2,rfl,hc⟩:=hcs (by omega)
     have c0:=hc q hlt2
     have hss:(P.ss.getD q zS).size≤1048576:=hsz _ (by simp [List.getD_eq_getElem?_getD,hlt2])
     have HR:=hide ((HH.out.below B).resI HVL.out hn (P.ss.getD q zS) hss)
     have HTS:=hide (fun t (h:tgOf (pmS ms) (P.ss.getD q zS)=some t)=>tgN_succ (ps:=pmS ms) (P:=P) q h)
     have HBAD:=hide (fun (h:tgOf (pmS ms) (P.ss.getD q zS)=none)=>(show ¬ imps (pmS ms) from fun hi=>by have:=hi m (by omega) q (by rw [← HP.out];exact hlt2);rw [← HP.out,h] at this;cases this))
     have HGO:=hide (fun t (h:tgOf (pmS ms) (P.ss.getD q zS)=some t)=>(show ∀ j,j<q+1→(tgOf (pmS ms) (P.ss.getD j zS)).isSome=true from fun j hj=>by
      by_cases e:j=q
      ·subst e;rw [h];rfl
      ·exact hk j (by omega)))
     have hX:(f' m).1=tgN (pmS ms) P q:=by rw [hf m hlt,if_neg (by omega),if_pos rfl]
     have hsv:svT (f' m)=.slice (f' m).2.1 q (f' m).2.2:=by unfold svT;rw [hX,tgN_len]
     have HQ:=hide (And.intro F (And.intro hf (And.intro T B)))
     have hgw:=HB.out.1.size
     have hTs:=T.size
     generalize P.ss.getD q zS=str at *
     clear F hk T B hc hsz hcs
     go_wp2_with fail
     refine HR.out.mono ?_
     rintro e w1 ⟨rfl,hb1⟩
     obtain ⟨F,hf,T,B⟩:=HQ.out
     have B1:=B.trans (hb1.mono B.size)
     cases ho:tgOf (pmS ms) str with
     | none=>
       have HF:=hide (And.intro (B1.trans (((Below.refl _ w1).alloc (Nat.le_refl _) (.cells #[.int .i64 0,.int .i64 0,.int .i64 0] 71)).mono B1.size)) (HBAD.out ho))
       clear F hf T B hb1 B1 HQ HR HTS HBAD HGO c0 hX hsv
       unfold tgV
       go_wp2
       go_ret2
       exact ⟨HF.out.1,.inl ⟨HF.out.2,_,rfl⟩⟩
     | some t=>
       obtain ⟨t1,t2,t3⟩:=t
       have al1:Below w1.heap.size w1 (w1.alloc (.cells #[.int .i64 t1,.int .i64 t2,.int .i64 t3] 71)):=(Below.refl _ _).alloc (Nat.le_refl _) _
       have hs1:(w1.alloc (.cells #[.int .i64 t1,.int .i64 t2,.int .i64 t3] 71)).heap.size=w1.heap.size+1:=by simp
       have k1:=Blk.new w1 #[.int .i64 t1,.int .i64 t2,.int .i64 t3] 71
       have F1:=(F.below hb1).below al1
       have T1:=(T.trans (turn_below hb1)).trans (turn_below al1)
       have HT2:=hide (HTS.out _ ho)
       have HG2:=hide (HGO.out _ ho)
       obtain ⟨x0,x1,x2,_⟩:=k1.three
       generalize hW1:w1.alloc (.cells #[.int .i64 t1,.int .i64 t2,.int .i64 t3] 71)=W1 at *
       have al2:Below W1.heap.size W1 (W1.alloc (.cells #[.int .i64 t1,.int .i64 t2,.int .i64 t3] 71)):=(Below.refl _ _).alloc (Nat.le_refl _) _
       have F2a:=F1.below al2
       have F2:Tf (W1.alloc (.cells #[.int .i64 t1,.int .i64 t2,.int .i64 t3] 71)).drew w.heap.size w.heap.size n f':=⟨F2a.head,F2a.rows,F2a.apart⟩
       have HCN:=hide (show ∀ j u,(clG (t1,t2,t3))[j]?=some u→(W1.alloc (.cells #[.int .i64 t1,.int .i64 t2,.int .i64 t3] 71)).drew.cell? ((⟨w1.heap.size+1,0,none⟩:Addr).add j)=some u by have:=cells_new W1 _ 71 (clG (t1,t2,t3)) rfl;rw [hs1] at this;exact this)
       obtain ⟨p3,f3⟩:=F2a.cell m hlt
       rw [hsv] at p3
       obtain ⟨p1,f1⟩:=F1.cell m hlt
       obtain ⟨p2,f2⟩:=F2.cell m hlt
       have hsz1:=hb1.size
       rw [hsv] at p1 p2
       obtain ⟨A,hA⟩:∃ A,A=(f' m).2.1:=⟨_,rfl⟩
       obtain ⟨C,hC⟩:∃ C,C=(f' m).2.2:=⟨_,rfl⟩
       rw [← hA,← hC] at p1 p2 p3 hsv
       have HOW:=hide (show (W1.alloc (.cells #[.int .i64 t1,.int .i64 t2,.int .i64 t3] 71)).drew.ownsRow w.heap.size 71 3 (.slice A q C) q ((tgN (pmS ms) P q).flatMap clG) by have:=F2.rows m hlt;unfold OG at this;rw [hsv,hX,tgN_len] at this;exact this)
       have HHD:=hide (fun (w4:World) (hgr:(W1.alloc (.cells #[.int .i64 t1,.int .i64 t2,.int .i64 t3] 71)).drew.grownBy w4 (Value.slice A q C).ownBlock)=>(show w4.cell? ⟨w.heap.size,m,none⟩=some (.slice A q C)∧w4.frozen? ⟨w.heap.size,m,none⟩=false from by
        obtain ⟨cs,hc1,hc2,hc3⟩:=F2.head
        have hb4:=blk_grown hc1 hgr (fun e=>by have:=F2.rows m hlt;rw [hsv] at this;exact kind_no this e.symm hc1 (by decide))
        exact ⟨(hb4.cell m).trans ((hc3 m hlt).trans (by rw [hsv])),hb4.frozen m⟩))
       have HX:=hide (And.intro F2 (And.intro hf (And.intro (turn_d1 (T1.trans (turn_below al2))) (And.intro hsv hX))))
       have HW1:=hide hW1
       have hgl:=F1.lt.1
       clear F hf T B hb1 B1 HQ HR HTS HBAD HGO c0 al1 k1 F1 T1 al2 F2 F2a hX hsv hA hC hW1
       unfold tgV
       go_wp2_with fail
       rw [HW1.out]
       go_region_law (first
        | (refine step_append_lies _ rfl _ _ 189 rfl w.heap.size 71 iG (.agg #[.int .i64 0,.int .i64 0,.int .i64 0]) 3 24 Tryz.underlying189 hiG hzG0 hzG1 hzG2 rfl (by decide) (.slice A q C) q ((tgN (pmS ms) P q).flatMap clG) rfl HOW.out ⟨w1.heap.size+1,0,none⟩ 1 1 (clG (t1,t2,t3)) rfl rfl HCN.out (by intro u hu;simp [clG] at hu;rcases hu with rfl | rfl | rfl <;> rfl) (by decide) (by unfold maxLen;omega) (by omega) (by simp;omega) _ rfl ?_;intro g4 c4 w4 hown hgr hat hlt4;obtain ⟨p4,f4⟩:=HHD.out w4 hgr))
       all_goals
        obtain ⟨F2,hf,T2,hsv,hX⟩:=HX.out
        have hgr':=hgr
        rw [← hsv] at hgr' hat
        have O4:OG 71 3 clG w4 w.heap.size (svT ((tgN (pmS ms) P (q+1),some ⟨g4,0,none⟩,c4):TB)) (tgN (pmS ms) P (q+1)):=by
         unfold OG svT
         rw [tgN_len,HT2.out,List.flatMap_append,List.flatMap_singleton]
         exact hown
        have U:=F2.update (x:=(tgN (pmS ms) P (q+1),some ⟨g4,0,none⟩,c4)) (g4:=g4) (c4:=c4) hlt hgr' O4 rfl (by simpa using hat)
        have T5:Turn (fun j=>w.heap.size≤j) wo (w4.setCell ⟨w.heap.size,m,none⟩ (svT ((tgN (pmS ms) P (q+1),some ⟨g4,0,none⟩,c4):TB))):=by
         have t4:Turn (fun j=>w.heap.size≤j) _ w4:=⟨hgr.os,hgr.tape,hgr.output,hgr.size,fun j hj hs=>hgr.block j hj (fun e=>hs (by have:=(F2.lt.2 m hlt j (by rw [hsv];exact e.symm)).1;exact this))⟩
         exact (T2.trans t4).trans ((turn_set w4 w.heap.size m _).mono (fun j hj=>by have e:j=w.heap.size:=hj;omega))
        have hsx:svT ((tgN (pmS ms) P (q+1),some ⟨g4,0,none⟩,c4):TB)=.slice (some ⟨g4,0,none⟩) (q+1) c4:=by unfold svT;rw [tgN_len]
        rw [hsx] at U T5
        have HF:=hide (And.intro U (And.intro (show ∀ i,i<n→((fun i=>if i=m then ((tgN (pmS ms) P (q+1),some ⟨g4,0,none⟩,c4):TB) else f' i) i).1=if i<m then tgs (pmS ms) ((pmS ms).getD i zP) else if i=m then tgN (pmS ms) P (q+1) else [] from fun i hi=>by
         by_cases e:i=m
         ·simp [e]
         ·simp only [e,if_false];rw [hf i hi];simp [e]) (And.intro HG2.out T5)))
        clear F2 hf T2 hsv hX hgr' hgr hown hat O4 U T5 hsx HX HOW HHD p4 f4 p1 p2 p3 f1 f2 f3 HCN x0 x1 x2
        go_wp2
        go_roundw
        case rel=>exact ⟨q+1,_,by omega,by go_num,HF.out.1,HF.out.2.1,HF.out.2.2.1,HF.out.2.2.2⟩
        case measure=>simp [intOf];omega
    ·have hlt2':¬ (q:Int)<(P.ss.length:Int):=by omega
     have hqe:q=P.ss.length:=by omega
     have HF:=hide (And.intro B (And.intro F (And.intro (show ∀ i,i<n→(f' i).1=if i<m+1 then tgs (pmS ms) ((pmS ms).getD i zP) else [] from fun i hi=>by
      rw [hf i hi]
      by_cases e:i<m
      ·rw [if_pos e,if_pos (by omega)]
      ·by_cases e2:i=m
       ·rw [if_neg e,if_pos e2,if_pos (by omega),e2,← HP.out,hqe];rfl
       ·rw [if_neg e,if_neg e2,if_neg (by omega)]) (show ∀ j,j<m+1→tgOk (pmS ms) ((pmS ms).getD j zP) from fun j hj=>by
      by_cases e:j=m
      ·subst e;rw [← HP.out];intro i hi;exact hk i (by omega)
      ·exact HB.out.2.2.2 j (by omega)))))
     clear F hf hk T B hqe
     go_wp2
     go_roundw
     case rel=>exact ⟨m+1,f',by omega,by go_num,HF.out.2.1,HF.out.2.2.1,HF.out.2.2.2,HF.out.1⟩
     case measure=>simp [intOf];omega
  ·have hlt':¬ (m:Int)<(n:Int):=by omega
   have HI:=hide (show imps (pmS ms) from fun i hi=>hk i (by omega))
   have HF:=hide (And.intro B (And.intro F (show ∀ i,i<n→(f i).1=tgs (pmS ms) ((pmS ms).getD i zP) from fun i hi=>by rw [hf i hi,if_pos (by omega)])))
   clear B F hf hk
   go_wp2
   go_ret2
   exact ⟨HF.out.1,.inr (by first | exact ⟨HI.out,f,rfl,HF.out.2.1,HF.out.2.2⟩ | exact ⟨HI.out,rfl,f,HF.out.2.1,HF.out.2.2⟩)⟩
def endOf (L:Lay):Int:=if L.slots=[] then wrap64 (65536+L.ram) else L.slots.getD 0 0
theorem l5Ends_any (L:Lay)(a0:Option Addr)(c0:Nat)(xs:List PB)(a2:Option Addr)(c2:Nat)(a5:Option Addr)(c5:Nat)(ts:List TB)(w:World)(h:LyT w L a0 c0 xs a2 c2 a5 c5 ts):
 Calls Tryz.prog 131 #[.agg #[.slice a0 xs.length c0,.int .i64 L.stack,.slice a2 L.slots.length c2,.int .i64 L.flash,.int .i64 L.ram,.slice a5 ts.length c5]] w fun e w'=>e=.returned (.int .i64 (endOf L))∧Below w.heap.size w w':=by
 have HB:=hide (show Below w.heap.size w (w.alloc (.cells #[.slice a0 xs.length c0,.int .i64 L.stack,.slice a2 L.slots.length c2,.int .i64 L.flash,.int .i64 L.ram,.slice a5 ts.length c5] 36)) from (Below.refl _ _).alloc (Nat.le_refl _) _)
 have hs:=h.s.below HB.out
 have hmx:=h.s.2.1
 unfold maxLen at hmx
 unfold endOf
 by_cases c:L.slots=[]
 ·rw [if_pos c]
  have hl:L.slots.length=0:=by rw [c];rfl
  rw [hl]
  rw [hl] at HB
  go_enter Tryz.func131,Tryz.ntmps131
  go_wp2
  go_ret
  exact ⟨rfl,HB.out⟩
 ·rw [if_neg c]
  have hl:0<L.slots.length:=List.length_pos_iff.2 c
  have hl':(0:Int)<(L.slots.length:Int):=by omega
  obtain ⟨b,off,rfl,hc⟩:=hs.2.2.2.1 (by omega)
  have q:=hc 0 hl
  rw [Nat.add_zero] at q
  generalize L.slots.length=n at *
  generalize L.slots.getD 0 0=z at *
  clear hs hc c
  go_enter Tryz.func131,Tryz.ntmps131
  go_wp2
  go_ret
  exact ⟨rfl,HB.out⟩
def cfQ (L:Lay):Int:=wrap64 ((wrap64 (wrap64 (65536+L.ram) - L.slots.getD 0 0)).tdiv (L.slots.length:Int))
def cfW (L:Lay):Int:=if L.slots=[] then 1 else wrap64 ((cfQ L).tdiv 4)
def cfK (L:Lay):Int:=wrap64 (endOf L - L.stack)
theorem configOf_any (L:Lay)(a0:Option Addr)(c0:Nat)(xs:List PB)(a2:Option Addr)(c2:Nat)(a5:Option Addr)(c5:Nat)(ts:List TB)(w:World)(h:LyT w L a0 c0 xs a2 c2 a5 c5 ts):
 Calls Tryz.prog 142 #[.agg #[.slice a0 xs.length c0,.int .i64 L.stack,.slice a2 L.slots.length c2,.int .i64 L.flash,.int .i64 L.ram,.slice a5 ts.length c5]] w fun e w'=>e=.returned (.agg #[.int .i64 L.slots.length,.int .i64 (cfW L),.int .i64 (cfK L),.int .i64 0])∧Below w.heap.size w w':=by
 have hmx:=h.s.2.1
 unfold maxLen at hmx
 by_cases c:L.slots=[]
 ·have hl:L.slots.length=0:=by rw [c];rfl
  have hW:=hide (show cfW L=1 by unfold cfW;rw [if_pos c])
  have hK:=hide (show cfK L=wrap64 (wrap64 (65536+L.ram) - L.stack) by unfold cfK endOf;rw [if_pos c])
  rw [hW.out,hK.out,hl]
  go_enter Tryz.func142,Tryz.ntmps142
  go_wp2
  refine bodyPost_ret (v:=.agg #[.int .i64 0,.int .i64 1,.int .i64 (wrap64 (wrap64 (65536+L.ram) - L.stack)),.int .i64 0]) (by simp [results,Tryz.results142,go_sem]) rfl ⟨rfl,?_⟩
  exact ((Below.refl _ _).alloc (Nat.le_refl _) _).alloc (by simp) _
 ·have hl:0<L.slots.length:=List.length_pos_iff.2 c
  have hl':(0:Int)<(L.slots.length:Int):=by omega
  have he:((L.slots.length:Int) == 0)=false:=by simp;omega
  have hW:=hide (show cfW L=wrap64 ((cfQ L).tdiv 4) by unfold cfW;rw [if_neg c])
  have hK:=hide (show cfK L=wrap64 (L.slots.getD 0 0 - L.stack) by unfold cfK endOf;rw [if_neg c])
  rw [hW.out,hK.out]
  have hQ:=hide (show cfQ L=wrap64 ((wrap64 (wrap64 (65536+L.ram) - L.slots.getD 0 0)).tdiv (L.slots.length:Int)) from rfl)
  clear hW hK
  obtain ⟨b,off,rfl,hc⟩:=h.s.2.2.2.1 (by omega)
  have q:=hc 0 hl
  have qlt:=World.block_lt_of_cell? _ _ q
  rw [Nat.add_zero] at q
  generalize L.slots.length=n at *
  generalize L.slots.getD 0 0=z at *
  generalize cfQ L=Q at *
  clear hc c h
  have B0:Below w.heap.size w ((w.alloc (.cells #[.slice a0 xs.length c0,.int .i64 L.stack,.slice (some ⟨b,off,none⟩) n c2,.int .i64 L.flash,.int .i64 L.ram,.slice a5 ts.length c5] 36)).alloc (.cells #[.int .i64 0,.int .i64 0,.int .i64 0,.int .i64 0] 44)):=((Below.refl _ _).alloc (Nat.le_refl _) _).alloc (by simp) _
  have u:=(Blk.new w #[.slice a0 xs.length c0,.int .i64 L.stack,.slice (some ⟨b,off,none⟩) n c2,.int .i64 L.flash,.int .i64 L.ram,.slice a5 ts.length c5] 36).alloc (.cells #[.int .i64 0,.int .i64 0,.int .i64 0,.int .i64 0] 44)
  have v:=Blk.new (w.alloc (.cells #[.slice a0 xs.length c0,.int .i64 L.stack,.slice (some ⟨b,off,none⟩) n c2,.int .i64 L.flash,.int .i64 L.ram,.slice a5 ts.length c5] 36)) #[.int .i64 0,.int .i64 0,.int .i64 0,.int .i64 0] 44
  simp only [World.size_alloc] at v
  have HF:=hide (fun (nq:Nat)=>And.intro (below_drewN B0 nq) (And.intro (u.below (below_drewN (Below.refl _ _) nq)) (v.below (below_drewN (Below.refl _ _) nq))))
  clear B0 u v
  go_enter Tryz.func142,Tryz.ntmps142
  go_wp2
  go_quiet (fail)
  rw [← hQ.out]
  go_wp2
  obtain ⟨B1,u,v⟩:=HF.out nq
  clear HF
  generalize (((w.alloc (.cells #[.slice a0 xs.length c0,.int .i64 L.stack,.slice (some ⟨b,off,none⟩) n c2,.int .i64 L.flash,.int .i64 L.ram,.slice a5 ts.length c5] 36)).alloc (.cells #[.int .i64 0,.int .i64 0,.int .i64 0,.int .i64 0] 44)).drewN nq)=W at *
  have q':=cell_below B1 q
  have p1:W.cell? ⟨w.heap.size,1,none⟩=some (.int .i64 L.stack):=u.cell 1
  have p2:W.cell? ⟨w.heap.size,2,none⟩=some (.slice (some ⟨b,off,none⟩) n c2):=u.cell 2
  have v0:W.cell? ⟨w.heap.size+1,0,none⟩=some (.int .i64 0):=v.cell 0
  have v1:W.cell? ⟨w.heap.size+1,1,none⟩=some (.int .i64 0):=v.cell 1
  have v2:W.cell? ⟨w.heap.size+1,2,none⟩=some (.int .i64 0):=v.cell 2
  have v3:W.cell? ⟨w.heap.size+1,3,none⟩=some (.int .i64 0):=v.cell 3
  have vf:=v.frozen
  have nb:b≠w.heap.size+1:=by omega
  have nb':w.heap.size+1≠b:=by omega
  have HB1:=hide (And.intro B1 v)
  clear u v B1
  go_region_held3 (fun w'=>w'.cell? ⟨w.heap.size,1,none⟩=some (.int .i64 L.stack)∧w'.cell? ⟨w.heap.size,2,none⟩=some (.slice (some ⟨b,off,none⟩) n c2)∧w'.cell? ⟨b,off,none⟩=some (.int .i64 z)) (go_keep) (fail)
  simp only [IntWalk.i64_left]
  have kz:=(((HB1.out.2.set 0 (.int .i64 n)).set 1 (.int .i64 (wrap64 (Q.tdiv 4)))).set 2 (.int .i64 (wrap64 (z - L.stack)))).set 3 (.int .i64 0)
  have T:Turn (fun j=>j=w.heap.size+1) W ((((W.setCell ⟨w.heap.size+1,0,none⟩ (.int .i64 n)).setCell ⟨w.heap.size+1,1,none⟩ (.int .i64 (wrap64 (Q.tdiv 4)))).setCell ⟨w.heap.size+1,2,none⟩ (.int .i64 (wrap64 (z - L.stack)))).setCell ⟨w.heap.size+1,3,none⟩ (.int .i64 0)):=(((turn_set _ _ _ _).trans (turn_set _ _ _ _)).trans (turn_set _ _ _ _)).trans (turn_set _ _ _ _)
  have HB2:=hide (below_turn HB1.out.1 T (fun k e=>by omega) HB1.out.1.size)
  simp only [List.setIfInBounds_toArray,List.set_cons_zero,List.set_cons_succ] at kz
  generalize ((((W.setCell ⟨w.heap.size+1,0,none⟩ (.int .i64 n)).setCell ⟨w.heap.size+1,1,none⟩ (.int .i64 (wrap64 (Q.tdiv 4)))).setCell ⟨w.heap.size+1,2,none⟩ (.int .i64 (wrap64 (z - L.stack)))).setCell ⟨w.heap.size+1,3,none⟩ (.int .i64 0))=W2 at *
  have s0:W2.drew.cell? ⟨w.heap.size+1,0,none⟩=some (.int .i64 n):=kz.cell 0
  have s1:W2.drew.cell? ⟨w.heap.size+1,1,none⟩=some (.int .i64 (wrap64 (Q.tdiv 4))):=kz.cell 1
  have s2:W2.drew.cell? ⟨w.heap.size+1,2,none⟩=some (.int .i64 (wrap64 (z - L.stack))):=kz.cell 2
  have s3:W2.drew.cell? ⟨w.heap.size+1,3,none⟩=some (.int .i64 0):=kz.cell 3
  clear T kz HB1
  go_wp2
  exact bodyPost_ret (v:=.agg #[.int .i64 n,.int .i64 (wrap64 (Q.tdiv 4)),.int .i64 (wrap64 (z - L.stack)),.int .i64 0]) (by simp [results,Tryz.results142,go_sem,s0,s1,s2,s3]) rfl ⟨rfl,HB2.out.drew⟩
def Lok (ps:List PMod)(L:Lay):Prop:=lkc ps (L.slots.length:Int) (cfW L) (cfK L) 0=0∧lkL ps (L.slots.length:Int) (cfW L) (cfK L) 0=L
def plE (a b:Pl):Decidable (a=b):=decidable_of_iff (a.text=b.text /\ a.banks=b.banks /\ a.data=b.data /\ a.size=b.size) (by cases a;cases b;simp)
def layE (a b:Lay):Decidable (a=b):=
 have:DecidableEq Pl:=plE
 decidable_of_iff (a.places=b.places /\ a.stack=b.stack /\ a.slots=b.slots /\ a.flash=b.flash /\ a.ram=b.ram /\ a.targets=b.targets) (by cases a;cases b;simp)
def lokD (ps:List PMod)(L:Lay):Decidable (Lok ps L):=@instDecidableAnd _ _ _ (layE _ _)
def lokB (ps:List PMod)(L:Lay):Bool:=@decide _ (lokD ps L)
theorem lokB_iff {ps:List PMod}{L:Lay}:lokB ps L=true ↔ Lok ps L:=⟨@of_decide_eq_true _ (lokD ps L),@decide_eq_true _ (lokD ps L)⟩
end Go.Proofs.YtngdgogjlpjjpaeGreat
