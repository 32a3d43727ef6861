import Derived.Test.YtngdgogjlpjjpadGreatP18
import Derived.Test.YtngdgogjlpjjpadGreatP19
import Derived.Test.YtngdgogjlpjjpadGreatP20
import Derived.Test.YtngdgogjlpjjpadGreatP21
import Derived.Test.YtngdgogjlpjjpadGreatP22
namespace Go.Proofs.YtngdgogjlpjjpadGreat
open Go.RowKit Classical
set_option linter.unusedVariables false
set_option linter.unusedSimpArgs false
set_option maxRecDepth 100000
structure Kst (w W:World) (s c k d:Int):Prop where
 be:Below w.heap.size w W
 k0:Blk W w.heap.size #[.int .i64 s,.int .i64 c,.int .i64 k,.int .i64 d] 25
 k1:Blk W (w.heap.size+1) zL 32
 k2:Blk W (w.heap.size+2) zL 32
theorem Kst.below {w W W':World} {s c k d:Int} (h:Kst w W s c k d) (hb:Below W.heap.size W W'):Kst w W' s c k d:=⟨h.be.trans (hb.mono h.be.size),h.k0.below hb,h.k1.below hb,h.k2.below hb⟩
theorem Kst.drew {w W:World} {s c k d:Int} (h:Kst w W s c k d):Kst w W.drew s c k d:=⟨h.be.drew,h.k0,h.k1,h.k2⟩
theorem kst_new (w:World) (s c k d:Int):Kst w (((w.alloc (.cells #[.int .i64 s,.int .i64 c,.int .i64 k,.int .i64 d] 25)).alloc (.cells #[.slice none 0 0,.int .i64 0,.slice none 0 0,.int .i64 0,.int .i64 0,.slice none 0 0] 32)).alloc (.cells #[.slice none 0 0,.int .i64 0,.slice none 0 0,.int .i64 0,.int .i64 0,.slice none 0 0] 32)) s c k d:=by
 have k0:=Blk.new w #[.int .i64 s,.int .i64 c,.int .i64 k,.int .i64 d] 25
 have b0:Below w.heap.size w (w.alloc (.cells #[.int .i64 s,.int .i64 c,.int .i64 k,.int .i64 d] 25)):=(Below.refl _ _).alloc (Nat.le_refl _) _
 have s0:(w.alloc (.cells #[.int .i64 s,.int .i64 c,.int .i64 k,.int .i64 d] 25)).heap.size=w.heap.size+1:=by simp
 generalize w.alloc (.cells #[.int .i64 s,.int .i64 c,.int .i64 k,.int .i64 d] 25)=W0 at *
 have k1:=Blk.new W0 #[.slice none 0 0,.int .i64 0,.slice none 0 0,.int .i64 0,.int .i64 0,.slice none 0 0] 32
 have b1:Below W0.heap.size W0 (W0.alloc (.cells #[.slice none 0 0,.int .i64 0,.slice none 0 0,.int .i64 0,.int .i64 0,.slice none 0 0] 32)):=(Below.refl _ _).alloc (Nat.le_refl _) _
 have s1:(W0.alloc (.cells #[.slice none 0 0,.int .i64 0,.slice none 0 0,.int .i64 0,.int .i64 0,.slice none 0 0] 32)).heap.size=w.heap.size+2:=by simp [s0]
 rw [s0] at k1
 generalize W0.alloc (.cells #[.slice none 0 0,.int .i64 0,.slice none 0 0,.int .i64 0,.int .i64 0,.slice none 0 0] 32)=W1 at *
 have k2:=Blk.new W1 #[.slice none 0 0,.int .i64 0,.slice none 0 0,.int .i64 0,.int .i64 0,.slice none 0 0] 32
 have b2:Below W1.heap.size W1 (W1.alloc (.cells #[.slice none 0 0,.int .i64 0,.slice none 0 0,.int .i64 0,.int .i64 0,.slice none 0 0] 32)):=(Below.refl _ _).alloc (Nat.le_refl _) _
 rw [s1] at k2
 have c12:=b1.trans (b2.mono (by omega))
 exact ⟨b0.trans (c12.mono (by omega)),k0.below c12,k1.below b2,k2⟩
theorem link_end {w W:World} (k1:Blk W (w.heap.size+1) zL 32) (v0 v1 v2 v3 v4 v5:Value) (V:Int) (Q:Ending→World→Prop) (tmps:Array Value) (h4:tmps[4]?=some (.pointer (some ⟨w.heap.size+1,0,none⟩))) (h5:tmps[5]?=some (.int .i64 V)) (hQ:Q (.returned (.tuple #[.agg #[v0,v1,v2,v3,v4,v5],.int .i64 V])) (st6 W (w.heap.size+1) v0 v1 v2 v3 v4 v5)):
 bodyPost Tryz.prog Tryz.f8 Q Exit.ret ⟨tmps,[]⟩ (st6 W (w.heap.size+1) v0 v1 v2 v3 v4 v5):=by
 have k:=blk_st6 k1 v0 v1 v2 v3 v4 v5
 have t0:(st6 W (w.heap.size+1) v0 v1 v2 v3 v4 v5).cell? ⟨w.heap.size+1,0,none⟩=some v0:=k.cell 0
 have t1:(st6 W (w.heap.size+1) v0 v1 v2 v3 v4 v5).cell? ⟨w.heap.size+1,1,none⟩=some v1:=k.cell 1
 have t2:(st6 W (w.heap.size+1) v0 v1 v2 v3 v4 v5).cell? ⟨w.heap.size+1,2,none⟩=some v2:=k.cell 2
 have t3:(st6 W (w.heap.size+1) v0 v1 v2 v3 v4 v5).cell? ⟨w.heap.size+1,3,none⟩=some v3:=k.cell 3
 have t4:(st6 W (w.heap.size+1) v0 v1 v2 v3 v4 v5).cell? ⟨w.heap.size+1,4,none⟩=some v4:=k.cell 4
 have t5:(st6 W (w.heap.size+1) v0 v1 v2 v3 v4 v5).cell? ⟨w.heap.size+1,5,none⟩=some v5:=k.cell 5
 refine bodyPost_ret_by (v:=.tuple #[.agg #[v0,v1,v2,v3,v4,v5],.int .i64 V]) ?_ rfl hQ
 simp [results,Tryz.results8,go_sem,h4,h5,t0,t1,t2,t3,t4,t5]
theorem link_no {w W:World} {ps:List PMod} {s c k d V:Int} (S:Kst w W s c k d) (hV:lkc ps s c k d=V) (h0:V≠0) (tmps:Array Value) (h4:tmps[4]?=some (.pointer (some ⟨w.heap.size+1,0,none⟩))) (h5:tmps[5]?=some (.int .i64 V)):
 bodyPost Tryz.prog Tryz.f8 (LkM w ps s c k d) Exit.ret ⟨tmps,[]⟩ (st6 W (w.heap.size+1) (.slice none 0 0) (.int .i64 0) (.slice none 0 0) (.int .i64 0) (.int .i64 0) (.slice none 0 0)):=
 link_end S.k1 _ _ _ _ _ _ V _ tmps h4 h5 (lk_none (below_turn S.be (turn_st6 _ _ _ _ _ _ _ _) (fun j hj=>by have e:j=w.heap.size+1:=hj;omega) S.be.size) hV h0)
set_option maxHeartbeats 8000000 in
theorem sLink_any (a:Option Addr) (n cap:Nat) (ms:List Md) (s c k d:Int) (w:World) (h:MSD w a n cap ms):
 Calls Tryz.prog 8 #[.slice a n cap,.agg #[.int .i64 s,.int .i64 c,.int .i64 k,.int .i64 d]] w (LkM w (pmS ms) s c k d):=by
 have K0:=kst_new w s c k d
 have hl:=h.s.1
 have hpl:(pmS ms).length=n:=by rw [pmS_len,hl]
 have HH:=hide h
 have HSND:=hide (fun (W:World) (hb:Below w.heap.size w W)=>l5Sound_any a n cap ms s c k d W (h.below hb))
 obtain ⟨V,hV⟩:∃ V,V=snd4 (pmS ms) s c k d:=⟨_,rfl⟩
 rw [← hV] at HSND
 have HV:=hide hV
 have HK:=hide K0
 have c0:(((w.alloc (.cells #[.int .i64 s,.int .i64 c,.int .i64 k,.int .i64 d] 25)).alloc (.cells #[.slice none 0 0,.int .i64 0,.slice none 0 0,.int .i64 0,.int .i64 0,.slice none 0 0] 32)).alloc (.cells #[.slice none 0 0,.int .i64 0,.slice none 0 0,.int .i64 0,.int .i64 0,.slice none 0 0] 32)).cell? ⟨w.heap.size,0,none⟩=some (.int .i64 s):=K0.k0.cell 0
 have c1:(((w.alloc (.cells #[.int .i64 s,.int .i64 c,.int .i64 k,.int .i64 d] 25)).alloc (.cells #[.slice none 0 0,.int .i64 0,.slice none 0 0,.int .i64 0,.int .i64 0,.slice none 0 0] 32)).alloc (.cells #[.slice none 0 0,.int .i64 0,.slice none 0 0,.int .i64 0,.int .i64 0,.slice none 0 0] 32)).cell? ⟨w.heap.size,1,none⟩=some (.int .i64 c):=K0.k0.cell 1
 have c2:(((w.alloc (.cells #[.int .i64 s,.int .i64 c,.int .i64 k,.int .i64 d] 25)).alloc (.cells #[.slice none 0 0,.int .i64 0,.slice none 0 0,.int .i64 0,.int .i64 0,.slice none 0 0] 32)).alloc (.cells #[.slice none 0 0,.int .i64 0,.slice none 0 0,.int .i64 0,.int .i64 0,.slice none 0 0] 32)).cell? ⟨w.heap.size,2,none⟩=some (.int .i64 k):=K0.k0.cell 2
 have c3:(((w.alloc (.cells #[.int .i64 s,.int .i64 c,.int .i64 k,.int .i64 d] 25)).alloc (.cells #[.slice none 0 0,.int .i64 0,.slice none 0 0,.int .i64 0,.int .i64 0,.slice none 0 0] 32)).alloc (.cells #[.slice none 0 0,.int .i64 0,.slice none 0 0,.int .i64 0,.int .i64 0,.slice none 0 0] 32)).cell? ⟨w.heap.size,3,none⟩=some (.int .i64 d):=K0.k0.cell 3
 clear h K0 hV
 go_enter Tryz.func8,Tryz.ntmps8
 go_wp2_with fail
 refine (HSND.out _ HK.out.be).mono ?_
 rintro e w1 ⟨rfl,hb1⟩
 have S1:=HK.out.below hb1
 clear hb1 c0 c1 c2 c3 HK
 by_cases hV0:V=0
 ·have hs4:=HV.out
  rw [hV0] at hs4
  obtain ⟨hcf,h4,hvl⟩:=snd4_parts hs4.symm
  have HS4:=hide hs4.symm
  have HVL:=hide hvl
  have HCF:=hide hcf
  rw [hpl] at h4
  subst hV0
  clear hs4 hvl hcf
  have HK1:=hide S1
  clear S1
  go_wp2
  go_loopw [7] (fun i wr=>∃ m:Nat,m≤n∧i=.int .i64 m∧(∀ j,j<m→tgOk (pmS ms) ((pmS ms).getD j zP))∧Kst w wr s c k d) (fun i _=>n - (intOf i).toNat)
  case atStart=>exact ⟨0,Nat.zero_le _,rfl,fun j hj=>absurd hj (by omega),HK1.out⟩
  case round=>
   clear HK1
   obtain ⟨m,hm,rfl,hv,S⟩:=hrel
   by_cases hlt:m<n
   ·have hlt':(m:Int)<(n:Int):=by omega
    have H:=HH.out.below S.be
    obtain ⟨b,off,rfl,q0,q1,q2,q3,q4,q5,q6,q7⟩:=H.s.at m hlt
    have HTA:=hide (l5Targets_any (some ⟨b,off,none⟩) n cap ms (ms.getD m zMd) wr H HVL.out h4 (H.d m hlt) (by rw [← pmS_at (by omega)];exact HVL.out m (by omega)))
    have HEP:=hide (pmS_at (ms:=ms) (i:=m) (by omega))
    have HG:=hide (And.intro hv S)
    generalize ms.getD m zMd=M at *
    clear H hv S
    go_wp2_with fail
    refine HTA.out.mono ?_
    rintro e w2 ⟨hb2,H2⟩
    have S2:=HG.out.2.below hb2
    clear hb2 HTA q0 q1 q2 q3 q4 q5 q6 q7
    rcases H2 with ⟨hno,v,rfl⟩ | ⟨hyes,at',ct',rfl,_⟩
    ·have HP:=hide (lkc_5 (d:=d) (k:=k) (w:=c) (s:=s) HS4.out (fun hi=>hno (by rw [← HEP.out];exact hi m (by omega))))
     have HS:=hide S2
     have u0:w2.cell? ⟨w.heap.size+1+1,0,none⟩=some (.slice none 0 0):=S2.k2.cell 0
     have u1:w2.cell? ⟨w.heap.size+1+1,1,none⟩=some (.int .i64 0):=S2.k2.cell 1
     have u2:w2.cell? ⟨w.heap.size+1+1,2,none⟩=some (.slice none 0 0):=S2.k2.cell 2
     have u3:w2.cell? ⟨w.heap.size+1+1,3,none⟩=some (.int .i64 0):=S2.k2.cell 3
     have u4:w2.cell? ⟨w.heap.size+1+1,4,none⟩=some (.int .i64 0):=S2.k2.cell 4
     have u5:w2.cell? ⟨w.heap.size+1+1,5,none⟩=some (.slice none 0 0):=S2.k2.cell 5
     have p0:w2.cell? ⟨w.heap.size+1,0,none⟩=some (.slice none 0 0):=S2.k1.cell 0
     have p1:w2.cell? ⟨w.heap.size+1,1,none⟩=some (.int .i64 0):=S2.k1.cell 1
     have p2:w2.cell? ⟨w.heap.size+1,2,none⟩=some (.slice none 0 0):=S2.k1.cell 2
     have p3:w2.cell? ⟨w.heap.size+1,3,none⟩=some (.int .i64 0):=S2.k1.cell 3
     have p4:w2.cell? ⟨w.heap.size+1,4,none⟩=some (.int .i64 0):=S2.k1.cell 4
     have p5:w2.cell? ⟨w.heap.size+1,5,none⟩=some (.slice none 0 0):=S2.k1.cell 5
     have y0:w2.frozen? ⟨w.heap.size+1,0,none⟩=false:=S2.k1.frozen 0
     have y1:w2.frozen? ⟨w.heap.size+1,1,none⟩=false:=S2.k1.frozen 1
     have y2:w2.frozen? ⟨w.heap.size+1,2,none⟩=false:=S2.k1.frozen 2
     have y3:w2.frozen? ⟨w.heap.size+1,3,none⟩=false:=S2.k1.frozen 3
     have y4:w2.frozen? ⟨w.heap.size+1,4,none⟩=false:=S2.k1.frozen 4
     have y5:w2.frozen? ⟨w.heap.size+1,5,none⟩=false:=S2.k1.frozen 5
     clear S2 hno
     go_wp2
     exact link_no HS.out HP.out (by decide) _ rfl rfl
    ·have HV2:=hide (show ∀ j,j<m+1→tgOk (pmS ms) ((pmS ms).getD j zP) from fun j hj=>by
      by_cases e:j=m
      ·subst e;rw [HEP.out];exact hyes
      ·exact HG.out.1 j (by omega))
     have HS:=hide S2
     clear S2 hyes
     go_wp2
     go_roundw
     case rel=>exact ⟨m+1,by omega,by go_num,HV2.out,HS.out⟩
     case measure=>simp [intOf];omega
   ·have hlt':¬ (m:Int)<(n:Int):=by omega
    have HI:=hide (show imps (pmS ms) from fun i hi=>hv i (by omega))
    have HTL:=hide (l5TooLong_any a n cap ms s c k d wr (HH.out.below S.be))
    obtain ⟨B,hB⟩:∃ B,B=decide (0<s∧¬ shrt (pmS ms) c):=⟨_,rfl⟩
    rw [← hB] at HTL
    have HB:=hide hB
    have HS:=hide S
    have c0:wr.cell? ⟨w.heap.size,0,none⟩=some (.int .i64 s):=S.k0.cell 0
    have c1:wr.cell? ⟨w.heap.size,1,none⟩=some (.int .i64 c):=S.k0.cell 1
    have c2:wr.cell? ⟨w.heap.size,2,none⟩=some (.int .i64 k):=S.k0.cell 2
    have c3:wr.cell? ⟨w.heap.size,3,none⟩=some (.int .i64 d):=S.k0.cell 3
    clear S hv hB
    go_wp2_with fail
    refine HTL.out.mono ?_
    rintro e w3 ⟨rfl,hb3⟩
    have S3:=HS.out.below hb3
    clear hb3 HTL HS c0 c1 c2 c3
    cases B with
    | true=>
      have HP:=hide (lkc_6 (d:=d) (k:=k) HS4.out HI.out (of_decide_eq_true HB.out.symm))
      have HS:=hide S3
      have u0:w3.cell? ⟨w.heap.size+1+1,0,none⟩=some (.slice none 0 0):=S3.k2.cell 0
      have u1:w3.cell? ⟨w.heap.size+1+1,1,none⟩=some (.int .i64 0):=S3.k2.cell 1
      have u2:w3.cell? ⟨w.heap.size+1+1,2,none⟩=some (.slice none 0 0):=S3.k2.cell 2
      have u3:w3.cell? ⟨w.heap.size+1+1,3,none⟩=some (.int .i64 0):=S3.k2.cell 3
      have u4:w3.cell? ⟨w.heap.size+1+1,4,none⟩=some (.int .i64 0):=S3.k2.cell 4
      have u5:w3.cell? ⟨w.heap.size+1+1,5,none⟩=some (.slice none 0 0):=S3.k2.cell 5
      have p0:w3.cell? ⟨w.heap.size+1,0,none⟩=some (.slice none 0 0):=S3.k1.cell 0
      have p1:w3.cell? ⟨w.heap.size+1,1,none⟩=some (.int .i64 0):=S3.k1.cell 1
      have p2:w3.cell? ⟨w.heap.size+1,2,none⟩=some (.slice none 0 0):=S3.k1.cell 2
      have p3:w3.cell? ⟨w.heap.size+1,3,none⟩=some (.int .i64 0):=S3.k1.cell 3
      have p4:w3.cell? ⟨w.heap.size+1,4,none⟩=some (.int .i64 0):=S3.k1.cell 4
      have p5:w3.cell? ⟨w.heap.size+1,5,none⟩=some (.slice none 0 0):=S3.k1.cell 5
      have y0:w3.frozen? ⟨w.heap.size+1,0,none⟩=false:=S3.k1.frozen 0
      have y1:w3.frozen? ⟨w.heap.size+1,1,none⟩=false:=S3.k1.frozen 1
      have y2:w3.frozen? ⟨w.heap.size+1,2,none⟩=false:=S3.k1.frozen 2
      have y3:w3.frozen? ⟨w.heap.size+1,3,none⟩=false:=S3.k1.frozen 3
      have y4:w3.frozen? ⟨w.heap.size+1,4,none⟩=false:=S3.k1.frozen 4
      have y5:w3.frozen? ⟨w.heap.size+1,5,none⟩=false:=S3.k1.frozen 5
      clear S3
      go_wp2
      exact link_no HS.out HP.out (by decide) _ rfl rfl
    | false=>
      have HN6:=hide (of_decide_eq_false HB.out.symm)
      have HLA:=hide (l5Lay_any a n cap ms s c k d w3 (HH.out.below S3.be) h4 HCF.out HVL.out HI.out)
      have HS:=hide S3
      have c0:w3.cell? ⟨w.heap.size,0,none⟩=some (.int .i64 s):=S3.k0.cell 0
      have c1:w3.cell? ⟨w.heap.size,1,none⟩=some (.int .i64 c):=S3.k0.cell 1
      have c2:w3.cell? ⟨w.heap.size,2,none⟩=some (.int .i64 k):=S3.k0.cell 2
      have c3:w3.cell? ⟨w.heap.size,3,none⟩=some (.int .i64 d):=S3.k0.cell 3
      clear S3
      go_wp2_with fail
      refine HLA.out.mono ?_
      rintro e w4 ⟨hb4,a0,d0,xs,a2,d2,a5,d5,ts,rfl,LO⟩
      have S4:=HS.out.below hb4
      obtain ⟨L,hL⟩:∃ L,L=lay (pmS ms) s c k:=⟨_,rfl⟩
      rw [← hL] at LO ⊢
      have HLL:=hide hL
      have al:Below w4.heap.size w4 (w4.alloc (.cells #[.slice a0 xs.length d0,.int .i64 L.stack,.slice a2 L.slots.length d2,.int .i64 L.flash,.int .i64 L.ram,.slice a5 ts.length d5] 32)):=(Below.refl _ _).alloc (Nat.le_refl _) _
      have kL:=Blk.new w4 #[.slice a0 xs.length d0,.int .i64 L.stack,.slice a2 L.slots.length d2,.int .i64 L.flash,.int .i64 L.ram,.slice a5 ts.length d5] 32
      have S5:=S4.below al
      have LO5:LayO (w4.alloc (.cells #[.slice a0 xs.length d0,.int .i64 L.stack,.slice a2 L.slots.length d2,.int .i64 L.flash,.int .i64 L.ram,.slice a5 ts.length d5] 32)) w3.heap.size L a0 d0 xs a2 d2 a5 d5 ts:=⟨LO.p.below al,LO.ps,LO.s.below al,LO.t.below al,LO.tt,LO.sp⟩
      have hs34:=hb4.size
      have hs3:=HS.out.k2.lt
      have l0:(w4.alloc (.cells #[.slice a0 xs.length d0,.int .i64 L.stack,.slice a2 L.slots.length d2,.int .i64 L.flash,.int .i64 L.ram,.slice a5 ts.length d5] 32)).cell? ⟨w4.heap.size,0,none⟩=some (.slice a0 xs.length d0):=kL.cell 0
      have l1:(w4.alloc (.cells #[.slice a0 xs.length d0,.int .i64 L.stack,.slice a2 L.slots.length d2,.int .i64 L.flash,.int .i64 L.ram,.slice a5 ts.length d5] 32)).cell? ⟨w4.heap.size,1,none⟩=some (.int .i64 L.stack):=kL.cell 1
      have l2:(w4.alloc (.cells #[.slice a0 xs.length d0,.int .i64 L.stack,.slice a2 L.slots.length d2,.int .i64 L.flash,.int .i64 L.ram,.slice a5 ts.length d5] 32)).cell? ⟨w4.heap.size,2,none⟩=some (.slice a2 L.slots.length d2):=kL.cell 2
      have l3:(w4.alloc (.cells #[.slice a0 xs.length d0,.int .i64 L.stack,.slice a2 L.slots.length d2,.int .i64 L.flash,.int .i64 L.ram,.slice a5 ts.length d5] 32)).cell? ⟨w4.heap.size,3,none⟩=some (.int .i64 L.flash):=kL.cell 3
      have l4:(w4.alloc (.cells #[.slice a0 xs.length d0,.int .i64 L.stack,.slice a2 L.slots.length d2,.int .i64 L.flash,.int .i64 L.ram,.slice a5 ts.length d5] 32)).cell? ⟨w4.heap.size,4,none⟩=some (.int .i64 L.ram):=kL.cell 4
      have l5:(w4.alloc (.cells #[.slice a0 xs.length d0,.int .i64 L.stack,.slice a2 L.slots.length d2,.int .i64 L.flash,.int .i64 L.ram,.slice a5 ts.length d5] 32)).cell? ⟨w4.heap.size,5,none⟩=some (.slice a5 ts.length d5):=kL.cell 5
      have HS5:=hide (And.intro S5 LO5)
      have hz5:(w4.alloc (.cells #[.slice a0 xs.length d0,.int .i64 L.stack,.slice a2 L.slots.length d2,.int .i64 L.flash,.int .i64 L.ram,.slice a5 ts.length d5] 32)).heap.size=w4.heap.size+1:=by simp
      clear hb4 S4 LO al kL hL HS HLA c0 c1 c2 c3
      unfold layV
      by_cases h7:16384<L.flash
      ·have HP:=hide (lkc_7 (d:=d) HS4.out HI.out HN6.out (by rw [← HLL.out];exact h7))
       have u0:(w4.alloc (.cells #[.slice a0 xs.length d0,.int .i64 L.stack,.slice a2 L.slots.length d2,.int .i64 L.flash,.int .i64 L.ram,.slice a5 ts.length d5] 32)).cell? ⟨w.heap.size+1+1,0,none⟩=some (.slice none 0 0):=S5.k2.cell 0
       have u1:(w4.alloc (.cells #[.slice a0 xs.length d0,.int .i64 L.stack,.slice a2 L.slots.length d2,.int .i64 L.flash,.int .i64 L.ram,.slice a5 ts.length d5] 32)).cell? ⟨w.heap.size+1+1,1,none⟩=some (.int .i64 0):=S5.k2.cell 1
       have u2:(w4.alloc (.cells #[.slice a0 xs.length d0,.int .i64 L.stack,.slice a2 L.slots.length d2,.int .i64 L.flash,.int .i64 L.ram,.slice a5 ts.length d5] 32)).cell? ⟨w.heap.size+1+1,2,none⟩=some (.slice none 0 0):=S5.k2.cell 2
       have u3:(w4.alloc (.cells #[.slice a0 xs.length d0,.int .i64 L.stack,.slice a2 L.slots.length d2,.int .i64 L.flash,.int .i64 L.ram,.slice a5 ts.length d5] 32)).cell? ⟨w.heap.size+1+1,3,none⟩=some (.int .i64 0):=S5.k2.cell 3
       have u4:(w4.alloc (.cells #[.slice a0 xs.length d0,.int .i64 L.stack,.slice a2 L.slots.length d2,.int .i64 L.flash,.int .i64 L.ram,.slice a5 ts.length d5] 32)).cell? ⟨w.heap.size+1+1,4,none⟩=some (.int .i64 0):=S5.k2.cell 4
       have u5:(w4.alloc (.cells #[.slice a0 xs.length d0,.int .i64 L.stack,.slice a2 L.slots.length d2,.int .i64 L.flash,.int .i64 L.ram,.slice a5 ts.length d5] 32)).cell? ⟨w.heap.size+1+1,5,none⟩=some (.slice none 0 0):=S5.k2.cell 5
       have p0:(w4.alloc (.cells #[.slice a0 xs.length d0,.int .i64 L.stack,.slice a2 L.slots.length d2,.int .i64 L.flash,.int .i64 L.ram,.slice a5 ts.length d5] 32)).cell? ⟨w.heap.size+1,0,none⟩=some (.slice none 0 0):=S5.k1.cell 0
       have p1:(w4.alloc (.cells #[.slice a0 xs.length d0,.int .i64 L.stack,.slice a2 L.slots.length d2,.int .i64 L.flash,.int .i64 L.ram,.slice a5 ts.length d5] 32)).cell? ⟨w.heap.size+1,1,none⟩=some (.int .i64 0):=S5.k1.cell 1
       have p2:(w4.alloc (.cells #[.slice a0 xs.length d0,.int .i64 L.stack,.slice a2 L.slots.length d2,.int .i64 L.flash,.int .i64 L.ram,.slice a5 ts.length d5] 32)).cell? ⟨w.heap.size+1,2,none⟩=some (.slice none 0 0):=S5.k1.cell 2
       have p3:(w4.alloc (.cells #[.slice a0 xs.length d0,.int .i64 L.stack,.slice a2 L.slots.length d2,.int .i64 L.flash,.int .i64 L.ram,.slice a5 ts.length d5] 32)).cell? ⟨w.heap.size+1,3,none⟩=some (.int .i64 0):=S5.k1.cell 3
       have p4:(w4.alloc (.cells #[.slice a0 xs.length d0,.int .i64 L.stack,.slice a2 L.slots.length d2,.int .i64 L.flash,.int .i64 L.ram,.slice a5 ts.length d5] 32)).cell? ⟨w.heap.size+1,4,none⟩=some (.int .i64 0):=S5.k1.cell 4
       have p5:(w4.alloc (.cells #[.slice a0 xs.length d0,.int .i64 L.stack,.slice a2 L.slots.length d2,.int .i64 L.flash,.int .i64 L.ram,.slice a5 ts.length d5] 32)).cell? ⟨w.heap.size+1,5,none⟩=some (.slice none 0 0):=S5.k1.cell 5
       have y0:(w4.alloc (.cells #[.slice a0 xs.length d0,.int .i64 L.stack,.slice a2 L.slots.length d2,.int .i64 L.flash,.int .i64 L.ram,.slice a5 ts.length d5] 32)).frozen? ⟨w.heap.size+1,0,none⟩=false:=S5.k1.frozen 0
       have y1:(w4.alloc (.cells #[.slice a0 xs.length d0,.int .i64 L.stack,.slice a2 L.slots.length d2,.int .i64 L.flash,.int .i64 L.ram,.slice a5 ts.length d5] 32)).frozen? ⟨w.heap.size+1,1,none⟩=false:=S5.k1.frozen 1
       have y2:(w4.alloc (.cells #[.slice a0 xs.length d0,.int .i64 L.stack,.slice a2 L.slots.length d2,.int .i64 L.flash,.int .i64 L.ram,.slice a5 ts.length d5] 32)).frozen? ⟨w.heap.size+1,2,none⟩=false:=S5.k1.frozen 2
       have y3:(w4.alloc (.cells #[.slice a0 xs.length d0,.int .i64 L.stack,.slice a2 L.slots.length d2,.int .i64 L.flash,.int .i64 L.ram,.slice a5 ts.length d5] 32)).frozen? ⟨w.heap.size+1,3,none⟩=false:=S5.k1.frozen 3
       have y4:(w4.alloc (.cells #[.slice a0 xs.length d0,.int .i64 L.stack,.slice a2 L.slots.length d2,.int .i64 L.flash,.int .i64 L.ram,.slice a5 ts.length d5] 32)).frozen? ⟨w.heap.size+1,4,none⟩=false:=S5.k1.frozen 4
       have y5:(w4.alloc (.cells #[.slice a0 xs.length d0,.int .i64 L.stack,.slice a2 L.slots.length d2,.int .i64 L.flash,.int .i64 L.ram,.slice a5 ts.length d5] 32)).frozen? ⟨w.heap.size+1,5,none⟩=false:=S5.k1.frozen 5
       clear S5 LO5
       go_wp2
       exact link_no HS5.out.1 HP.out (by decide) _ rfl rfl
      ·have h7':¬ 16384<L.flash:=h7
       by_cases h8:16384<L.ram
       ·have HP:=hide (lkc_8 (d:=d) HS4.out HI.out HN6.out (by rw [← HLL.out];exact h7) (by rw [← HLL.out];exact h8))
        have u0:(w4.alloc (.cells #[.slice a0 xs.length d0,.int .i64 L.stack,.slice a2 L.slots.length d2,.int .i64 L.flash,.int .i64 L.ram,.slice a5 ts.length d5] 32)).cell? ⟨w.heap.size+1+1,0,none⟩=some (.slice none 0 0):=S5.k2.cell 0
        have u1:(w4.alloc (.cells #[.slice a0 xs.length d0,.int .i64 L.stack,.slice a2 L.slots.length d2,.int .i64 L.flash,.int .i64 L.ram,.slice a5 ts.length d5] 32)).cell? ⟨w.heap.size+1+1,1,none⟩=some (.int .i64 0):=S5.k2.cell 1
        have u2:(w4.alloc (.cells #[.slice a0 xs.length d0,.int .i64 L.stack,.slice a2 L.slots.length d2,.int .i64 L.flash,.int .i64 L.ram,.slice a5 ts.length d5] 32)).cell? ⟨w.heap.size+1+1,2,none⟩=some (.slice none 0 0):=S5.k2.cell 2
        have u3:(w4.alloc (.cells #[.slice a0 xs.length d0,.int .i64 L.stack,.slice a2 L.slots.length d2,.int .i64 L.flash,.int .i64 L.ram,.slice a5 ts.length d5] 32)).cell? ⟨w.heap.size+1+1,3,none⟩=some (.int .i64 0):=S5.k2.cell 3
        have u4:(w4.alloc (.cells #[.slice a0 xs.length d0,.int .i64 L.stack,.slice a2 L.slots.length d2,.int .i64 L.flash,.int .i64 L.ram,.slice a5 ts.length d5] 32)).cell? ⟨w.heap.size+1+1,4,none⟩=some (.int .i64 0):=S5.k2.cell 4
        have u5:(w4.alloc (.cells #[.slice a0 xs.length d0,.int .i64 L.stack,.slice a2 L.slots.length d2,.int .i64 L.flash,.int .i64 L.ram,.slice a5 ts.length d5] 32)).cell? ⟨w.heap.size+1+1,5,none⟩=some (.slice none 0 0):=S5.k2.cell 5
        have p0:(w4.alloc (.cells #[.slice a0 xs.length d0,.int .i64 L.stack,.slice a2 L.slots.length d2,.int .i64 L.flash,.int .i64 L.ram,.slice a5 ts.length d5] 32)).cell? ⟨w.heap.size+1,0,none⟩=some (.slice none 0 0):=S5.k1.cell 0
        have p1:(w4.alloc (.cells #[.slice a0 xs.length d0,.int .i64 L.stack,.slice a2 L.slots.length d2,.int .i64 L.flash,.int .i64 L.ram,.slice a5 ts.length d5] 32)).cell? ⟨w.heap.size+1,1,none⟩=some (.int .i64 0):=S5.k1.cell 1
        have p2:(w4.alloc (.cells #[.slice a0 xs.length d0,.int .i64 L.stack,.slice a2 L.slots.length d2,.int .i64 L.flash,.int .i64 L.ram,.slice a5 ts.length d5] 32)).cell? ⟨w.heap.size+1,2,none⟩=some (.slice none 0 0):=S5.k1.cell 2
        have p3:(w4.alloc (.cells #[.slice a0 xs.length d0,.int .i64 L.stack,.slice a2 L.slots.length d2,.int .i64 L.flash,.int .i64 L.ram,.slice a5 ts.length d5] 32)).cell? ⟨w.heap.size+1,3,none⟩=some (.int .i64 0):=S5.k1.cell 3
        have p4:(w4.alloc (.cells #[.slice a0 xs.length d0,.int .i64 L.stack,.slice a2 L.slots.length d2,.int .i64 L.flash,.int .i64 L.ram,.slice a5 ts.length d5] 32)).cell? ⟨w.heap.size+1,4,none⟩=some (.int .i64 0):=S5.k1.cell 4
        have p5:(w4.alloc (.cells #[.slice a0 xs.length d0,.int .i64 L.stack,.slice a2 L.slots.length d2,.int .i64 L.flash,.int .i64 L.ram,.slice a5 ts.length d5] 32)).cell? ⟨w.heap.size+1,5,none⟩=some (.slice none 0 0):=S5.k1.cell 5
        have y0:(w4.alloc (.cells #[.slice a0 xs.length d0,.int .i64 L.stack,.slice a2 L.slots.length d2,.int .i64 L.flash,.int .i64 L.ram,.slice a5 ts.length d5] 32)).frozen? ⟨w.heap.size+1,0,none⟩=false:=S5.k1.frozen 0
        have y1:(w4.alloc (.cells #[.slice a0 xs.length d0,.int .i64 L.stack,.slice a2 L.slots.length d2,.int .i64 L.flash,.int .i64 L.ram,.slice a5 ts.length d5] 32)).frozen? ⟨w.heap.size+1,1,none⟩=false:=S5.k1.frozen 1
        have y2:(w4.alloc (.cells #[.slice a0 xs.length d0,.int .i64 L.stack,.slice a2 L.slots.length d2,.int .i64 L.flash,.int .i64 L.ram,.slice a5 ts.length d5] 32)).frozen? ⟨w.heap.size+1,2,none⟩=false:=S5.k1.frozen 2
        have y3:(w4.alloc (.cells #[.slice a0 xs.length d0,.int .i64 L.stack,.slice a2 L.slots.length d2,.int .i64 L.flash,.int .i64 L.ram,.slice a5 ts.length d5] 32)).frozen? ⟨w.heap.size+1,3,none⟩=false:=S5.k1.frozen 3
        have y4:(w4.alloc (.cells #[.slice a0 xs.length d0,.int .i64 L.stack,.slice a2 L.slots.length d2,.int .i64 L.flash,.int .i64 L.ram,.slice a5 ts.length d5] 32)).frozen? ⟨w.heap.size+1,4,none⟩=false:=S5.k1.frozen 4
        have y5:(w4.alloc (.cells #[.slice a0 xs.length d0,.int .i64 L.stack,.slice a2 L.slots.length d2,.int .i64 L.flash,.int .i64 L.ram,.slice a5 ts.length d5] 32)).frozen? ⟨w.heap.size+1,5,none⟩=false:=S5.k1.frozen 5
        clear S5 LO5
        go_wp2
        exact link_no HS5.out.1 HP.out (by decide) _ rfl rfl
       ·have HP:=hide (lkc_0 (d:=d) HS4.out HI.out HN6.out (by rw [← HLL.out];exact h7) (by rw [← HLL.out];exact h8))
        have p0:(w4.alloc (.cells #[.slice a0 xs.length d0,.int .i64 L.stack,.slice a2 L.slots.length d2,.int .i64 L.flash,.int .i64 L.ram,.slice a5 ts.length d5] 32)).cell? ⟨w.heap.size+1,0,none⟩=some (.slice none 0 0):=S5.k1.cell 0
        have p1:(w4.alloc (.cells #[.slice a0 xs.length d0,.int .i64 L.stack,.slice a2 L.slots.length d2,.int .i64 L.flash,.int .i64 L.ram,.slice a5 ts.length d5] 32)).cell? ⟨w.heap.size+1,1,none⟩=some (.int .i64 0):=S5.k1.cell 1
        have p2:(w4.alloc (.cells #[.slice a0 xs.length d0,.int .i64 L.stack,.slice a2 L.slots.length d2,.int .i64 L.flash,.int .i64 L.ram,.slice a5 ts.length d5] 32)).cell? ⟨w.heap.size+1,2,none⟩=some (.slice none 0 0):=S5.k1.cell 2
        have p3:(w4.alloc (.cells #[.slice a0 xs.length d0,.int .i64 L.stack,.slice a2 L.slots.length d2,.int .i64 L.flash,.int .i64 L.ram,.slice a5 ts.length d5] 32)).cell? ⟨w.heap.size+1,3,none⟩=some (.int .i64 0):=S5.k1.cell 3
        have p4:(w4.alloc (.cells #[.slice a0 xs.length d0,.int .i64 L.stack,.slice a2 L.slots.length d2,.int .i64 L.flash,.int .i64 L.ram,.slice a5 ts.length d5] 32)).cell? ⟨w.heap.size+1,4,none⟩=some (.int .i64 0):=S5.k1.cell 4
        have p5:(w4.alloc (.cells #[.slice a0 xs.length d0,.int .i64 L.stack,.slice a2 L.slots.length d2,.int .i64 L.flash,.int .i64 L.ram,.slice a5 ts.length d5] 32)).cell? ⟨w.heap.size+1,5,none⟩=some (.slice none 0 0):=S5.k1.cell 5
        have y0:(w4.alloc (.cells #[.slice a0 xs.length d0,.int .i64 L.stack,.slice a2 L.slots.length d2,.int .i64 L.flash,.int .i64 L.ram,.slice a5 ts.length d5] 32)).frozen? ⟨w.heap.size+1,0,none⟩=false:=S5.k1.frozen 0
        have y1:(w4.alloc (.cells #[.slice a0 xs.length d0,.int .i64 L.stack,.slice a2 L.slots.length d2,.int .i64 L.flash,.int .i64 L.ram,.slice a5 ts.length d5] 32)).frozen? ⟨w.heap.size+1,1,none⟩=false:=S5.k1.frozen 1
        have y2:(w4.alloc (.cells #[.slice a0 xs.length d0,.int .i64 L.stack,.slice a2 L.slots.length d2,.int .i64 L.flash,.int .i64 L.ram,.slice a5 ts.length d5] 32)).frozen? ⟨w.heap.size+1,2,none⟩=false:=S5.k1.frozen 2
        have y3:(w4.alloc (.cells #[.slice a0 xs.length d0,.int .i64 L.stack,.slice a2 L.slots.length d2,.int .i64 L.flash,.int .i64 L.ram,.slice a5 ts.length d5] 32)).frozen? ⟨w.heap.size+1,3,none⟩=false:=S5.k1.frozen 3
        have y4:(w4.alloc (.cells #[.slice a0 xs.length d0,.int .i64 L.stack,.slice a2 L.slots.length d2,.int .i64 L.flash,.int .i64 L.ram,.slice a5 ts.length d5] 32)).frozen? ⟨w.heap.size+1,4,none⟩=false:=S5.k1.frozen 4
        have y5:(w4.alloc (.cells #[.slice a0 xs.length d0,.int .i64 L.stack,.slice a2 L.slots.length d2,.int .i64 L.flash,.int .i64 L.ram,.slice a5 ts.length d5] 32)).frozen? ⟨w.heap.size+1,5,none⟩=false:=S5.k1.frozen 5
        clear S5 LO5
        go_wp2
        refine link_end HS5.out.1.k1 _ _ _ _ _ _ 0 _ _ rfl rfl ?_
        obtain ⟨S5,LO5⟩:=HS5.out
        have t:=turn_st6 (w4.alloc (.cells #[.slice a0 xs.length d0,.int .i64 L.stack,.slice a2 L.slots.length d2,.int .i64 L.flash,.int .i64 L.ram,.slice a5 ts.length d5] 32)) (w.heap.size+1) (.slice a0 xs.length d0) (.int .i64 L.stack) (.slice a2 L.slots.length d2) (.int .i64 L.flash) (.int .i64 L.ram) (.slice a5 ts.length d5)
        refine ⟨below_turn S5.be t (fun j hj=>by have e:j=w.heap.size+1:=hj;omega) S5.be.size,a0,d0,xs,a2,d2,a5,d5,ts,?_,?_⟩
        ·unfold lkL;rw [if_pos HP.out,HP.out,← HLL.out];rfl
        ·unfold lkL;rw [if_pos HP.out,← HLL.out]
         have hno:∀ k,w3.heap.size≤k→¬ (k=w.heap.size+1):=fun k hk e=>by omega
         exact ⟨(LO5.p.kept t (fun k hk=>hno k (LO5.p.lt.1 k hk).1) (fun x hx k hk=>hno k (LO5.p.lt.2 x hx k hk).1)).mono (by omega) (by omega),LO5.ps,(LO5.s.kept t (fun k hk=>hno k (LO5.s.lt k hk).1)).mono (by omega),(LO5.t.kept t (fun k hk=>hno k (LO5.t.lt.1 k hk).1) (fun x hx k hk=>hno k (LO5.t.lt.2 x hx k hk).1)).mono (by omega) (by omega),LO5.tt,LO5.sp⟩
 ·have hV0':(V != 0)=true:=by simp [hV0]
  have HP:=hide (lkc_1 (ps:=pmS ms) HV.out.symm hV0)
  have HS:=hide S1
  have u0:w1.cell? ⟨w.heap.size+1+1,0,none⟩=some (.slice none 0 0):=S1.k2.cell 0
  have u1:w1.cell? ⟨w.heap.size+1+1,1,none⟩=some (.int .i64 0):=S1.k2.cell 1
  have u2:w1.cell? ⟨w.heap.size+1+1,2,none⟩=some (.slice none 0 0):=S1.k2.cell 2
  have u3:w1.cell? ⟨w.heap.size+1+1,3,none⟩=some (.int .i64 0):=S1.k2.cell 3
  have u4:w1.cell? ⟨w.heap.size+1+1,4,none⟩=some (.int .i64 0):=S1.k2.cell 4
  have u5:w1.cell? ⟨w.heap.size+1+1,5,none⟩=some (.slice none 0 0):=S1.k2.cell 5
  have p0:w1.cell? ⟨w.heap.size+1,0,none⟩=some (.slice none 0 0):=S1.k1.cell 0
  have p1:w1.cell? ⟨w.heap.size+1,1,none⟩=some (.int .i64 0):=S1.k1.cell 1
  have p2:w1.cell? ⟨w.heap.size+1,2,none⟩=some (.slice none 0 0):=S1.k1.cell 2
  have p3:w1.cell? ⟨w.heap.size+1,3,none⟩=some (.int .i64 0):=S1.k1.cell 3
  have p4:w1.cell? ⟨w.heap.size+1,4,none⟩=some (.int .i64 0):=S1.k1.cell 4
  have p5:w1.cell? ⟨w.heap.size+1,5,none⟩=some (.slice none 0 0):=S1.k1.cell 5
  have y0:w1.frozen? ⟨w.heap.size+1,0,none⟩=false:=S1.k1.frozen 0
  have y1:w1.frozen? ⟨w.heap.size+1,1,none⟩=false:=S1.k1.frozen 1
  have y2:w1.frozen? ⟨w.heap.size+1,2,none⟩=false:=S1.k1.frozen 2
  have y3:w1.frozen? ⟨w.heap.size+1,3,none⟩=false:=S1.k1.frozen 3
  have y4:w1.frozen? ⟨w.heap.size+1,4,none⟩=false:=S1.k1.frozen 4
  have y5:w1.frozen? ⟨w.heap.size+1,5,none⟩=false:=S1.k1.frozen 5
  have c0:w1.cell? ⟨w.heap.size,0,none⟩=some (.int .i64 s):=S1.k0.cell 0
  have c1:w1.cell? ⟨w.heap.size,1,none⟩=some (.int .i64 c):=S1.k0.cell 1
  have c2:w1.cell? ⟨w.heap.size,2,none⟩=some (.int .i64 k):=S1.k0.cell 2
  have c3:w1.cell? ⟨w.heap.size,3,none⟩=some (.int .i64 d):=S1.k0.cell 3
  clear S1
  go_wp2_with fail
  go_region_law (first
   | (go_simp;go_at_call 54;refine (HSND.out _ (by first | exact HS.out.be | exact HS.out.drew.be)).mono ?_;rintro e w12 ⟨rfl,hb12⟩;have HE2:=hide (show Kst w w12 s c k d from (by first | exact HS.out.below hb12 | exact HS.out.drew.below hb12));have vu0:w12.cell? ⟨w.heap.size+1+1,0,none⟩=some (.slice none 0 0):=HE2.out.k2.cell 0;have vu1:w12.cell? ⟨w.heap.size+1+1,1,none⟩=some (.int .i64 0):=HE2.out.k2.cell 1;have vu2:w12.cell? ⟨w.heap.size+1+1,2,none⟩=some (.slice none 0 0):=HE2.out.k2.cell 2;have vu3:w12.cell? ⟨w.heap.size+1+1,3,none⟩=some (.int .i64 0):=HE2.out.k2.cell 3;have vu4:w12.cell? ⟨w.heap.size+1+1,4,none⟩=some (.int .i64 0):=HE2.out.k2.cell 4;have vu5:w12.cell? ⟨w.heap.size+1+1,5,none⟩=some (.slice none 0 0):=HE2.out.k2.cell 5;have vp0:w12.cell? ⟨w.heap.size+1,0,none⟩=some (.slice none 0 0):=HE2.out.k1.cell 0;have vp1:w12.cell? ⟨w.heap.size+1,1,none⟩=some (.int .i64 0):=HE2.out.k1.cell 1;have vp2:w12.cell? ⟨w.heap.size+1,2,none⟩=some (.slice none 0 0):=HE2.out.k1.cell 2;have vp3:w12.cell? ⟨w.heap.size+1,3,none⟩=some (.int .i64 0):=HE2.out.k1.cell 3;have vp4:w12.cell? ⟨w.heap.size+1,4,none⟩=some (.int .i64 0):=HE2.out.k1.cell 4;have vp5:w12.cell? ⟨w.heap.size+1,5,none⟩=some (.slice none 0 0):=HE2.out.k1.cell 5;have vy0:w12.frozen? ⟨w.heap.size+1,0,none⟩=false:=HE2.out.k1.frozen 0;have vy1:w12.frozen? ⟨w.heap.size+1,1,none⟩=false:=HE2.out.k1.frozen 1;have vy2:w12.frozen? ⟨w.heap.size+1,2,none⟩=false:=HE2.out.k1.frozen 2;have vy3:w12.frozen? ⟨w.heap.size+1,3,none⟩=false:=HE2.out.k1.frozen 3;have vy4:w12.frozen? ⟨w.heap.size+1,4,none⟩=false:=HE2.out.k1.frozen 4;have vy5:w12.frozen? ⟨w.heap.size+1,5,none⟩=false:=HE2.out.k1.frozen 5;have vc0:w12.cell? ⟨w.heap.size,0,none⟩=some (.int .i64 s):=HE2.out.k0.cell 0;have vc1:w12.cell? ⟨w.heap.size,1,none⟩=some (.int .i64 c):=HE2.out.k0.cell 1;have vc2:w12.cell? ⟨w.heap.size,2,none⟩=some (.int .i64 k):=HE2.out.k0.cell 2;have vc3:w12.cell? ⟨w.heap.size,3,none⟩=some (.int .i64 d):=HE2.out.k0.cell 3;clear hb12))
  all_goals
   go_wp2
   exact link_no HE2.out HP.out hV0 _ rfl rfl
end Go.Proofs.YtngdgogjlpjjpadGreat
namespace Go.Proofs.YtngdgogjlpjjpadGreat
open Go Go.Maps Go.WideShapes
open Go.RowKit Classical
set_option linter.unusedVariables false
set_option linter.unusedSimpArgs false
set_option maxRecDepth 100000
set_option maxHeartbeats 4000000 in
theorem linkFault_any (a:Option Addr) (n cap:Nat) (ms:List Md) (s c k d:Int) (w:World) (h:MSD w a n cap ms):
 Calls Tryz.prog 58 #[.slice a n cap,.agg #[.int .i64 s,.int .i64 c,.int .i64 k,.int .i64 d]] w fun e w'=>e=.returned (.int .i64 (snd4 (pmS ms) s c k d))∧Below w.heap.size w w':=by
 have hA:Below w.heap.size w (w.alloc (.cells #[.int .i64 s,.int .i64 c,.int .i64 k,.int .i64 d] 25)):=(Below.refl _ _).alloc (Nat.le_refl _) _
 have hl:=h.s.1
 have hm1:=h.s.2.1
 unfold maxLen at hm1
 have hpl:=pmS_len ms
 have HH:=hide h
 have HC:=hide (fun W=>iConfigOk_any s c k d W)
 clear h
 go_enter Tryz.func58,Tryz.ntmps58
 go_wp2_with fail
 refine (HC.out _).mono ?_
 rintro e w1 ⟨rfl,hb1⟩
 have HB1:=hide (hA.trans (hb1.mono (by simp)))
 clear hA hb1 HC
 cases hcf:cfo s c k d with
 | false=>
   have HS:=hide (snd4_1 (ps:=pmS ms) hcf)
   go_wp2
   go_ret
   exact ⟨ret_int HS.out.symm,HB1.out⟩
 | true=>
   by_cases hn2:n<1∨4<n
   ·have HS:=hide (snd4_2 (ps:=pmS ms) hcf (by omega))
    by_cases hn1:n<1
    ·have hn1':(n:Int)<1:=by omega
     clear hn2
     go_wp2
     go_ret
     exact ⟨ret_int HS.out.symm,HB1.out⟩
    ·have hn1':¬ (n:Int)<1:=by omega
     have hn4':(4:Int)<(n:Int):=by omega
     clear hn2
     go_wp2
     go_ret
     exact ⟨ret_int HS.out.symm,HB1.out⟩
   have hn1':¬ (n:Int)<1:=by omega
   have hn4':¬ (4:Int)<(n:Int):=by omega
   have HN2:=hide (show ¬ ((pmS ms).length<1∨4<(pmS ms).length) by rw [hpl,hl];exact hn2)
   clear hn2
   go_wp2
   go_loopw [20] (fun i wr=>∃ m:Nat,m≤n∧i=.int .i64 m∧(∀ j,j<m→mdoP ((pmS ms).getD j zP)=0)∧Below w.heap.size w wr) (fun i _=>n - (intOf i).toNat)
   case atStart=>exact ⟨0,Nat.zero_le _,rfl,fun j hj=>absurd hj (by omega),HB1.out⟩
   case round=>
    obtain ⟨m,hm,rfl,hv,B⟩:=hrel
    by_cases hlt:m<n
    ·have hlt':(m:Int)<(n:Int):=by omega
     have H:=HH.out.below B
     obtain ⟨b,off,rfl,q0,q1,q2,q3,q4,q5,q6,q7⟩:=H.s.at m hlt
     have HOK:=hide (fun (W:World) (hb:Below wr.heap.size wr W)=>Md.okI (MD.below (H.d m hlt) hb))
     obtain ⟨V,hV⟩:∃ V,V=mdoP (ms.getD m zMd).pm:=⟨_,rfl⟩
     rw [← hV] at HOK
     have HVV:=hide (hV.trans (by rw [← pmS_at (by omega)]))
     have HV:=hide hv
     have HB:=hide B
     generalize ms.getD m zMd=M at *
     have al:Below wr.heap.size wr (wr.alloc (.cells #[.string M.nm,.slice M.ta M.tn M.tc,.slice M.ba M.bn M.bc,.slice M.da M.dn M.dc,.int .i64 M.bss,.slice M.ra M.rn M.rc,.slice M.ia M.im M.ic,.slice M.ea M.en M.ec] 49)):=(Below.refl _ _).alloc (Nat.le_refl _) _
     obtain ⟨g0,g1,g2,g3,g4,g5,g6,g7⟩:=(Blk.new wr #[.string M.nm,.slice M.ta M.tn M.tc,.slice M.ba M.bn M.bc,.slice M.da M.dn M.dc,.int .i64 M.bss,.slice M.ra M.rn M.rc,.slice M.ia M.im M.ic,.slice M.ea M.en M.ec] 49).eight
     have HAL:=hide al
     clear hv B H hV al
     go_wp2_with fail
     refine (HOK.out _ HAL.out).mono ?_
     rintro e w2 ⟨rfl,hb2⟩
     have hb2':=HAL.out.trans (hb2.mono HAL.out.size)
     have HB2:=hide (HB.out.trans (hb2'.mono HB.out.size))
     clear hb2 hb2' HOK HB HAL q0 q1 q2 q3 q4 q5 q6 q7 g0 g1 g2 g3 g4 g5 g6 g7
     by_cases hz:V=0
     ·subst hz
      have HV2:=hide (show ∀ j,j<m+1→mdoP ((pmS ms).getD j zP)=0 from fun j hj=>by
       by_cases e:j=m
       ·subst e;exact HVV.out.symm
       ·exact HV.out j (by omega))
      go_wp2
      go_roundw
      case rel=>exact ⟨m+1,by omega,by go_num,HV2.out,HB2.out⟩
      case measure=>simp [intOf];omega
     ·have hz':(V != 0)=true:=by simp [hz]
      have HS:=hide (snd4_3 (ps:=pmS ms) hcf HN2.out m (by omega) (by rw [← HVV.out];exact hz))
      go_wp2
      go_ret
      exact ⟨ret_int HS.out.symm,HB2.out⟩
    ·have hlt':¬ (m:Int)<(n:Int):=by omega
     have HV:=hide (show vlds (pmS ms) from fun i hi=>hv i (by omega))
     have HB:=hide B
     have HF:=hide (firstOfM_any a n cap ms wr (HH.out.s.below B) (by omega))
     have hsz:=fd_size_le (mdNm ms) n
     have HNS:=hide (nms_size (ms:=ms) hl)
     obtain ⟨Sz,hSz⟩:∃ Sz,Sz=size (fd (mdNm ms) n):=⟨_,rfl⟩
     have HSZ:=hide hSz
     rw [← hSz] at hsz HNS
     clear hv B hSz
     go_wp2_with fail
     refine HF.out.mono ?_
     rintro e w2 ⟨rfl,hown,hb2⟩
     have hlen:∀ ty,(Builtin.len_ #[183] ty #[.map (some wr.heap.size)]).run Tryz.prog w2=.ok (.int .i64 (Sz:Int)) w2:=by intro ty;rw [HSZ.out];exact hown.len Tryz.underlying183 ty
     have HB2:=hide (HB.out.trans (hb2.mono HB.out.size))
     clear hown hb2 HF HB
     by_cases he:Sz=n
     ·have HS:=hide (snd4_0 (d:=d) hcf HN2.out HV.out (HNS.out.1 he))
      subst he
      have hne:((Sz:Int) != (Sz:Int))=false:=by simp
      go_wp2
      go_ret
      exact ⟨ret_int HS.out.symm,HB2.out⟩
     ·have HS:=hide (show snd4 (pmS ms) s c k d=4 by
       unfold snd4
       rw [if_neg (by rw [hcf];decide),if_neg HN2.out,if_neg (fun e=>e HV.out),if_pos (fun e=>he (HNS.out.2 e))])
      have hne:((Sz:Int) != (n:Int))=true:=by simp;omega
      go_wp2
      go_ret
      exact ⟨ret_int HS.out.symm,HB2.out⟩
end Go.Proofs.YtngdgogjlpjjpadGreat
namespace Go.Proofs.YtngdgogjlpjjpadGreat
open Go.RowKit Classical
set_option linter.unusedVariables false
set_option linter.unusedSimpArgs false
set_option maxRecDepth 100000
def GB (ps:List PMod) (m q R:Nat):Prop:=(∀ i,i<ps.length→∀ k,k<(ps.getD i zP).bl.length→(i<m∨(i=m∧k<q))→((ps.getD i zP).bl.getD k []).length≤R)∧(R=0∨∃ i,i<ps.length∧∃ k,k<(ps.getD i zP).bl.length∧((ps.getD i zP).bl.getD k []).length=R)
theorem gb_zero (ps:List PMod):GB ps 0 0 0:=⟨fun i _ k _ h=>by omega,.inl rfl⟩
theorem GB.next {ps:List PMod} {m q R:Nat} (h:GB ps m q R) (hq:(ps.getD m zP).bl.length≤q):GB ps (m+1) 0 R:=
 ⟨fun i hi k hk e=>h.1 i hi k hk (by
  by_cases e2:i=m
  ·subst e2;right;exact ⟨rfl,by omega⟩
  ·left;omega),h.2⟩
theorem GB.step {ps:List PMod} {m q R:Nat} (h:GB ps m q R) (hm:m<ps.length) (hq:q<(ps.getD m zP).bl.length):GB ps m (q+1) (max R ((ps.getD m zP).bl.getD q []).length):=by
 refine ⟨fun i hi k hk e=>?_,?_⟩
 ·by_cases e2:i=m∧k=q
  ·obtain ⟨rfl,rfl⟩:=e2;omega
  ·have:=h.1 i hi k hk (by omega);omega
 ·by_cases hc:((ps.getD m zP).bl.getD q []).length≤R
  ·rw [show max R ((ps.getD m zP).bl.getD q []).length=R by omega]
   exact h.2
  ·exact .inr ⟨m,hm,q,hq,by omega⟩
theorem gb_shrt {ps:List PMod} {R:Nat} (h:GB ps ps.length 0 R) (w:Int) (hw:1≤w):(w<(R:Int)) ↔ ¬ shrt ps w:=by
 constructor
 ·intro h1 hs
  rcases h.2 with h2 | ⟨i,hi,k,hk,e⟩
  ·omega
  ·have:=hs i hi k hk
   omega
 ·intro hs
  apply Classical.byContradiction
  intro hn
  exact hs (fun i hi k hk=>by have:=h.1 i hi k hk (.inl hi);omega)
set_option maxHeartbeats 4000000 in
theorem greatestBank_any (a:Option Addr) (n cap:Nat) (ms:List Md) (w:World) (h:MSD w a n cap ms) (hv:vlds (pmS ms)) (hn4:n≤4):
 Calls Tryz.prog 60 #[.slice a n cap] w fun e w'=>∃ R:Nat,e=.returned (.int .i64 (R:Int))∧GB (pmS ms) (pmS ms).length 0 R∧Below w.heap.size w w':=by
 have hl:=h.s.1
 have hpl:(pmS ms).length=n:=by rw [pmS_len,hl]
 have HH:=hide h
 have HVL:=hide hv
 clear h hv
 go_enter Tryz.func60,Tryz.ntmps60
 go_wp2
 go_loopw [3,10] (fun x i wr=>∃ (m R:Nat),m≤n∧i=.int .i64 m∧x=.int .i64 (R:Int)∧R≤64∧Hid (GB (pmS ms) m 0 R)∧Below w.heap.size w wr) (fun _ i _=>n - (intOf i).toNat)
 case atStart=>exact ⟨0,0,Nat.zero_le _,rfl,rfl,Nat.zero_le _,hide (gb_zero _),Below.refl _ _⟩
 case round=>
  obtain ⟨m,R,hm,rfl,rfl,hR,hG,B⟩:=hrel
  by_cases hlt:m<n
  ·have hlt':(m:Int)<(n:Int):=by omega
   have H:=HH.out.below B
   obtain ⟨b,off,rfl,q0,q1,q2,q3,q4,q5,q6,q7⟩:=H.s.at m hlt
   have hmd:=H.d m hlt
   obtain ⟨P,hP⟩:∃ P,P=(pmS ms).getD m zP:=⟨_,rfl⟩
   have hPM:P=(ms.getD m zMd).pm:=hP.trans (pmS_at (by omega))
   have hvm:=HVL.out m (by omega)
   rw [← hP] at hvm
   obtain ⟨_,_,_,vb,_,_,_,vbk⟩:=vld_en hvm
   have eB:(ms.getD m zMd).bn=P.bl.length:=by rw [hPM];show _=(List.map _ _).length;rw [List.length_map];exact hmd.b.1.symm
   have HBK:=hide (show ∀ j,j<P.bl.length→((ms.getD m zMd).bl.getD j zB).2.1=(P.bl.getD j []).length from fun j hj=>by rw [hPM];exact (pm_bank hmd j (by omega)).1)
   have HMB:=hide (fun (W:World) (hb:Below wr.heap.size wr W)=>(MD.below hmd hb).b)
   have HP:=hide hP
   rw [eB] at q2
   have HEB:=hide eB
   have HB:=hide B
   generalize ms.getD m zMd=M at *
   generalize M.ba=ba at *
   have al:Below wr.heap.size wr (wr.alloc (.cells #[.string M.nm,.slice M.ta M.tn M.tc,.slice ba P.bl.length M.bc,.slice M.da M.dn M.dc,.int .i64 M.bss,.slice M.ra M.rn M.rc,.slice M.ia M.im M.ic,.slice M.ea M.en M.ec] 49)):=(Below.refl _ _).alloc (Nat.le_refl _) _
   obtain ⟨g0,g1,g2,g3,g4,g5,g6,g7⟩:=(Blk.new wr #[.string M.nm,.slice M.ta M.tn M.tc,.slice ba P.bl.length M.bc,.slice M.da M.dn M.dc,.int .i64 M.bss,.slice M.ra M.rn M.rc,.slice M.ia M.im M.ic,.slice M.ea M.en M.ec] 49).eight
   have HAL:=hide al
   clear B H hmd hP hPM eB al hvm
   generalize wr=wo at *
   go_wp2_with fail
   go_loopw [3,17] (fun x i wx=>∃ (q R:Nat),q≤P.bl.length∧i=.int .i64 q∧x=.int .i64 (R:Int)∧R≤64∧Hid (GB (pmS ms) m q R)∧Below wo.heap.size wo wx) (fun _ i _=>P.bl.length - (intOf i).toNat)
   case atStart=>exact ⟨0,R,Nat.zero_le _,rfl,rfl,hR,hG,HAL.out⟩
   case round=>
    obtain ⟨q,R',hq,rfl,rfl,hR',hG',B⟩:=hrel
    by_cases hlt2:q<P.bl.length
    ·have hlt2':(q:Int)<(P.bl.length:Int):=by omega
     obtain ⟨_,_,hcb,_,_⟩:=HMB.out wr B
     obtain ⟨b2,off2,rfl,hc⟩:=hcb (by rw [HEB.out];omega)
     have cb:=hc q (by rw [HEB.out];exact hlt2)
     rw [HBK.out q hlt2] at cb
     have hLq:=vbk q hlt2
     obtain ⟨LQ,hLQ⟩:∃ LQ,LQ=(P.bl.getD q []).length:=⟨_,rfl⟩
     rw [← hLQ] at cb hLq
     have HG2:=hide (show GB (pmS ms) m (q+1) (max R' LQ) by rw [hLQ,HP.out];exact hG'.out.step (by omega) (by rw [← HP.out];exact hlt2))
     have hmx:max (R':Int) (LQ:Int)=((max R' LQ:Nat):Int):=by omega
     have HB2:=hide B
     generalize M.bl.getD q zB=bq at cb
     obtain ⟨bq1,bq2,bq3,bq4⟩:=bq
     dsimp only at cb
     clear hcb hc hLQ B
     go_wp2
     go_roundw
     case rel=>exact ⟨q+1,max R' LQ,by omega,by go_num,(by rw [← hmx];congr 1;split <;> omega),by omega,HG2,HB2.out⟩
     case measure=>simp [intOf];omega
    ·have hlt2':¬ (q:Int)<(P.bl.length:Int):=by omega
     have HG2:=hide (hG'.out.next (by rw [← HP.out];omega))
     have HB2:=hide (HB.out.trans (B.mono HB.out.size))
     clear B
     go_wp2
     go_roundw
     case rel=>exact ⟨m+1,R',by omega,by go_num,rfl,hR',HG2,HB2.out⟩
     case measure=>simp [intOf];omega
  ·have hlt':¬ (m:Int)<(n:Int):=by omega
   have HG:=hide (show GB (pmS ms) (pmS ms).length 0 R by rw [hpl,← show m=n by omega];exact hG.out)
   have HB:=hide B
   clear B hG
   go_wp2
   go_ret
   exact ⟨R,rfl,by first | exact HG.out | (have:=HG.out;rw [hpl] at this;exact this),HB.out⟩
def pourB (zs:List Int) (P:PMod) (p:Pl):Nat→List Int
 | 0=>pour zs p.text.toNat P.tz P.tz.length
 | j+1=>pour (pourB zs P p j) (p.banks.getD j 0).toNat (P.bl.getD j []) (P.bl.getD j []).length
theorem pourB_len (zs:List Int) (P:PMod) (p:Pl):∀ j,(pourB zs P p j).length=zs.length
 | 0=>pour_len _ _ _ _
 | j+1=>by rw [pourB,pour_len,pourB_len zs P p j]
def flB (ps:List PMod) (L:Lay):Nat→List Int
 | 0=>List.replicate L.flash.toNat 0
 | i+1=>pourB (flB ps L i) (ps.getD i zP) (L.places.getD i zPB.1) (ps.getD i zP).bl.length
theorem flB_len (ps:List PMod) (L:Lay):∀ i,(flB ps L i).length=L.flash.toNat
 | 0=>by simp [flB]
 | i+1=>by rw [flB,pourB_len,flB_len ps L i]
theorem lkc_big {ps:List PMod} {s w k d:Int} (h:lkc ps s w k d=0):(lay ps s w k).flash≤16384∧(lay ps s w k).ram≤16384:=by
 unfold lkc at h
 split at h
 ·rename_i h1;exact absurd h h1
 split at h
 ·exact absurd h (by decide)
 split at h
 ·exact absurd h (by decide)
 split at h
 ·exact absurd h (by decide)
 split at h
 ·exact absurd h (by decide)
 rename_i h1 h2
 omega
theorem Fl_mono {ps:List PMod} (hv:vlds ps):∀ i j,i≤j→j≤ps.length→Fl ps i≤Fl ps j
 | i,0,h,_=>by
    have:i=0:=by omega
    subst this;exact Int.le_refl _
 | i,j+1,h,hj=>by
   by_cases e:i=j+1
   ·subst e;exact Int.le_refl _
   ·have h1:=Fl_mono hv i j (by omega) (by omega)
    have hm:=hv j (by omega)
    have h2:=tsz_range hm
    have h3:=fsum_range hm _ (Nat.le_refl _)
    show Fl ps i≤Fl ps j+(tsz (ps.getD j zP)+fsum (ps.getD j zP) (ps.getD j zP).bl.length)
    omega
theorem Ra_mono {ps:List PMod} (hv:vlds ps):∀ i j,i≤j→j≤ps.length→Ra ps i≤Ra ps j
 | i,0,h,_=>by
    have:i=0:=by omega
    subst this;exact Int.le_refl _
 | i,j+1,h,hj=>by
   by_cases e:i=j+1
   ·subst e;exact Int.le_refl _
   ·have h1:=Ra_mono hv i j (by omega) (by omega)
    have h2:=dsz_range (hv j (by omega))
    show Ra ps i≤Ra ps j+dsz (ps.getD j zP)
    omega
theorem fsum_mono {P:PMod} (hv:mdoP P=0):∀ i j,i≤j→j≤P.bl.length→fsum P i≤fsum P j
 | i,0,h,_=>by
    have:i=0:=by omega
    subst this;exact Int.le_refl _
 | i,j+1,h,hj=>by
   by_cases e:i=j+1
   ·subst e;exact Int.le_refl _
   ·have h1:=fsum_mono hv i j (by omega) (by omega)
    have h2:=rnd_range (x:=4 * ((P.bl.getD j []).length:Int)) (by omega)
    show fsum P i≤fsum P j+rnd (4 * ((P.bl.getD j []).length:Int))
    omega
structure Lkn (ps:List PMod) (L:Lay):Prop where
 n:1≤ps.length∧ps.length≤4
 v:vlds ps
 im:imps ps
 pl:L.places=(List.range ps.length).map (plc ps)
 fl:L.flash=Fl ps ps.length
 fr:0≤L.flash∧L.flash≤16384
 ra:Ra ps ps.length≤L.ram
 rr:0≤L.ram∧L.ram≤16384
 tg:L.targets=(List.range ps.length).map fun i=>tgs ps (ps.getD i zP)
 st:L.stack=65536+Ra ps ps.length
theorem lok_kn {ps:List PMod} {L:Lay} (h:Lok ps L):Lkn ps L:=by
 obtain ⟨h1,h2⟩:=h
 have e:lay ps (L.slots.length:Int) (cfW L) (cfK L)=L:=by unfold lkL at h2;rw [if_pos h1] at h2;exact h2
 obtain ⟨hc,n1,n2,hv,hi⟩:=lkc_facts h1
 obtain ⟨b1,b2⟩:=lkc_big h1
 unfold cfo at hc
 simp at hc
 have a1:=Fl_range hv ps.length (Nat.le_refl _)
 have a2:=Ra_range hv ps.length (Nat.le_refl _)
 have a3:(0:Int)≤((L.slots.length:Int).toNat:Int) * rnd (4 * cfW L):=Int.mul_nonneg (by omega) (by have:=rnd_range (x:=4 * cfW L) (by omega);omega)
 have e1:L.flash=Fl ps ps.length:=by rw [← e];rfl
 have e2:L.ram=Ra ps ps.length+cfK L+((L.slots.length:Int).toNat:Int) * rnd (4 * cfW L):=by
  have:=congrArg Lay.ram e
  rw [← this];rfl
 rw [e] at b1 b2
 exact ⟨⟨n1,n2⟩,hv,hi,by rw [← e];rfl,e1,⟨by omega,b1⟩,by omega,⟨by omega,b2⟩,by rw [← e];rfl,by have:=congrArg Lay.stack e;rw [← this];rfl⟩
theorem Lkn.place {ps:List PMod} {L:Lay} (h:Lkn ps L) (i:Nat) (hi:i<ps.length):L.places.getD i zPB.1=plc ps i:=by
 rw [h.pl]
 simp [List.getD_eq_getElem?_getD,hi]
theorem getD_mem {α:Type} (l:List α) (i:Nat) (z:α) (h:i<l.length):l.getD i z ∈ l:=by simp [List.getD_eq_getElem?_getD,h]
theorem range_getD {α:Type} (f:Nat→α) (n j:Nat) (z:α) (h:j<n):((List.range n).map f).getD j z=f j:=by simp [List.getD_eq_getElem?_getD,h]
theorem vld_wd {P:PMod} (h:mdoP P=0):(∀ i,i<P.tz.length→0≤P.tz.getD i 0∧P.tz.getD i 0≤4294967295)∧∀ k,k<P.bl.length→∀ i,i<(P.bl.getD k []).length→0≤(P.bl.getD k []).getD i 0∧(P.bl.getD k []).getD i 0≤4294967295:=by
 unfold mdoP at h
 have V:=vm_of_mdo (by simp [bkOf]) h
 refine ⟨fun i hi=>V.tw _ (by simp [List.getD_eq_getElem?_getD,hi]),fun k hk i hi=>?_⟩
 have:=(V.bw k (by simp [bkOf];exact hk)).2 ((P.bl.getD k []).getD i 0) (by
  have e:((bkOf P.bl).getD k zB).2.2.2=P.bl.getD k []:=by simp [bkOf,List.getD_eq_getElem?_getD,hk]
  rw [e]
  exact getD_mem _ _ _ hi)
 exact this
theorem Lkn.at {ps:List PMod} {L:Lay} (h:Lkn ps L) (i:Nat) (hi:i<ps.length):
 (0≤(plc ps i).text∧(plc ps i).text+4 * ((ps.getD i zP).tz.length:Int)≤L.flash)∧(plc ps i).banks.length=(ps.getD i zP).bl.length∧(∀ j,j<(ps.getD i zP).bl.length→0≤(plc ps i).banks.getD j 0∧(plc ps i).banks.getD j 0+4 * (((ps.getD i zP).bl.getD j []).length:Int)≤L.flash)∧(65536≤(plc ps i).data∧(plc ps i).data - 65536+((ps.getD i zP).dz.length:Int)≤L.ram):=by
 have hm:=h.v i hi
 have a1:=Fl_range h.v i (by omega)
 have a2:=Fl_mono h.v (i+1) ps.length (by omega) (Nat.le_refl _)
 have a3:Fl ps (i+1)=Fl ps i+(tsz (ps.getD i zP)+fsum (ps.getD i zP) (ps.getD i zP).bl.length):=rfl
 have a4:=fsum_range hm _ (Nat.le_refl _)
 have a5:=rnd_range (x:=4 * ((ps.getD i zP).tz.length:Int)) (by omega)
 have a6:tsz (ps.getD i zP)=rnd (4 * ((ps.getD i zP).tz.length:Int)):=rfl
 have b1:=Ra_range h.v i (by omega)
 have b2:=Ra_mono h.v (i+1) ps.length (by omega) (Nat.le_refl _)
 have b3:Ra ps (i+1)=Ra ps i+dsz (ps.getD i zP):=rfl
 have b4:=vld_en hm
 have b5:=rnd_range (x:=((ps.getD i zP).dz.length:Int)+(ps.getD i zP).bss) (by omega)
 have b6:dsz (ps.getD i zP)=rnd (((ps.getD i zP).dz.length:Int)+(ps.getD i zP).bss):=rfl
 have hfl:=h.fl
 have hra:=h.ra
 refine ⟨⟨a1.1,?_⟩,by simp [plc],fun j hj=>?_,?_,?_⟩
 ·show Fl ps i+4 * _≤_
  omega
 ·have c1:=fsum_range hm j (by omega)
  have c2:=fsum_mono hm (j+1) (ps.getD i zP).bl.length (by omega) (Nat.le_refl _)
  have c3:fsum (ps.getD i zP) (j+1)=fsum (ps.getD i zP) j+rnd (4 * (((ps.getD i zP).bl.getD j []).length:Int)):=rfl
  have c4:=rnd_range (x:=4 * (((ps.getD i zP).bl.getD j []).length:Int)) (by omega)
  have e:(plc ps i).banks.getD j 0=Fl ps i+tsz (ps.getD i zP)+fsum (ps.getD i zP) j:=range_getD _ _ _ _ hj
  rw [e]
  have c5:=tsz_range hm
  omega
 ·show 65536≤65536+Ra ps i
  omega
 ·show 65536+Ra ps i - 65536+_≤_
  omega
end Go.Proofs.YtngdgogjlpjjpadGreat
