import Derived.Test.YtngdgogjlpjjpadGreatP03
import Derived.Test.YtngdgogjlpjjpadGreatP26
import Derived.Test.YtngdgogjlpjjpadGreatP28
import Derived.Test.YtngdgogjlpjjpadGreatP30
import Derived.Test.YtngdgogjlpjjpadGreatP44
namespace Go.Proofs.YtngdgogjlpjjpadGreat
open Go.RowKit Classical
set_option linter.unusedVariables false
set_option linter.unusedSimpArgs false
set_option maxRecDepth 100000
theorem slF_mem (L:Lay) (b s:Int):s ∈ slF L b ↔ sOk L b s:=by
 unfold slF sOk
 by_cases c:b=-1∨L.slots=[]
 ·rw [if_pos c,if_pos c];simp
 ·rw [if_neg c,if_neg c]
  simp only [List.mem_map,List.mem_range]
  constructor
  ·rintro ⟨i,hi,rfl⟩;omega
  ·intro h;exact ⟨s.toNat,by omega,by omega⟩
theorem lok_slots {ps:List PMod} {L:Lay} (h:Lok ps L):L.slots.length≤4:=by
 obtain ⟨hc,_⟩:=lkc_facts h.1
 unfold cfo at hc
 simp at hc
 omega
set_option maxHeartbeats 1000000 in
theorem slotsFor_any (L:Lay) (a0:Option Addr) (c0:Nat) (xs:List PB) (a2:Option Addr) (c2:Nat) (a5:Option Addr) (c5:Nat) (ts:List TB) (b:Int) (w:World) (h:LyT w L a0 c0 xs a2 c2 a5 c5 ts) (hl:L.slots.length≤4):
 Calls Tryz.prog 113 #[.agg #[.slice a0 xs.length c0,.int .i64 L.stack,.slice a2 L.slots.length c2,.int .i64 L.flash,.int .i64 L.ram,.slice a5 ts.length c5],.int .i64 b] w fun e w'=>∃ a n c,e=.returned (.slice a n c)∧IS w' a n c (slF L b)∧Below w.heap.size w w':=by
 by_cases c:b=-1∨L.slots=[]
 ·exact (slotsFor_one L a0 c0 xs a2 c2 a5 c5 ts b w h c).mono fun e w' ⟨a,c,he,hi,hb⟩=>⟨a,_,c,he,hi,hb⟩
 ·refine (slotsFor_many L a0 c0 xs a2 c2 a5 c5 ts b L.slots.length w (fun e=>c (.inl e)) (fun e=>c (.inr (List.eq_nil_of_length_eq_zero e))) (by omega)).mono ?_
  rintro e w' ⟨g,rfl,hr,hb⟩
  have e2:slF L b=upN L.slots.length:=by unfold slF upN;rw [if_neg c]
  rw [e2]
  refine ⟨_,_,_,rfl,⟨upN_len _,by unfold maxLen;omega,fun z hz=>?_,fun _=>⟨g,0,rfl,fun i hi=>?_⟩,Nat.le_refl _⟩,hb⟩
  ·simp only [upN,List.mem_map,List.mem_range] at hz
   obtain ⟨i,hi,rfl⟩:=hz
   unfold wfi
   omega
  ·rw [Nat.zero_add]
   exact hr.cell i (by rw [upN_len];exact hi)
set_option maxHeartbeats 4000000 in
theorem iPlan_any (a:Option Addr) (n cap:Nat) (ms:List Md) (L:Lay) (a0:Option Addr) (c0:Nat) (xs:List PB) (a2:Option Addr) (c2:Nat) (a5:Option Addr) (c5:Nat) (ts:List TB) (m b at' s:Int) (w:World) (h:MSD w a n cap ms) (hL:LyT w L a0 c0 xs a2 c2 a5 c5 ts):
 Calls Tryz.prog 35 #[.slice a n cap,.agg #[.slice a0 xs.length c0,.int .i64 L.stack,.slice a2 L.slots.length c2,.int .i64 L.flash,.int .i64 L.ram,.slice a5 ts.length c5],.agg #[.int .i64 m,.int .i64 b,.int .i64 at'],.int .i64 s] w (PnPost w (pmS ms) L m b s):=by
 obtain ⟨W,hW⟩:∃ W,W=(w.alloc (.cells #[.slice a0 xs.length c0,.int .i64 L.stack,.slice a2 L.slots.length c2,.int .i64 L.flash,.int .i64 L.ram,.slice a5 ts.length c5] 32)).alloc (.cells #[.int .i64 m,.int .i64 b,.int .i64 at'] 72):=⟨_,rfl⟩
 have hB:Below w.heap.size w W:=by rw [hW];exact ((Below.refl _ _).alloc (Nat.le_refl _) _).alloc (by simp) _
 have k0:Blk W w.heap.size #[.slice a0 xs.length c0,.int .i64 L.stack,.slice a2 L.slots.length c2,.int .i64 L.flash,.int .i64 L.ram,.slice a5 ts.length c5] 32:=by rw [hW];exact (Blk.new w _ _).alloc _
 have k1:Blk W (w.heap.size+1) #[.int .i64 m,.int .i64 b,.int .i64 at'] 72:=by rw [hW];have:=Blk.new (w.alloc (.cells #[.slice a0 xs.length c0,.int .i64 L.stack,.slice a2 L.slots.length c2,.int .i64 L.flash,.int .i64 L.ram,.slice a5 ts.length c5] 32)) #[.int .i64 m,.int .i64 b,.int .i64 at'] 72;simpa using this
 have HBV:=hide hB
 have HK0:=hide (And.intro k0 k1)
 have HM:=hide (h.below hB)
 have HL2:=hide (hL.below hB)
 have HW:=hide hW
 have HKX:=hide (show ∀ X,Below W.heap.size W X→(X.cell? ⟨w.heap.size,0,none⟩=some (.slice a0 xs.length c0)∧X.cell? ⟨w.heap.size,1,none⟩=some (.int .i64 L.stack)∧X.cell? ⟨w.heap.size,2,none⟩=some (.slice a2 L.slots.length c2)∧X.cell? ⟨w.heap.size,3,none⟩=some (.int .i64 L.flash)∧X.cell? ⟨w.heap.size,4,none⟩=some (.int .i64 L.ram)∧X.cell? ⟨w.heap.size,5,none⟩=some (.slice a5 ts.length c5))∧X.cell? ⟨w.heap.size+1,0,none⟩=some (.int .i64 m)∧X.cell? ⟨w.heap.size+1,1,none⟩=some (.int .i64 b)∧X.cell? ⟨w.heap.size+1,2,none⟩=some (.int .i64 at') from fun X hz=>
  ⟨(HK0.out.1.below hz).ly6,(HK0.out.2.below hz).cell 0,(HK0.out.2.below hz).cell 1,(HK0.out.2.below hz).cell 2⟩)
 have HX:=hide (show ∀ X,Below W.heap.size W X→Below w.heap.size w X from fun X hz=>HBV.out.trans (hz.mono HBV.out.size))
 have HR:=hide (show Calls Tryz.prog 66 #[.slice a n cap,.agg #[.slice a0 xs.length c0,.int .i64 L.stack,.slice a2 L.slots.length c2,.int .i64 L.flash,.int .i64 L.ram,.slice a5 ts.length c5]] W (fun e w'=>e=.returned (.bool (decide (Lok (pmS ms) L)))∧Below W.heap.size W w') from layoutOk_any a n cap ms L a0 c0 xs a2 c2 a5 c5 ts W HM.out HL2.out)
 have HT:=hide (show ∀ X,Below W.heap.size W X→Calls Tryz.prog 111 #[.slice a n cap,.int .i64 m,.int .i64 b] X (fun e w'=>e=.returned (.bool (decide (0≤pcq (pmS ms) m b)))∧Below W.heap.size W w') from fun X hz=>(isPiece_any a n cap ms m b X (HM.out.below hz).s).mono fun e w' he=>⟨by rw [← pcm_pcq HM.out];exact he.1,hz.trans (he.2.mono hz.size)⟩)
 clear hW k0 k1 h hL hB
 obtain ⟨⟨z4,z5,z6,z7,z8,z9⟩,z10,z11,z12⟩:=HKX.out _ (Below.refl _ _)
 by_cases c1:Lok (pmS ms) L
 ·rw [decide_eq_true c1] at HR
  by_cases c2':0≤pcq (pmS ms) m b
  ·rw [decide_eq_true c2'] at HT
   have HS:=hide (show ∀ X,Below W.heap.size W X→Calls Tryz.prog 113 #[.agg #[.slice a0 xs.length c0,.int .i64 L.stack,.slice a2 L.slots.length c2,.int .i64 L.flash,.int .i64 L.ram,.slice a5 ts.length c5],.int .i64 b] X (fun e w'=>∃ a n c,e=.returned (.slice a n c)∧IS w' a n c (slF L b)∧Below W.heap.size W w') from fun X hz=>(slotsFor_any L a0 c0 xs a2 c2 a5 c5 ts b X (HL2.out.below hz) (lok_slots c1)).mono fun e w' ⟨ra,rn,rc,he,hi,hb⟩=>⟨ra,rn,rc,he,hi,hz.trans (hb.mono hz.size)⟩)
   have HPL0:=hide (show sOk L b s→∀ X,Below W.heap.size W X→Calls Tryz.prog 114 #[.slice a n cap,.agg #[.slice a0 xs.length c0,.int .i64 L.stack,.slice a2 L.slots.length c2,.int .i64 L.flash,.int .i64 L.ram,.slice a5 ts.length c5],.agg #[.int .i64 m,.int .i64 b,.int .i64 at'],.int .i64 s] X (PoPost X (plR (pmS ms) L m b s)) from fun hf X hz=>planOf_any a n cap ms L a0 c0 xs a2 c2 a5 c5 ts m b at' s X (HM.out.below hz) (HL2.out.below hz) c1 c2' hf.fit)
   by_cases c3:sOk L b s
   ·have HC:=hide (And.intro c1 (And.intro c2' c3))
    have HPL:=hide (HPL0.out c3)
    have HSM:=hide (show decide (s ∈ slF L b)=true by rw [decide_eq_true_eq,slF_mem];exact c3)
    clear c1 c2' c3 HPL0
    go_enter Tryz.func35,Tryz.ntmps35
    go_wp2_with (rw [← HW.out])
    refine HR.out.mono ?_
    rintro e X1 ⟨rfl,hb1⟩
    have HB1:=hide hb1
    clear hb1 z4 z5 z6 z7 z8 z9 z10 z11 z12
    obtain ⟨⟨z4,z5,z6,z7,z8,z9⟩,z10,z11,z12⟩:=HKX.out _ HB1.out
    go_wp2_with fail
    refine (HT.out _ HB1.out).mono ?_
    rintro e X2 ⟨rfl,hb2⟩
    have HB2:=hide hb2
    clear hb2 z4 z5 z6 z7 z8 z9 z10 z11 z12
    obtain ⟨⟨z4,z5,z6,z7,z8,z9⟩,z10,z11,z12⟩:=HKX.out _ HB2.out
    go_wp2_with fail
    refine (HS.out _ HB2.out).mono ?_
    rintro e X3 ⟨ra,rn,rc,rfl,hI,hb3⟩
    have HB3:=hide hb3
    have HI:=hide (sliceHasI_any ra rn rc (slF L b) s X3 hI)
    clear hb3 hI z4 z5 z6 z7 z8 z9 z10 z11 z12
    obtain ⟨⟨z4,z5,z6,z7,z8,z9⟩,z10,z11,z12⟩:=HKX.out _ HB3.out
    go_wp2_with fail
    refine HI.out.mono ?_
    rintro e X4 ⟨rfl,hb4⟩
    have HB4:=hide (HB3.out.trans (hb4.mono HB3.out.size))
    clear hb4 z4 z5 z6 z7 z8 z9 z10 z11 z12
    obtain ⟨⟨z4,z5,z6,z7,z8,z9⟩,z10,z11,z12⟩:=HKX.out _ HB4.out
    rw [HSM.out]
    go_wp2_with fail
    refine (HPL.out _ HB4.out).mono ?_
    rintro e X5 ⟨A,k,c,rfl,ho,hb5⟩
    have HO:=hide (And.intro ho hb5)
    clear ho hb5
    go_wp2
    go_ret2
    have hq:=HX.out _ HB4.out
    have hB5:=hq.trans (HO.out.2.mono hq.size)
    have ho:=org_mono HO.out.1 hq.size
    by_cases h8:(plR (pmS ms) L m b s).length≤8
    ·rw [if_pos h8] at ho
     rw [decide_eq_true h8]
     exact pn_ok hB5 ho HC.out.1 HC.out.2.1 HC.out.2.2 (by have:=(or_rs ho).1;omega)
    ·rw [if_neg h8] at ho
     rw [decide_eq_false h8]
     exact pn_no hB5 ho (fun h=>h8 h.2.2.2)
   ·have HNO:=hide c3
    have HSM:=hide (show decide (s ∈ slF L b)=false by rw [decide_eq_false_iff_not,slF_mem];exact c3)
    clear c1 c2' c3 HPL0
    go_enter Tryz.func35,Tryz.ntmps35
    go_wp2_with (rw [← HW.out])
    refine HR.out.mono ?_
    rintro e X1 ⟨rfl,hb1⟩
    have HB1:=hide hb1
    clear hb1 z4 z5 z6 z7 z8 z9 z10 z11 z12
    obtain ⟨⟨z4,z5,z6,z7,z8,z9⟩,z10,z11,z12⟩:=HKX.out _ HB1.out
    go_wp2_with fail
    refine (HT.out _ HB1.out).mono ?_
    rintro e X2 ⟨rfl,hb2⟩
    have HB2:=hide hb2
    clear hb2 z4 z5 z6 z7 z8 z9 z10 z11 z12
    obtain ⟨⟨z4,z5,z6,z7,z8,z9⟩,z10,z11,z12⟩:=HKX.out _ HB2.out
    go_wp2_with fail
    refine (HS.out _ HB2.out).mono ?_
    rintro e X3 ⟨ra,rn,rc,rfl,hI,hb3⟩
    have HB3:=hide hb3
    have HI:=hide (sliceHasI_any ra rn rc (slF L b) s X3 hI)
    clear hb3 hI z4 z5 z6 z7 z8 z9 z10 z11 z12
    obtain ⟨⟨z4,z5,z6,z7,z8,z9⟩,z10,z11,z12⟩:=HKX.out _ HB3.out
    go_wp2_with fail
    refine HI.out.mono ?_
    rintro e X4 ⟨rfl,hb4⟩
    have HB4:=hide (HB3.out.trans (hb4.mono HB3.out.size))
    clear hb4 z4 z5 z6 z7 z8 z9 z10 z11 z12
    obtain ⟨⟨z4,z5,z6,z7,z8,z9⟩,z10,z11,z12⟩:=HKX.out _ HB4.out
    rw [HSM.out]
    go_wp2
    go_ret2
    exact pn_no (HX.out _ HB4.out) (org_nil _ _) (fun h=>HNO.out h.2.2.1)
  ·rw [decide_eq_false c2'] at HT
   have HC:=hide (show ¬ 0≤pcq (pmS ms) m b from c2')
   clear c1 c2'
   go_enter Tryz.func35,Tryz.ntmps35
   go_wp2_with (rw [← HW.out])
   refine HR.out.mono ?_
   rintro e X1 ⟨rfl,hb1⟩
   have HB1:=hide hb1
   clear hb1 z4 z5 z6 z7 z8 z9 z10 z11 z12
   obtain ⟨⟨z4,z5,z6,z7,z8,z9⟩,z10,z11,z12⟩:=HKX.out _ HB1.out
   go_wp2_with fail
   refine (HT.out _ HB1.out).mono ?_
   rintro e X2 ⟨rfl,hb2⟩
   have HB2:=hide hb2
   clear hb2 z4 z5 z6 z7 z8 z9 z10 z11 z12
   obtain ⟨⟨z4,z5,z6,z7,z8,z9⟩,z10,z11,z12⟩:=HKX.out _ HB2.out
   go_wp2
   go_ret2
   exact pn_no (HX.out _ HB2.out) (org_nil _ _) (fun h=>absurd h.2.1 (by have:=HC.out;omega))
 ·rw [decide_eq_false c1] at HR
  have HC:=hide c1
  clear c1
  go_enter Tryz.func35,Tryz.ntmps35
  go_wp2_with (rw [← HW.out])
  refine HR.out.mono ?_
  rintro e X1 ⟨rfl,hb1⟩
  have HB1:=hide hb1
  clear hb1 z4 z5 z6 z7 z8 z9 z10 z11 z12
  obtain ⟨⟨z4,z5,z6,z7,z8,z9⟩,z10,z11,z12⟩:=HKX.out _ HB1.out
  go_wp2
  go_ret2
  exact pn_no (HX.out _ HB1.out) (org_nil _ _) (fun h=>HC.out h.1)
theorem lok_lay {ps:List PMod} {L:Lay} (h:Lok ps L):lay ps (L.slots.length:Int) (cfW L) (cfK L)=L:=by
 obtain ⟨h1,h2⟩:=h
 unfold lkL at h2;rw [if_pos h1] at h2;exact h2
theorem lok_cf {ps:List PMod} {L:Lay} (h:Lok ps L):1≤cfW L∧cfW L≤64∧0≤cfK L∧cfK L≤1024∧cfK L % 32=0:=by
 obtain ⟨hc,_⟩:=lkc_facts h.1
 unfold cfo at hc
 simp at hc
 omega
theorem lok_slot {ps:List PMod} {L:Lay} (h:Lok ps L) (i:Nat) (hi:i<L.slots.length):L.slots.getD i 0=slt ps (cfW L) (cfK L) i:=by
 have:=congrArg Lay.slots (lok_lay h)
 have e4:L.slots=(List.range (L.slots.length:Int).toNat).map (slt ps (cfW L) (cfK L)):=by
  conv=>lhs;rw [← this]
  rfl
 rw [e4]
 simp [List.getD_eq_getElem?_getD,hi]
theorem lok_endK {ps:List PMod} {L:Lay} (h:Lok ps L):endOf L=L.stack+cfK L:=by
 have K:=lok_kn h
 have e:=lok_lay h
 have rr:=K.rr
 have st:=K.st
 have e2:L.ram=Ra ps ps.length+cfK L+((L.slots.length:Int).toNat:Int) * rnd (4 * cfW L):=by
  have:=congrArg Lay.ram e
  rw [← this];rfl
 unfold endOf
 by_cases c:L.slots=[]
 ·rw [if_pos c]
  have:wrap64 (65536+L.ram)=65536+L.ram:=by unfold wrap64;omega
  rw [this]
  have hl:L.slots.length=0:=by rw [c];rfl
  rw [hl] at e2
  simp at e2
  omega
 ·rw [if_neg c,lok_slot h 0 (List.length_pos_iff.2 c),st]
  unfold slt
  simp only [Int.natCast_zero,Int.zero_mul]
  omega
theorem Ra_m32 (ps:List PMod):∀ i,Ra ps i % 32=0
 | 0=>rfl
 | i+1=>by
   have:=Ra_m32 ps i
   have h2:dsz (ps.getD i zP) % 32=0:=rnd_m32 _
   show (Ra ps i+dsz (ps.getD i zP)) % 32=0
   omega
theorem cvL_in (f s a:Int) (h1:0≤f) (h2:f % 32=0) (h3:0≤s) (h4:s % 32=0) (h5:f+s≤262144):inR (cvL f s) a ↔ f≤a∧a<f+s:=by
 have e:cvOk f s=true:=by
  unfold cvOk grn
  simp only [Bool.and_eq_true,decide_eq_true_eq,lokB_iff]
  omega
 unfold cvL cvAll inR
 rw [if_pos e]
 exact chain_has _ _ _ (cvList_chain (f+s) h5 (by omega) (s / 32).toNat f h1 (by omega) h2 (by omega)) a
theorem lok_org {ps:List PMod} {L:Lay} {m b s:Int} (h:Lok ps L) (hp:0≤pcq ps m b) (hs:sOk L b s):0≤orgq L (plc ps m.toNat) b s∧orgq L (plc ps m.toNat) b s % 32=0∧pcq ps m b≤200∧(orgq L (plc ps m.toNat) b s≤60000∨(endOf L≤orgq L (plc ps m.toNat) b s∧orgq L (plc ps m.toNat) b s≤120000)):=by
 have K:=lok_kn h
 have hm:0≤m∧m<(ps.length:Int):=by
  unfold pcq at hp
  split at hp
  ·assumption
  ·exact absurd hp (by decide)
 have hv:=K.v m.toNat (by omega)
 obtain ⟨_,_,v3,v4,_,_,_,v8⟩:=vld_en hv
 have n4:=K.n.2
 have n5:(m.toNat:Int)≤4:=by omega
 have r1:=Fl_range K.v m.toNat (by omega)
 have r2:=tsz_range hv
 have q1:=Fl_m32 ps m.toNat
 have q2:=tsz_m32 (ps.getD m.toNat zP)
 have hf:=hs.fit
 unfold orgq
 unfold pcq at hp ⊢
 rw [if_pos hm] at hp ⊢
 by_cases c:b=-1
 ·rw [if_pos c,if_pos c]
  show 0≤Fl ps m.toNat∧Fl ps m.toNat % 32=0∧_∧(Fl ps m.toNat≤60000∨_)
  omega
 ·rw [if_neg c] at hp ⊢
  rw [if_neg c]
  split at hp
  ·rename_i hb
   rw [if_pos hb]
   have w1:=v8 b.toNat (by omega)
   by_cases c2:s=-1
   ·rw [if_pos c2,plc_bank ps m.toNat b.toNat (by omega)]
    have r3:=fsum_range hv b.toNat (by omega)
    have q3:=fsum_m32 (ps.getD m.toNat zP) b.toNat
    omega
   ·rw [if_neg c2]
    have h2:=hf.resolve_left c2
    rw [lok_slot h s.toNat (by omega),lok_endK h,K.st]
    obtain ⟨k1,k2,k3,k4,k5⟩:=lok_cf h
    have k6:=lok_slots h
    have a1:=Ra_range K.v ps.length (Nat.le_refl _)
    have a2:=Ra_m32 ps ps.length
    have a3:=rnd_range (x:=4 * cfW L) (by omega)
    have a4:=rnd_m32 (4 * cfW L)
    unfold slt
    generalize rnd (4 * cfW L)=x at *
    have hq:s.toNat=0∨s.toNat=1∨s.toNat=2∨s.toNat=3:=by omega
    rcases hq with hq | hq | hq | hq <;> rw [hq] <;> push_cast <;> omega
  ·exact absurd hp (by decide)
theorem plan_says {ps:List PMod} {L:Lay} {m b s:Int} (h:Lok ps L) (hp:0≤pcq ps m b) (hs:sOk L b s) (a:Int):
 oneTo (plR ps L m b s) a 2 (plR ps L m b s).length=decide (((plc ps m.toNat).data≤a∧a<(plc ps m.toNat).data+(plc ps m.toNat).size)∨(L.stack≤a∧a<endOf L)∨(131072≤a∧a<131104)) ∧
 oneTo (plR ps L m b s) a 3 (plR ps L m b s).length=decide (orgq L (plc ps m.toNat) b s≤a∧a<orgq L (plc ps m.toNat) b s+rnd (4 * pcq ps m b)):=by
 have K:=lok_kn h
 have hm:0≤m∧m<(ps.length:Int):=by
  unfold pcq at hp
  split at hp
  ·assumption
  ·exact absurd hp (by decide)
 have hv:=K.v m.toNat (by omega)
 have n4:=K.n.2
 have r0:=dsz_range hv
 have r1:=Ra_range K.v m.toNat (by omega)
 have r2:=Ra_range K.v ps.length (Nat.le_refl _)
 have r3:Ra ps (m.toNat+1)≤Ra ps ps.length:=Ra_mono K.v _ _ (by omega) (Nat.le_refl _)
 have r4:Ra ps (m.toNat+1)=Ra ps m.toNat+dsz (ps.getD m.toNat zP):=rfl
 have q1:=Ra_m32 ps m.toNat
 have q2:=Ra_m32 ps ps.length
 have q3:dsz (ps.getD m.toNat zP) % 32=0:=rnd_m32 _
 have hE:=lok_endK h
 obtain ⟨k1,k2,k3,k4,k5⟩:=lok_cf h
 have st:=K.st
 obtain ⟨o1,o2,o3,o4⟩:=lok_org h hp hs
 have t1:=rnd_range (x:=4 * pcq ps m b) (by omega)
 have t2:=rnd_m32 (4 * pcq ps m b)
 have eD:(plc ps m.toNat).data=65536+Ra ps m.toNat:=rfl
 have eS:(plc ps m.toNat).size=dsz (ps.getD m.toNat zP):=rfl
 have i1:=cvL_in (plc ps m.toNat).data (plc ps m.toNat).size a (by omega) (by omega) (by omega) (by omega) (by omega)
 have i2:=cvL_in L.stack (endOf L - L.stack) a (by omega) (by omega) (by omega) (by omega) (by omega)
 have i3:=cvL_in 131072 32 a (by omega) (by omega) (by omega) (by omega) (by omega)
 have i4:=cvL_in (orgq L (plc ps m.toNat) b s) (rnd (4 * pcq ps m b)) a (by omega) (by omega) (by omega) (by omega) (by omega)
 have:=plan_rights (cvL (plc ps m.toNat).data (plc ps m.toNat).size) (cvL L.stack (endOf L - L.stack)) (cvL 131072 32) (cvL (orgq L (plc ps m.toNat) b s) (rnd (4 * pcq ps m b))) a (fun hx=>by
  rw [i4] at hx
  rw [i1,i2,i3]
  omega)
 refine ⟨this.1.trans (decide_eq_decide.2 ?_),this.2.trans (decide_eq_decide.2 i4)⟩
 rw [i1,i2,i3,show L.stack+(endOf L - L.stack)=endOf L by omega,show (131072:Int)+32=131104 by decide]
theorem chain_ok:∀ (L:List Rg) (a e:Int),Chain L a e→∀ g ∈ L,gok g=true
 | [],a,e,h,g,hg=>by simp at hg
 | x :: r,a,e,h,g,hg=>by
   obtain ⟨c,hc,hr⟩:=h
   rcases List.mem_cons.1 hg with rfl | hg
   ·exact hc.ok
   ·exact chain_ok r _ _ hr g hg
theorem cvL_ok (f s:Int):∀ g ∈ cvL f s,gok g=true:=fun g hg=>by
 unfold cvL at hg
 split at hg
 ·rename_i e
  unfold cvOk grn at e
  simp only [Bool.and_eq_true,decide_eq_true_eq,lokB_iff] at e
  unfold cvAll at hg
  exact chain_ok _ _ _ (cvList_chain (f+s) (by omega) (by omega) (s / 32).toNat f (by omega) (by omega) (by omega) (by omega)) g hg
 ·simp at hg
theorem rts_ok {r x y:Bool} {L:List Rg} (h:∀ g ∈ L,gok g=true):∀ g ∈ rts r x y L,gok g=true:=fun g hg=>by
 unfold rts at hg
 obtain ⟨z,hz,rfl⟩:=List.mem_map.1 hg
 exact h z hz
theorem plR_ok (ps:List PMod) (L:Lay) (m b s:Int):∀ g ∈ plR ps L m b s,gok g=true:=fun g hg=>by
 unfold plR at hg
 simp only [List.mem_append,List.nil_append] at hg
 rcases hg with ((hg | hg) | hg) | hg
 all_goals exact rts_ok (cvL_ok _ _) g hg
theorem alw_one {rs:List Rg} {n:Nat} (hl:rs.length=n) (h8:n≤8) (hok:∀ g ∈ rs,gok g=true) {a:Int} (ha:wfi a) (k:Int):alw rs n a 1 k=oneTo rs a k n:=by
 have e1:okB rs n=true:=okB_iff.2 (fun i hi=>hok _ (getD_mem _ _ _ (by omega)))
 have e2:wrap64 (a+((0:Nat):Int))=a:=by unfold wfi at ha;unfold wrap64;omega
 have e3:upB rs a k n (1:Int).toNat=oneTo rs a k n:=by
  show (List.range 1).all (fun i=>oneTo rs (wrap64 (a+i)) k n)=_
  simp only [List.range_succ,List.range_zero,List.nil_append,List.all_cons,List.all_nil,Bool.and_true,e2]
 unfold alw
 rw [e1,e3,decide_eq_true h8,show wd 1=true from rfl]
 simp
end Go.Proofs.YtngdgogjlpjjpadGreat
