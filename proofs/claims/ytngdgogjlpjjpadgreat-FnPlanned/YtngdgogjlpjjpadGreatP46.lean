import Derived.Test.YtngdgogjlpjjpadGreatP22
import Derived.Test.YtngdgogjlpjjpadGreatP25
import Derived.Test.YtngdgogjlpjjpadGreatP28
namespace Go.Proofs.YtngdgogjlpjjpadGreat
open Go.RowKit Classical
set_option linter.unusedVariables false
set_option linter.unusedSimpArgs false
set_option maxRecDepth 100000
theorem wrap64_is (x:Int):IntKind.i64.wrap x=wrap64 x:=by
 unfold wrap64 IntKind.wrap
 simp [IntKind.bits,IntKind.signed]
 omega
set_option maxHeartbeats 4000000 in
theorem l8Room_any (a:Option Addr) (n cap:Nat) (ms:List Md) (m b at':Int) (w:World) (h:MSD w a n cap ms) (hp:0≤pcq (pmS ms) m b) (hw:pcq (pmS ms) m b≤200):
 Calls Tryz.prog 118 #[.slice a n cap,.agg #[.int .i64 m,.int .i64 b,.int .i64 at']] w fun e w'=>e=.returned (.int .i64 (rnd (4 * pcq (pmS ms) m b)))∧Below w.heap.size w w':=by
 obtain ⟨V,hV⟩:∃ V,V=w.alloc (.cells #[.int .i64 m,.int .i64 b,.int .i64 at'] 72):=⟨_,rfl⟩
 have bV:Below w.heap.size w V:=by rw [hV];exact (Below.refl _ _).alloc (Nat.le_refl _) _
 have kV:Blk V w.heap.size #[.int .i64 m,.int .i64 b,.int .i64 at'] 72:=by rw [hV];exact Blk.new _ _ _
 have h1:=h.below bV
 obtain ⟨⟨m0,m1⟩,_⟩:=pcq_in h hp
 obtain ⟨gm,om,rfl,v0,v1,v2,v3,v4,v5,v6,v7⟩:=h1.s.at m.toNat (by omega)
 obtain ⟨M,hM⟩:∃ M,ms.getD m.toNat zMd=M:=⟨_,rfl⟩
 have HPC:=hide (fun (X:World) (hX:Below V.heap.size V X)=>l4Piece_q h1 hp hM X hX)
 rw [hM] at v0 v1 v2 v3 v4 v5 v6 v7
 have hmx:=h.s.2.1
 unfold maxLen at hmx
 have y0:V.cell? ⟨w.heap.size,0,none⟩=some (.int .i64 m):=kV.cell 0
 have y1:V.cell? ⟨w.heap.size,1,none⟩=some (.int .i64 b):=kV.cell 1
 have HK:=hide (And.intro bV kV)
 have HV:=hide hV
 generalize pcq (pmS ms) m b=q at *
 clear hV hM h h1 bV kV
 go_enter Tryz.func118,Tryz.ntmps118
 go_wp2_with (rw [← HV.out])
 go_region_held3 (fun w'=>w'.cell? ⟨w.heap.size,0,none⟩=some (.int .i64 m)∧w'.cell? ⟨w.heap.size,1,none⟩=some (.int .i64 b)∧w'.cell? ⟨gm,om+m.toNat * 8,none⟩=some (.string M.nm)∧w'.cell? ⟨gm,om+m.toNat * 8+1,none⟩=some (.slice M.ta M.tn M.tc)∧w'.cell? ⟨gm,om+m.toNat * 8+2,none⟩=some (.slice M.ba M.bn M.bc)∧w'.cell? ⟨gm,om+m.toNat * 8+3,none⟩=some (.slice M.da M.dn M.dc)∧w'.cell? ⟨gm,om+m.toNat * 8+4,none⟩=some (.int .i64 M.bss)∧w'.cell? ⟨gm,om+m.toNat * 8+5,none⟩=some (.slice M.ra M.rn M.rc)∧w'.cell? ⟨gm,om+m.toNat * 8+6,none⟩=some (.slice M.ia M.im M.ic)∧w'.cell? ⟨gm,om+m.toNat * 8+7,none⟩=some (.slice M.ea M.en M.ec)) (go_keep)
  (first
    | (go_at_call 173;first
        | with_reducible refine (HPC.out _ (Below.refl _ _)).mono ?_
        | with_reducible refine (HPC.out _ (Below.refl _ _).drew).mono ?_
       rintro e w1 ⟨xa,xn,xc,rfl,hxn,hb1⟩
       have HB1:=hide hb1
       have HXN:=hide hxn
       have C1:=(HK.out.2.below hb1).cell 0
       have C2:=(HK.out.2.below hb1).cell 1
       have u0:=cell_below hb1 v0
       have u1:=cell_below hb1 v1
       have u2:=cell_below hb1 v2
       have u3:=cell_below hb1 v3
       have u4:=cell_below hb1 v4
       have u5:=cell_below hb1 v5
       have u6:=cell_below hb1 v6
       have u7:=cell_below hb1 v7
       clear hb1 hxn))
 have hx2:(xn:Int)≤200:=by rw [HXN.out];exact hw
 have HRD:=hide (fun (X:World)=>l5Round_any (4 * (xn:Int)) X (by omega) (by omega))
 go_wp2_with fail
 refine (HRD.out _).mono ?_
 rintro e X6 ⟨rfl,rfl⟩
 go_wp2
 go_ret
 exact ⟨ret_int (by rw [HXN.out]),HK.out.1.trans (HB1.out.mono HK.out.1.size)⟩
abbrev wrt (L:Lay) (P:PB) (x:Int):Prop:=(P.1.data≤x∧x<wrap64 (P.1.data+P.1.size))∨(L.stack≤x∧x<endOf L)∨(131072≤x∧x<131104)
set_option maxHeartbeats 4000000 in
theorem Writable_any (L:Lay) (a0:Option Addr) (c0:Nat) (xs:List PB) (a2:Option Addr) (c2:Nat) (a5:Option Addr) (c5:Nat) (ts:List TB) (m b at' x:Int) (w:World) (h:LyT w L a0 c0 xs a2 c2 a5 c5 ts) (hm0:0≤m) (hm1:m<(xs.length:Int)):
 Calls Tryz.prog 40 #[.agg #[.slice a0 xs.length c0,.int .i64 L.stack,.slice a2 L.slots.length c2,.int .i64 L.flash,.int .i64 L.ram,.slice a5 ts.length c5],.agg #[.int .i64 m,.int .i64 b,.int .i64 at'],.int .i64 x] w fun e w'=>e=.returned (.bool (decide (wrt L (xs.getD m.toNat zPB) x)))∧Below w.heap.size w w':=by
 obtain ⟨W,hW⟩:∃ W,W=(w.alloc (.cells #[.slice a0 xs.length c0,.int .i64 L.stack,.slice a2 L.slots.length c2,.int .i64 L.flash,.int .i64 L.ram,.slice a5 ts.length c5] 32)).alloc (.cells #[.int .i64 m,.int .i64 b,.int .i64 at'] 72):=⟨_,rfl⟩
 have hB:Below w.heap.size w W:=by rw [hW];exact ((Below.refl _ _).alloc (Nat.le_refl _) _).alloc (by simp) _
 have h1:=h.below hB
 have k0:Blk W w.heap.size #[.slice a0 xs.length c0,.int .i64 L.stack,.slice a2 L.slots.length c2,.int .i64 L.flash,.int .i64 L.ram,.slice a5 ts.length c5] 32:=by rw [hW];exact (Blk.new w _ _).alloc _
 have k1:Blk W (w.heap.size+1) #[.int .i64 m,.int .i64 b,.int .i64 at'] 72:=by rw [hW];have:=Blk.new (w.alloc (.cells #[.slice a0 xs.length c0,.int .i64 L.stack,.slice a2 L.slots.length c2,.int .i64 L.flash,.int .i64 L.ram,.slice a5 ts.length c5] 32)) #[.int .i64 m,.int .i64 b,.int .i64 at'] 72;simpa using this
 have d0:W.cell? ⟨w.heap.size,0,none⟩=some (.slice a0 xs.length c0):=k0.cell 0
 have t0:W.cell? ⟨w.heap.size+1,0,none⟩=some (.int .i64 m):=k1.cell 0
 obtain ⟨g,off,rfl,q0,q1,q2,q3⟩:=h1.p.at m.toNat (by omega)
 have hmx:=h1.p.2.1
 unfold maxLen at hmx
 unfold svP at q1
 generalize xs.getD m.toNat zPB=P at *
 obtain ⟨V,hV⟩:∃ V,V=W.alloc (.cells #[.int .i64 P.1.text,.slice P.2.1 P.1.banks.length P.2.2,.int .i64 P.1.data,.int .i64 P.1.size] 43):=⟨_,rfl⟩
 have bV:Below W.heap.size W V:=by rw [hV];exact (Below.refl _ _).alloc (Nat.le_refl _) _
 have kV:Blk V W.heap.size #[.int .i64 P.1.text,.slice P.2.1 P.1.banks.length P.2.2,.int .i64 P.1.data,.int .i64 P.1.size] 43:=by rw [hV];exact Blk.new _ _ _
 have u2:V.cell? ⟨W.heap.size,2,none⟩=some (.int .i64 P.1.data):=kV.cell 2
 have u3:V.cell? ⟨W.heap.size,3,none⟩=some (.int .i64 P.1.size):=kV.cell 3
 obtain ⟨x0,x1,x2,x3,x4,x5⟩:=(k0.below bV).ly6
 have HE:=hide (l5Ends_any L (some ⟨g,off,none⟩) c0 xs a2 c2 a5 c5 ts V (h1.below bV))
 have HB:=hide (hB.trans (bV.mono hB.size))
 have HBV:=hide bV
 have HW:=hide hW
 have HV:=hide hV
 obtain ⟨rr,hr⟩:∃ rr,rr=decide (wrt L P x):=⟨_,rfl⟩
 rw [← hr]
 have HR:=hide hr
 clear hW hV hB bV k0 k1 kV h1 h hr
 obtain ⟨wr,hwr⟩:∃ wr,wr=IntKind.i64.wrap (P.1.data+P.1.size):=⟨_,rfl⟩
 have HWR:=hide (show wr=wrap64 (P.1.data+P.1.size) by rw [hwr,wrap64_is])
 have hwr':=hwr.symm
 clear hwr
 obtain ⟨en,hen⟩:∃ en,en=endOf L:=⟨_,rfl⟩
 have HEN:=hide hen.symm
 rw [← hen] at HE
 clear hen
 rcases (show (P.1.data≤x∧x<wr)∨(P.1.data≤x∧¬ x<wr)∨¬ P.1.data≤x by omega) with ⟨c1,c2⟩ | ⟨c1,c2⟩ | c1
 ·go_enter Tryz.func40,Tryz.ntmps40
  go_wp2_with (first | rw [← HW.out] | rw [← HV.out])
  go_ret
  exact ⟨ret_bool (by rw [HR.out,decide_eq_true (show wrt L P x from .inl ⟨c1,by rw [← HWR.out];exact c2⟩)]),HB.out⟩
 all_goals
  have nA:¬ (P.1.data≤x∧x<wrap64 (P.1.data+P.1.size)):=by rw [← HWR.out];omega
  have HNA:=hide nA
  clear nA
  rcases (show (L.stack≤x∧x<en)∨(L.stack≤x∧¬ x<en∧131072≤x∧x<131104)∨(L.stack≤x∧¬ x<en∧131072≤x∧¬ x<131104)∨(L.stack≤x∧¬ x<en∧¬ 131072≤x)∨(¬ L.stack≤x∧131072≤x∧x<131104)∨(¬ L.stack≤x∧131072≤x∧¬ x<131104)∨(¬ L.stack≤x∧¬ 131072≤x) by omega) with ⟨c3,c4⟩ | ⟨c3,c4,c5,c6⟩ | ⟨c3,c4,c5,c6⟩ | ⟨c3,c4,c5⟩ | ⟨c3,c5,c6⟩ | ⟨c3,c5,c6⟩ | ⟨c3,c5⟩
  iterate 4
   ·go_enter Tryz.func40,Tryz.ntmps40
    go_wp2_with (first | rw [← HW.out] | rw [← HV.out])
    refine HE.out.mono ?_
    rintro e w1 ⟨rfl,b1⟩
    have HB1:=hide (HB.out.trans (b1.mono HB.out.size))
    clear b1
    go_wp2
    go_ret
    first
     | exact ⟨ret_bool (by rw [HR.out,decide_eq_true (show wrt L P x by unfold wrt;rw [HEN.out];omega)];first | done | (simp;omega)),HB1.out⟩
     | exact ⟨ret_bool (by rw [HR.out,decide_eq_false (show ¬ wrt L P x by have:=HNA.out;unfold wrt;rw [HEN.out];omega)];first | done | (simp;omega)),HB1.out⟩
  all_goals
   go_enter Tryz.func40,Tryz.ntmps40
   go_wp2_with (first | rw [← HW.out] | rw [← HV.out])
   go_ret
   first
    | exact ⟨ret_bool (by rw [HR.out,decide_eq_true (show wrt L P x by unfold wrt;omega)];first | done | (simp;omega)),HB.out⟩
    | exact ⟨ret_bool (by rw [HR.out,decide_eq_false (show ¬ wrt L P x by have:=HNA.out;unfold wrt;omega)];first | done | (simp;omega)),HB.out⟩
abbrev rns (o q x:Int):Prop:=o≤x∧x<wrap64 (o+rnd (4 * q))
set_option maxHeartbeats 4000000 in
theorem Runs_any (a:Option Addr) (n cap:Nat) (ms:List Md) (L:Lay) (a0:Option Addr) (c0:Nat) (xs:List PB) (a2:Option Addr) (c2:Nat) (a5:Option Addr) (c5:Nat) (ts:List TB) (m b at' s x:Int) (w:World) (hM:MSD w a n cap ms) (h:LyT w L a0 c0 xs a2 c2 a5 c5 ts) (hp:0≤pcq (pmS ms) m b) (hw:pcq (pmS ms) m b≤200)
 (hm0:0≤m) (hm1:m<(xs.length:Int)) (hb:b=-1∨(0≤b∧b<((xs.getD m.toNat zPB).1.banks.length:Int))) (hs:s=-1∨(b≠-1∧0≤s∧s<(L.slots.length:Int))):
 Calls Tryz.prog 41 #[.slice a n cap,.agg #[.slice a0 xs.length c0,.int .i64 L.stack,.slice a2 L.slots.length c2,.int .i64 L.flash,.int .i64 L.ram,.slice a5 ts.length c5],.agg #[.int .i64 m,.int .i64 b,.int .i64 at'],.int .i64 s,.int .i64 x] w fun e w'=>e=.returned (.bool (decide (rns (orgn L (xs.getD m.toNat zPB) b s) (pcq (pmS ms) m b) x)))∧Below w.heap.size w w':=by
 obtain ⟨W,hW⟩:∃ W,W=(w.alloc (.cells #[.slice a0 xs.length c0,.int .i64 L.stack,.slice a2 L.slots.length c2,.int .i64 L.flash,.int .i64 L.ram,.slice a5 ts.length c5] 32)).alloc (.cells #[.int .i64 m,.int .i64 b,.int .i64 at'] 72):=⟨_,rfl⟩
 have hB:Below w.heap.size w W:=by rw [hW];exact ((Below.refl _ _).alloc (Nat.le_refl _) _).alloc (by simp) _
 have h1:=h.below hB
 have M1:=hM.below hB
 have k0:Blk W w.heap.size #[.slice a0 xs.length c0,.int .i64 L.stack,.slice a2 L.slots.length c2,.int .i64 L.flash,.int .i64 L.ram,.slice a5 ts.length c5] 32:=by rw [hW];exact (Blk.new w _ _).alloc _
 have k1:Blk W (w.heap.size+1) #[.int .i64 m,.int .i64 b,.int .i64 at'] 72:=by rw [hW];have:=Blk.new (w.alloc (.cells #[.slice a0 xs.length c0,.int .i64 L.stack,.slice a2 L.slots.length c2,.int .i64 L.flash,.int .i64 L.ram,.slice a5 ts.length c5] 32)) #[.int .i64 m,.int .i64 b,.int .i64 at'] 72;simpa using this
 have CO:=hide (l6Origin_any L a0 c0 xs a2 c2 a5 c5 ts m b at' s W h1 hm0 hm1 hb hs)
 have CR:=hide (fun (X:World) (hX:Below W.heap.size W X)=>l8Room_any a n cap ms m b at' X (M1.below hX) hp hw)
 obtain ⟨x0,x1,x2,x3,x4,x5⟩:=k0.ly6
 have y0:W.cell? ⟨w.heap.size+1,0,none⟩=some (.int .i64 m):=k1.cell 0
 have y1:W.cell? ⟨w.heap.size+1,1,none⟩=some (.int .i64 b):=k1.cell 1
 have y2:W.cell? ⟨w.heap.size+1,2,none⟩=some (.int .i64 at'):=k1.cell 2
 have HK:=hide (And.intro hB k1)
 have HW:=hide hW
 generalize orgn L (xs.getD m.toNat zPB) b s=og at *
 generalize pcq (pmS ms) m b=q at *
 obtain ⟨rr,hr⟩:∃ rr,rr=decide (rns og q x):=⟨_,rfl⟩
 rw [← hr]
 have HR:=hide hr
 clear hr hW hB h1 M1 k0 k1 h hM hb hs
 go_enter Tryz.func41,Tryz.ntmps41
 go_wp2_with (rw [← HW.out])
 refine CO.out.mono ?_
 rintro e w1 ⟨rfl,b1⟩
 have k1:=HK.out.2.below b1
 have y0:w1.cell? ⟨w.heap.size+1,0,none⟩=some (.int .i64 m):=k1.cell 0
 have y1:w1.cell? ⟨w.heap.size+1,1,none⟩=some (.int .i64 b):=k1.cell 1
 have y2:w1.cell? ⟨w.heap.size+1,2,none⟩=some (.int .i64 at'):=k1.cell 2
 have CR1:=hide (CR.out w1 b1)
 have HB1:=hide (HK.out.1.trans (b1.mono HK.out.1.size))
 clear k1 b1 CR
 by_cases c1:og≤x
 ·go_wp2_with fail
  refine CR1.out.mono ?_
  rintro e w2 ⟨rfl,b2⟩
  have HB2:=hide (HB1.out.trans (b2.mono HB1.out.size))
  clear b2
  go_wp2
  go_ret
  exact ⟨ret_bool (by rw [HR.out];unfold rns;simp [c1,wrap64_is]),HB2.out⟩
 ·go_wp2
  go_ret
  exact ⟨ret_bool (by rw [HR.out,decide_eq_false (show ¬ rns og q x by unfold rns;omega)];first | done | (simp;omega)),HB1.out⟩
theorem wfi_wrapk (z:Int):wfi (IntKind.i64.wrap z):=by
 unfold wfi IntKind.wrap
 simp [IntKind.bits,IntKind.signed]
 omega
theorem is_new (w:World) (zs:List Int) (hz:∀ z ∈ zs,wfi z) (hl:zs.length≤1000):IS (w.alloc (.cells (zs.map (Value.int .i64)).toArray 3)) (some ⟨w.heap.size,0,none⟩) zs.length zs.length zs:=by
 refine ⟨rfl,by unfold maxLen;omega,hz,fun _=>⟨w.heap.size,0,rfl,fun i hi=>?_⟩,Nat.le_refl _⟩
 have:=(Blk.new w (zs.map (Value.int .i64)).toArray 3).cell i
 rw [Nat.zero_add,this]
 simp [List.getD_eq_getElem?_getD,hi]
set_option maxHeartbeats 8000000 in
theorem Spots_any (a:Option Addr) (n cap:Nat) (ms:List Md) (L:Lay) (a0:Option Addr) (c0:Nat) (xs:List PB) (a2:Option Addr) (c2:Nat) (a5:Option Addr) (c5:Nat) (ts:List TB) (m b at' s:Int) (w:World) (hM:MSD w a n cap ms) (h:LyT w L a0 c0 xs a2 c2 a5 c5 ts) (hp:0≤pcq (pmS ms) m b) (hw:pcq (pmS ms) m b≤200)
 (hm0:0≤m) (hm1:m<(xs.length:Int)) (hb:b=-1∨(0≤b∧b<((xs.getD m.toNat zPB).1.banks.length:Int))) (hs:s=-1∨(b≠-1∧0≤s∧s<(L.slots.length:Int))) (hwf:wfi L.stack∧wfi (endOf L)∧wfi (orgn L (xs.getD m.toNat zPB) b s)∧wfi (xs.getD m.toNat zPB).1.data∧wfi (xs.getD m.toNat zPB).1.text):
 Calls Tryz.prog 38 #[.slice a n cap,.agg #[.slice a0 xs.length c0,.int .i64 L.stack,.slice a2 L.slots.length c2,.int .i64 L.flash,.int .i64 L.ram,.slice a5 ts.length c5],.agg #[.int .i64 m,.int .i64 b,.int .i64 at'],.int .i64 s] w fun e w'=>∃ g zs,e=.returned (.slice (some ⟨g,0,none⟩) 11 11)∧IS w' (some ⟨g,0,none⟩) 11 11 zs∧Below w.heap.size w w':=by
 obtain ⟨W,hW⟩:∃ W,W=(w.alloc (.cells #[.slice a0 xs.length c0,.int .i64 L.stack,.slice a2 L.slots.length c2,.int .i64 L.flash,.int .i64 L.ram,.slice a5 ts.length c5] 32)).alloc (.cells #[.int .i64 m,.int .i64 b,.int .i64 at'] 72):=⟨_,rfl⟩
 have hB:Below w.heap.size w W:=by rw [hW];exact ((Below.refl _ _).alloc (Nat.le_refl _) _).alloc (by simp) _
 have h1:=h.below hB
 have k0:Blk W w.heap.size #[.slice a0 xs.length c0,.int .i64 L.stack,.slice a2 L.slots.length c2,.int .i64 L.flash,.int .i64 L.ram,.slice a5 ts.length c5] 32:=by rw [hW];exact (Blk.new w _ _).alloc _
 have k1:Blk W (w.heap.size+1) #[.int .i64 m,.int .i64 b,.int .i64 at'] 72:=by rw [hW];have:=Blk.new (w.alloc (.cells #[.slice a0 xs.length c0,.int .i64 L.stack,.slice a2 L.slots.length c2,.int .i64 L.flash,.int .i64 L.ram,.slice a5 ts.length c5] 32)) #[.int .i64 m,.int .i64 b,.int .i64 at'] 72;simpa using this
 have d0:W.cell? ⟨w.heap.size,0,none⟩=some (.slice a0 xs.length c0):=k0.cell 0
 have t0:W.cell? ⟨w.heap.size+1,0,none⟩=some (.int .i64 m):=k1.cell 0
 obtain ⟨g,off,rfl,q0,q1,q2,q3⟩:=h1.p.at m.toNat (by omega)
 have hmx:=h1.p.2.1
 unfold maxLen at hmx
 unfold svP at q1
 obtain ⟨P,hP⟩:∃ P,xs.getD m.toNat zPB=P:=⟨_,rfl⟩
 rw [hP] at q0 q1 q2 q3 hwf
 obtain ⟨V,hV⟩:∃ V,V=W.alloc (.cells #[.int .i64 P.1.text,.slice P.2.1 P.1.banks.length P.2.2,.int .i64 P.1.data,.int .i64 P.1.size] 43):=⟨_,rfl⟩
 have bV:Below W.heap.size W V:=by rw [hV];exact (Below.refl _ _).alloc (Nat.le_refl _) _
 have kV:Blk V W.heap.size #[.int .i64 P.1.text,.slice P.2.1 P.1.banks.length P.2.2,.int .i64 P.1.data,.int .i64 P.1.size] 43:=by rw [hV];exact Blk.new _ _ _
 have B2:=hB.trans (bV.mono hB.size)
 have M2:=hM.below B2
 have L2:=h.below B2
 have CO:=hide (l6Origin_any L (some ⟨g,off,none⟩) c0 xs a2 c2 a5 c5 ts m b at' s V L2 hm0 hm1 hb hs)
 rw [hP] at CO
 have CE:=hide (fun (X:World) (hX:Below V.heap.size V X)=>(l5Ends_any L (some ⟨g,off,none⟩) c0 xs a2 c2 a5 c5 ts X (L2.below hX)).mono fun e w' he=>(⟨he.1,hX.trans (he.2.mono hX.size)⟩:e=.returned (.int .i64 (endOf L))∧Below V.heap.size V w'))
 have CR:=hide (fun (X:World) (hX:Below V.heap.size V X)=>(l8Room_any a n cap ms m b at' X (M2.below hX) hp hw).mono fun e w' he=>(⟨he.1,hX.trans (he.2.mono hX.size)⟩:e=.returned (.int .i64 (rnd (4 * pcq (pmS ms) m b)))∧Below V.heap.size V w'))
 have HK:=hide (And.intro B2 (And.intro (k0.below bV) (And.intro (k1.below bV) kV)))
 obtain ⟨x0,x1,x2,x3,x4,x5⟩:=(k0.below bV).ly6
 have y0:V.cell? ⟨w.heap.size+1,0,none⟩=some (.int .i64 m):=(k1.below bV).cell 0
 have y1:V.cell? ⟨w.heap.size+1,1,none⟩=some (.int .i64 b):=(k1.below bV).cell 1
 have y2:V.cell? ⟨w.heap.size+1,2,none⟩=some (.int .i64 at'):=(k1.below bV).cell 2
 have HW:=hide hW
 have HV:=hide hV
 have HWF:=hide hwf
 generalize orgn L P b s=og at *
 generalize endOf L=en at *
 generalize rnd (4 * pcq (pmS ms) m b)=rr at *
 clear hW hV hB bV B2 M2 L2 h1 k0 k1 kV h hM hb hs hP hwf
 go_enter Tryz.func38,Tryz.ntmps38
 go_wp2_with (first | rw [← HW.out] | rw [← HV.out])
 refine CO.out.mono ?_
 rintro e w1 ⟨rfl,b1⟩
 have HKX:=hide (show ∀ X,Below V.heap.size V X→(X.cell? ⟨W.heap.size,0,none⟩=some (.int .i64 P.1.text)∧X.cell? ⟨W.heap.size,2,none⟩=some (.int .i64 P.1.data)∧X.cell? ⟨W.heap.size,3,none⟩=some (.int .i64 P.1.size))∧(X.cell? ⟨w.heap.size,0,none⟩=some (.slice (some ⟨g,off,none⟩) xs.length c0)∧X.cell? ⟨w.heap.size,1,none⟩=some (.int .i64 L.stack)∧X.cell? ⟨w.heap.size,2,none⟩=some (.slice a2 L.slots.length c2)∧X.cell? ⟨w.heap.size,3,none⟩=some (.int .i64 L.flash)∧X.cell? ⟨w.heap.size,4,none⟩=some (.int .i64 L.ram)∧X.cell? ⟨w.heap.size,5,none⟩=some (.slice a5 ts.length c5))∧X.cell? ⟨w.heap.size+1,0,none⟩=some (.int .i64 m)∧X.cell? ⟨w.heap.size+1,1,none⟩=some (.int .i64 b)∧X.cell? ⟨w.heap.size+1,2,none⟩=some (.int .i64 at') from fun X hz=>
  ⟨⟨(HK.out.2.2.2.below hz).cell 0,(HK.out.2.2.2.below hz).cell 2,(HK.out.2.2.2.below hz).cell 3⟩,(HK.out.2.1.below hz).ly6,(HK.out.2.2.1.below hz).cell 0,(HK.out.2.2.1.below hz).cell 1,(HK.out.2.2.1.below hz).cell 2⟩)
 have HB1:=hide b1
 clear x0 x1 x2 x3 x4 x5 y0 y1 y2 b1 d0 t0 q0 q1 q2 q3
 obtain ⟨⟨u0,u2,u3⟩,⟨x0,x1,x2,x3,x4,x5⟩,y0,y1,y2⟩:=HKX.out w1 HB1.out
 go_wp2_with fail
 go_region_held3 (fun w'=>w'.cell? ⟨W.heap.size,0,none⟩=some (.int .i64 P.1.text)∧w'.cell? ⟨W.heap.size,2,none⟩=some (.int .i64 P.1.data)∧w'.cell? ⟨W.heap.size,3,none⟩=some (.int .i64 P.1.size)∧w'.cell? ⟨w.heap.size,0,none⟩=some (.slice (some ⟨g,off,none⟩) xs.length c0)∧w'.cell? ⟨w.heap.size,1,none⟩=some (.int .i64 L.stack)∧w'.cell? ⟨w.heap.size,2,none⟩=some (.slice a2 L.slots.length c2)∧w'.cell? ⟨w.heap.size,3,none⟩=some (.int .i64 L.flash)∧w'.cell? ⟨w.heap.size,4,none⟩=some (.int .i64 L.ram)∧w'.cell? ⟨w.heap.size,5,none⟩=some (.slice a5 ts.length c5)∧w'.cell? ⟨w.heap.size+1,0,none⟩=some (.int .i64 m)∧w'.cell? ⟨w.heap.size+1,1,none⟩=some (.int .i64 b)∧w'.cell? ⟨w.heap.size+1,2,none⟩=some (.int .i64 at')) (go_keep)
  (first
    | (go_at_call 117;first
        | with_reducible refine (CE.out _ HB1.out).mono ?_
        | with_reducible refine (CE.out _ HB1.out.drew).mono ?_
       rintro e w2 ⟨rfl,b2⟩
       have HB2:=hide b2
       clear b2
       obtain ⟨⟨u0,u2,u3⟩,⟨x0,x1,x2,x3,x4,x5⟩,y0,y1,y2⟩:=HKX.out w2 HB2.out)
    | (go_at_call 118;first
        | with_reducible refine (CR.out _ HB2.out).mono ?_
        | with_reducible refine (CR.out _ HB2.out.drew).mono ?_
       rintro e w3 ⟨rfl,b3⟩
       have HB3:=hide b3
       clear b3
       obtain ⟨⟨u0,u2,u3⟩,⟨x0,x1,x2,x3,x4,x5⟩,y0,y1,y2⟩:=HKX.out w3 HB3.out))
 have HI:=hide (is_new w3 [P.1.data,IntKind.i64.wrap (P.1.data+P.1.size),L.stack,en,131072,131104,og,IntKind.i64.wrap (og+rr),P.1.text,65536,0] (by
  obtain ⟨f1,f2,f3,f4,f5⟩:=HWF.out
  intro z hz
  simp only [List.mem_cons,List.not_mem_nil,or_false] at hz
  rcases hz with rfl | rfl | rfl | rfl | rfl | rfl | rfl | rfl | rfl | rfl | rfl
  all_goals first | assumption | exact wfi_wrapk _ | (unfold wfi;decide)) (by simp))
 go_wp2
 go_ret
 exact ⟨w3.heap.size,_,rfl,by first | exact HI.out | exact HI.out.below (Below.refl _ _).drew,by first | exact HK.out.1.trans ((HB3.out.alloc HB3.out.size _).mono HK.out.1.size) | exact HK.out.1.trans (((HB3.out.alloc HB3.out.size _).drew).mono HK.out.1.size)⟩
end Go.Proofs.YtngdgogjlpjjpadGreat
