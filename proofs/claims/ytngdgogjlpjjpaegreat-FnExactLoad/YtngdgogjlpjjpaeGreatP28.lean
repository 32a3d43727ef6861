import Derived.Test.YtngdgogjlpjjpaeGreatP19
import Derived.Test.YtngdgogjlpjjpaeGreatP24
import Derived.Test.YtngdgogjlpjjpaeGreatP20
import Derived.Test.YtngdgogjlpjjpaeGreatP21
import Derived.Test.YtngdgogjlpjjpaeGreatP22
import Derived.Test.YtngdgogjlpjjpaeGreatP27
import Derived.Test.YtngdgogjlpjjpaeGreatP26
set_option maxHeartbeats 8000000
namespace Go.Proofs.YtngdgogjlpjjpaeGreat
open Go.RowKit Classical
set_option linter.unusedVariables false
set_option linter.unusedSimpArgs false
set_option maxRecDepth 100000
def plR (ps:List PMod)(L:Lay)(m b s:Int):List Rg:=(([]++rts true true false (cvL (plc ps m.toNat).data (plc ps m.toNat).size))++rts true true false (cvL L.stack (endOf L - L.stack))++rts false true false (cvL 131072 32))++rts false false true (cvL (orgq L (plc ps m.toNat) b s) (rnd (4 * pcq ps m b)))
theorem org_mono {w:World}{base base':Nat}{v:Value}{rs:List Rg}(h:ORg w base v rs)(hb:base'≤base):ORg w base' v rs:=by
 refine ⟨?_,h.2⟩
 obtain ⟨hl,h0 | ⟨g',cap,cur,hv,hg,hh,h1,h2,h3,h4⟩⟩:=h.1
 ·exact ⟨hl,.inl h0⟩
 ·exact ⟨hl,.inr ⟨g',cap,cur,hv,Nat.le_trans hb hg,hh,h1,h2,h3,h4⟩⟩
structure PlZ (V X:World)(v:Value)(rs:List Rg):Prop where
 b:Below V.heap.size V X
 o:ORg X V.heap.size v rs
theorem PlZ.below {V X X':World}{v:Value}{rs:List Rg}(h:PlZ V X v rs)(hb:Below X.heap.size X X'):PlZ V X' v rs:=⟨h.b.trans (hb.mono h.b.size),turn_or' (turn_below hb) h.o (fun _ _ h=>h)⟩
theorem PlZ.drew {V X:World}{v:Value}{rs:List Rg}(h:PlZ V X v rs):PlZ V X.drew v rs:=h.below (Below.refl _ _).drew
theorem l6With_z {V:World}(A:Option Addr)(m cap:Nat)(rs:List Rg)(f s:Int)(r x y:Bool)(X:World)(h:PlZ V X (.slice A m cap) rs)(hf:wfi f)(hs:wfi s)(hm:m≤1000000):
 Calls Tryz.prog 134 #[.slice A m cap,.int .i64 f,.int .i64 s,.bool r,.bool x,.bool y] X fun e w'=>∃ A' m' cap',e=.returned (.slice A' m' cap')∧m'≤m+8192∧PlZ V w' (.slice A' m' cap') (rs++rts r x y (cvL f s)):=
 (l6With_any A m cap rs f s r x y V.heap.size X h.b.size h.o hf hs hm).mono fun e w' ⟨A',m',cap',he,hm',ho,hb⟩=>⟨A',m',cap',he,by have:=cvL_len f s;omega,h.b.trans hb,ho⟩
theorem orgn_wfi {w:World}{L:Lay}{a0:Option Addr}{c0:Nat}{xs:List PB}{a2:Option Addr}{c2:Nat}{a5:Option Addr}{c5:Nat}{ts:List TB}{ps:List PMod}{m b s:Int}
 (hL:LyT w L a0 c0 xs a2 c2 a5 c5 ts) (hk:Lok ps L) (hp:0≤pcq ps m b) (hs:s=-1∨(b≠-1∧0≤s∧s<(L.slots.length:Int))):wfi (orgn L (xs.getD m.toNat zPB) b s):=by
 have Q:=pkn_of (s:=s) hL hk hp
 have K:=lok_kn hk
 have hm:=Q.m2
 have hm0:=Q.m0
 have hv:=K.v m.toNat (by omega)
 have n4:=K.n.2
 have r1:=Fl_range K.v m.toNat (by omega)
 have r2:=tsz_range hv
 have n5:(m.toNat:Int)≤4:=by omega
 unfold orgn
 rw [Q.p]
 by_cases c:b=-1
 ·rw [if_pos c]
  have e:(plc ps m.toNat).text=Fl ps m.toNat:=rfl
  rw [e]
  unfold wfi
  omega
 ·rw [if_neg c]
  by_cases c2:s=-1
  ·rw [if_pos c2]
   have hb:=Q.bb.resolve_left c
   rw [Q.p] at hb
   have hl:(plc ps m.toNat).banks.length=(ps.getD m.toNat zP).bl.length:=by simp [plc]
   have hbn:b.toNat<(ps.getD m.toNat zP).bl.length:=by rw [hl] at hb;omega
   have e:(plc ps m.toNat).banks.getD b.toNat 0=Fl ps m.toNat+tsz (ps.getD m.toNat zP)+fsum (ps.getD m.toNat zP) b.toNat:=by
    simp only [plc]
    rw [getD_map _ _ _ 0 _ (by rw [List.length_range];exact hbn),show (List.range (ps.getD m.toNat zP).bl.length).getD b.toNat 0=b.toNat by rw [List.getD_eq_getElem?_getD,List.getElem?_range hbn];rfl]
   have r3:=fsum_range hv b.toNat (by omega)
   obtain ⟨_,_,_,v4,_⟩:=vld_en hv
   rw [e]
   unfold wfi
   omega
  ·rw [if_neg c2]
   have h2:=hs.resolve_left c2
   exact hL.s.2.2.1 _ (getD_mem' (by omega))
theorem l6Plan_any (a:Option Addr)(n cap:Nat)(ms:List Md)(L:Lay)(a0:Option Addr)(c0:Nat)(xs:List PB)(a2:Option Addr)(c2:Nat)(a5:Option Addr)(c5:Nat)(ts:List TB)(m b at' s:Int)(w:World)(h:MSD w a n cap ms)(hL:LyT w L a0 c0 xs a2 c2 a5 c5 ts)
 (hk:Lok (pmS ms) L) (hp:0≤pcq (pmS ms) m b) (hs:s=-1∨(b≠-1∧0≤s∧s<(L.slots.length:Int))):
 Calls Tryz.prog 51 #[.slice a n cap,.agg #[.slice a0 xs.length c0,.int .i64 L.stack,.slice a2 L.slots.length c2,.int .i64 L.flash,.int .i64 L.ram,.slice a5 ts.length c5],.agg #[.int .i64 m,.int .i64 b,.int .i64 at'],.int .i64 s] w fun e w'=>∃ A k c,e=.returned (.slice A k c)∧ORg w' w.heap.size (.slice A k c) (plR (pmS ms) L m b s)∧Below w.heap.size w w':=by
 have K:=pkn_of (s:=s) hL hk hp
 have hn:=h.s.1
 have hlen:=pmS_len ms
 obtain ⟨m0,m1,m2,hpl,hbb,hw,hd,hst,hen⟩:=K
 have hwfo:wfi (orgn L (xs.getD m.toNat zPB) b s):=orgn_wfi hL hk hp hs
 have HPQ:=hide (pcm_pcq h m b)
 obtain ⟨W,hW⟩:∃ W,W=(w.alloc (.cells #[.slice a0 xs.length c0,.int .i64 L.stack,.slice a2 L.slots.length c2,.int .i64 L.flash,.int .i64 L.ram,.slice a5 ts.length c5] 36)).alloc (.cells #[.int .i64 m,.int .i64 b,.int .i64 at'] 71):=⟨_,rfl⟩
 have hB:Below w.heap.size w W:=by rw [hW];exact ((Below.refl _ _).alloc (Nat.le_refl _) _).alloc (by simp) _
 have k0:Blk W w.heap.size #[.slice a0 xs.length c0,.int .i64 L.stack,.slice a2 L.slots.length c2,.int .i64 L.flash,.int .i64 L.ram,.slice a5 ts.length c5] 36:=by rw [hW];exact (Blk.new w _ _).alloc _
 have k1:Blk W (w.heap.size+1) #[.int .i64 m,.int .i64 b,.int .i64 at'] 71:=by rw [hW];have:=Blk.new (w.alloc (.cells #[.slice a0 xs.length c0,.int .i64 L.stack,.slice a2 L.slots.length c2,.int .i64 L.flash,.int .i64 L.ram,.slice a5 ts.length c5] 36)) #[.int .i64 m,.int .i64 b,.int .i64 at'] 71;simpa using this
 have h1:=h.below hB
 have hL1:=hL.below hB
 obtain ⟨gp,op,rfl,q0,q1,q2,q3⟩:=hL1.p.at m.toNat (by omega)
 unfold svP at q1
 have hpx:=hL1.p.2.1
 unfold maxLen at hpx
 have d0:W.cell? ⟨w.heap.size,0,none⟩=some (.slice (some ⟨gp,op,none⟩) xs.length c0):=k0.cell 0
 have t0:W.cell? ⟨w.heap.size+1,0,none⟩=some (.int .i64 m):=k1.cell 0
 obtain ⟨P,hP⟩:∃ P,P=xs.getD m.toNat zPB:=⟨_,rfl⟩
 rw [← hP] at q0 q1 q2 q3 hpl hbb hwfo
 rw [← hpl] at hd
 obtain ⟨⟨tx,bk,dt,sz⟩,pa,pc⟩:=P
 dsimp only at q0 q1 q2 q3 hpl hbb hd
 have HP:=hide hP
 obtain ⟨hd1,hd2,hd3,hd4⟩:=hd
 obtain ⟨st1,st2⟩:=hst
 obtain ⟨en1,en2⟩:=hen
 obtain ⟨q,hq⟩:∃ q,q=pcq (pmS ms) m b:=⟨_,rfl⟩
 have HQ:=hide hq
 have HRS:=hide (show plR (pmS ms) L m b s=(([]++rts true true false (cvL dt sz))++rts true true false (cvL L.stack (endOf L - L.stack))++rts false true false (cvL 131072 32))++rts false false true (cvL (orgn L ((⟨tx,bk,dt,sz⟩,pa,pc):PB) b s) (rnd (4 * q))) from by
  unfold plR
  rw [← hpl,hq]
  rfl)
 rw [HRS.out]
 rw [← hq] at hw hp
 clear HRS
 obtain ⟨V,hV⟩:∃ V,V=W.alloc (.cells #[.int .i64 tx,.slice pa bk.length pc,.int .i64 dt,.int .i64 sz] 138):=⟨_,rfl⟩
 have bV:Below W.heap.size W V:=by rw [hV];exact (Below.refl _ _).alloc (Nat.le_refl _) _
 have kV:Blk V W.heap.size #[.int .i64 tx,.slice pa bk.length pc,.int .i64 dt,.int .i64 sz] 138:=by rw [hV];exact Blk.new _ _ _
 have k0':=k0.below bV
 have k1':=k1.below bV
 have HBV:=hide (hB.trans (bV.mono hB.size))
 have h2:=h1.below bV
 have hL2:=hL1.below bV
 have HW:=hide hW
 have HV:=hide hV
 have HM:=hide h2
 have HL2:=hide hL2
 have HK0:=hide (And.intro k0' (And.intro k1' kV))
 clear hW hV k0 k1 h h1 hL hL1 hB bV k0' k1' kV hP hpl hq
 go_enter Tryz.func51,Tryz.ntmps51
 go_wp2_with (first | rw [← HW.out] | rw [← HV.out])
 obtain ⟨gm,om,rfl,v0,v1,v2,v3,v4,v5,v6,v7⟩:=HM.out.s.at m.toNat (by omega)
 have hmt:=HM.out.s.2.2.2.1 m.toNat (by omega)
 have hqn:pcn (ms.getD m.toNat zMd).tn (ms.getD m.toNat zMd).bn (ms.getD m.toNat zMd).bl b=q:=by
  rw [HQ.out,← HPQ.out];unfold pcm;rw [if_pos (by omega)]
 generalize ms.getD m.toNat zMd=M at *
 have HPC:=hide (show ∀ X,Below V.heap.size V X→Calls Tryz.prog 133 #[.agg #[.string M.nm,.slice M.ta M.tn M.tc,.slice M.ba M.bn M.bc,.slice M.da M.dn M.dc,.int .i64 M.bss,.slice M.ra M.rn M.rc,.slice M.ia M.im M.ic,.slice M.ea M.en M.ec],.int .i64 b] X (fun e w'=>∃ xa xn xc,e=.returned (.tuple #[.slice xa xn xc,.bool true])∧(xn:Int)=q∧Below V.heap.size V w') from fun X hX=>
  (l4Piece_any M.nm M.ta M.tn M.tc M.ba M.bn M.bc M.bl (.slice M.da M.dn M.dc) (.slice M.ra M.rn M.rc) (.slice M.ia M.im M.ic) (.slice M.ea M.en M.ec) M.bss b X hmt.t.2.1 (hmt.b.below hX)).mono fun e w' ⟨xa,xn,xc,ok,he,ho,hx,_,hb⟩=>by
    have ho':ok=true:=by rw [ho,hqn];simp;omega
    exact ⟨xa,xn,xc,by rw [he,ho'],by rw [hx ho',hqn],hX.trans (hb.mono hX.size)⟩)
 obtain ⟨x0,x1,x2,x3,x4,x5⟩:=HK0.out.1.ly6
 have y0:V.cell? ⟨w.heap.size+1,0,none⟩=some (.int .i64 m):=HK0.out.2.1.cell 0
 have y1:V.cell? ⟨w.heap.size+1,1,none⟩=some (.int .i64 b):=HK0.out.2.1.cell 1
 have hmx:=HM.out.s.2.1
 unfold maxLen at hmx
 have hmn:m<(n:Int):=by omega
 clear q0 q1 q2 q3 d0 t0 hmt hqn hlen hn
 go_region_held3 (fun w'=>w'.cell? ⟨w.heap.size+1,0,none⟩=some (.int .i64 m)∧w'.cell? ⟨w.heap.size+1,1,none⟩=some (.int .i64 b)∧w'.cell? ⟨gm,om+m.toNat * 8,none⟩=some (.string M.nm)∧w'.cell? ⟨gm,om+m.toNat * 8+1,none⟩=some (.slice M.ta M.tn M.tc)∧w'.cell? ⟨gm,om+m.toNat * 8+2,none⟩=some (.slice M.ba M.bn M.bc)∧w'.cell? ⟨gm,om+m.toNat * 8+3,none⟩=some (.slice M.da M.dn M.dc)∧w'.cell? ⟨gm,om+m.toNat * 8+4,none⟩=some (.int .i64 M.bss)∧w'.cell? ⟨gm,om+m.toNat * 8+5,none⟩=some (.slice M.ra M.rn M.rc)∧w'.cell? ⟨gm,om+m.toNat * 8+6,none⟩=some (.slice M.ia M.im M.ic)∧w'.cell? ⟨gm,om+m.toNat * 8+7,none⟩=some (.slice M.ea M.en M.ec)) (go_keep)
  (first
    | (go_at_call 133;first
        | with_reducible refine (HPC.out _ (Below.refl _ _)).mono ?_
        | with_reducible refine (HPC.out _ (Below.refl _ _).drew).mono ?_
       rintro e w1 ⟨xa,xn,xc,rfl,hxn,hb1⟩
       have HB1:=hide hb1
       have HXN:=hide hxn
       have C1:=(HK0.out.2.1.below hb1).cell 0
       have C2:=(HK0.out.2.1.below hb1).cell 1
       have u0:=cell_below hb1 v0
       have u1:=cell_below hb1 v1
       have u2:=cell_below hb1 v2
       have u3:=cell_below hb1 v3
       have u4:=cell_below hb1 v4
       have u5:=cell_below hb1 v5
       have u6:=cell_below hb1 v6
       have u7:=cell_below hb1 v7
       clear hb1 hxn))
 have HKX:=hide (show ∀ X v rs,PlZ V X v rs→X.cell? ⟨W.heap.size,2,none⟩=some (.int .i64 dt)∧X.cell? ⟨W.heap.size,3,none⟩=some (.int .i64 sz)∧(X.cell? ⟨w.heap.size,0,none⟩=some (.slice (some ⟨gp,op,none⟩) xs.length c0)∧X.cell? ⟨w.heap.size,1,none⟩=some (.int .i64 L.stack)∧X.cell? ⟨w.heap.size,2,none⟩=some (.slice a2 L.slots.length c2)∧X.cell? ⟨w.heap.size,3,none⟩=some (.int .i64 L.flash)∧X.cell? ⟨w.heap.size,4,none⟩=some (.int .i64 L.ram)∧X.cell? ⟨w.heap.size,5,none⟩=some (.slice a5 ts.length c5))∧X.cell? ⟨w.heap.size+1,0,none⟩=some (.int .i64 m)∧X.cell? ⟨w.heap.size+1,1,none⟩=some (.int .i64 b)∧X.cell? ⟨w.heap.size+1,2,none⟩=some (.int .i64 at') from fun X v rs hz=>
  ⟨(HK0.out.2.2.below hz.b).cell 2,(HK0.out.2.2.below hz.b).cell 3,(HK0.out.1.below hz.b).ly6,(HK0.out.2.1.below hz.b).cell 0,(HK0.out.2.1.below hz.b).cell 1,(HK0.out.2.1.below hz.b).cell 2⟩)
 have HEN:=hide (show ∀ X v rs,PlZ V X v rs→Calls Tryz.prog 131 #[.agg #[.slice (some ⟨gp,op,none⟩) xs.length c0,.int .i64 L.stack,.slice a2 L.slots.length c2,.int .i64 L.flash,.int .i64 L.ram,.slice a5 ts.length c5]] X (fun e w'=>e=.returned (.int .i64 (endOf L))∧PlZ V w' v rs) from fun X v rs hz=>(l5Ends_any L (some ⟨gp,op,none⟩) c0 xs a2 c2 a5 c5 ts X (HL2.out.below hz.b)).mono fun e w' he=>⟨he.1,hz.below he.2⟩)
 have HOR:=hide (show ∀ X v rs,PlZ V X v rs→Calls Tryz.prog 135 #[.agg #[.slice (some ⟨gp,op,none⟩) xs.length c0,.int .i64 L.stack,.slice a2 L.slots.length c2,.int .i64 L.flash,.int .i64 L.ram,.slice a5 ts.length c5],.agg #[.int .i64 m,.int .i64 b,.int .i64 at'],.int .i64 s] X (fun e w'=>e=.returned (.int .i64 (orgn L ((⟨tx,bk,dt,sz⟩,pa,pc):PB) b s))∧PlZ V w' v rs) from fun X v rs hz=>(l6Origin_any L (some ⟨gp,op,none⟩) c0 xs a2 c2 a5 c5 ts m b at' s X (HL2.out.below hz.b) m0 m1 (by rw [← HP.out];exact hbb) hs).mono fun e w' he=>⟨by rw [HP.out];exact he.1,hz.below he.2⟩)
 generalize hog:orgn L ((⟨tx,bk,dt,sz⟩,pa,pc):PB) b s=og at *
 generalize hE:endOf L=E at *
 have HOG:=hide hog
 have HE:=hide hE
 clear hog hE
 have Z0:=hide (show PlZ V (w1.alloc (.cells #[] 158)) (.slice (some ⟨w1.heap.size,0,none⟩) 0 0) [] from ⟨HB1.out.alloc HB1.out.size _,or_empty w1 V.heap.size HB1.out.size⟩)
 obtain ⟨X1,hX1⟩:∃ X1,X1=w1.alloc (.cells #[] 158):=⟨_,rfl⟩
 rw [← hX1] at Z0
 have HX1:=hide hX1
 clear hX1 u0 u1 u2 u3 u4 u5 u6 u7 C1 C2 v0 v1 v2 v3 v4 v5 v6 v7 x0 x1 x2 x3 x4 x5 y0 y1 HPC hbb hs hk
 obtain ⟨z2,z3,⟨z4,z5,z6,z7,z8,z9⟩,z10,z11,z12⟩:=HKX.out _ _ _ Z0.out
 have HW1:=hide (l6With_z _ _ _ [] dt sz true true false X1 Z0.out (by unfold wfi;omega) (by unfold wfi;omega) (by omega))
 go_wp2_with (rw [← HX1.out])
 refine HW1.out.mono ?_
 rintro e X2 ⟨A1,k1,p1,rfl,hk1,hz⟩
 have Z1:=hide hz
 clear hz z2 z3 z4 z5 z6 z7 z8 z9 z10 z11 z12 Z0 HW1 HX1
 obtain ⟨z2,z3,⟨z4,z5,z6,z7,z8,z9⟩,z10,z11,z12⟩:=HKX.out _ _ _ Z1.out
 have HWR:=hide (show IntKind.i64.wrap (E - L.stack)=E - L.stack from cv_wrap (by omega) (by omega))
 have HW2:=hide (show ∀ X,PlZ V X (.slice A1 k1 p1) ([]++rts true true false (cvL dt sz))→Calls Tryz.prog 134 #[.slice A1 k1 p1,.int .i64 L.stack,.int .i64 (IntKind.i64.wrap (E - L.stack)),.bool true,.bool true,.bool false] X fun e w'=>∃ A' m' cap',e=.returned (.slice A' m' cap')∧m'≤k1+8192∧PlZ V w' (.slice A' m' cap') (([]++rts true true false (cvL dt sz))++rts true true false (cvL L.stack (E - L.stack))) from fun X hX=>by rw [HWR.out];exact l6With_z A1 k1 p1 ([]++rts true true false (cvL dt sz)) L.stack (E - L.stack) true true false X hX (by unfold wfi;omega) (by unfold wfi;omega) (by omega))
 go_wp2_with fail
 go_region_held3 (fun w'=>w'.cell? ⟨w.heap.size,0,none⟩=some (.slice (some ⟨gp,op,none⟩) xs.length c0)∧w'.cell? ⟨w.heap.size,1,none⟩=some (.int .i64 L.stack)∧w'.cell? ⟨w.heap.size,2,none⟩=some (.slice a2 L.slots.length c2)∧w'.cell? ⟨w.heap.size,3,none⟩=some (.int .i64 L.flash)∧w'.cell? ⟨w.heap.size,4,none⟩=some (.int .i64 L.ram)∧w'.cell? ⟨w.heap.size,5,none⟩=some (.slice a5 ts.length c5)) (go_keep)
  (first
    | (go_at_call 131;first
        | with_reducible refine (HEN.out _ _ _ Z1.out).mono ?_
        | with_reducible refine (HEN.out _ _ _ Z1.out.drew).mono ?_
       rintro e w3 ⟨rfl,hz3⟩
       have Z3:=hide hz3
       clear hz3
       obtain ⟨z2,z3,⟨z4,z5,z6,z7,z8,z9⟩,z10,z11,z12⟩:=HKX.out _ _ _ Z3.out)
    | (go_at_call 134;first
        | with_reducible refine (HW2.out _ Z3.out).mono ?_
        | with_reducible refine (HW2.out _ Z3.out.drew).mono ?_
       rintro e X3 ⟨A2,k2,p2,rfl,hk2,hz⟩
       have Z2:=hide hz
       clear hz
       obtain ⟨z2,z3,⟨z4,z5,z6,z7,z8,z9⟩,z10,z11,z12⟩:=HKX.out _ _ _ Z2.out))
 clear HW2 Z1 Z3
 have HW3:=hide (l6With_z A2 k2 p2 (([]++rts true true false (cvL dt sz))++rts true true false (cvL L.stack (E - L.stack))) 131072 32 false true false X3 Z2.out (by unfold wfi;omega) (by unfold wfi;omega) (by omega))
 go_wp2_with fail
 refine HW3.out.mono ?_
 rintro e X4 ⟨A3,k3,p3,rfl,hk3,hz⟩
 have Z4:=hide hz
 clear hz Z2 HW3 z2 z3 z4 z5 z6 z7 z8 z9 z10 z11 z12
 obtain ⟨z2,z3,⟨z4,z5,z6,z7,z8,z9⟩,z10,z11,z12⟩:=HKX.out _ _ _ Z4.out
 have hx2:(xn:Int)≤200:=by rw [HXN.out];exact hw.2
 have HRD:=hide (fun (X:World)=>l5Round_any (4 * (xn:Int)) X (by omega) (by omega))
 go_wp2_with fail
 refine (HOR.out _ _ _ Z4.out).mono ?_
 rintro e X5 ⟨rfl,hz⟩
 have Z5:=hide hz
 clear hz Z4
 go_wp2_with fail
 refine (HRD.out _).mono ?_
 rintro e X6 ⟨rfl,rfl⟩
 have hrd:=rnd_range (x:=4 * (xn:Int)) (by omega)
 have HW4:=hide (l6With_z A3 k3 p3 ((([]++rts true true false (cvL dt sz))++rts true true false (cvL L.stack (E - L.stack)))++rts false true false (cvL 131072 32)) og (rnd (4 * (xn:Int))) false false true _ Z5.out hwfo (by unfold wfi;omega) (by omega))
 have HRR:=hide (show rnd (4 * q)=rnd (4 * (xn:Int)) by rw [HXN.out])
 generalize rnd (4 * (xn:Int))=rr at *
 go_wp2_with fail
 refine HW4.out.mono ?_
 rintro e X7 ⟨A4,k4,p4,rfl,hk4,hz⟩
 have Z7:=hide hz
 clear hz
 go_wp2
 go_ret
 exact ⟨A4,k4,p4,rfl,by have e:=HRR.out;have e2:=HE.out;have e3:=HOG.out;rw [e,e2,e3];exact org_mono Z7.out.o HBV.out.size,HBV.out.trans (Z7.out.b.mono HBV.out.size)⟩
def FitP (ps:List PMod)(L:Lay):Prop:=Lok ps L∧∀ m b s:Int,0≤pcq ps m b→sOk L b s→(plR ps L m b s).length≤8
def fnz (f:Nat→Int):Nat→Option Nat
 | 0=>none
 | n+1=>match fnz f n with
   | some i=>some i
   | none=>if f n≠0 then some n else none
theorem fnz_none {f:Nat→Int}:∀ n,(∀ i,i<n→f i=0)→fnz f n=none
 | 0,_=>rfl
 | n+1,h=>by
   unfold fnz
   rw [fnz_none n (fun i hi=>h i (by omega))]
   simp [h n (by omega)]
theorem fnz_some {f:Nat→Int}{i:Nat}(hi:f i≠0)(hk:∀ k,k<i→f k=0):∀ n,i<n→fnz f n=some i
 | 0,h=>by omega
 | n+1,h=>by
   unfold fnz
   by_cases e:i=n
   ·subst e
    rw [fnz_none i hk]
    simp [hi]
   ·rw [fnz_some hi hk n (by omega)]
def fitD (ps:List PMod)(L:Lay):Decidable (FitP ps L):=
 have:=lokD ps L
 have:∀ b s,Decidable (sOk L b s):=fun _ _=>inferInstance
 decidable_of_iff (Lok ps L∧∀ m,m<ps.length→∀ b,b<(ps.getD m zP).bl.length+1→∀ s,s<L.slots.length+1→0≤pcq ps (m:Int) ((b:Int)-1)→sOk L ((b:Int)-1) ((s:Int)-1)→(plR ps L (m:Int) ((b:Int)-1) ((s:Int)-1)).length≤8) (by
  unfold FitP
  refine and_congr_right fun _=>⟨fun h m b s hp hs=>?_,fun h m _ b _ s _=>h m _ _⟩
  have hmb:(0≤m∧m<(ps.length:Int))∧(b=-1∨(0≤b∧b<((ps.getD m.toNat zP).bl.length:Int))):=by
   unfold pcq at hp
   split at hp
   ·refine ⟨by assumption,?_⟩
    split at hp
    ·exact .inl (by assumption)
    ·split at hp
     ·exact .inr (by assumption)
     ·exact absurd hp (by decide)
   ·exact absurd hp (by decide)
  have hs':=hs.fit
  have:=h m.toNat (by omega) (b+1).toNat (by omega) (s+1).toNat (by omega)
  rw [show ((m.toNat:Nat):Int)=m by omega,show (((b+1).toNat:Nat):Int)-1=b by omega,show (((s+1).toNat:Nat):Int)-1=s by omega] at this
  exact this hp hs)
def ldc (zss:List (List Int))(n:Nat)(s c k d:Int):Int × Nat:=
 if cfo s c k d=false then (1,0) else if n<1∨4<n then (2,0) else match fnz (pcd zss) n with
  | some i=>(10+pcd zss i,i)
  | none=>if lkc (pal zss n) s c k d≠0 then (40+lkc (pal zss n) s c k d,0) else @ite _ (FitP (pal zss n) (lay (pal zss n) s c k)) (fitD _ _) (0,0) (60,0)
theorem OMp.turn {S:Nat→Prop}{W W':World}{base:Nat}{v:Value}{L:List (PMod × Mb)}{β:Nat→Nat}(H:OMp W base v L β)(t:Turn S W W')(hS:∀ j,S j→j<base):OMp W' base v L β:=
 ⟨H.o.kept t (fun k hk s=>by have:=(H.o.lt k hk).1;have:=hS k s;omega),fun i x hx=>⟨ModO.keptS (H.m i x hx).1 t (fun ho _ k hk s=>by
  have h1:=(World.ownsRow.lt ho k hk).1
  have h2:=hS k s
  have h3:=H.mono 0 i (Nat.zero_le _) (Nat.le_of_lt (lget_lt hx))
  have h4:=H.lo
  omega),(H.m i x hx).2⟩,H.mono,H.lo,Nat.le_trans H.hi t.size⟩
theorem OMp.mono' {W:World}{base base':Nat}{v:Value}{L:List (PMod × Mb)}{β:Nat→Nat}(H:OMp W base v L β)(hb:base'≤base):OMp W base' v L β:=⟨H.o.mono hb,H.m,H.mono,Nat.le_trans hb H.lo,H.hi⟩
theorem NmO.turn {S:Nat→Prop}{W W':World}{base:Nat}{ps:List PMod}{L:Lay}{ns:Nat}{vk vf vr vo vl:Value}(h:NmO W base ps L ns vk vf vr vo vl)(t:Turn S W W')(hS:∀ j,S j→j<base):NmO W' base ps L ns vk vf vr vo vl:=
 ⟨turn_oi t h.k (fun k hk s=>by have:=(h.k.lt k hk).1;have:=hS k s;omega),h.q.kept t (fun j hj s=>by have:=(h.q.lt hj).1;have:=hS j s;omega),h.l.kept t (fun k hk s=>by have:=(h.l.lt k hk).1;have:=hS k s;omega)⟩
theorem pcd_range (zss:List (List Int))(i:Nat):0≤pcd zss i∧pcd zss i≤16:=by
 unfold pcd prs
 split
 ·simp
 split
 ·simp
 split
 ·simp
 ·rename_i x _
  have hr:0≤mdoP x.1∧mdoP x.1≤6:=mdo_range x.1.nm x.1.tz.length x.1.tz x.1.bl.length (bkOf x.1.bl) x.1.dz.length x.1.bss x.1.rz.length x.1.rz x.1.ss.length x.1.ss x.1.es.length x.1.es
  split
  ·simp
  split
  ·dsimp only;omega
  ·simp
theorem lkc_range (ps:List PMod)(s c k d:Int):0≤lkc ps s c k d∧lkc ps s c k d≤8:=by
 have h:0≤snd4 ps s c k d∧snd4 ps s c k d≤4:=by
  unfold snd4
  repeat' split
  all_goals omega
 unfold lkc
 repeat' split
 all_goals omega
def z15L:Array Value:=#[.slice none 0 0,.int .i64 0,.int .i64 0,.int .i64 0,.int .i64 0,.int .i64 0,.slice none 0 0,.slice none 0 0,.slice none 0 0,.slice none 0 0,.int .i64 0,.int .i64 0,.slice none 0 0,.slice none 0 0,.int .i64 0]
def LdP (w:World)(zss:List (List Int))(n:Nat)(s c k d:Int)(hv:Value→World→Prop)(e:Ending)(w':World):Prop:=Below w.heap.size w w'∧(((ldc zss n s c k d).1≠0∧e=.returned (.tuple #[.agg z15L,.int .i64 (ldc zss n s c k d).1,.int .i64 ((ldc zss n s c k d).2:Nat)]))∨(ldc zss n s c k d=(0,0)∧∃ a cap L β mid gk a1 n1 e1 a2 n2 e2 a3 n3 e3 gl vh,e=.returned (.tuple #[.agg #[.slice a n cap,.int .i64 s,.int .i64 c,.int .i64 k,.int .i64 d,.int .i64 0,.slice (some ⟨gk,0,none⟩) 8 8,.slice a1 n1 e1,.slice a2 n2 e2,.slice a3 n3 e3,.int .i64 0,.int .i64 (-1),.slice (some ⟨gl,0,none⟩) s.toNat s.toNat,vh,.int .i64 0],.int .i64 0,.int .i64 0])∧hv vh w'∧OMp w' w.heap.size (.slice a n cap) L β∧L.map (fun x=>x.1)=pal zss n∧NmO w' mid (pal zss n) (lay (pal zss n) s c k) s.toNat (.slice (some ⟨gk,0,none⟩) 8 8) (.slice a1 n1 e1) (.slice a2 n2 e2) (.slice a3 n3 e3) (.slice (some ⟨gl,0,none⟩) s.toNat s.toNat)∧w.heap.size≤mid∧β n≤mid))
theorem markCore_k (pc:Int)(a:Option Addr)(n cap base:Nat)(zs:List Int)(k:Nat)(w:World)(h:OI w base (.slice a n cap) zs)(hn:n≤2097152)(hk:k≤4194304):
 Calls Tryz.prog 110 #[.agg #[.int .i64 pc,.slice a n cap],.int .i64 k] w fun e w'=>e=.returned (.int .i64 ((k+n:Nat):Int))∧OI w' base (.slice a n cap) (marksI k n)∧Turn (fun j=>(Value.slice a n cap).ownBlock=some j) w w':=by
 have h':=h.below ((Below.refl w.heap.size w).alloc (Nat.le_refl _) (.cells #[.int .i64 pc,.slice a n cap] 48))
 have T0:Turn (fun j=>(Value.slice a n cap).ownBlock=some j) w (w.alloc (.cells #[.int .i64 pc,.slice a n cap] 48)):=turn_alloc w _
 go_enter Tryz.func110,Tryz.ntmps110
 go_wp2_with fail
 refine (markIntS_any a n cap base zs k _ h' hn hk).mono ?_
 rintro e w1 ⟨rfl,p1,t1⟩
 go_wp2
 go_ret
 exact ⟨rfl,p1,T0.trans t1⟩
theorem heldCore_k (pc:Int)(a:Option Addr)(n cap:Nat)(k:Nat)(w:World)(h:IS w a n cap (marksI k n))(hn:n≤2097152)(hk:k≤4194304):
 Calls Tryz.prog 114 #[.agg #[.int .i64 pc,.slice a n cap],.int .i64 k] w fun e w'=>e=.returned (.int .i64 ((k+n:Nat):Int))∧Below w.heap.size w w':=by
 have hB0:Below w.heap.size w (w.alloc (.cells #[.int .i64 pc,.slice a n cap] 48)):=(Below.refl _ _).alloc (Nat.le_refl _) _
 have e0:(0:Int)≤((k+n:Nat):Int):=by omega
 go_enter Tryz.func114,Tryz.ntmps114
 go_wp2_with fail
 refine (heldIntS_any a n cap k _ (h.below hB0) hn hk).mono ?_
 rintro e w1 ⟨rfl,rfl⟩
 go_wp2
 go_ret
 exact ⟨rfl,hB0⟩
theorem markMem_k (a1 a2 a3:Option Addr)(n1 d1 n2 d2 n3 d3 base:Nat)(x1 x2 x3:List Int)(k:Nat)(w:World)(h:OM w base (.slice a1 n1 d1) (.slice a2 n2 d2) (.slice a3 n3 d3) x1 x2 x3)(hn:k+n1+n2+n3≤2097152):
 Calls Tryz.prog 27 #[.agg #[.slice a1 n1 d1,.slice a2 n2 d2,.slice a3 n3 d3],.int .i64 (k:Nat)] w fun e w'=>e=.returned (.int .i64 ((k+n1+n2+n3:Nat):Int))∧OM w' base (.slice a1 n1 d1) (.slice a2 n2 d2) (.slice a3 n3 d3) (marks k n1) (marks (k+n1) n2) (marks (k+n1+n2) n3)∧Turn (Blks (.slice a1 n1 d1) (.slice a2 n2 d2) (.slice a3 n3 d3)) w w':=by
 have hlt:∀ j,Blks (.slice a1 n1 d1) (.slice a2 n2 d2) (.slice a3 n3 d3) j→j<w.heap.size:=fun j hj=>(h.lt hj).2
 have kb:=Blk.new w #[.slice a1 n1 d1,.slice a2 n2 d2,.slice a3 n3 d3] 50
 have bb:Below w.heap.size w (w.alloc (.cells #[.slice a1 n1 d1,.slice a2 n2 d2,.slice a3 n3 d3] 50)):=(Below.refl _ _).alloc (Nat.le_refl _) _
 have h':=h.below bb
 have T0:Turn (Blks (.slice a1 n1 d1) (.slice a2 n2 d2) (.slice a3 n3 d3)) w (w.alloc (.cells #[.slice a1 n1 d1,.slice a2 n2 d2,.slice a3 n3 d3] 50)):=turn_below bb
 obtain ⟨_,_,_,o12,o13,o23⟩:=h
 clear bb
 go_enter Tryz.func27,Tryz.ntmps27
 go_wp2_with fail
 refine (markByteS_any a1 n1 d1 base x1 k _ h'.o1 (by omega) (by omega)).mono ?_
 rintro e w1 ⟨rfl,p1,t1⟩
 have kb1:=turn_blk t1 kb (fun e=>by have:=hlt _ (Or.inl e);omega)
 have p2:=turn_ob t1 h'.o2 (fun k hk e=>o12 k e hk)
 have p3:=turn_ob t1 h'.o3 (fun k hk e=>o13 k e hk)
 have T1:=T0.trans (t1.mono (fun k hk=>Or.inl hk))
 clear t1 kb h'
 obtain ⟨q1,q2,q3,q4⟩:=kb1.three
 go_wp2_with fail
 refine (markByteS_any a2 n2 d2 base x2 (k+n1) _ p2 (by omega) (by omega)).mono ?_
 rintro e w2 ⟨rfl,p2,t2⟩
 have kb2:=turn_blk t2 kb1 (fun e=>by have:=hlt _ (Or.inr (Or.inl e));omega)
 have p1:=turn_ob t2 p1 (fun k hk e=>o12 k hk e)
 have p3:=turn_ob t2 p3 (fun k hk e=>o23 k e hk)
 have T2:=T1.trans (t2.mono (fun k hk=>Or.inr (Or.inl hk)))
 clear t2 kb1 q1 q2 q3 q4
 obtain ⟨q1,q2,q3,q4⟩:=kb2.three
 go_wp2_with fail
 refine (markByteS_any a3 n3 d3 base x3 (k+n1+n2) _ p3 (by omega) (by omega)).mono ?_
 rintro e w3 ⟨rfl,p3,t3⟩
 have p1:=turn_ob t3 p1 (fun k hk e=>o13 k hk e)
 have p2:=turn_ob t3 p2 (fun k hk e=>o23 k hk e)
 have T3:=T2.trans (t3.mono (fun k hk=>Or.inr (Or.inr hk)))
 go_wp2
 go_ret
 exact ⟨rfl,⟨p1,p2,p3,o12,o13,o23⟩,T3⟩
theorem heldMem_k (a1 a2 a3:Option Addr)(n1 d1 n2 d2 n3 d3:Nat)(k:Nat)(w:World)(h1:BS w a1 n1 d1 (marks k n1))(h2:BS w a2 n2 d2 (marks (k+n1) n2))(h3:BS w a3 n3 d3 (marks (k+n1+n2) n3))(hn:k+n1+n2+n3≤2097152):
 Calls Tryz.prog 28 #[.agg #[.slice a1 n1 d1,.slice a2 n2 d2,.slice a3 n3 d3],.int .i64 (k:Nat)] w fun e w'=>e=.returned (.int .i64 ((k+n1+n2+n3:Nat):Int))∧Below w.heap.size w w':=by
 have hB0:Below w.heap.size w (w.alloc (.cells #[.slice a1 n1 d1,.slice a2 n2 d2,.slice a3 n3 d3] 50)):=(Below.refl _ _).alloc (Nat.le_refl _) _
 go_enter Tryz.func28,Tryz.ntmps28
 go_wp2_with fail
 refine (heldByteS_any a1 n1 d1 k _ (h1.below hB0) (by omega) (by omega)).mono ?_
 rintro e w1 ⟨rfl,rfl⟩
 have e1:(0:Int)≤((k+n1:Nat):Int):=by omega
 go_wp2_with fail
 refine (heldByteS_any a2 n2 d2 (k+n1) _ (h2.below hB0) (by omega) (by omega)).mono ?_
 rintro e w1 ⟨rfl,rfl⟩
 have e2:(0:Int)≤((k+n1+n2:Nat):Int):=by omega
 go_wp2_with fail
 refine (heldByteS_any a3 n3 d3 (k+n1+n2) _ (h3.below hB0) (by omega) (by omega)).mono ?_
 rintro e w1 ⟨rfl,rfl⟩
 have e3:(0:Int)≤((k+n1+n2+n3:Nat):Int):=by omega
 go_wp2
 go_ret
 exact ⟨rfl,hB0⟩
structure MnD (w:World)(M:Mn):Prop where
 m:MSD w M.ma M.mn M.mc M.ms
 k:IS w M.ka M.kn M.kc M.kz
 f:BS w M.fa M.fn M.fc M.fz
 r:BS w M.ra M.rn M.rc M.rz
 o:BS w M.oa M.on M.oc M.oz
 l:QS clSl zSl w M.la M.ln M.lc M.lz
 h:QS clFr zFr w M.ha M.hn M.hc M.hz
structure Sam (M N:Mn):Prop where
 s:N.cs=M.cs∧N.cw=M.cw∧N.ck=M.ck∧N.cd=M.cd∧N.pc=M.pc∧N.md=M.md∧N.bk=M.bk∧N.tn=M.tn
 n:N.mn=M.mn∧N.kn=M.kn∧N.fn=M.fn∧N.rn=M.rn∧N.on=M.on∧N.ln=M.ln∧N.hn=M.hn
 z:N.kz=M.kz∧N.fz=M.fz∧N.rz=M.rz∧N.oz=M.oz∧N.lz=M.lz∧N.hz=M.hz
 m:∀ i,i<M.mn→Same (M.ms.getD i zMd) (N.ms.getD i zMd)
theorem eqConfig_same (s c k d:Int)(w:World):Calls Tryz.prog 106 #[.agg #[.int .i64 s,.int .i64 c,.int .i64 k,.int .i64 d],.agg #[.int .i64 s,.int .i64 c,.int .i64 k,.int .i64 d]] w fun e w'=>e=.returned (.bool true)∧Below w.heap.size w w':=by
 have hB:Below w.heap.size w ((w.alloc (.cells #[.int .i64 s,.int .i64 c,.int .i64 k,.int .i64 d] 44)).alloc (.cells #[.int .i64 s,.int .i64 c,.int .i64 k,.int .i64 d] 44)):=((Below.refl _ _).alloc (Nat.le_refl _) _).alloc (by simp) _
 have h0:(s != s)=false:=by simp
 have h1:(c != c)=false:=by simp
 have h2:(k != k)=false:=by simp
 have h3:(d != d)=false:=by simp
 go_enter Tryz.func106,Tryz.ntmps106
 go_wp2
 go_ret
 exact ⟨rfl,hB⟩
theorem eqMachine_same (M N:Mn)(w:World)(h:MnD w M)(h':MnD w N)(s:Sam M N):
 Calls Tryz.prog 38 #[.agg #[.slice M.ma M.mn M.mc,.int .i64 M.cs,.int .i64 M.cw,.int .i64 M.ck,.int .i64 M.cd,.int .i64 M.pc,.slice M.ka M.kn M.kc,.slice M.fa M.fn M.fc,.slice M.ra M.rn M.rc,.slice M.oa M.on M.oc,.int .i64 M.md,.int .i64 M.bk,.slice M.la M.ln M.lc,.slice M.ha M.hn M.hc,.int .i64 M.tn],.agg #[.slice N.ma N.mn N.mc,.int .i64 N.cs,.int .i64 N.cw,.int .i64 N.ck,.int .i64 N.cd,.int .i64 N.pc,.slice N.ka N.kn N.kc,.slice N.fa N.fn N.fc,.slice N.ra N.rn N.rc,.slice N.oa N.on N.oc,.int .i64 N.md,.int .i64 N.bk,.slice N.la N.ln N.lc,.slice N.ha N.hn N.hc,.int .i64 N.tn]] w fun e w'=>e=.returned (.bool true)∧Below w.heap.size w w':=by
 obtain ⟨⟨e1,e2,e3,e4,e5,e6,e7,e8⟩,⟨n1,n2,n3,n4,n5,n6,n7⟩,⟨z1,z2,z3,z4,z5,z6⟩,hm⟩:=s
 obtain ⟨m',k',f',r',o',l',h'⟩:=h'
 rw [n1] at m'
 rw [n2,z1] at k'
 rw [n3,z2] at f'
 rw [n4,z3] at r'
 rw [n5,z4] at o'
 rw [n6,z5] at l'
 rw [n7,z6] at h'
 rw [e1,e2,e3,e4,e5,e6,e7,e8,n1,n2,n3,n4,n5,n6,n7]
 clear e1 e2 e3 e4 e5 e6 e7 e8 n1 n2 n3 n4 n5 n6 n7 z1 z2 z3 z4 z5 z6
 have hB0:Below w.heap.size w ((w.alloc (.cells #[.slice M.ma M.mn M.mc,.int .i64 M.cs,.int .i64 M.cw,.int .i64 M.ck,.int .i64 M.cd,.int .i64 M.pc,.slice M.ka M.kn M.kc,.slice M.fa M.fn M.fc,.slice M.ra M.rn M.rc,.slice M.oa M.on M.oc,.int .i64 M.md,.int .i64 M.bk,.slice M.la M.ln M.lc,.slice M.ha M.hn M.hc,.int .i64 M.tn] 54)).alloc (.cells #[.slice N.ma M.mn N.mc,.int .i64 M.cs,.int .i64 M.cw,.int .i64 M.ck,.int .i64 M.cd,.int .i64 M.pc,.slice N.ka M.kn N.kc,.slice N.fa M.fn N.fc,.slice N.ra M.rn N.rc,.slice N.oa M.on N.oc,.int .i64 M.md,.int .i64 M.bk,.slice N.la M.ln N.lc,.slice N.ha M.hn N.hc,.int .i64 M.tn] 54)):=((Below.refl _ _).alloc (Nat.le_refl _) _).alloc (by simp) _
 have u0:=(Blk.new w #[.slice M.ma M.mn M.mc,.int .i64 M.cs,.int .i64 M.cw,.int .i64 M.ck,.int .i64 M.cd,.int .i64 M.pc,.slice M.ka M.kn M.kc,.slice M.fa M.fn M.fc,.slice M.ra M.rn M.rc,.slice M.oa M.on M.oc,.int .i64 M.md,.int .i64 M.bk,.slice M.la M.ln M.lc,.slice M.ha M.hn M.hc,.int .i64 M.tn] 54).alloc (.cells #[.slice N.ma M.mn N.mc,.int .i64 M.cs,.int .i64 M.cw,.int .i64 M.ck,.int .i64 M.cd,.int .i64 M.pc,.slice N.ka M.kn N.kc,.slice N.fa M.fn N.fc,.slice N.ra M.rn N.rc,.slice N.oa M.on N.oc,.int .i64 M.md,.int .i64 M.bk,.slice N.la M.ln N.lc,.slice N.ha M.hn N.hc,.int .i64 M.tn] 54)
 have v0:=Blk.new (w.alloc (.cells #[.slice M.ma M.mn M.mc,.int .i64 M.cs,.int .i64 M.cw,.int .i64 M.ck,.int .i64 M.cd,.int .i64 M.pc,.slice M.ka M.kn M.kc,.slice M.fa M.fn M.fc,.slice M.ra M.rn M.rc,.slice M.oa M.on M.oc,.int .i64 M.md,.int .i64 M.bk,.slice M.la M.ln M.lc,.slice M.ha M.hn M.hc,.int .i64 M.tn] 54)) #[.slice N.ma M.mn N.mc,.int .i64 M.cs,.int .i64 M.cw,.int .i64 M.ck,.int .i64 M.cd,.int .i64 M.pc,.slice N.ka M.kn N.kc,.slice N.fa M.fn N.fc,.slice N.ra M.rn N.rc,.slice N.oa M.on N.oc,.int .i64 M.md,.int .i64 M.bk,.slice N.la M.ln N.lc,.slice N.ha M.hn N.hc,.int .i64 M.tn] 54
 simp only [World.size_alloc] at v0
 have x1:(M.md != M.md)=false:=by simp
 have x2:(M.bk != M.bk)=false:=by simp
 have x3:(M.tn != M.tn)=false:=by simp
 have H1:=hide (fun (W:World) (hb:Below w.heap.size w W)=>eqModuleS_same M.ma N.ma M.mn M.mc N.mc M.ms N.ms W (h.m.s.below hb) (m'.s.below hb) hm)
 have H2:=hide (fun (W:World)=>eqConfig_same M.cs M.cw M.ck M.cd W)
 have H3:=hide (fun (W:World) (hb:Below w.heap.size w W)=>eqCore_same M.pc M.ka N.ka M.kn M.kc N.kc M.kz W (h.k.below hb) (k'.below hb))
 have H4:=hide (fun (W:World) (hb:Below w.heap.size w W)=>eqMem_same M.fa M.ra M.oa N.fa N.ra N.oa M.fn M.fc M.rn M.rc M.on M.oc M.fn N.fc M.rn N.rc M.on N.oc M.fz M.rz M.oz W (h.f.below hb) (h.r.below hb) (h.o.below hb) (f'.below hb) (r'.below hb) (o'.below hb))
 have H5:=hide (fun (W:World) (hb:Below w.heap.size w W)=>eqSlotS_same M.la N.la M.ln M.lc N.lc M.lz W (h.l.below hb) (l'.below hb))
 have H6:=hide (fun (W:World) (hb:Below w.heap.size w W)=>eqFrameS_same M.ha N.ha M.hn M.hc N.hc M.hz W (h.h.below hb) (h'.below hb))
 clear h m' k' f' r' o' l' h' hm
 have HK:=hide (And.intro u0 v0)
 go_enter Tryz.func38,Tryz.ntmps38
 go_wp2_with fail
 refine (H1.out _ hB0).mono ?_
 rintro e w1 ⟨rfl,hb⟩
 have hB1:=hB0.trans (hb.mono (by have:=hB0.size;simp;omega))
 have K1:=And.intro (HK.out.1.below hb) (HK.out.2.below hb)
 clear hB0 u0 v0 hb HK
 have p1:w1.cell? ⟨w.heap.size,1,none⟩=some (.int .i64 M.cs):=K1.1.cell 1
 have q1:w1.cell? ⟨w.heap.size+1,1,none⟩=some (.int .i64 M.cs):=K1.2.cell 1
 have p2:w1.cell? ⟨w.heap.size,2,none⟩=some (.int .i64 M.cw):=K1.1.cell 2
 have q2:w1.cell? ⟨w.heap.size+1,2,none⟩=some (.int .i64 M.cw):=K1.2.cell 2
 have p3:w1.cell? ⟨w.heap.size,3,none⟩=some (.int .i64 M.ck):=K1.1.cell 3
 have q3:w1.cell? ⟨w.heap.size+1,3,none⟩=some (.int .i64 M.ck):=K1.2.cell 3
 have p4:w1.cell? ⟨w.heap.size,4,none⟩=some (.int .i64 M.cd):=K1.1.cell 4
 have q4:w1.cell? ⟨w.heap.size+1,4,none⟩=some (.int .i64 M.cd):=K1.2.cell 4
 have HK:=hide K1
 clear K1
 go_wp2_with fail
 refine (H2.out _).mono ?_
 rintro e w2 ⟨rfl,hb⟩
 have hB2:=hB1.trans (hb.mono hB1.size)
 have K2:=And.intro (HK.out.1.below hb) (HK.out.2.below hb)
 clear hB1 hb HK p1 q1 p2 q2 p3 q3 p4 q4
 have p5:w2.cell? ⟨w.heap.size,5,none⟩=some (.int .i64 M.pc):=K2.1.cell 5
 have q5:w2.cell? ⟨w.heap.size+1,5,none⟩=some (.int .i64 M.pc):=K2.2.cell 5
 have p6:w2.cell? ⟨w.heap.size,6,none⟩=some (.slice M.ka M.kn M.kc):=K2.1.cell 6
 have q6:w2.cell? ⟨w.heap.size+1,6,none⟩=some (.slice N.ka M.kn N.kc):=K2.2.cell 6
 have HK:=hide K2
 clear K2
 go_wp2_with fail
 refine (H3.out _ hB2).mono ?_
 rintro e w3 ⟨rfl,hb⟩
 have hB3:=hB2.trans (hb.mono hB2.size)
 have K3:=And.intro (HK.out.1.below hb) (HK.out.2.below hb)
 clear hB2 hb HK p5 q5 p6 q6
 have p7:w3.cell? ⟨w.heap.size,7,none⟩=some (.slice M.fa M.fn M.fc):=K3.1.cell 7
 have q7:w3.cell? ⟨w.heap.size+1,7,none⟩=some (.slice N.fa M.fn N.fc):=K3.2.cell 7
 have p8:w3.cell? ⟨w.heap.size,8,none⟩=some (.slice M.ra M.rn M.rc):=K3.1.cell 8
 have q8:w3.cell? ⟨w.heap.size+1,8,none⟩=some (.slice N.ra M.rn N.rc):=K3.2.cell 8
 have p9:w3.cell? ⟨w.heap.size,9,none⟩=some (.slice M.oa M.on M.oc):=K3.1.cell 9
 have q9:w3.cell? ⟨w.heap.size+1,9,none⟩=some (.slice N.oa M.on N.oc):=K3.2.cell 9
 have HK:=hide K3
 clear K3
 go_wp2_with fail
 refine (H4.out _ hB3).mono ?_
 rintro e w4 ⟨rfl,hb⟩
 have hB4:=hB3.trans (hb.mono hB3.size)
 have K4:=And.intro (HK.out.1.below hb) (HK.out.2.below hb)
 clear hB3 hb HK p7 q7 p8 q8 p9 q9
 have p10:w4.cell? ⟨w.heap.size,10,none⟩=some (.int .i64 M.md):=K4.1.cell 10
 have q10:w4.cell? ⟨w.heap.size+1,10,none⟩=some (.int .i64 M.md):=K4.2.cell 10
 have p11:w4.cell? ⟨w.heap.size,11,none⟩=some (.int .i64 M.bk):=K4.1.cell 11
 have q11:w4.cell? ⟨w.heap.size+1,11,none⟩=some (.int .i64 M.bk):=K4.2.cell 11
 have p12:w4.cell? ⟨w.heap.size,12,none⟩=some (.slice M.la M.ln M.lc):=K4.1.cell 12
 have q12:w4.cell? ⟨w.heap.size+1,12,none⟩=some (.slice N.la M.ln N.lc):=K4.2.cell 12
 have HK:=hide K4
 clear K4
 go_wp2_with fail
 refine (H5.out _ hB4).mono ?_
 rintro e w5 ⟨rfl,hb⟩
 have hB5:=hB4.trans (hb.mono hB4.size)
 have K5:=And.intro (HK.out.1.below hb) (HK.out.2.below hb)
 clear hB4 hb HK p10 q10 p11 q11 p12 q12
 have p13:w5.cell? ⟨w.heap.size,13,none⟩=some (.slice M.ha M.hn M.hc):=K5.1.cell 13
 have q13:w5.cell? ⟨w.heap.size+1,13,none⟩=some (.slice N.ha M.hn N.hc):=K5.2.cell 13
 have HK:=hide K5
 clear K5
 go_wp2_with fail
 refine (H6.out _ hB5).mono ?_
 rintro e w6 ⟨rfl,hb⟩
 have hB6:=hB5.trans (hb.mono hB5.size)
 have K6:=And.intro (HK.out.1.below hb) (HK.out.2.below hb)
 clear hB5 hb HK p13 q13
 have p14:w6.cell? ⟨w.heap.size,14,none⟩=some (.int .i64 M.tn):=K6.1.cell 14
 have q14:w6.cell? ⟨w.heap.size+1,14,none⟩=some (.int .i64 M.tn):=K6.2.cell 14
 clear K6
 go_wp2
 go_ret
 exact ⟨rfl,hB6⟩
def LmP (w:World)(Lm:List (PMod × Mb))(n:Nat)(ps:List PMod)(L:Lay)(ns:Nat)(x2 x3 x4:Int)(e:Ending)(w':World):Prop:=∃ a cap L' β' gk a1 n1 e1 a2 n2 e2 a3 n3 e3 gl gs,e=.returned (.agg #[.slice a n cap,.int .i64 (ns:Nat),.int .i64 x2,.int .i64 x3,.int .i64 x4,.int .i64 0,.slice (some ⟨gk,0,none⟩) 8 8,.slice a1 n1 e1,.slice a2 n2 e2,.slice a3 n3 e3,.int .i64 0,.int .i64 (-1),.slice (some ⟨gl,0,none⟩) ns ns,.slice (some ⟨gs,0,none⟩) 0 0,.int .i64 0])∧NmO w' w.heap.size ps L ns (.slice (some ⟨gk,0,none⟩) 8 8) (.slice a1 n1 e1) (.slice a2 n2 e2) (.slice a3 n3 e3) (.slice (some ⟨gl,0,none⟩) ns ns)∧Blk w' gs #[] 136∧w.heap.size≤gs∧OMp w' w.heap.size (.slice a n cap) L' β'∧L'.map (fun x=>x.1)=Lm.map (fun x=>x.1)∧Below w.heap.size w w'
theorem lm_end2 {W:World}{q:Nat}(k1:Blk W q z15 54)(v0 v1 v2 v3 v4 v5 v6 v7 v8 v9 v10 v11 v12 v13 v14:Value)(Q:Ending→World→Prop)(tmps:Array Value)(h6:tmps[6]?=some (.pointer (some ⟨q,0,none⟩)))(hQ:Q (.returned (.agg #[v0,v1,v2,v3,v4,v5,v6,v7,v8,v9,v10,v11,v12,v13,v14])) (st15 W q v0 v1 v2 v3 v4 v5 v6 v7 v8 v9 v10 v11 v12 v13 v14)):
 bodyPost Tryz.prog Tryz.f73 Q Exit.ret ⟨tmps,[]⟩ (st15 W q v0 v1 v2 v3 v4 v5 v6 v7 v8 v9 v10 v11 v12 v13 v14):=by
 obtain ⟨t0,t1,t2,t3,t4,t5,t6,t7,t8,t9,t10,t11,t12,t13,t14⟩:=(blk_st15 k1 v0 v1 v2 v3 v4 v5 v6 v7 v8 v9 v10 v11 v12 v13 v14).mc
 refine bodyPost_ret_by (v:=(.agg #[v0,v1,v2,v3,v4,v5,v6,v7,v8,v9,v10,v11,v12,v13,v14])) ?_ rfl hQ
 simp [results,Tryz.results73,go_sem,h6,t0,t1,t2,t3,t4,t5,t6,t7,t8,t9,t10,t11,t12,t13,t14]
section
variable (w2:World)(g n cap G GM q ns:Nat)(x2 x3 x4:Int)(a1:Option Addr)(n1 e1:Nat)(a2:Option Addr)(n2 e2:Nat)(a3:Option Addr)(n3 e3:Nat)(Lm:List (PMod × Mb))
def PV:Nat→Value→World→Prop
 | 0,v,_=>v=.slice (some ⟨g,0,none⟩) n cap
 | 1,v,W=>∃ a7 cap7 L7 β7,v=.slice a7 n cap7∧OMp W w2.heap.size (.slice a7 n cap7) L7 β7∧L7.map (fun x=>x.1)=Lm.map (fun x=>x.1)
 | 2,v,_=>v=.agg #[.int .i64 (ns:Nat),.int .i64 x2,.int .i64 x3,.int .i64 x4]
 | 3,v,W=>∃ gk,v=.slice (some ⟨gk,0,none⟩) 8 8∧Blk W gk in0 3∧w2.heap.size≤gk
 | 4,v,W=>∃ gk,v=.agg #[.int .i64 0,.slice (some ⟨gk,0,none⟩) 8 8]∧Blk W gk in0 3∧w2.heap.size≤gk
 | 5,v,_=>v=.agg #[.slice a1 n1 e1,.slice a2 n2 e2,.slice a3 n3 e3]
 | 6,v,_=>v=.pointer (some ⟨G,0,none⟩)
 | 7,v,_=>v=.int .i64 (ns:Nat)
 | 8,v,W=>∃ gl,v=.slice (some ⟨gl,0,none⟩) ns ns∧Blk W gl (sl0 ns) 134∧w2.heap.size≤gl
 | 9,v,W=>∃ gs,v=.slice (some ⟨gs,0,none⟩) 0 0∧Blk W gs #[] 136∧w2.heap.size≤gs
 | 10,v,W=>∃ a7 cap7 L7 β7 gk gl gs,v=.agg #[.slice a7 n cap7,.int .i64 (ns:Nat),.int .i64 x2,.int .i64 x3,.int .i64 x4,.int .i64 0,.slice (some ⟨gk,0,none⟩) 8 8,.slice a1 n1 e1,.slice a2 n2 e2,.slice a3 n3 e3,.int .i64 0,.int .i64 (-1),.slice (some ⟨gl,0,none⟩) ns ns,.slice (some ⟨gs,0,none⟩) 0 0,.int .i64 0]∧(OMp W w2.heap.size (.slice a7 n cap7) L7 β7∧L7.map (fun x=>x.1)=Lm.map (fun x=>x.1))∧(Blk W gk in0 3∧w2.heap.size≤gk)∧(Blk W gl (sl0 ns) 134∧w2.heap.size≤gl)∧Blk W gs #[] 136∧w2.heap.size≤gs
 | _,_,_=>True
def FinP (W:World):Prop:=∃ X a7 cap7 L7 β7 gk gl gs,W=st15 X q (.slice a7 n cap7) (.int .i64 (ns:Nat)) (.int .i64 x2) (.int .i64 x3) (.int .i64 x4) (.int .i64 0) (.slice (some ⟨gk,0,none⟩) 8 8) (.slice a1 n1 e1) (.slice a2 n2 e2) (.slice a3 n3 e3) (.int .i64 0) (.int .i64 (-1)) (.slice (some ⟨gl,0,none⟩) ns ns) (.slice (some ⟨gs,0,none⟩) 0 0) (.int .i64 0)∧Below w2.heap.size w2 X∧(OMp X w2.heap.size (.slice a7 n cap7) L7 β7∧L7.map (fun x=>x.1)=Lm.map (fun x=>x.1))∧(Blk X gk in0 3∧w2.heap.size≤gk)∧(Blk X gl (sl0 ns) 134∧w2.heap.size≤gl)∧Blk X gs #[] 136∧w2.heap.size≤gs
theorem pv_below {j:Nat}{v:Value}{W W':World}(h:PV w2 g n cap G ns x2 x3 x4 a1 n1 e1 a2 n2 e2 a3 n3 e3 Lm j v W)(hb:Below W.heap.size W W'):PV w2 g n cap G ns x2 x3 x4 a1 n1 e1 a2 n2 e2 a3 n3 e3 Lm j v W':=by
 match j with
 | 0 | 2 | 5 | 6 | 7=>exact h
 | 1=>obtain ⟨a7,cap7,L7,β7,e,o,m⟩:=h;exact ⟨a7,cap7,L7,β7,e,o.below hb,m⟩
 | 3 | 4=>obtain ⟨gk,e,k,l⟩:=h;exact ⟨gk,e,k.below hb,l⟩
 | 8=>obtain ⟨gk,e,k,l⟩:=h;exact ⟨gk,e,k.below hb,l⟩
 | 9=>obtain ⟨gk,e,k,l⟩:=h;exact ⟨gk,e,k.below hb,l⟩
 | 10=>obtain ⟨a7,cap7,L7,β7,gk,gl,gs,e,⟨o,m⟩,⟨k1,l1⟩,⟨k2,l2⟩,k3,l3⟩:=h;exact ⟨a7,cap7,L7,β7,gk,gl,gs,e,⟨o.below hb,m⟩,⟨k1.below hb,l1⟩,⟨k2.below hb,l2⟩,k3.below hb,l3⟩
 | _+11=>exact h
structure I10 (listed:Array Bool)(a:Act)(W:World):Prop where
 sz:listed.size=12
 d:a.defers=[]
 s:a.tmps.size=26
 e0:a.tmps.getD 0 undef=.slice (some ⟨g,0,none⟩) n cap
 e4:a.tmps.getD 4 undef=.pointer (some ⟨G,0,none⟩)
 e6:a.tmps.getD 6 undef=.pointer (some ⟨q,0,none⟩)
 e7:a.tmps.getD 7 undef=.pointer (some ⟨GM,0,none⟩)
 p:listed.getD 11 false=false→Below w2.heap.size w2 W∧∀ j,j<11→listed.getD j false=true→PV w2 g n cap G ns x2 x3 x4 a1 n1 e1 a2 n2 e2 a3 n3 e3 Lm j (a.tmps.getD (15+j) undef) W
 c:listed.getD 11 false=true→(∀ j,j<11→listed.getD j false=true)∧FinP w2 n q ns x2 x3 x4 a1 n1 e1 a2 n2 e2 a3 n3 e3 Lm W
end
section
variable {w2:World}{g n cap G GM q ns:Nat}{x2 x3 x4:Int}{a1:Option Addr}{n1 e1:Nat}{a2:Option Addr}{n2 e2:Nat}{a3:Option Addr}{n3 e3:Nat}{Lm:List (PMod × Mb)}{listed:Array Bool}{a:Act}{W:World}
theorem put_get {a:Act}{t t':Nat}{v:Value}(h:t≠t'):(a.put (some t) v).tmps.getD t' undef=a.tmps.getD t' undef:=by
 show (a.tmps.setIfInBounds t v).getD t' undef=_
 simp [Array.getElem?_setIfInBounds_ne h]
theorem put_at {a:Act}{t:Nat}{v:Value}(h:t<a.tmps.size):(a.put (some t) v).tmps.getD t undef=v:=by
 show (a.tmps.setIfInBounds t v).getD t undef=_
 simp [h]
theorem lst_set {listed:Array Bool}{i j:Nat}(h:(listed.setIfInBounds i true).getD j false=true):j=i∨listed.getD j false=true:=by
 by_cases e:i=j
 ·exact .inl e.symm
 ·rw [getD_set_ne false e] at h
  exact .inr h
theorem lst_tf {listed:Array Bool}{i:Nat}(hs:i<listed.size)(b:Bool):listed.getD i b=listed.getD i false:=by simp [hs]
theorem I10.low (h:I10 w2 g n cap G GM q ns x2 x3 x4 a1 n1 e1 a2 n2 e2 a3 n3 e3 Lm listed a W){i:Nat}(hi:i<12)(hl:listed.getD i true=false):listed.getD 11 false=false:=by
 rw [lst_tf (by rw [h.sz];exact hi)] at hl
 cases e:listed.getD 11 false with
 | false=>rfl
 | true=>
   by_cases e2:i=11
   ·subst e2;rw [e] at hl;cases hl
   ·have:=(h.c e).1 i (by omega)
    rw [hl] at this
    cases this
theorem I10.next (h:I10 w2 g n cap G GM q ns x2 x3 x4 a1 n1 e1 a2 n2 e2 a3 n3 e3 Lm listed a W){i:Nat}(hi:i<11)(hl:listed.getD i true=false)(v:Value)(W':World)(hb:Below W.heap.size W W')(hp:PV w2 g n cap G ns x2 x3 x4 a1 n1 e1 a2 n2 e2 a3 n3 e3 Lm i v W'):I10 w2 g n cap G GM q ns x2 x3 x4 a1 n1 e1 a2 n2 e2 a3 n3 e3 Lm (listed.setIfInBounds i true) (a.put (some (15+i)) v) W':=by
 have hlow:=h.low (by omega) hl
 refine ⟨by simp [h.sz],h.d,by show (a.tmps.setIfInBounds _ _).size=26;simp [h.s],by rw [put_get (by omega)];exact h.e0,by rw [put_get (by omega)];exact h.e4,by rw [put_get (by omega)];exact h.e6,by rw [put_get (by omega)];exact h.e7,fun _=>⟨(h.p hlow).1.trans (hb.mono (h.p hlow).1.size),fun j hj hlj=>?_⟩,fun e=>?_⟩
 ·by_cases e:j=i
  ·subst e
   rw [put_at (by rw [h.s];omega)]
   exact hp
  ·rw [put_get (by omega)]
   exact pv_below _ _ _ _ _ _ _ _ _ _ _ _ _ _ _ _ _ _ _ ((h.p hlow).2 j hj ((lst_set hlj).resolve_left e)) hb
 ·have:=(lst_set e).resolve_left (by omega)
  rw [hlow] at this
  cases this
theorem I10.at (h:I10 w2 g n cap G GM q ns x2 x3 x4 a1 n1 e1 a2 n2 e2 a3 n3 e3 Lm listed a W){i:Nat}(hi:i<12)(hl:listed.getD i true=false)(j:Nat)(hj:j<11)(hlj:listed.getD j false=true):PV w2 g n cap G ns x2 x3 x4 a1 n1 e1 a2 n2 e2 a3 n3 e3 Lm j (a.tmps.getD (15+j) undef) W:=(h.p (h.low hi hl)).2 j hj hlj
theorem I10.bel (h:I10 w2 g n cap G GM q ns x2 x3 x4 a1 n1 e1 a2 n2 e2 a3 n3 e3 Lm listed a W){i:Nat}(hi:i<12)(hl:listed.getD i true=false):Below w2.heap.size w2 W:=(h.p (h.low hi hl)).1
theorem I10.last (h:I10 w2 g n cap G GM q ns x2 x3 x4 a1 n1 e1 a2 n2 e2 a3 n3 e3 Lm listed a W)(hl:listed.getD 11 true=false)(hall:∀ j,j<11→listed.getD j false=true){W':World}(hF:FinP w2 n q ns x2 x3 x4 a1 n1 e1 a2 n2 e2 a3 n3 e3 Lm W'):I10 w2 g n cap G GM q ns x2 x3 x4 a1 n1 e1 a2 n2 e2 a3 n3 e3 Lm (listed.setIfInBounds 11 true) (a.put none undef) W':=by
 have e:(listed.setIfInBounds 11 true).getD 11 false=true:=by simp [h.sz]
 exact ⟨by simp [h.sz],h.d,h.s,h.e0,h.e4,h.e6,h.e7,fun f=>(by rw [e] at f;cases f),fun _=>⟨fun j hj=>by rw [getD_set_ne false (by omega)];exact hall j hj,hF⟩⟩
end
section
variable {cf:Array Value}{tc:TypeId}{ct:Array Value}{tt:TypeId}{base:Nat}{R:List Rg}{w W5 W W':World}{p:Option Addr}{k q:Nat}
end
theorem Blk.tg3 {w:World}{b:Nat}{t:TypeId}{v0 v1 v2:Value}(h:Blk w b #[v0,v1,v2] t):w.cell? ⟨b,0,none⟩=some v0∧w.cell? ⟨b,1,none⟩=some v1∧w.cell? ⟨b,2,none⟩=some v2:=⟨h.cell 0,h.cell 1,h.cell 2⟩
end Go.Proofs.YtngdgogjlpjjpaeGreat
