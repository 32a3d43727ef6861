import Derived.Test.YtngdgogjlpjjpadGreatP04
import Derived.Test.YtngdgogjlpjjpadGreatP22
import Derived.Test.YtngdgogjlpjjpadGreatP25
import Derived.Test.YtngdgogjlpjjpadGreatP28
namespace Go.Proofs.YtngdgogjlpjjpadGreat
open Go.RowKit Classical
set_option linter.unusedVariables false
set_option linter.unusedSimpArgs false
set_option maxRecDepth 100000
def plR (ps:List PMod) (L:Lay) (m b s:Int):List Rg:=(([]++rts true true false (cvL (plc ps m.toNat).data (plc ps m.toNat).size))++rts true true false (cvL L.stack (endOf L - L.stack))++rts false true false (cvL 131072 32))++rts false false true (cvL (orgq L (plc ps m.toNat) b s) (rnd (4 * pcq ps m b)))
theorem org_mono {w:World} {base base':Nat} {v:Value} {rs:List Rg} (h:ORg w base v rs) (hb:base'≤base):ORg w base' v rs:=by
 refine ⟨?_,h.2⟩
 obtain ⟨hl,h0 | ⟨g',cap,cur,hv,hg,hh,h1,h2,h3,h4⟩⟩:=h.1
 ·exact ⟨hl,.inl h0⟩
 ·exact ⟨hl,.inr ⟨g',cap,cur,hv,Nat.le_trans hb hg,hh,h1,h2,h3,h4⟩⟩
structure PlZ (V X:World) (v:Value) (rs:List Rg):Prop where
 b:Below V.heap.size V X
 o:ORg X V.heap.size v rs
theorem PlZ.below {V X X':World} {v:Value} {rs:List Rg} (h:PlZ V X v rs) (hb:Below X.heap.size X X'):PlZ V X' v rs:=⟨h.b.trans (hb.mono h.b.size),turn_or' (turn_below hb) h.o (fun _ _ h=>h)⟩
theorem PlZ.drew {V X:World} {v:Value} {rs:List Rg} (h:PlZ V X v rs):PlZ V X.drew v rs:=h.below (Below.refl _ _).drew
theorem PlZ.cells {V X:World} {v:Value} {rs:List Rg} (h:PlZ V X v rs) {a:Addr} {u:Value} (hc:V.cell? a=some u):X.cell? a=some u:=(h.b.cell (World.block_lt_of_cell? V _ hc)).trans hc
theorem l6With_z {V:World} (A:Option Addr) (m cap:Nat) (rs:List Rg) (f s:Int) (r x y:Bool) (X:World) (h:PlZ V X (.slice A m cap) rs) (hf:wfi f) (hs:wfi s) (hm:m≤1000000):
 Calls Tryz.prog 174 #[.slice A m cap,.int .i64 f,.int .i64 s,.bool r,.bool x,.bool y] X fun e w'=>∃ A' m' cap',e=.returned (.slice A' m' cap')∧m'≤m+8192∧PlZ V w' (.slice A' m' cap') (rs++rts r x y (cvL f s)):=
 (l6With_any A m cap rs f s r x y V.heap.size X h.b.size h.o hf hs hm).mono fun e w' ⟨A',m',cap',he,hm',ho,hb⟩=>⟨A',m',cap',he,by have:=cvL_len f s;omega,h.b.trans hb,ho⟩
theorem orgn_wfi {w:World} {L:Lay} {a0:Option Addr} {c0:Nat} {xs:List PB} {a2:Option Addr} {c2:Nat} {a5:Option Addr} {c5:Nat} {ts:List TB} {ps:List PMod} {m b s:Int}
 (hL:LyT w L a0 c0 xs a2 c2 a5 c5 ts) (hk:Lok ps L) (hp:0≤pcq ps m b) (hs:s=-1∨(b≠-1∧0≤s∧s<(L.slots.length:Int))):wfi (orgn L (xs.getD m.toNat zPB) b s):=by
 have Q:=pkn_of (s:=s) hL hk hp
 have K:=lok_kn hk
 have hm:=Q.m2
 have hm0:=Q.m0
 have hv:=K.v m.toNat (by omega)
 have n4:=K.n.2
 have r1:=Fl_range K.v m.toNat (by omega)
 have r2:=tsz_range hv
 have n5:(m.toNat:Int)≤4:=by omega
 unfold orgn
 rw [Q.p]
 by_cases c:b=-1
 ·rw [if_pos c]
  have e:(plc ps m.toNat).text=Fl ps m.toNat:=rfl
  rw [e]
  unfold wfi
  omega
 ·rw [if_neg c]
  by_cases c2:s=-1
  ·rw [if_pos c2]
   have hb:=Q.bb.resolve_left c
   rw [Q.p] at hb
   have hl:(plc ps m.toNat).banks.length=(ps.getD m.toNat zP).bl.length:=by simp [plc]
   have hbn:b.toNat<(ps.getD m.toNat zP).bl.length:=by rw [hl] at hb;omega
   have e:(plc ps m.toNat).banks.getD b.toNat 0=Fl ps m.toNat+tsz (ps.getD m.toNat zP)+fsum (ps.getD m.toNat zP) b.toNat:=by
    simp only [plc]
    rw [getD_map _ _ _ 0 _ (by rw [List.length_range];exact hbn),show (List.range (ps.getD m.toNat zP).bl.length).getD b.toNat 0=b.toNat by rw [List.getD_eq_getElem?_getD,List.getElem?_range hbn];rfl]
   have r3:=fsum_range hv b.toNat (by omega)
   obtain ⟨_,_,_,v4,_⟩:=vld_en hv
   rw [e]
   unfold wfi
   omega
  ·rw [if_neg c2]
   have h2:=hs.resolve_left c2
   exact hL.s.2.2.1 _ (getD_mem' (by omega))
set_option maxHeartbeats 4000000 in
theorem l6Plan_any (a:Option Addr) (n cap:Nat) (ms:List Md) (L:Lay) (a0:Option Addr) (c0:Nat) (xs:List PB) (a2:Option Addr) (c2:Nat) (a5:Option Addr) (c5:Nat) (ts:List TB) (m b at' s:Int) (w:World) (h:MSD w a n cap ms) (hL:LyT w L a0 c0 xs a2 c2 a5 c5 ts)
 (hk:Lok (pmS ms) L) (hp:0≤pcq (pmS ms) m b) (hs:s=-1∨(b≠-1∧0≤s∧s<(L.slots.length:Int))):
 Calls Tryz.prog 110 #[.slice a n cap,.agg #[.slice a0 xs.length c0,.int .i64 L.stack,.slice a2 L.slots.length c2,.int .i64 L.flash,.int .i64 L.ram,.slice a5 ts.length c5],.agg #[.int .i64 m,.int .i64 b,.int .i64 at'],.int .i64 s] w fun e w'=>∃ A k c,e=.returned (.slice A k c)∧ORg w' w.heap.size (.slice A k c) (plR (pmS ms) L m b s)∧Below w.heap.size w w':=by
 have K:=pkn_of (s:=s) hL hk hp
 have hn:=h.s.1
 have hlen:=pmS_len ms
 obtain ⟨m0,m1,m2,hpl,hbb,hw,hd,hst,hen⟩:=K
 have hwfo:wfi (orgn L (xs.getD m.toNat zPB) b s):=orgn_wfi hL hk hp hs
 have HPQ:=hide (pcm_pcq h m b)
 obtain ⟨W,hW⟩:∃ W,W=(w.alloc (.cells #[.slice a0 xs.length c0,.int .i64 L.stack,.slice a2 L.slots.length c2,.int .i64 L.flash,.int .i64 L.ram,.slice a5 ts.length c5] 32)).alloc (.cells #[.int .i64 m,.int .i64 b,.int .i64 at'] 72):=⟨_,rfl⟩
 have hB:Below w.heap.size w W:=by rw [hW];exact ((Below.refl _ _).alloc (Nat.le_refl _) _).alloc (by simp) _
 have k0:Blk W w.heap.size #[.slice a0 xs.length c0,.int .i64 L.stack,.slice a2 L.slots.length c2,.int .i64 L.flash,.int .i64 L.ram,.slice a5 ts.length c5] 32:=by rw [hW];exact (Blk.new w _ _).alloc _
 have k1:Blk W (w.heap.size+1) #[.int .i64 m,.int .i64 b,.int .i64 at'] 72:=by rw [hW];have:=Blk.new (w.alloc (.cells #[.slice a0 xs.length c0,.int .i64 L.stack,.slice a2 L.slots.length c2,.int .i64 L.flash,.int .i64 L.ram,.slice a5 ts.length c5] 32)) #[.int .i64 m,.int .i64 b,.int .i64 at'] 72;simpa using this
 have h1:=h.below hB
 have hL1:=hL.below hB
 obtain ⟨gp,op,rfl,q0,q1,q2,q3⟩:=hL1.p.at m.toNat (by omega)
 unfold svP at q1
 have hpx:=hL1.p.2.1
 unfold maxLen at hpx
 have d0:W.cell? ⟨w.heap.size,0,none⟩=some (.slice (some ⟨gp,op,none⟩) xs.length c0):=k0.cell 0
 have t0:W.cell? ⟨w.heap.size+1,0,none⟩=some (.int .i64 m):=k1.cell 0
 obtain ⟨P,hP⟩:∃ P,P=xs.getD m.toNat zPB:=⟨_,rfl⟩
 rw [← hP] at q0 q1 q2 q3 hpl hbb hwfo
 rw [← hpl] at hd
 obtain ⟨⟨tx,bk,dt,sz⟩,pa,pc⟩:=P
 dsimp only at q0 q1 q2 q3 hpl hbb hd
 have HP:=hide hP
 obtain ⟨hd1,hd2,hd3,hd4⟩:=hd
 obtain ⟨st1,st2⟩:=hst
 obtain ⟨en1,en2⟩:=hen
 obtain ⟨q,hq⟩:∃ q,q=pcq (pmS ms) m b:=⟨_,rfl⟩
 have HQ:=hide hq
 have HRS:=hide (show plR (pmS ms) L m b s=(([]++rts true true false (cvL dt sz))++rts true true false (cvL L.stack (endOf L - L.stack))++rts false true false (cvL 131072 32))++rts false false true (cvL (orgn L ((⟨tx,bk,dt,sz⟩,pa,pc):PB) b s) (rnd (4 * q))) from by
  unfold plR
  rw [← hpl,hq]
  rfl)
 rw [HRS.out]
 rw [← hq] at hw hp
 clear HRS
 obtain ⟨V,hV⟩:∃ V,V=W.alloc (.cells #[.int .i64 tx,.slice pa bk.length pc,.int .i64 dt,.int .i64 sz] 43):=⟨_,rfl⟩
 have bV:Below W.heap.size W V:=by rw [hV];exact (Below.refl _ _).alloc (Nat.le_refl _) _
 have kV:Blk V W.heap.size #[.int .i64 tx,.slice pa bk.length pc,.int .i64 dt,.int .i64 sz] 43:=by rw [hV];exact Blk.new _ _ _
 have k0':=k0.below bV
 have k1':=k1.below bV
 have HBV:=hide (hB.trans (bV.mono hB.size))
 have h2:=h1.below bV
 have hL2:=hL1.below bV
 have HW:=hide hW
 have HV:=hide hV
 have HM:=hide h2
 have HL2:=hide hL2
 have HK0:=hide (And.intro k0' (And.intro k1' kV))
 clear hW hV k0 k1 h h1 hL hL1 hB bV k0' k1' kV hP hpl hq
 go_enter Tryz.func110,Tryz.ntmps110
 go_wp2_with (first | rw [← HW.out] | rw [← HV.out])
 obtain ⟨gm,om,rfl,v0,v1,v2,v3,v4,v5,v6,v7⟩:=HM.out.s.at m.toNat (by omega)
 have hmt:=HM.out.s.2.2.2.1 m.toNat (by omega)
 have hqn:pcn (ms.getD m.toNat zMd).tn (ms.getD m.toNat zMd).bn (ms.getD m.toNat zMd).bl b=q:=by
  rw [HQ.out,← HPQ.out];unfold pcm;rw [if_pos (by omega)]
 generalize ms.getD m.toNat zMd=M at *
 have HPC:=hide (show ∀ X,Below V.heap.size V X→Calls Tryz.prog 173 #[.agg #[.string M.nm,.slice M.ta M.tn M.tc,.slice M.ba M.bn M.bc,.slice M.da M.dn M.dc,.int .i64 M.bss,.slice M.ra M.rn M.rc,.slice M.ia M.im M.ic,.slice M.ea M.en M.ec],.int .i64 b] X (fun e w'=>∃ xa xn xc,e=.returned (.tuple #[.slice xa xn xc,.bool true])∧(xn:Int)=q∧Below V.heap.size V w') from fun X hX=>
  (l4Piece_any M.nm M.ta M.tn M.tc M.ba M.bn M.bc M.bl (.slice M.da M.dn M.dc) (.slice M.ra M.rn M.rc) (.slice M.ia M.im M.ic) (.slice M.ea M.en M.ec) M.bss b X hmt.t.2.1 (hmt.b.below hX)).mono fun e w' ⟨xa,xn,xc,ok,he,ho,hx,_,hb⟩=>by
    have ho':ok=true:=by rw [ho,hqn];simp;omega
    exact ⟨xa,xn,xc,by rw [he,ho'],by rw [hx ho',hqn],hX.trans (hb.mono hX.size)⟩)
 obtain ⟨x0,x1,x2,x3,x4,x5⟩:=HK0.out.1.ly6
 have y0:V.cell? ⟨w.heap.size+1,0,none⟩=some (.int .i64 m):=HK0.out.2.1.cell 0
 have y1:V.cell? ⟨w.heap.size+1,1,none⟩=some (.int .i64 b):=HK0.out.2.1.cell 1
 have hmx:=HM.out.s.2.1
 unfold maxLen at hmx
 have hmn:m<(n:Int):=by omega
 clear q0 q1 q2 q3 d0 t0 hmt hqn hlen hn
 go_region_held3 (fun w'=>w'.cell? ⟨w.heap.size+1,0,none⟩=some (.int .i64 m)∧w'.cell? ⟨w.heap.size+1,1,none⟩=some (.int .i64 b)∧w'.cell? ⟨gm,om+m.toNat * 8,none⟩=some (.string M.nm)∧w'.cell? ⟨gm,om+m.toNat * 8+1,none⟩=some (.slice M.ta M.tn M.tc)∧w'.cell? ⟨gm,om+m.toNat * 8+2,none⟩=some (.slice M.ba M.bn M.bc)∧w'.cell? ⟨gm,om+m.toNat * 8+3,none⟩=some (.slice M.da M.dn M.dc)∧w'.cell? ⟨gm,om+m.toNat * 8+4,none⟩=some (.int .i64 M.bss)∧w'.cell? ⟨gm,om+m.toNat * 8+5,none⟩=some (.slice M.ra M.rn M.rc)∧w'.cell? ⟨gm,om+m.toNat * 8+6,none⟩=some (.slice M.ia M.im M.ic)∧w'.cell? ⟨gm,om+m.toNat * 8+7,none⟩=some (.slice M.ea M.en M.ec)) (go_keep)
  (first
    | (go_at_call 173;first
        | with_reducible refine (HPC.out _ (Below.refl _ _)).mono ?_
        | with_reducible refine (HPC.out _ (Below.refl _ _).drew).mono ?_
       rintro e w1 ⟨xa,xn,xc,rfl,hxn,hb1⟩
       have HB1:=hide hb1
       have HXN:=hide hxn
       have C1:=(HK0.out.2.1.below hb1).cell 0
       have C2:=(HK0.out.2.1.below hb1).cell 1
       have u0:=cell_below hb1 v0
       have u1:=cell_below hb1 v1
       have u2:=cell_below hb1 v2
       have u3:=cell_below hb1 v3
       have u4:=cell_below hb1 v4
       have u5:=cell_below hb1 v5
       have u6:=cell_below hb1 v6
       have u7:=cell_below hb1 v7
       clear hb1 hxn))
 have HKX:=hide (show ∀ X v rs,PlZ V X v rs→X.cell? ⟨W.heap.size,2,none⟩=some (.int .i64 dt)∧X.cell? ⟨W.heap.size,3,none⟩=some (.int .i64 sz)∧(X.cell? ⟨w.heap.size,0,none⟩=some (.slice (some ⟨gp,op,none⟩) xs.length c0)∧X.cell? ⟨w.heap.size,1,none⟩=some (.int .i64 L.stack)∧X.cell? ⟨w.heap.size,2,none⟩=some (.slice a2 L.slots.length c2)∧X.cell? ⟨w.heap.size,3,none⟩=some (.int .i64 L.flash)∧X.cell? ⟨w.heap.size,4,none⟩=some (.int .i64 L.ram)∧X.cell? ⟨w.heap.size,5,none⟩=some (.slice a5 ts.length c5))∧X.cell? ⟨w.heap.size+1,0,none⟩=some (.int .i64 m)∧X.cell? ⟨w.heap.size+1,1,none⟩=some (.int .i64 b)∧X.cell? ⟨w.heap.size+1,2,none⟩=some (.int .i64 at') from fun X v rs hz=>
  ⟨(HK0.out.2.2.below hz.b).cell 2,(HK0.out.2.2.below hz.b).cell 3,(HK0.out.1.below hz.b).ly6,(HK0.out.2.1.below hz.b).cell 0,(HK0.out.2.1.below hz.b).cell 1,(HK0.out.2.1.below hz.b).cell 2⟩)
 have HEN:=hide (show ∀ X v rs,PlZ V X v rs→Calls Tryz.prog 117 #[.agg #[.slice (some ⟨gp,op,none⟩) xs.length c0,.int .i64 L.stack,.slice a2 L.slots.length c2,.int .i64 L.flash,.int .i64 L.ram,.slice a5 ts.length c5]] X (fun e w'=>e=.returned (.int .i64 (endOf L))∧PlZ V w' v rs) from fun X v rs hz=>(l5Ends_any L (some ⟨gp,op,none⟩) c0 xs a2 c2 a5 c5 ts X (HL2.out.below hz.b)).mono fun e w' he=>⟨he.1,hz.below he.2⟩)
 have HOR:=hide (show ∀ X v rs,PlZ V X v rs→Calls Tryz.prog 116 #[.agg #[.slice (some ⟨gp,op,none⟩) xs.length c0,.int .i64 L.stack,.slice a2 L.slots.length c2,.int .i64 L.flash,.int .i64 L.ram,.slice a5 ts.length c5],.agg #[.int .i64 m,.int .i64 b,.int .i64 at'],.int .i64 s] X (fun e w'=>e=.returned (.int .i64 (orgn L ((⟨tx,bk,dt,sz⟩,pa,pc):PB) b s))∧PlZ V w' v rs) from fun X v rs hz=>(l6Origin_any L (some ⟨gp,op,none⟩) c0 xs a2 c2 a5 c5 ts m b at' s X (HL2.out.below hz.b) m0 m1 (by rw [← HP.out];exact hbb) hs).mono fun e w' he=>⟨by rw [HP.out];exact he.1,hz.below he.2⟩)
 generalize hog:orgn L ((⟨tx,bk,dt,sz⟩,pa,pc):PB) b s=og at *
 generalize hE:endOf L=E at *
 have HOG:=hide hog
 have HE:=hide hE
 clear hog hE
 have Z0:=hide (show PlZ V (w1.alloc (.cells #[] 135)) (.slice (some ⟨w1.heap.size,0,none⟩) 0 0) [] from ⟨HB1.out.alloc HB1.out.size _,or_empty w1 V.heap.size HB1.out.size⟩)
 obtain ⟨X1,hX1⟩:∃ X1,X1=w1.alloc (.cells #[] 135):=⟨_,rfl⟩
 rw [← hX1] at Z0
 have HX1:=hide hX1
 clear hX1 u0 u1 u2 u3 u4 u5 u6 u7 C1 C2 v0 v1 v2 v3 v4 v5 v6 v7 x0 x1 x2 x3 x4 x5 y0 y1 HPC hbb hs hk
 obtain ⟨z2,z3,⟨z4,z5,z6,z7,z8,z9⟩,z10,z11,z12⟩:=HKX.out _ _ _ Z0.out
 have HW1:=hide (l6With_z _ _ _ [] dt sz true true false X1 Z0.out (by unfold wfi;omega) (by unfold wfi;omega) (by omega))
 go_wp2_with (rw [← HX1.out])
 refine HW1.out.mono ?_
 rintro e X2 ⟨A1,k1,p1,rfl,hk1,hz⟩
 have Z1:=hide hz
 clear hz z2 z3 z4 z5 z6 z7 z8 z9 z10 z11 z12 Z0 HW1 HX1
 obtain ⟨z2,z3,⟨z4,z5,z6,z7,z8,z9⟩,z10,z11,z12⟩:=HKX.out _ _ _ Z1.out
 have HWR:=hide (show IntKind.i64.wrap (E - L.stack)=E - L.stack from cv_wrap (by omega) (by omega))
 have HW2:=hide (show ∀ X,PlZ V X (.slice A1 k1 p1) ([]++rts true true false (cvL dt sz))→Calls Tryz.prog 174 #[.slice A1 k1 p1,.int .i64 L.stack,.int .i64 (IntKind.i64.wrap (E - L.stack)),.bool true,.bool true,.bool false] X fun e w'=>∃ A' m' cap',e=.returned (.slice A' m' cap')∧m'≤k1+8192∧PlZ V w' (.slice A' m' cap') (([]++rts true true false (cvL dt sz))++rts true true false (cvL L.stack (E - L.stack))) from fun X hX=>by rw [HWR.out];exact l6With_z A1 k1 p1 ([]++rts true true false (cvL dt sz)) L.stack (E - L.stack) true true false X hX (by unfold wfi;omega) (by unfold wfi;omega) (by omega))
 go_wp2_with fail
 go_region_held3 (fun w'=>w'.cell? ⟨w.heap.size,0,none⟩=some (.slice (some ⟨gp,op,none⟩) xs.length c0)∧w'.cell? ⟨w.heap.size,1,none⟩=some (.int .i64 L.stack)∧w'.cell? ⟨w.heap.size,2,none⟩=some (.slice a2 L.slots.length c2)∧w'.cell? ⟨w.heap.size,3,none⟩=some (.int .i64 L.flash)∧w'.cell? ⟨w.heap.size,4,none⟩=some (.int .i64 L.ram)∧w'.cell? ⟨w.heap.size,5,none⟩=some (.slice a5 ts.length c5)) (go_keep)
  (first
    | (go_at_call 117;first
        | with_reducible refine (HEN.out _ _ _ Z1.out).mono ?_
        | with_reducible refine (HEN.out _ _ _ Z1.out.drew).mono ?_
       rintro e w3 ⟨rfl,hz3⟩
       have Z3:=hide hz3
       clear hz3
       obtain ⟨z2,z3,⟨z4,z5,z6,z7,z8,z9⟩,z10,z11,z12⟩:=HKX.out _ _ _ Z3.out)
    | (go_at_call 174;first
        | with_reducible refine (HW2.out _ Z3.out).mono ?_
        | with_reducible refine (HW2.out _ Z3.out.drew).mono ?_
       rintro e X3 ⟨A2,k2,p2,rfl,hk2,hz⟩
       have Z2:=hide hz
       clear hz
       obtain ⟨z2,z3,⟨z4,z5,z6,z7,z8,z9⟩,z10,z11,z12⟩:=HKX.out _ _ _ Z2.out))
 clear HW2 Z1 Z3
 have HW3:=hide (l6With_z A2 k2 p2 (([]++rts true true false (cvL dt sz))++rts true true false (cvL L.stack (E - L.stack))) 131072 32 false true false X3 Z2.out (by unfold wfi;omega) (by unfold wfi;omega) (by omega))
 go_wp2_with fail
 refine HW3.out.mono ?_
 rintro e X4 ⟨A3,k3,p3,rfl,hk3,hz⟩
 have Z4:=hide hz
 clear hz Z2 HW3 z2 z3 z4 z5 z6 z7 z8 z9 z10 z11 z12
 obtain ⟨z2,z3,⟨z4,z5,z6,z7,z8,z9⟩,z10,z11,z12⟩:=HKX.out _ _ _ Z4.out
 have hx2:(xn:Int)≤200:=by rw [HXN.out];exact hw.2
 have HRD:=hide (fun (X:World)=>l5Round_any (4 * (xn:Int)) X (by omega) (by omega))
 go_wp2_with fail
 refine (HOR.out _ _ _ Z4.out).mono ?_
 rintro e X5 ⟨rfl,hz⟩
 have Z5:=hide hz
 clear hz Z4
 go_wp2_with fail
 refine (HRD.out _).mono ?_
 rintro e X6 ⟨rfl,rfl⟩
 have hrd:=rnd_range (x:=4 * (xn:Int)) (by omega)
 have HW4:=hide (l6With_z A3 k3 p3 ((([]++rts true true false (cvL dt sz))++rts true true false (cvL L.stack (E - L.stack)))++rts false true false (cvL 131072 32)) og (rnd (4 * (xn:Int))) false false true _ Z5.out hwfo (by unfold wfi;omega) (by omega))
 have HRR:=hide (show rnd (4 * q)=rnd (4 * (xn:Int)) by rw [HXN.out])
 generalize rnd (4 * (xn:Int))=rr at *
 go_wp2_with fail
 refine HW4.out.mono ?_
 rintro e X7 ⟨A4,k4,p4,rfl,hk4,hz⟩
 have Z7:=hide hz
 clear hz
 go_wp2
 go_ret
 exact ⟨A4,k4,p4,rfl,by have e:=HRR.out;have e2:=HE.out;have e3:=HOG.out;rw [e,e2,e3];exact org_mono Z7.out.o HBV.out.size,HBV.out.trans (Z7.out.b.mono HBV.out.size)⟩
end Go.Proofs.YtngdgogjlpjjpadGreat
