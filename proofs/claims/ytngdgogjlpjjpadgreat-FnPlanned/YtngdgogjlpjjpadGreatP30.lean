import Derived.Test.YtngdgogjlpjjpadGreatP19
import Derived.Test.YtngdgogjlpjjpadGreatP25
import Derived.Test.YtngdgogjlpjjpadGreatP29
namespace Go.Proofs.YtngdgogjlpjjpadGreat
open Go.RowKit Classical
set_option linter.unusedVariables false
set_option linter.unusedSimpArgs false
set_option maxRecDepth 100000
def PoPost (w:World) (R:List Rg) (e:Ending) (w':World):Prop:=
 ∃ A k c,e=.returned (.tuple #[.slice A k c,.bool (decide (R.length≤8))])∧ORg w' w.heap.size (.slice A k c) (if R.length≤8 then R else [])∧Below w.heap.size w w'
theorem po_ok {w V X:World} {A:Option Addr} {k c:Nat} {R:List Rg} (hV:Below w.heap.size w V) (h:k=R.length∧ORg X V.heap.size (.slice A k c) R∧Below V.heap.size V X) (h8:k≤8):PoPost w R (.returned (.tuple #[.slice A k c,.bool true])) X:=by
 have e:R.length≤8:=by omega
 refine ⟨A,k,c,by rw [decide_eq_true e],by rw [if_pos e];exact org_mono h.2.1 hV.size,hV.trans (h.2.2.mono hV.size)⟩
theorem po_no {w V X:World} {A:Option Addr} {k c:Nat} {R:List Rg} (hV:Below w.heap.size w V) (h:k=R.length∧ORg X V.heap.size (.slice A k c) R∧Below V.heap.size V X) (h8:¬ k≤8):PoPost w R (.returned (.tuple #[.slice none 0 0,.bool false])) X:=by
 have e:¬ R.length≤8:=by omega
 refine ⟨none,0,0,by rw [decide_eq_false e],by rw [if_neg e];exact org_nil _ _,hV.trans (h.2.2.mono hV.size)⟩
set_option maxHeartbeats 4000000 in
theorem planOf_any (a:Option Addr) (n cap:Nat) (ms:List Md) (L:Lay) (a0:Option Addr) (c0:Nat) (xs:List PB) (a2:Option Addr) (c2:Nat) (a5:Option Addr) (c5:Nat) (ts:List TB) (m b at' s:Int) (w:World) (h:MSD w a n cap ms) (hL:LyT w L a0 c0 xs a2 c2 a5 c5 ts)
 (hk:Lok (pmS ms) L) (hp:0≤pcq (pmS ms) m b) (hs:s=-1∨(b≠-1∧0≤s∧s<(L.slots.length:Int))):
 Calls Tryz.prog 114 #[.slice a n cap,.agg #[.slice a0 xs.length c0,.int .i64 L.stack,.slice a2 L.slots.length c2,.int .i64 L.flash,.int .i64 L.ram,.slice a5 ts.length c5],.agg #[.int .i64 m,.int .i64 b,.int .i64 at'],.int .i64 s] w (PoPost w (plR (pmS ms) L m b s)):=by
 have K:=pkn_of (s:=s) hL hk hp
 have hn:=h.s.1
 have hlen:=pmS_len ms
 obtain ⟨m0,m1,m2,hpl,hbb,hw,hd,hst,hen⟩:=K
 have hwfo:wfi (orgn L (xs.getD m.toNat zPB) b s):=orgn_wfi hL hk hp hs
 have HPQ:=hide (pcm_pcq h m b)
 obtain ⟨W,hW⟩:∃ W,W=(w.alloc (.cells #[.slice a0 xs.length c0,.int .i64 L.stack,.slice a2 L.slots.length c2,.int .i64 L.flash,.int .i64 L.ram,.slice a5 ts.length c5] 32)).alloc (.cells #[.int .i64 m,.int .i64 b,.int .i64 at'] 72):=⟨_,rfl⟩
 have hB:Below w.heap.size w W:=by rw [hW];exact ((Below.refl _ _).alloc (Nat.le_refl _) _).alloc (by simp) _
 have k0:Blk W w.heap.size #[.slice a0 xs.length c0,.int .i64 L.stack,.slice a2 L.slots.length c2,.int .i64 L.flash,.int .i64 L.ram,.slice a5 ts.length c5] 32:=by rw [hW];exact (Blk.new w _ _).alloc _
 have k1:Blk W (w.heap.size+1) #[.int .i64 m,.int .i64 b,.int .i64 at'] 72:=by rw [hW];have:=Blk.new (w.alloc (.cells #[.slice a0 xs.length c0,.int .i64 L.stack,.slice a2 L.slots.length c2,.int .i64 L.flash,.int .i64 L.ram,.slice a5 ts.length c5] 32)) #[.int .i64 m,.int .i64 b,.int .i64 at'] 72;simpa using this
 have h1:=h.below hB
 have hL1:=hL.below hB
 obtain ⟨gp,op,rfl,q0,q1,q2,q3⟩:=hL1.p.at m.toNat (by omega)
 unfold svP at q1
 have hpx:=hL1.p.2.1
 unfold maxLen at hpx
 have d0:W.cell? ⟨w.heap.size,0,none⟩=some (.slice (some ⟨gp,op,none⟩) xs.length c0):=k0.cell 0
 have t0:W.cell? ⟨w.heap.size+1,0,none⟩=some (.int .i64 m):=k1.cell 0
 obtain ⟨P,hP⟩:∃ P,P=xs.getD m.toNat zPB:=⟨_,rfl⟩
 rw [← hP] at q0 q1 q2 q3 hpl hbb hwfo
 rw [← hpl] at hd
 obtain ⟨⟨tx,bk,dt,sz⟩,pa,pc⟩:=P
 dsimp only at q0 q1 q2 q3 hpl hbb hd
 have HP:=hide hP
 obtain ⟨hd1,hd2,hd3,hd4⟩:=hd
 obtain ⟨st1,st2⟩:=hst
 obtain ⟨en1,en2⟩:=hen
 obtain ⟨q,hq⟩:∃ q,q=pcq (pmS ms) m b:=⟨_,rfl⟩
 have HQ:=hide hq
 have HRS:=hide (show plR (pmS ms) L m b s=(([]++rts true true false (cvL dt sz))++rts true true false (cvL L.stack (endOf L - L.stack))++rts false true false (cvL 131072 32))++rts false false true (cvL (orgn L ((⟨tx,bk,dt,sz⟩,pa,pc):PB) b s) (rnd (4 * q))) from by
  unfold plR
  rw [← hpl,hq]
  rfl)
 rw [HRS.out]
 rw [← hq] at hw hp
 clear HRS
 obtain ⟨V,hV⟩:∃ V,V=W.alloc (.cells #[.int .i64 tx,.slice pa bk.length pc,.int .i64 dt,.int .i64 sz] 43):=⟨_,rfl⟩
 have bV:Below W.heap.size W V:=by rw [hV];exact (Below.refl _ _).alloc (Nat.le_refl _) _
 have kV:Blk V W.heap.size #[.int .i64 tx,.slice pa bk.length pc,.int .i64 dt,.int .i64 sz] 43:=by rw [hV];exact Blk.new _ _ _
 have k0':=k0.below bV
 have k1':=k1.below bV
 have HBV:=hide (hB.trans (bV.mono hB.size))
 have h2:=h1.below bV
 have hL2:=hL1.below bV
 have HW:=hide hW
 have HV:=hide hV
 have HM:=hide h2
 have HL2:=hide hL2
 have HK0:=hide (And.intro k0' (And.intro k1' kV))
 clear hW hV k0 k1 h h1 hL hL1 hB bV k0' k1' kV hP hpl hq
 go_enter Tryz.func114,Tryz.ntmps114
 go_wp2_with (first | rw [← HW.out] | rw [← HV.out])
 obtain ⟨gm,om,rfl,v0,v1,v2,v3,v4,v5,v6,v7⟩:=HM.out.s.at m.toNat (by omega)
 have hmt:=HM.out.s.2.2.2.1 m.toNat (by omega)
 have hqn:pcn (ms.getD m.toNat zMd).tn (ms.getD m.toNat zMd).bn (ms.getD m.toNat zMd).bl b=q:=by
  rw [HQ.out,← HPQ.out];unfold pcm;rw [if_pos (by omega)]
 generalize ms.getD m.toNat zMd=M at *
 have HPC:=hide (show ∀ X,Below V.heap.size V X→Calls Tryz.prog 175 #[.agg #[.string M.nm,.slice M.ta M.tn M.tc,.slice M.ba M.bn M.bc,.slice M.da M.dn M.dc,.int .i64 M.bss,.slice M.ra M.rn M.rc,.slice M.ia M.im M.ic,.slice M.ea M.en M.ec],.int .i64 b] X (fun e w'=>∃ xa xn xc,e=.returned (.tuple #[.slice xa xn xc,.bool true])∧(xn:Int)=q∧Below V.heap.size V w') from fun X hX=>
  (pieceOf_any M.nm M.ta M.tn M.tc M.ba M.bn M.bc M.bl (.slice M.da M.dn M.dc) (.slice M.ra M.rn M.rc) (.slice M.ia M.im M.ic) (.slice M.ea M.en M.ec) M.bss b X hmt.t.2.1 (hmt.b.below hX)).mono fun e w' ⟨xa,xn,xc,ok,he,ho,hx,_,hb⟩=>by
    have ho':ok=true:=by rw [ho,hqn];simp;omega
    exact ⟨xa,xn,xc,by rw [he,ho'],by rw [hx ho',hqn],hX.trans (hb.mono hX.size)⟩)
 obtain ⟨x0,x1,x2,x3,x4,x5⟩:=HK0.out.1.ly6
 have y0:V.cell? ⟨w.heap.size+1,0,none⟩=some (.int .i64 m):=HK0.out.2.1.cell 0
 have y1:V.cell? ⟨w.heap.size+1,1,none⟩=some (.int .i64 b):=HK0.out.2.1.cell 1
 have hmx:=HM.out.s.2.1
 unfold maxLen at hmx
 have hmn:m<(n:Int):=by omega
 clear q0 q1 q2 q3 d0 t0 hmt hqn hlen hn
 go_region_held3 (fun w'=>w'.cell? ⟨w.heap.size+1,0,none⟩=some (.int .i64 m)∧w'.cell? ⟨w.heap.size+1,1,none⟩=some (.int .i64 b)∧w'.cell? ⟨gm,om+m.toNat * 8,none⟩=some (.string M.nm)∧w'.cell? ⟨gm,om+m.toNat * 8+1,none⟩=some (.slice M.ta M.tn M.tc)∧w'.cell? ⟨gm,om+m.toNat * 8+2,none⟩=some (.slice M.ba M.bn M.bc)∧w'.cell? ⟨gm,om+m.toNat * 8+3,none⟩=some (.slice M.da M.dn M.dc)∧w'.cell? ⟨gm,om+m.toNat * 8+4,none⟩=some (.int .i64 M.bss)∧w'.cell? ⟨gm,om+m.toNat * 8+5,none⟩=some (.slice M.ra M.rn M.rc)∧w'.cell? ⟨gm,om+m.toNat * 8+6,none⟩=some (.slice M.ia M.im M.ic)∧w'.cell? ⟨gm,om+m.toNat * 8+7,none⟩=some (.slice M.ea M.en M.ec)) (go_keep)
  (first
    | (go_at_call 175;first
        | with_reducible refine (HPC.out _ (Below.refl _ _)).mono ?_
        | with_reducible refine (HPC.out _ (Below.refl _ _).drew).mono ?_
       rintro e w1 ⟨xa,xn,xc,rfl,hxn,hb1⟩
       have HB1:=hide hb1
       have HXN:=hide hxn
       have C1:=(HK0.out.2.1.below hb1).cell 0
       have C2:=(HK0.out.2.1.below hb1).cell 1
       have u0:=cell_below hb1 v0
       have u1:=cell_below hb1 v1
       have u2:=cell_below hb1 v2
       have u3:=cell_below hb1 v3
       have u4:=cell_below hb1 v4
       have u5:=cell_below hb1 v5
       have u6:=cell_below hb1 v6
       have u7:=cell_below hb1 v7
       clear hb1 hxn))
 have HKX:=hide (show ∀ X,Below V.heap.size V X→X.cell? ⟨W.heap.size,2,none⟩=some (.int .i64 dt)∧X.cell? ⟨W.heap.size,3,none⟩=some (.int .i64 sz)∧(X.cell? ⟨w.heap.size,0,none⟩=some (.slice (some ⟨gp,op,none⟩) xs.length c0)∧X.cell? ⟨w.heap.size,1,none⟩=some (.int .i64 L.stack)∧X.cell? ⟨w.heap.size,2,none⟩=some (.slice a2 L.slots.length c2)∧X.cell? ⟨w.heap.size,3,none⟩=some (.int .i64 L.flash)∧X.cell? ⟨w.heap.size,4,none⟩=some (.int .i64 L.ram)∧X.cell? ⟨w.heap.size,5,none⟩=some (.slice a5 ts.length c5))∧X.cell? ⟨w.heap.size+1,0,none⟩=some (.int .i64 m)∧X.cell? ⟨w.heap.size+1,1,none⟩=some (.int .i64 b)∧X.cell? ⟨w.heap.size+1,2,none⟩=some (.int .i64 at') from fun X hz=>
  ⟨(HK0.out.2.2.below hz).cell 2,(HK0.out.2.2.below hz).cell 3,(HK0.out.1.below hz).ly6,(HK0.out.2.1.below hz).cell 0,(HK0.out.2.1.below hz).cell 1,(HK0.out.2.1.below hz).cell 2⟩)
 have HSE:=hide (show ∀ X,Below V.heap.size V X→Calls Tryz.prog 178 #[.agg #[.slice (some ⟨gp,op,none⟩) xs.length c0,.int .i64 L.stack,.slice a2 L.slots.length c2,.int .i64 L.flash,.int .i64 L.ram,.slice a5 ts.length c5]] X (fun e w'=>e=.returned (.int .i64 (endOf L))∧Below V.heap.size V w') from fun X hz=>(stackEnd_any L (some ⟨gp,op,none⟩) c0 xs a2 c2 a5 c5 ts X (HL2.out.below hz)).mono fun e w' he=>⟨he.1,hz.trans (he.2.mono hz.size)⟩)
 have HOR:=hide (show ∀ X,Below V.heap.size V X→Calls Tryz.prog 179 #[.agg #[.slice (some ⟨gp,op,none⟩) xs.length c0,.int .i64 L.stack,.slice a2 L.slots.length c2,.int .i64 L.flash,.int .i64 L.ram,.slice a5 ts.length c5],.agg #[.int .i64 m,.int .i64 b,.int .i64 at'],.int .i64 s] X (fun e w'=>e=.returned (.int .i64 (orgn L ((⟨tx,bk,dt,sz⟩,pa,pc):PB) b s))∧Below V.heap.size V w') from fun X hz=>(originOf_any L (some ⟨gp,op,none⟩) c0 xs a2 c2 a5 c5 ts m b at' s X (HL2.out.below hz) m0 m1 (by rw [← HP.out];exact hbb) hs).mono fun e w' he=>⟨by rw [HP.out];exact he.1,hz.trans (he.2.mono hz.size)⟩)
 have hx2:(xn:Int)≤200:=by rw [HXN.out];exact hw.2
 have HWB:=hide (fun (X:World)=>wordBytes_any xa xn xc X (by omega))
 have hrd:=rnd_range (x:=4 * (xn:Int)) (by omega)
 have HRR:=hide (show rnd (4 * q)=rnd (4 * (xn:Int)) by rw [HXN.out])
 generalize hog:orgn L ((⟨tx,bk,dt,sz⟩,pa,pc):PB) b s=og at *
 generalize hE:endOf L=E at *
 generalize rnd (4 * (xn:Int))=rr at *
 have HOG:=hide hog
 have HE:=hide hE
 have HWR:=hide (show IntKind.i64.wrap (E - L.stack)=E - L.stack from cv_wrap (by omega) (by omega))
 have HJ:=hide (show ∀ X,Below V.heap.size V X→Calls Tryz.prog 177 #[.slice (some ⟨X.heap.size,0,none⟩) 4 4] (X.alloc (.cells #[.int .i64 dt,.int .i64 sz,.bool true,.bool true,.bool false,.int .i64 L.stack,.int .i64 (IntKind.i64.wrap (E - L.stack)),.bool true,.bool true,.bool false,.int .i64 131072,.int .i64 32,.bool false,.bool true,.bool false,.int .i64 og,.int .i64 rr,.bool false,.bool false,.bool true] 216)) (fun e w'=>∃ A k c,e=.returned (.slice A k c)∧k=((([]++rts true true false (cvL dt sz))++rts true true false (cvL L.stack (E - L.stack))++rts false true false (cvL 131072 32))++rts false false true (cvL og rr)).length∧ORg w' V.heap.size (.slice A k c) ((([]++rts true true false (cvL dt sz))++rts true true false (cvL L.stack (E - L.stack))++rts false true false (cvL 131072 32))++rts false false true (cvL og rr))∧Below V.heap.size V w') from fun X hX=>by
  have KB:=Blk.new X #[.int .i64 dt,.int .i64 sz,.bool true,.bool true,.bool false,.int .i64 L.stack,.int .i64 (IntKind.i64.wrap (E - L.stack)),.bool true,.bool true,.bool false,.int .i64 131072,.int .i64 32,.bool false,.bool true,.bool false,.int .i64 og,.int .i64 rr,.bool false,.bool false,.bool true] 216
  have BX:Below V.heap.size V (X.alloc (.cells #[.int .i64 dt,.int .i64 sz,.bool true,.bool true,.bool false,.int .i64 L.stack,.int .i64 (IntKind.i64.wrap (E - L.stack)),.bool true,.bool true,.bool false,.int .i64 131072,.int .i64 32,.bool false,.bool true,.bool false,.int .i64 og,.int .i64 rr,.bool false,.bool false,.bool true] 216)):=hX.alloc hX.size _
  rw [HWR.out] at KB BX ⊢
  refine (joined_any X.heap.size 0 4 4 [(dt,sz,true,true,false),(L.stack,E - L.stack,true,true,false),(131072,32,false,true,false),(og,rr,false,false,true)] _ rfl (Nat.le_refl _) ?_ ?_).mono ?_
  ·intro i hi
   match i with
   | 0=>exact ⟨by unfold wfi;simp;omega,by unfold wfi;simp;omega⟩
   | 1=>exact ⟨by unfold wfi;simp;omega,by unfold wfi;simp;omega⟩
   | 2=>exact ⟨by unfold wfi;simp,by unfold wfi;simp⟩
   | 3=>exact ⟨hwfo,by unfold wfi;simp;omega⟩
  ·intro i hi
   match i with
   | 0=>exact ⟨KB.cell 0,KB.cell 1,KB.cell 2,KB.cell 3,KB.cell 4⟩
   | 1=>exact ⟨KB.cell 5,KB.cell 6,KB.cell 7,KB.cell 8,KB.cell 9⟩
   | 2=>exact ⟨KB.cell 10,KB.cell 11,KB.cell 12,KB.cell 13,KB.cell 14⟩
   | 3=>exact ⟨KB.cell 15,KB.cell 16,KB.cell 17,KB.cell 18,KB.cell 19⟩
  ·rintro e w' ⟨A,k,c,rfl,hk,ho,hb⟩
   have er:([(dt,sz,true,true,false),(L.stack,E - L.stack,true,true,false),(131072,32,false,true,false),(og,rr,false,false,true)]:List Spn).flatMap spR=(([]++rts true true false (cvL dt sz))++rts true true false (cvL L.stack (E - L.stack))++rts false true false (cvL 131072 32))++rts false false true (cvL og rr):=by simp [spR]
   rw [er] at hk ho
   exact ⟨A,k,c,rfl,hk,org_mono ho BX.size,BX.trans (hb.mono BX.size)⟩)
 clear hog hE u0 u1 u2 u3 u4 u5 u6 u7 C1 C2 v0 v1 v2 v3 v4 v5 v6 v7 x0 x1 x2 x3 x4 x5 y0 y1 HPC hbb hs hk
 obtain ⟨z2,z3,⟨z4,z5,z6,z7,z8,z9⟩,z10,z11,z12⟩:=HKX.out _ HB1.out
 go_wp2_with fail
 go_region_held3 (fun w'=>w'.cell? ⟨W.heap.size,2,none⟩=some (.int .i64 dt)∧w'.cell? ⟨W.heap.size,3,none⟩=some (.int .i64 sz)∧w'.cell? ⟨w.heap.size,0,none⟩=some (.slice (some ⟨gp,op,none⟩) xs.length c0)∧w'.cell? ⟨w.heap.size,1,none⟩=some (.int .i64 L.stack)∧w'.cell? ⟨w.heap.size,2,none⟩=some (.slice a2 L.slots.length c2)∧w'.cell? ⟨w.heap.size,3,none⟩=some (.int .i64 L.flash)∧w'.cell? ⟨w.heap.size,4,none⟩=some (.int .i64 L.ram)∧w'.cell? ⟨w.heap.size,5,none⟩=some (.slice a5 ts.length c5)∧w'.cell? ⟨w.heap.size+1,0,none⟩=some (.int .i64 m)∧w'.cell? ⟨w.heap.size+1,1,none⟩=some (.int .i64 b)∧w'.cell? ⟨w.heap.size+1,2,none⟩=some (.int .i64 at')) (go_keep)
  (first
    | (go_at_call 178;first
        | with_reducible refine (HSE.out _ HB1.out).mono ?_
        | with_reducible refine (HSE.out _ HB1.out.drew).mono ?_
       rintro e w3 ⟨rfl,hb3⟩
       have HB3:=hide hb3
       clear hb3
       obtain ⟨z2,z3,⟨z4,z5,z6,z7,z8,z9⟩,z10,z11,z12⟩:=HKX.out _ HB3.out)
    | (go_at_call 179;first
        | with_reducible refine (HOR.out _ HB3.out).mono ?_
        | with_reducible refine (HOR.out _ HB3.out.drew).mono ?_
       rintro e w4 ⟨rfl,hb4⟩
       have HB4:=hide hb4
       clear hb4
       obtain ⟨z2,z3,⟨z4,z5,z6,z7,z8,z9⟩,z10,z11,z12⟩:=HKX.out _ HB4.out)
    | (go_at_call 147;with_reducible refine (HWB.out _).mono ?_;rintro e w5 ⟨rfl,rfl⟩)
    | (go_at_call 177;first
        | with_reducible refine (HJ.out _ HB4.out).mono ?_
        | with_reducible refine (HJ.out _ HB4.out.drew).mono ?_
       rintro e w6 ⟨A,k,c,rfl,hk6,ho6,hb6⟩
       have HB6:=hide (And.intro hk6 (And.intro ho6 hb6))
       clear hk6 ho6 hb6
       obtain ⟨z2,z3,⟨z4,z5,z6,z7,z8,z9⟩,z10,z11,z12⟩:=HKX.out _ HB6.out.2.2))
 have HF:=hide (And.intro HBV.out HB6.out)
 clear HB6 HB1 HB3 HB4 z2 z3 z4 z5 z6 z7 z8 z9 z10 z11 z12
 rw [List.nil_append] at HF
 by_cases h8:k≤8
 ·have h8':(k:Int)≤8:=by omega
  have HX:=hide (po_ok HF.out.1 HF.out.2 h8)
  rw [← HRR.out] at HX
  clear HF
  go_wp2
  go_ret2
  first
   | exact HX.out
   | (have hx:=HX.out
      simp only [List.append_assoc] at hx
      exact hx)
 ·have h8':¬ (k:Int)≤8:=by omega
  have h8'':(8:Int)<(k:Int):=by omega
  have HX:=hide (po_no HF.out.1 HF.out.2 h8)
  rw [← HRR.out] at HX
  clear HF
  go_wp2
  go_ret2
  first
   | exact HX.out
   | (have hx:=HX.out
      simp only [List.append_assoc] at hx
      exact hx)
def FitP (ps:List PMod) (L:Lay):Prop:=Lok ps L∧∀ m b s:Int,0≤pcq ps m b→sOk L b s→(plR ps L m b s).length≤8
end Go.Proofs.YtngdgogjlpjjpadGreat
