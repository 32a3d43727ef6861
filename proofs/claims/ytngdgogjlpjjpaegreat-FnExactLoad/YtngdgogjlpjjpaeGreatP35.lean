import Derived.Test.YtngdgogjlpjjpaeGreatP15
import Derived.Test.YtngdgogjlpjjpaeGreatP24
import Derived.Test.YtngdgogjlpjjpaeGreatP22
import Derived.Test.YtngdgogjlpjjpaeGreatP28
import Derived.Test.YtngdgogjlpjjpaeGreatP31
import Derived.Test.YtngdgogjlpjjpaeGreatP33
import Derived.Test.YtngdgogjlpjjpaeGreatP30
import Derived.Test.YtngdgogjlpjjpaeGreatP34
set_option maxHeartbeats 4000000
namespace Go.Proofs.YtngdgogjlpjjpaeGreat
open Go.RowKit Classical
set_option linter.unusedVariables false
set_option linter.unusedSimpArgs false
set_option maxRecDepth 100000
def PoPost (w:World)(R:List Rg)(e:Ending)(w':World):Prop:=
 ∃ A k c,e=.returned (.tuple #[.slice A k c,.bool (decide (R.length≤8))])∧ORg w' w.heap.size (.slice A k c) (if R.length≤8 then R else [])∧Below w.heap.size w w'
theorem po_ok {w V X:World}{A:Option Addr}{k c:Nat}{R:List Rg}(hV:Below w.heap.size w V)(h:k=R.length∧ORg X V.heap.size (.slice A k c) R∧Below V.heap.size V X)(h8:k≤8):PoPost w R (.returned (.tuple #[.slice A k c,.bool true])) X:=by
 have e:R.length≤8:=by omega
 refine ⟨A,k,c,by rw [decide_eq_true e],by rw [if_pos e];exact org_mono h.2.1 hV.size,hV.trans (h.2.2.mono hV.size)⟩
theorem po_no {w V X:World}{A:Option Addr}{k c:Nat}{R:List Rg}(hV:Below w.heap.size w V)(h:k=R.length∧ORg X V.heap.size (.slice A k c) R∧Below V.heap.size V X)(h8:¬ k≤8):PoPost w R (.returned (.tuple #[.slice none 0 0,.bool false])) X:=by
 have e:¬ R.length≤8:=by omega
 refine ⟨none,0,0,by rw [decide_eq_false e],by rw [if_neg e];exact org_nil _ _,hV.trans (h.2.2.mono hV.size)⟩
theorem planOf_any (a:Option Addr)(n cap:Nat)(ms:List Md)(L:Lay)(a0:Option Addr)(c0:Nat)(xs:List PB)(a2:Option Addr)(c2:Nat)(a5:Option Addr)(c5:Nat)(ts:List TB)(m b at' s:Int)(w:World)(h:MSD w a n cap ms)(hL:LyT w L a0 c0 xs a2 c2 a5 c5 ts)
 (hk:Lok (pmS ms) L) (hp:0≤pcq (pmS ms) m b) (hs:s=-1∨(b≠-1∧0≤s∧s<(L.slots.length:Int))):
 Calls Tryz.prog 102 #[.slice a n cap,.agg #[.slice a0 xs.length c0,.int .i64 L.stack,.slice a2 L.slots.length c2,.int .i64 L.flash,.int .i64 L.ram,.slice a5 ts.length c5],.agg #[.int .i64 m,.int .i64 b,.int .i64 at'],.int .i64 s] w (PoPost w (plR (pmS ms) L m b s)):=by
 have K:=pkn_of (s:=s) hL hk hp
 have hn:=h.s.1
 have hlen:=pmS_len ms
 obtain ⟨m0,m1,m2,hpl,hbb,hw,hd,hst,hen⟩:=K
 have hwfo:wfi (orgn L (xs.getD m.toNat zPB) b s):=orgn_wfi hL hk hp hs
 have HPQ:=hide (pcm_pcq h m b)
 obtain ⟨W,hW⟩:∃ W,W=(w.alloc (.cells #[.slice a0 xs.length c0,.int .i64 L.stack,.slice a2 L.slots.length c2,.int .i64 L.flash,.int .i64 L.ram,.slice a5 ts.length c5] 36)).alloc (.cells #[.int .i64 m,.int .i64 b,.int .i64 at'] 71):=⟨_,rfl⟩
 have hB:Below w.heap.size w W:=by rw [hW];exact ((Below.refl _ _).alloc (Nat.le_refl _) _).alloc (by simp) _
 have k0:Blk W w.heap.size #[.slice a0 xs.length c0,.int .i64 L.stack,.slice a2 L.slots.length c2,.int .i64 L.flash,.int .i64 L.ram,.slice a5 ts.length c5] 36:=by rw [hW];exact (Blk.new w _ _).alloc _
 have k1:Blk W (w.heap.size+1) #[.int .i64 m,.int .i64 b,.int .i64 at'] 71:=by rw [hW];have:=Blk.new (w.alloc (.cells #[.slice a0 xs.length c0,.int .i64 L.stack,.slice a2 L.slots.length c2,.int .i64 L.flash,.int .i64 L.ram,.slice a5 ts.length c5] 36)) #[.int .i64 m,.int .i64 b,.int .i64 at'] 71;simpa using this
 have h1:=h.below hB
 have hL1:=hL.below hB
 obtain ⟨gp,op,rfl,q0,q1,q2,q3⟩:=hL1.p.at m.toNat (by omega)
 unfold svP at q1
 have hpx:=hL1.p.2.1
 unfold maxLen at hpx
 have d0:W.cell? ⟨w.heap.size,0,none⟩=some (.slice (some ⟨gp,op,none⟩) xs.length c0):=k0.cell 0
 have t0:W.cell? ⟨w.heap.size+1,0,none⟩=some (.int .i64 m):=k1.cell 0
 obtain ⟨P,hP⟩:∃ P,P=xs.getD m.toNat zPB:=⟨_,rfl⟩
 rw [← hP] at q0 q1 q2 q3 hpl hbb hwfo
 rw [← hpl] at hd
 obtain ⟨⟨tx,bk,dt,sz⟩,pa,pc⟩:=P
 dsimp only at q0 q1 q2 q3 hpl hbb hd
 have HP:=hide hP
 obtain ⟨hd1,hd2,hd3,hd4⟩:=hd
 obtain ⟨st1,st2⟩:=hst
 obtain ⟨en1,en2⟩:=hen
 obtain ⟨q,hq⟩:∃ q,q=pcq (pmS ms) m b:=⟨_,rfl⟩
 have HQ:=hide hq
 have HRS:=hide (show plR (pmS ms) L m b s=(([]++rts true true false (cvL dt sz))++rts true true false (cvL L.stack (endOf L - L.stack))++rts false true false (cvL 131072 32))++rts false false true (cvL (orgn L ((⟨tx,bk,dt,sz⟩,pa,pc):PB) b s) (rnd (4 * q))) from by
  unfold plR
  rw [← hpl,hq]
  rfl)
 rw [HRS.out]
 rw [← hq] at hw hp
 clear HRS
 obtain ⟨V,hV⟩:∃ V,V=W.alloc (.cells #[.int .i64 tx,.slice pa bk.length pc,.int .i64 dt,.int .i64 sz] 138):=⟨_,rfl⟩
 have bV:Below W.heap.size W V:=by rw [hV];exact (Below.refl _ _).alloc (Nat.le_refl _) _
 have kV:Blk V W.heap.size #[.int .i64 tx,.slice pa bk.length pc,.int .i64 dt,.int .i64 sz] 138:=by rw [hV];exact Blk.new _ _ _
 have k0':=k0.below bV
 have k1':=k1.below bV
 have HBV:=hide (hB.trans (bV.mono hB.size))
 have h2:=h1.below bV
 have hL2:=hL1.below bV
 have HW:=hide hW
 have HV:=hide hV
 have HM:=hide h2
 have HL2:=hide hL2
 have HK0:=hide (And.intro k0' (And.intro k1' kV))
 clear hW hV k0 k1 h h1 hL hL1 hB bV k0' k1' kV hP hpl hq
 go_enter Tryz.func102,Tryz.ntmps102
 go_wp2_with (first | rw [← HW.out] | rw [← HV.out])
 obtain ⟨gm,om,rfl,v0,v1,v2,v3,v4,v5,v6,v7⟩:=HM.out.s.at m.toNat (by omega)
 have hmt:=HM.out.s.2.2.2.1 m.toNat (by omega)
 have hqn:pcn (ms.getD m.toNat zMd).tn (ms.getD m.toNat zMd).bn (ms.getD m.toNat zMd).bl b=q:=by
  rw [HQ.out,← HPQ.out];unfold pcm;rw [if_pos (by omega)]
 generalize ms.getD m.toNat zMd=M at *
 have HPC:=hide (show ∀ X,Below V.heap.size V X→Calls Tryz.prog 182 #[.agg #[.string M.nm,.slice M.ta M.tn M.tc,.slice M.ba M.bn M.bc,.slice M.da M.dn M.dc,.int .i64 M.bss,.slice M.ra M.rn M.rc,.slice M.ia M.im M.ic,.slice M.ea M.en M.ec],.int .i64 b] X (fun e w'=>∃ xa xn xc,e=.returned (.tuple #[.slice xa xn xc,.bool true])∧(xn:Int)=q∧Below V.heap.size V w') from fun X hX=>
  (pieceOf_any M.nm M.ta M.tn M.tc M.ba M.bn M.bc M.bl (.slice M.da M.dn M.dc) (.slice M.ra M.rn M.rc) (.slice M.ia M.im M.ic) (.slice M.ea M.en M.ec) M.bss b X hmt.t.2.1 (hmt.b.below hX)).mono fun e w' ⟨xa,xn,xc,ok,he,ho,hx,_,hb⟩=>by
    have ho':ok=true:=by rw [ho,hqn];simp;omega
    exact ⟨xa,xn,xc,by rw [he,ho'],by rw [hx ho',hqn],hX.trans (hb.mono hX.size)⟩)
 obtain ⟨x0,x1,x2,x3,x4,x5⟩:=HK0.out.1.ly6
 have y0:V.cell? ⟨w.heap.size+1,0,none⟩=some (.int .i64 m):=HK0.out.2.1.cell 0
 have y1:V.cell? ⟨w.heap.size+1,1,none⟩=some (.int .i64 b):=HK0.out.2.1.cell 1
 have hmx:=HM.out.s.2.1
 unfold maxLen at hmx
 have hmn:m<(n:Int):=by omega
 clear q0 q1 q2 q3 d0 t0 hmt hqn hlen hn
 go_region_held3 (fun w'=>w'.cell? ⟨w.heap.size+1,0,none⟩=some (.int .i64 m)∧w'.cell? ⟨w.heap.size+1,1,none⟩=some (.int .i64 b)∧w'.cell? ⟨gm,om+m.toNat * 8,none⟩=some (.string M.nm)∧w'.cell? ⟨gm,om+m.toNat * 8+1,none⟩=some (.slice M.ta M.tn M.tc)∧w'.cell? ⟨gm,om+m.toNat * 8+2,none⟩=some (.slice M.ba M.bn M.bc)∧w'.cell? ⟨gm,om+m.toNat * 8+3,none⟩=some (.slice M.da M.dn M.dc)∧w'.cell? ⟨gm,om+m.toNat * 8+4,none⟩=some (.int .i64 M.bss)∧w'.cell? ⟨gm,om+m.toNat * 8+5,none⟩=some (.slice M.ra M.rn M.rc)∧w'.cell? ⟨gm,om+m.toNat * 8+6,none⟩=some (.slice M.ia M.im M.ic)∧w'.cell? ⟨gm,om+m.toNat * 8+7,none⟩=some (.slice M.ea M.en M.ec)) (go_keep)
  (first
    | (go_at_call 182;first
        | with_reducible refine (HPC.out _ (Below.refl _ _)).mono ?_
        | with_reducible refine (HPC.out _ (Below.refl _ _).drew).mono ?_
       rintro e w1 ⟨xa,xn,xc,rfl,hxn,hb1⟩
       have HB1:=hide hb1
       have HXN:=hide hxn
       have C1:=(HK0.out.2.1.below hb1).cell 0
       have C2:=(HK0.out.2.1.below hb1).cell 1
       have u0:=cell_below hb1 v0
       have u1:=cell_below hb1 v1
       have u2:=cell_below hb1 v2
       have u3:=cell_below hb1 v3
       have u4:=cell_below hb1 v4
       have u5:=cell_below hb1 v5
       have u6:=cell_below hb1 v6
       have u7:=cell_below hb1 v7
       clear hb1 hxn))
 have HKX:=hide (show ∀ X,Below V.heap.size V X→X.cell? ⟨W.heap.size,2,none⟩=some (.int .i64 dt)∧X.cell? ⟨W.heap.size,3,none⟩=some (.int .i64 sz)∧(X.cell? ⟨w.heap.size,0,none⟩=some (.slice (some ⟨gp,op,none⟩) xs.length c0)∧X.cell? ⟨w.heap.size,1,none⟩=some (.int .i64 L.stack)∧X.cell? ⟨w.heap.size,2,none⟩=some (.slice a2 L.slots.length c2)∧X.cell? ⟨w.heap.size,3,none⟩=some (.int .i64 L.flash)∧X.cell? ⟨w.heap.size,4,none⟩=some (.int .i64 L.ram)∧X.cell? ⟨w.heap.size,5,none⟩=some (.slice a5 ts.length c5))∧X.cell? ⟨w.heap.size+1,0,none⟩=some (.int .i64 m)∧X.cell? ⟨w.heap.size+1,1,none⟩=some (.int .i64 b)∧X.cell? ⟨w.heap.size+1,2,none⟩=some (.int .i64 at') from fun X hz=>
  ⟨(HK0.out.2.2.below hz).cell 2,(HK0.out.2.2.below hz).cell 3,(HK0.out.1.below hz).ly6,(HK0.out.2.1.below hz).cell 0,(HK0.out.2.1.below hz).cell 1,(HK0.out.2.1.below hz).cell 2⟩)
 have HSE:=hide (show ∀ X,Below V.heap.size V X→Calls Tryz.prog 185 #[.agg #[.slice (some ⟨gp,op,none⟩) xs.length c0,.int .i64 L.stack,.slice a2 L.slots.length c2,.int .i64 L.flash,.int .i64 L.ram,.slice a5 ts.length c5]] X (fun e w'=>e=.returned (.int .i64 (endOf L))∧Below V.heap.size V w') from fun X hz=>(stackEnd_any L (some ⟨gp,op,none⟩) c0 xs a2 c2 a5 c5 ts X (HL2.out.below hz)).mono fun e w' he=>⟨he.1,hz.trans (he.2.mono hz.size)⟩)
 have HOR:=hide (show ∀ X,Below V.heap.size V X→Calls Tryz.prog 186 #[.agg #[.slice (some ⟨gp,op,none⟩) xs.length c0,.int .i64 L.stack,.slice a2 L.slots.length c2,.int .i64 L.flash,.int .i64 L.ram,.slice a5 ts.length c5],.agg #[.int .i64 m,.int .i64 b,.int .i64 at'],.int .i64 s] X (fun e w'=>e=.returned (.int .i64 (orgn L ((⟨tx,bk,dt,sz⟩,pa,pc):PB) b s))∧Below V.heap.size V w') from fun X hz=>(originOf_any L (some ⟨gp,op,none⟩) c0 xs a2 c2 a5 c5 ts m b at' s X (HL2.out.below hz) m0 m1 (by rw [← HP.out];exact hbb) hs).mono fun e w' he=>⟨by rw [HP.out];exact he.1,hz.trans (he.2.mono hz.size)⟩)
 have hx2:(xn:Int)≤200:=by rw [HXN.out];exact hw.2
 have HWB:=hide (fun (X:World)=>wordBytes_any xa xn xc X (by omega))
 have hrd:=rnd_range (x:=4 * (xn:Int)) (by omega)
 have HRR:=hide (show rnd (4 * q)=rnd (4 * (xn:Int)) by rw [HXN.out])
 generalize hog:orgn L ((⟨tx,bk,dt,sz⟩,pa,pc):PB) b s=og at *
 generalize hE:endOf L=E at *
 generalize rnd (4 * (xn:Int))=rr at *
 have HOG:=hide hog
 have HE:=hide hE
 have HWR:=hide (show IntKind.i64.wrap (E - L.stack)=E - L.stack from cv_wrap (by omega) (by omega))
 have HJ:=hide (show ∀ X,Below V.heap.size V X→Calls Tryz.prog 184 #[.slice (some ⟨X.heap.size,0,none⟩) 4 4] (X.alloc (.cells #[.int .i64 dt,.int .i64 sz,.bool true,.bool true,.bool false,.int .i64 L.stack,.int .i64 (IntKind.i64.wrap (E - L.stack)),.bool true,.bool true,.bool false,.int .i64 131072,.int .i64 32,.bool false,.bool true,.bool false,.int .i64 og,.int .i64 rr,.bool false,.bool false,.bool true] 232)) (fun e w'=>∃ A k c,e=.returned (.slice A k c)∧k=((([]++rts true true false (cvL dt sz))++rts true true false (cvL L.stack (E - L.stack))++rts false true false (cvL 131072 32))++rts false false true (cvL og rr)).length∧ORg w' V.heap.size (.slice A k c) ((([]++rts true true false (cvL dt sz))++rts true true false (cvL L.stack (E - L.stack))++rts false true false (cvL 131072 32))++rts false false true (cvL og rr))∧Below V.heap.size V w') from fun X hX=>by
  have KB:=Blk.new X #[.int .i64 dt,.int .i64 sz,.bool true,.bool true,.bool false,.int .i64 L.stack,.int .i64 (IntKind.i64.wrap (E - L.stack)),.bool true,.bool true,.bool false,.int .i64 131072,.int .i64 32,.bool false,.bool true,.bool false,.int .i64 og,.int .i64 rr,.bool false,.bool false,.bool true] 232
  have BX:Below V.heap.size V (X.alloc (.cells #[.int .i64 dt,.int .i64 sz,.bool true,.bool true,.bool false,.int .i64 L.stack,.int .i64 (IntKind.i64.wrap (E - L.stack)),.bool true,.bool true,.bool false,.int .i64 131072,.int .i64 32,.bool false,.bool true,.bool false,.int .i64 og,.int .i64 rr,.bool false,.bool false,.bool true] 232)):=hX.alloc hX.size _
  rw [HWR.out] at KB BX ⊢
  refine (joined_any X.heap.size 0 4 4 [(dt,sz,true,true,false),(L.stack,E - L.stack,true,true,false),(131072,32,false,true,false),(og,rr,false,false,true)] _ rfl (Nat.le_refl _) ?_ ?_).mono ?_
  ·intro i hi
   match i with
   | 0=>exact ⟨by unfold wfi;simp;omega,by unfold wfi;simp;omega⟩
   | 1=>exact ⟨by unfold wfi;simp;omega,by unfold wfi;simp;omega⟩
   | 2=>exact ⟨by unfold wfi;simp,by unfold wfi;simp⟩
   | 3=>exact ⟨hwfo,by unfold wfi;simp;omega⟩
  ·intro i hi
   match i with
   | 0=>exact ⟨KB.cell 0,KB.cell 1,KB.cell 2,KB.cell 3,KB.cell 4⟩
   | 1=>exact ⟨KB.cell 5,KB.cell 6,KB.cell 7,KB.cell 8,KB.cell 9⟩
   | 2=>exact ⟨KB.cell 10,KB.cell 11,KB.cell 12,KB.cell 13,KB.cell 14⟩
   | 3=>exact ⟨KB.cell 15,KB.cell 16,KB.cell 17,KB.cell 18,KB.cell 19⟩
  ·rintro e w' ⟨A,k,c,rfl,hk,ho,hb⟩
   have er:([(dt,sz,true,true,false),(L.stack,E - L.stack,true,true,false),(131072,32,false,true,false),(og,rr,false,false,true)]:List Spn).flatMap spR=(([]++rts true true false (cvL dt sz))++rts true true false (cvL L.stack (E - L.stack))++rts false true false (cvL 131072 32))++rts false false true (cvL og rr):=by simp [spR]
   rw [er] at hk ho
   exact ⟨A,k,c,rfl,hk,org_mono ho BX.size,BX.trans (hb.mono BX.size)⟩)
 clear hog hE u0 u1 u2 u3 u4 u5 u6 u7 C1 C2 v0 v1 v2 v3 v4 v5 v6 v7 x0 x1 x2 x3 x4 x5 y0 y1 HPC hbb hs hk
 obtain ⟨z2,z3,⟨z4,z5,z6,z7,z8,z9⟩,z10,z11,z12⟩:=HKX.out _ HB1.out
 go_wp2_with fail
 go_region_held3 (fun w'=>w'.cell? ⟨W.heap.size,2,none⟩=some (.int .i64 dt)∧w'.cell? ⟨W.heap.size,3,none⟩=some (.int .i64 sz)∧w'.cell? ⟨w.heap.size,0,none⟩=some (.slice (some ⟨gp,op,none⟩) xs.length c0)∧w'.cell? ⟨w.heap.size,1,none⟩=some (.int .i64 L.stack)∧w'.cell? ⟨w.heap.size,2,none⟩=some (.slice a2 L.slots.length c2)∧w'.cell? ⟨w.heap.size,3,none⟩=some (.int .i64 L.flash)∧w'.cell? ⟨w.heap.size,4,none⟩=some (.int .i64 L.ram)∧w'.cell? ⟨w.heap.size,5,none⟩=some (.slice a5 ts.length c5)∧w'.cell? ⟨w.heap.size+1,0,none⟩=some (.int .i64 m)∧w'.cell? ⟨w.heap.size+1,1,none⟩=some (.int .i64 b)∧w'.cell? ⟨w.heap.size+1,2,none⟩=some (.int .i64 at')) (go_keep)
  (first
    | (go_at_call 185;first
        | with_reducible refine (HSE.out _ HB1.out).mono ?_
        | with_reducible refine (HSE.out _ HB1.out.drew).mono ?_
       rintro e w3 ⟨rfl,hb3⟩
       have HB3:=hide hb3
       clear hb3
       obtain ⟨z2,z3,⟨z4,z5,z6,z7,z8,z9⟩,z10,z11,z12⟩:=HKX.out _ HB3.out)
    | (go_at_call 186;first
        | with_reducible refine (HOR.out _ HB3.out).mono ?_
        | with_reducible refine (HOR.out _ HB3.out.drew).mono ?_
       rintro e w4 ⟨rfl,hb4⟩
       have HB4:=hide hb4
       clear hb4
       obtain ⟨z2,z3,⟨z4,z5,z6,z7,z8,z9⟩,z10,z11,z12⟩:=HKX.out _ HB4.out)
    | (go_at_call 187;with_reducible refine (HWB.out _).mono ?_;rintro e w5 ⟨rfl,rfl⟩)
    | (go_at_call 184;first
        | with_reducible refine (HJ.out _ HB4.out).mono ?_
        | with_reducible refine (HJ.out _ HB4.out.drew).mono ?_
       rintro e w6 ⟨A,k,c,rfl,hk6,ho6,hb6⟩
       have HB6:=hide (And.intro hk6 (And.intro ho6 hb6))
       clear hk6 ho6 hb6
       obtain ⟨z2,z3,⟨z4,z5,z6,z7,z8,z9⟩,z10,z11,z12⟩:=HKX.out _ HB6.out.2.2))
 have HF:=hide (And.intro HBV.out HB6.out)
 clear HB6 HB1 HB3 HB4 z2 z3 z4 z5 z6 z7 z8 z9 z10 z11 z12
 rw [List.nil_append] at HF
 by_cases h8:k≤8
 ·have h8':(k:Int)≤8:=by omega
  have HX:=hide (po_ok HF.out.1 HF.out.2 h8)
  rw [← HRR.out] at HX
  clear HF
  go_wp2
  go_ret2
  first
   | exact HX.out
   | (have hx:=HX.out
      simp only [List.append_assoc] at hx
      exact hx)
 ·have h8':¬ (k:Int)≤8:=by omega
  have h8'':(8:Int)<(k:Int):=by omega
  have HX:=hide (po_no HF.out.1 HF.out.2 h8)
  rw [← HRR.out] at HX
  clear HF
  go_wp2
  go_ret2
  first
   | exact HX.out
   | (have hx:=HX.out
      simp only [List.append_assoc] at hx
      exact hx)
theorem slF_mem (L:Lay)(b s:Int):s ∈ slF L b ↔ sOk L b s:=by
 unfold slF sOk
 by_cases c:b=-1∨L.slots=[]
 ·rw [if_pos c,if_pos c];simp
 ·rw [if_neg c,if_neg c]
  simp only [List.mem_map,List.mem_range]
  constructor
  ·rintro ⟨i,hi,rfl⟩;omega
  ·intro h;exact ⟨s.toNat,by omega,by omega⟩
theorem lok_slots {ps:List PMod}{L:Lay}(h:Lok ps L):L.slots.length≤4:=by
 obtain ⟨hc,_⟩:=lkc_facts h.1
 unfold cfo at hc
 simp at hc
 omega
theorem slotsFor_any (L:Lay)(a0:Option Addr)(c0:Nat)(xs:List PB)(a2:Option Addr)(c2:Nat)(a5:Option Addr)(c5:Nat)(ts:List TB)(b:Int)(w:World)(h:LyT w L a0 c0 xs a2 c2 a5 c5 ts)(hl:L.slots.length≤4):
 Calls Tryz.prog 101 #[.agg #[.slice a0 xs.length c0,.int .i64 L.stack,.slice a2 L.slots.length c2,.int .i64 L.flash,.int .i64 L.ram,.slice a5 ts.length c5],.int .i64 b] w fun e w'=>∃ a n c,e=.returned (.slice a n c)∧IS w' a n c (slF L b)∧Below w.heap.size w w':=by
 by_cases c:b=-1∨L.slots=[]
 ·exact (slotsFor_one L a0 c0 xs a2 c2 a5 c5 ts b w h c).mono fun e w' ⟨a,c,he,hi,hb⟩=>⟨a,_,c,he,hi,hb⟩
 ·refine (slotsFor_many L a0 c0 xs a2 c2 a5 c5 ts b L.slots.length w (fun e=>c (.inl e)) (fun e=>c (.inr (List.eq_nil_of_length_eq_zero e))) (by omega)).mono ?_
  rintro e w' ⟨g,rfl,hr,hb⟩
  have e2:slF L b=upN L.slots.length:=by unfold slF upN;rw [if_neg c]
  rw [e2]
  refine ⟨_,_,_,rfl,⟨upN_len _,by unfold maxLen;omega,fun z hz=>?_,fun _=>⟨g,0,rfl,fun i hi=>?_⟩,Nat.le_refl _⟩,hb⟩
  ·simp only [upN,List.mem_map,List.mem_range] at hz
   obtain ⟨i,hi,rfl⟩:=hz
   unfold wfi
   omega
  ·rw [Nat.zero_add]
   exact hr.cell i (by rw [upN_len];exact hi)
theorem Blk.c2 {w:World}{b:Nat}{t:TypeId}{v0 v1 v2 v3 v4 v5 v6 v7:Value}(h:Blk w b #[v0,v1,v2,v3,v4,v5,v6,v7] t):w.cell? ⟨b,2,none⟩=some v2:=h.cell 2
theorem slF_all {ps:List PMod}{L:Lay}{m b:Int}(h:∀ t:Nat,t<(slF L b).length→(plR ps L m b ((slF L b).getD t 0)).length≤8):F2 ps L m b:=fun s hs=>by
 obtain ⟨k,hk,e⟩:=mem_getD ((slF_mem L b s).2 hs)
 rw [← e]
 exact h k hk
theorem slF_ok {L:Lay}{b:Int}{t:Nat}(h:t<(slF L b).length):sOk L b ((slF L b).getD t 0):=(slF_mem L b _).1 (getD_mem' h)
theorem plansFit_any (a:Option Addr)(n cap:Nat)(ms:List Md)(L:Lay)(a0:Option Addr)(c0:Nat)(xs:List PB)(a2:Option Addr)(c2:Nat)(a5:Option Addr)(c5:Nat)(ts:List TB)(w:World)(h:MSD w a n cap ms)(hL:LyT w L a0 c0 xs a2 c2 a5 c5 ts)(hk:Lok (pmS ms) L):
 Calls Tryz.prog 57 #[.slice a n cap,.agg #[.slice a0 xs.length c0,.int .i64 L.stack,.slice a2 L.slots.length c2,.int .i64 L.flash,.int .i64 L.ram,.slice a5 ts.length c5]] w fun e w'=>∃ r:Bool,e=.returned (.bool r)∧(r=true ↔ FitP (pmS ms) L)∧Below w.heap.size w w':=by
 obtain ⟨V,hV⟩:∃ V,V=w.alloc (.cells #[.slice a0 xs.length c0,.int .i64 L.stack,.slice a2 L.slots.length c2,.int .i64 L.flash,.int .i64 L.ram,.slice a5 ts.length c5] 36):=⟨_,rfl⟩
 have hB:Below w.heap.size w V:=by rw [hV];exact (Below.refl _ _).alloc (Nat.le_refl _) _
 have k0:Blk V w.heap.size #[.slice a0 xs.length c0,.int .i64 L.stack,.slice a2 L.slots.length c2,.int .i64 L.flash,.int .i64 L.ram,.slice a5 ts.length c5] 36:=by rw [hV];exact Blk.new w _ _
 have HBV:=hide hB
 have HM:=hide (h.below hB)
 have HL2:=hide (hL.below hB)
 have HV:=hide hV
 have HK:=hide k0
 have hn:=h.s.1
 have hmx:=h.s.2.1
 have hlx:=hL.s.2.1
 unfold maxLen at hmx hlx
 have HKX:=hide (show ∀ X,Below V.heap.size V X→X.cell? ⟨w.heap.size,0,none⟩=some (.slice a0 xs.length c0)∧X.cell? ⟨w.heap.size,1,none⟩=some (.int .i64 L.stack)∧X.cell? ⟨w.heap.size,2,none⟩=some (.slice a2 L.slots.length c2)∧X.cell? ⟨w.heap.size,3,none⟩=some (.int .i64 L.flash)∧X.cell? ⟨w.heap.size,4,none⟩=some (.int .i64 L.ram)∧X.cell? ⟨w.heap.size,5,none⟩=some (.slice a5 ts.length c5) from fun X hz=>(HK.out.below hz).ly6)
 have HX:=hide (show ∀ X,Below V.heap.size V X→Below w.heap.size w X from fun X hz=>HBV.out.trans (hz.mono HBV.out.size))
 have HC:=hide hk
 have HPO:=hide (show ∀ X (m b s:Int),Below V.heap.size V X→(0≤m∧m<(n:Int))→(b=-1∨(0≤b∧b<((ms.getD m.toNat zMd).bn:Int)))→sOk L b s→Calls Tryz.prog 102 #[.slice a n cap,.agg #[.slice a0 xs.length c0,.int .i64 L.stack,.slice a2 L.slots.length c2,.int .i64 L.flash,.int .i64 L.ram,.slice a5 ts.length c5],.agg #[.int .i64 m,.int .i64 b,.int .i64 0],.int .i64 s] X (fun e w'=>∃ A k c,e=.returned (.tuple #[.slice A k c,.bool (decide ((plR (pmS ms) L m b s).length≤8))])∧Below X.heap.size X w'∧Below V.heap.size V w') from fun X m b s hz hm hb hs=>(planOf_any a n cap ms L a0 c0 xs a2 c2 a5 c5 ts m b 0 s X (HM.out.below hz) (HL2.out.below hz) hk ((pc_iff HM.out m b).2 ⟨hm,hb⟩) hs.fit).mono fun e w' ⟨A,k,c,he,_,hbb⟩=>⟨A,k,c,he,hbb,hz.trans (hbb.mono hz.size)⟩)
 have HSF:=hide (show ∀ X (b:Int),Below V.heap.size V X→Calls Tryz.prog 101 #[.agg #[.slice a0 xs.length c0,.int .i64 L.stack,.slice a2 L.slots.length c2,.int .i64 L.flash,.int .i64 L.ram,.slice a5 ts.length c5],.int .i64 b] X (fun e w'=>∃ ra rn rc,e=.returned (.slice ra rn rc)∧IS w' ra rn rc (slF L b)∧Below X.heap.size X w'∧Below V.heap.size V w') from fun X b hz=>(slotsFor_any L a0 c0 xs a2 c2 a5 c5 ts b X (HL2.out.below hz) (lok_slots hk)).mono fun e w' ⟨ra,rn,rc,he,hi,hbb⟩=>⟨ra,rn,rc,he,hi,hbb,hz.trans (hbb.mono hz.size)⟩)
 clear hV k0 h hL hB hk
 go_enter Tryz.func57,Tryz.ntmps57
 go_wp2_with (rw [← HV.out])
 clear HV
 go_loopw [14] (fun i wr=>∃ m:Nat,m≤n∧i=.int .i64 m∧(∀ m':Nat,m'<m→∀ b:Int,(b=-1∨(0≤b∧b<((ms.getD m' zMd).bn:Int)))→F2 (pmS ms) L m' b)∧Below V.heap.size V wr) (fun i _=>n - (intOf i).toNat)
 case atStart=>exact ⟨0,Nat.zero_le _,rfl,fun m' hm'=>absurd hm' (Nat.not_lt_zero _),Below.refl _ _⟩
 case round=>
  obtain ⟨m,hm,rfl,hF,hB⟩:=hrel
  have HF:=hide hF
  have HB:=hide hB
  clear hF hB
  by_cases hlt:m<n
  ·have hlt':(m:Int)<(n:Int):=by omega
   obtain ⟨gm,om,rfl,v0,v1,v2,v3,v4,v5,v6,v7⟩:=HM.out.s.at m hlt
   have hbx:(ms.getD m zMd).bn≤9223372036854775806:=by
    have h1:=(lok_kn HC.out).v m (by rw [pmS_len,hn];exact hlt)
    rw [pmS_at (by rw [hn];exact hlt)] at h1
    have h2:=(vld_en h1).2.2.2.1
    have h3:=(HM.out.d m hlt).b.1
    simp only [Md.pm,List.length_map] at h2
    omega
   obtain ⟨M,hM⟩:∃ M,M=ms.getD m zMd:=⟨_,rfl⟩
   have HME:=hide hM
   rw [← hM] at v0 v1 v2 v3 v4 v5 v6 v7 hbx
   clear hM
   obtain ⟨bn,hbn⟩:∃ bn,bn=M.bn:=⟨_,rfl⟩
   have HBN:=hide (show bn=(ms.getD m zMd).bn by rw [hbn,HME.out])
   rw [← hbn] at v2 hbx
   clear hbn
   have u0:=cell_below HB.out v0
   have u1:=cell_below HB.out v1
   have u2:=cell_below HB.out v2
   have u3:=cell_below HB.out v3
   have u4:=cell_below HB.out v4
   have u5:=cell_below HB.out v5
   have u6:=cell_below HB.out v6
   have u7:=cell_below HB.out v7
   clear v0 v1 v2 v3 v4 v5 v6 v7
   generalize wr=wo at *
   obtain ⟨V2,hV2⟩:∃ V2,V2=wo.alloc (.cells #[.string M.nm,.slice M.ta M.tn M.tc,.slice M.ba bn M.bc,.slice M.da M.dn M.dc,.int .i64 M.bss,.slice M.ra M.rn M.rc,.slice M.ia M.im M.ic,.slice M.ea M.en M.ec] 104):=⟨_,rfl⟩
   have HBV2:=hide (show Below V.heap.size V V2 by rw [hV2];exact HB.out.alloc HB.out.size _)
   have HKM:=hide (show Blk V2 wo.heap.size #[.string M.nm,.slice M.ta M.tn M.tc,.slice M.ba bn M.bc,.slice M.da M.dn M.dc,.int .i64 M.bss,.slice M.ra M.rn M.rc,.slice M.ia M.im M.ic,.slice M.ea M.en M.ec] 104 by rw [hV2];exact Blk.new _ _ _)
   have HV2:=hide hV2
   clear hV2
   go_wp2_with (rw [← HV2.out])
   clear u0 u1 u2 u3 u4 u5 u6 u7
   go_loopw [7] (fun i wr=>∃ q:Nat,q≤bn+1∧i=.int .i64 ((q:Int) - 1)∧(∀ b:Int,-1≤b→b<(q:Int) - 1→F2 (pmS ms) L m b)∧Blk wr wo.heap.size #[.string M.nm,.slice M.ta M.tn M.tc,.slice M.ba bn M.bc,.slice M.da M.dn M.dc,.int .i64 M.bss,.slice M.ra M.rn M.rc,.slice M.ia M.im M.ic,.slice M.ea M.en M.ec] 104∧Below V.heap.size V wr) (fun i _=>bn+1 - (intOf i+1).toNat)
   case atStart=>exact ⟨0,Nat.zero_le _,rfl,fun b h1 h2=>by omega,HKM.out,HBV2.out⟩
   case round=>
    obtain ⟨q,hq,rfl,hF2,hkm,hB3⟩:=hrel
    have HF2:=hide hF2
    have HK3:=hide hkm
    have HB3:=hide hB3
    have y2:=hkm.c2
    clear hF2 hB3 hkm
    by_cases hq2:q<bn+1
    ·have hq2':(q:Int) - 1<(bn:Int):=by omega
     obtain ⟨b,hb⟩:∃ b:Int,b=(q:Int) - 1:=⟨_,rfl⟩
     rw [← hb] at hq2' ⊢
     have hb0:-1≤b:=by omega
     have HBB:=hide hb
     have HBQ:=hide (show b=-1∨(0≤b∧b<((ms.getD ((m:Int)).toNat zMd).bn:Int)) from by
      rw [Int.toNat_natCast,← HBN.out]
      omega)
     clear hb
     generalize wr=wp at *
     have HS1:=hide (HSF.out wp b HB3.out)
     obtain ⟨z0,z1,z2,z3,z4,z5⟩:=HKX.out _ HB3.out
     go_wp2_with fail
     refine HS1.out.mono ?_
     rintro e X4 ⟨ra,rn,rc,rfl,hI,hbx4,hb4⟩
     have HI4:=hide hI
     have HK4:=hide (HK3.out.below hbx4)
     have HB4:=hide hb4
     have hrx:=hI.2.1
     unfold maxLen at hrx
     clear hI hbx4 hb4 HS1 z0 z1 z2 z3 z4 z5 y2
     go_wp2_with fail
     go_loopw [30] (fun i wr=>∃ t:Nat,t≤rn∧i=.int .i64 t∧(∀ s':Nat,s'<t→(plR (pmS ms) L m b ((slF L b).getD s' 0)).length≤8)∧IS wr ra rn rc (slF L b)∧Blk wr wo.heap.size #[.string M.nm,.slice M.ta M.tn M.tc,.slice M.ba bn M.bc,.slice M.da M.dn M.dc,.int .i64 M.bss,.slice M.ra M.rn M.rc,.slice M.ia M.im M.ic,.slice M.ea M.en M.ec] 104∧Below V.heap.size V wr) (fun i _=>rn - (intOf i).toNat)
     case atStart=>exact ⟨0,Nat.zero_le _,rfl,fun s' hs'=>absurd hs' (Nat.not_lt_zero _),HI4.out,HK4.out,HB4.out⟩
     case round=>
      obtain ⟨t,ht,rfl,hG,hI5,hk5,hB5⟩:=hrel
      have HG:=hide hG
      have HI5:=hide hI5
      have HK5:=hide hk5
      have HB5:=hide hB5
      clear hG hk5 hB5
      by_cases ht2:t<rn
      ·have ht2':(t:Int)<(rn:Int):=by omega
       obtain ⟨rb,ro,rfl,hcc⟩:=hI5.2.2.2.1 (by omega)
       have r0:=hcc t ht2
       have HSO:=hide (slF_ok (L:=L) (b:=b) (t:=t) (by rw [hI5.1];exact ht2))
       have HP3:=hide (HPO.out wr m b ((slF L b).getD t 0) HB5.out (by omega) HBQ.out HSO.out)
       obtain ⟨z0,z1,z2,z3,z4,z5⟩:=HKX.out _ HB5.out
       obtain ⟨sv,hsv⟩:∃ sv,sv=(slF L b).getD t 0:=⟨_,rfl⟩
       rw [← hsv] at r0 HP3 HSO
       have HSV:=hide hsv
       clear hcc hI5 hsv
       go_wp2_with fail
       refine HP3.out.mono ?_
       rintro e X6 ⟨A3,k3,c3',rfl,hbx6,hb6⟩
       have HB6:=hide (And.intro hbx6 hb6)
       clear hbx6 hb6 HP3 z0 z1 z2 z3 z4 z5 r0
       by_cases h83:(plR (pmS ms) L m b sv).length≤8
       ·rw [decide_eq_true h83]
        have HN:=hide (show ∀ s':Nat,s'<t+1→(plR (pmS ms) L m b ((slF L b).getD s' 0)).length≤8 from fun s' hs'=>by
         by_cases e:s'=t
         ·rw [e,← HSV.out];exact h83
         ·exact HG.out s' (by omega))
        clear h83
        go_wp2
        go_roundw
        case rel=>exact ⟨t+1,by omega,by go_num,HN.out,HI5.out.below HB6.out.1,HK5.out.below HB6.out.1,HB6.out.2⟩
        case measure=>simp [intOf];omega
       ·rw [decide_eq_false h83]
        have HNO:=hide (fit_no HM.out (m:=(m:Int)) (b:=b) (s:=sv) (by omega) HBQ.out HSO.out h83)
        clear h83
        go_wp2
        go_ret
        exact ⟨false,rfl,by simp [HNO.out],HX.out _ HB6.out.2⟩
      ·have HN:=hide (show ∀ b':Int,-1≤b'→b'<((q+1:Nat):Int) - 1→F2 (pmS ms) L m b' from fun b' h1 h2=>by
        by_cases e:b'=b
        ·rw [e]
         exact slF_all (fun t' ht'=>HG.out t' (by rw [HI5.out.1] at ht';omega))
        ·exact HF2.out b' h1 (by have:=HBB.out;omega))
       have HBE:=hide (show b+1=((q+1:Nat):Int) - 1 by have:=HBB.out;omega)
       clear hI5
       go_wp2
       go_roundw
       case rel=>exact ⟨q+1,by omega,by rw [HBE.out],HN.out,HK5.out,HB5.out⟩
       case measure=>have:=HBB.out;simp [intOf];omega
    ·have HN:=hide (show ∀ m':Nat,m'<m+1→∀ b:Int,(b=-1∨(0≤b∧b<((ms.getD m' zMd).bn:Int)))→F2 (pmS ms) L m' b from fun m' hm' b hb=>by
      by_cases e:m'=m
      ·subst e
       rw [← HBN.out] at hb
       exact HF2.out b (by omega) (by omega)
      ·exact HF.out m' (by omega) b hb)
     have hq3:(q:Int) - 1=(bn:Int):=by omega
     rw [hq3]
     go_wp2
     go_roundw
     case rel=>exact ⟨m+1,by omega,by go_num,HN.out,HB3.out⟩
     case measure=>simp [intOf];omega
  ·have HN:=hide (fit_all HM.out HC.out (fun m' hm'=>HF.out m' (by omega)))
   go_wp2
   go_ret
   exact ⟨true,rfl,by simp [HN.out],HX.out _ HB.out⟩
end Go.Proofs.YtngdgogjlpjjpaeGreat
