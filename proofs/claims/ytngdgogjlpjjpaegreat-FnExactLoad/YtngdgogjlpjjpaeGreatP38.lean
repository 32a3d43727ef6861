import Derived.Test.YtngdgogjlpjjpaeGreatP29
import Derived.Test.YtngdgogjlpjjpaeGreatP31
import Derived.Test.YtngdgogjlpjjpaeGreatP36
import Derived.Test.YtngdgogjlpjjpaeGreatP37
namespace Go.Proofs.YtngdgogjlpjjpaeGreat
open Go.RowKit Classical
set_option linter.unusedVariables false
set_option linter.unusedSimpArgs false
set_option maxRecDepth 100000
set_option maxHeartbeats 16000000 in
theorem exactLoad_walk (a:Option Addr)(n cap:Nat)(bl:List Bk)(s c k d:Int)(w:World)(h:BBS w a n cap bl):
 Calls Tryz.prog 7 #[.slice a n cap,.agg #[.int .i64 s,.int .i64 c,.int .i64 k,.int .i64 d]] w fun e w'=>e=.returned (.bool true)∧Below w.heap.size w w':=by
 have HS:=hide (fun w h=>szByteSS_any a n cap bl 1048576 w h (by omega) (by omega))
 have HB0:Below w.heap.size w (w.alloc (.cells #[.int .i64 s,.int .i64 c,.int .i64 k,.int .i64 d] 76)):=(Below.refl _ _).alloc (Nat.le_refl _) _
 have k0:=Blk.new w #[.int .i64 s,.int .i64 c,.int .i64 k,.int .i64 d] 76
 obtain ⟨Q1,hQ1⟩:∃ Q1,Q1=n+upS (fun j=>(bl.getD j zB).2.1) n:=⟨_,rfl⟩
 rw [← hQ1] at HS
 have HQ1:=hide hQ1
 clear hQ1
 by_cases hz:1048576<Q1
 ·rw [show szR 1048576 Q1=-1 by unfold szR;rw [if_pos (by omega)]] at HS
  go_enter Tryz.func7,Tryz.ntmps7
  go_wp2_with fail
  refine (HS.out _ (h.below HB0)).mono ?_
  rintro e w1 ⟨rfl,rfl⟩
  go_wp2
  go_ret
  exact ⟨rfl,HB0⟩
 obtain ⟨Z,hZ⟩:∃ Z:Int,Z=1048576 - (Q1:Int):=⟨_,rfl⟩
 rw [show szR 1048576 Q1=Z by unfold szR;rw [if_neg (by omega)];omega] at HS
 have hZ0:¬ Z<0:=by omega
 clear hZ
 have HZ:=hide (show ∀ i,i<n→(bl.getD i zB).2.1≤1048576 from fun i hi=>by have:=upS_le (fun j=>(bl.getD j zB).2.1) n i hi;have:=HQ1.out;omega)
 have HZS:=hide (show upS (fun j=>(bl.getD j zB).2.1) n≤1048576 by have:=HQ1.out;omega)
 have hn:n≤1048576:=by have:=HQ1.out;omega
 clear hz
 have HT:=hide (fun (W:World) (hb:Below w.heap.size w W)=>toByteSS_any a n cap bl W (h.below hb) hn HZ.out)
 obtain ⟨cd,hcd⟩:∃ cd,cd=(ldc (zsL bl) n s c k d).1:=⟨_,rfl⟩
 obtain ⟨ca,hca⟩:∃ ca:Int,ca=(((ldc (zsL bl) n s c k d).2:Nat):Int):=⟨_,rfl⟩
 obtain ⟨C,hC⟩:∃ C,C=ldC (zsL bl) n s c k d:=⟨_,rfl⟩
 have HCB:=hide (show LdB C by rw [hC];exact ldb_of _ _ _ _ _ _)
 have HSP:=hide (fun (g:Nat) (gs:List Nat) (W:World) (r:RowY W g n gs bl) (hl:gs.length=n)=>show Calls Tryz.prog 18 #[.slice (some ⟨g,0,none⟩) n n,.agg #[.int .i64 s,.int .i64 c,.int .i64 k,.int .i64 d]] W fun e w'=>Below W.heap.size W w'∧∃ M base mid L β,e=.returned (.tuple #[mnV M,.int .i64 cd,.int .i64 ca])∧LdO w' base mid C M L β∧W.heap.size≤base∧(False→β L.length≤mid) from by
  have:=sLoad_any g n gs bl s c k d W (rowy_img r hl h HZ.out) hn
  unfold LdQ at this
  rw [← hcd,← hca,← hC] at this
  exact this)
 have HIM:=hide (fun (g:Nat) (gs:List Nat) (W:World) (r:RowY W g n gs bl) (hl:gs.length=n)=>show Calls Tryz.prog 19 #[.slice (some ⟨g,0,none⟩) n n,.agg #[.int .i64 s,.int .i64 c,.int .i64 k,.int .i64 d]] W fun e w'=>Below W.heap.size W w'∧∃ M base mid L β,e=.returned (.tuple #[mnV M,.int .i64 cd,.int .i64 ca])∧LdO w' base mid C M L β∧W.heap.size≤base∧(True→β L.length≤mid) from by
  have:=(iLoad_any g n gs bl s c k d W (rowy_img r hl h HZ.out) hn).mono (fun e w' he=>ldq_of he)
  unfold LdQ at this
  rw [← hcd,← hca,← hC] at this
  exact this)
 clear hcd hca hC
 unfold mnV at HSP HIM
 have hcc:(cd != cd)=false:=by simp
 have haa:(ca != ca)=false:=by simp
 have HH:=hide h
 go_enter Tryz.func7,Tryz.ntmps7
 go_wp2_with fail
 refine (HS.out _ (h.below HB0)).mono ?_
 rintro e w1 ⟨rfl,hw1e⟩
 have hB1:Below w.heap.size w w1:=by rw [← hw1e];exact HB0
 have k1:Blk w1 w.heap.size #[.int .i64 s,.int .i64 c,.int .i64 k,.int .i64 d] 76:=by rw [← hw1e];exact k0
 clear hw1e HB0 k0 HS h
 have HBK:=hide (And.intro hB1 k1)
 have hw1:w.heap.size<w1.heap.size:=HBK.out.2.lt
 have HCL:=hide (fun (W:World) (hb:Below w1.heap.size w1 W)=>show W.cell? ⟨w.heap.size,0,none⟩=some (.int .i64 s)∧W.cell? ⟨w.heap.size,1,none⟩=some (.int .i64 c)∧W.cell? ⟨w.heap.size,2,none⟩=some (.int .i64 k)∧W.cell? ⟨w.heap.size,3,none⟩=some (.int .i64 d) from ⟨(HBK.out.2.below hb).cell 0,(HBK.out.2.below hb).cell 1,(HBK.out.2.below hb).cell 2,(HBK.out.2.below hb).cell 3⟩)
 obtain ⟨cz0,cz1,cz2,cz3⟩:=HCL.out w1 (Below.refl _ _)
 clear hB1 k1
 have HBW:=hide HBK.out.1
 go_wp2_with fail
 have HQ:=hide (show SlOk (fun j=>[25,26,27,28,29,24,30,31,32,6,1000,7,8].getD j 0) [25,26,27,28,29,24,30,31,32,6,7,8] 117 from ⟨sl_m _ _ (by decide),sl_i _ (by decide),sl_s _ _ (by decide)⟩)
 refine wp_region_inv0 (by kernel_rfl) (fun A listed f W=>IL a n cap bl s c k d cd ca C (fun j=>[25,26,27,28,29,24,30,31,32,6,1000,7,8].getD j 0) [25,26,27,28,29,24,30,31,32,6,7,8] w1 A listed f W) (IL.start rfl) ?_ ?_
 ·intro listed f W i K hI hi hK
  have hlt:i<13:=by obtain ⟨_,o,ho,_⟩:=mem_ready.1 hi;exact (Array.getElem?_eq_some_iff.1 ho).1
  have hb:=(mem_ready.1 hi).1
  rcases (show i=0∨i=1∨i=2∨i=3∨i=4∨i=5∨i=6∨i=7∨i=8∨i=9∨i=10∨i=11∨i=12 by omega) with rfl | rfl | rfl | rfl | rfl | rfl | rfl | rfl | rfl | rfl | rfl | rfl | rfl
  · -- 0
    have y:=show f.tmps.getD 0 undef=.slice a n cap from hI.fo 0 (by decide)
    simp only [Array.getD_eq_getD_getElem?] at y
    refine wpoV (o:=_) rfl rfl (w':=W) (v:=.slice a n cap) ?_ (hK _ _ (hI.next HQ.out (j:=0) (by omega) (by omega) (by omega) _ W (Below.refl _ _) rfl))
    go_simp
  · -- 1
    have t0:=rdy_pre (o:=_) hi rfl ⟨0,.data⟩ (by simp) rfl
    have v0:=hI.p 0 (by omega) (by omega) (by omega) t0
    have y0:=show f.tmps.getD 25 undef=.slice a n cap from v0
    simp only [Array.getD_eq_getD_getElem?] at y0
    refine wpoC (o:=_) (f:=36) (args:=#[.slice a n cap]) rfl rfl (w':=W) (by go_simp) (HT.out W (HBW.out.trans (hI.b.mono HBW.out.size))) ?_
    rintro e W' ⟨rfl,⟨gs,lx,rx⟩,hb1⟩
    exact ⟨_,rfl,(hK _ _ (hI.next HQ.out (j:=1) (by omega) (by omega) (by omega) _ _ hb1 ⟨_,gs,rfl,rx,lx⟩))⟩
  · -- 2
    obtain ⟨c0,c1,c2,c3⟩:=HCL.out W hI.b
    have y:=show f.tmps.getD 3 undef=.pointer (some ⟨w.heap.size,0,none⟩) from hI.fo 3 (by decide)
    simp only [Array.getD_eq_getD_getElem?] at y
    refine wpoV (o:=_) rfl rfl (w':=W) (v:=.agg #[.int .i64 s,.int .i64 c,.int .i64 k,.int .i64 d]) ?_ (hK _ _ (hI.next HQ.out (j:=2) (by omega) (by omega) (by omega) _ W (Below.refl _ _) rfl))
    go_simp
  · -- 3
    have t2:=rdy_pre (o:=_) hi rfl ⟨2,.data⟩ (by simp) rfl
    have v2:=hI.p 2 (by omega) (by omega) (by omega) t2
    have y2:=show f.tmps.getD 27 undef=.agg #[.int .i64 s,.int .i64 c,.int .i64 k,.int .i64 d] from v2
    simp only [Array.getD_eq_getD_getElem?] at y2
    refine wpoC (o:=_) (f:=37) (args:=#[.agg #[.int .i64 s,.int .i64 c,.int .i64 k,.int .i64 d]]) rfl rfl (w':=W) (by go_simp) (toConfig_any s c k d W) ?_
    rintro e W' ⟨rfl,hb1⟩
    exact ⟨_,rfl,(hK _ _ (hI.next HQ.out (j:=3) (by omega) (by omega) (by omega) _ _ hb1 rfl))⟩
  · -- 4
    have t1:=rdy_pre (o:=_) hi rfl ⟨1,.data⟩ (by simp) rfl
    have v1:=hI.p 1 (by omega) (by omega) (by omega) t1
    have t3:=rdy_pre (o:=_) hi rfl ⟨3,.data⟩ (by simp) rfl
    have v3:=hI.p 3 (by omega) (by omega) (by omega) t3
    obtain ⟨g1,gs,y1,rx,lx⟩:=v1
    have y1:=show f.tmps.getD 26 undef=_ from y1
    simp only [Array.getD_eq_getD_getElem?] at y1
    have y3:=show f.tmps.getD 28 undef=.agg #[.int .i64 s,.int .i64 c,.int .i64 k,.int .i64 d] from v3
    simp only [Array.getD_eq_getD_getElem?] at y3
    refine wpoC (o:=_) (f:=18) (args:=#[.slice (some ⟨g1,0,none⟩) n n,.agg #[.int .i64 s,.int .i64 c,.int .i64 k,.int .i64 d]]) rfl rfl (w':=W) (by go_simp) (HSP.out g1 gs W rx lx) ?_
    rintro e W' ⟨hb1,M,base,mid,L,β,rfl,O,_,_⟩
    exact ⟨_,rfl,(hK _ _ (hI.next HQ.out (j:=4) (by omega) (by omega) (by omega) _ _ hb1 ⟨M,base,mid,L,β,rfl,O⟩))⟩
  · -- 5
    have t4:=rdy_pre (o:=_) hi rfl ⟨4,.data⟩ (by simp) rfl
    have v4:=hI.p 4 (by omega) (by omega) (by omega) t4
    obtain ⟨M,base,mid,L,β,y,O⟩:=v4
    have y:=show f.tmps.getD 29 undef=_ from y
    simp only [Array.getD_eq_getD_getElem?] at y
    refine wpoV (o:=_) rfl rfl (w':=W) (v:=.tuple #[.agg #[.slice M.ma M.mn M.mc,.int .i64 M.cs,.int .i64 M.cw,.int .i64 M.ck,.int .i64 M.cd,.int .i64 M.pc,.slice M.ka M.kn M.kc,.slice M.fa M.fn M.fc,.slice M.ra M.rn M.rc,.slice M.oa M.on M.oc,.int .i64 M.md,.int .i64 M.bk,.slice M.la M.ln M.lc,.slice M.ha M.hn M.hc,.int .i64 M.tn],.int .i64 cd,.int .i64 ca]) ?_ (hK _ _ (hI.next HQ.out (j:=5) (by omega) (by omega) (by omega) _ W (Below.refl _ _) ⟨M,base,mid,L,β,rfl,O⟩))
    go_simp
  · -- 6
    have t5:=rdy_pre (o:=_) hi rfl ⟨5,.data⟩ (by simp) rfl
    have v5:=hI.p 5 (by omega) (by omega) (by omega) t5
    obtain ⟨M,base,mid,L,β,y,O⟩:=v5
    have y:=show f.tmps.getD 24 undef=_ from y
    simp only [Array.getD_eq_getD_getElem?] at y
    refine wpoV (o:=_) rfl rfl (w':=W) (v:=.agg #[.slice M.ma M.mn M.mc,.int .i64 M.cs,.int .i64 M.cw,.int .i64 M.ck,.int .i64 M.cd,.int .i64 M.pc,.slice M.ka M.kn M.kc,.slice M.fa M.fn M.fc,.slice M.ra M.rn M.rc,.slice M.oa M.on M.oc,.int .i64 M.md,.int .i64 M.bk,.slice M.la M.ln M.lc,.slice M.ha M.hn M.hc,.int .i64 M.tn]) ?_ (hK _ _ (hI.next HQ.out (j:=6) (by omega) (by omega) (by omega) _ W (Below.refl _ _) ⟨M,base,mid,L,β,rfl,O⟩))
    go_simp
  · -- 7
    have t5:=rdy_pre (o:=_) hi rfl ⟨5,.data⟩ (by simp) rfl
    have v5:=hI.p 5 (by omega) (by omega) (by omega) t5
    obtain ⟨M,base,mid,L,β,y,O⟩:=v5
    have y:=show f.tmps.getD 24 undef=_ from y
    simp only [Array.getD_eq_getD_getElem?] at y
    refine wpoV (o:=_) rfl rfl (w':=W) (v:=.int .i64 cd) ?_ (hK _ _ (hI.next HQ.out (j:=7) (by omega) (by omega) (by omega) _ W (Below.refl _ _) rfl))
    go_simp
  · -- 8
    have t5:=rdy_pre (o:=_) hi rfl ⟨5,.data⟩ (by simp) rfl
    have v5:=hI.p 5 (by omega) (by omega) (by omega) t5
    obtain ⟨M,base,mid,L,β,y,O⟩:=v5
    have y:=show f.tmps.getD 24 undef=_ from y
    simp only [Array.getD_eq_getD_getElem?] at y
    refine wpoV (o:=_) rfl rfl (w':=W) (v:=.int .i64 ca) ?_ (hK _ _ (hI.next HQ.out (j:=8) (by omega) (by omega) (by omega) _ W (Below.refl _ _) rfl))
    go_simp
  · -- 9
    refine wpoV (o:=_) rfl rfl (w':=W.alloc (.cells z15 54)) (v:=.pointer (some ⟨W.heap.size,0,none⟩)) ?_ (hK _ _ (hI.box HQ.out hb))
    unfold z15
    go_simp
  · -- 10
    have t9:=rdy_pre (o:=_) hi rfl ⟨9,.data⟩ (by simp) rfl
    have t6:=rdy_pre (o:=_) hi rfl ⟨6,.data⟩ (by simp) rfl
    have v6:=hI.p 6 (by omega) (by omega) (by omega) t6
    obtain ⟨M,base,mid,L,β,y6,O⟩:=v6
    have y6:=show f.tmps.getD 30 undef=_ from y6
    obtain ⟨gb,e1,e2,e3,_⟩:=hI.bx t9
    have kb:=e3 ((lstT (by rw [hI.sz];omega) true).symm.trans hb)
    have y9:=show f.tmps.getD 6 undef=_ from e1
    have KB:=kb
    unfold z15 at KB
    obtain ⟨c0,c1,c2,c3,c4,c5,c6,c7,c8,c9,c10,c11,c12,c13,c14⟩:=KB.mc
    have f0:=KB.frozen 0
    have f1:=KB.frozen 1
    have f2:=KB.frozen 2
    have f3:=KB.frozen 3
    have f4:=KB.frozen 4
    have f5:=KB.frozen 5
    have f6:=KB.frozen 6
    have f7:=KB.frozen 7
    have f8:=KB.frozen 8
    have f9:=KB.frozen 9
    have f10:=KB.frozen 10
    have f11:=KB.frozen 11
    have f12:=KB.frozen 12
    have f13:=KB.frozen 13
    have f14:=KB.frozen 14
    refine wpoS (o:=_) rfl rfl (w':=st15 W gb (.slice M.ma M.mn M.mc) (.int .i64 M.cs) (.int .i64 M.cw) (.int .i64 M.ck) (.int .i64 M.cd) (.int .i64 M.pc) (.slice M.ka M.kn M.kc) (.slice M.fa M.fn M.fc) (.slice M.ra M.rn M.rc) (.slice M.oa M.on M.oc) (.int .i64 M.md) (.int .i64 M.bk) (.slice M.la M.ln M.lc) (.slice M.ha M.hn M.hc) (.int .i64 M.tn)) ?_ (hK _ _ (hI.store hb t9 O e1 e2 kb))
    simp only [Array.getD_eq_getD_getElem?] at y6 y9
    unfold st15
    go_simp
  · -- 11
    have t7:=rdy_pre (o:=_) hi rfl ⟨7,.data⟩ (by simp) rfl
    have v7:=hI.p 7 (by omega) (by omega) (by omega) t7
    have y7:=show f.tmps.getD 31 undef=.int .i64 cd from v7
    simp only [Array.getD_eq_getD_getElem?] at y7
    refine wpoV (o:=_) rfl rfl (w':=W) (v:=.int .i64 cd) ?_ (hK _ _ (hI.next HQ.out (j:=11) (by omega) (by omega) (by omega) _ W (Below.refl _ _) rfl))
    go_simp
  · -- 12
    have t8:=rdy_pre (o:=_) hi rfl ⟨8,.data⟩ (by simp) rfl
    have v8:=hI.p 8 (by omega) (by omega) (by omega) t8
    have y8:=show f.tmps.getD 32 undef=.int .i64 ca from v8
    simp only [Array.getD_eq_getD_getElem?] at y8
    refine wpoV (o:=_) rfl rfl (w':=W) (v:=.int .i64 ca) ?_ (hK _ _ (hI.next HQ.out (j:=12) (by omega) (by omega) (by omega) _ W (Below.refl _ _) rfl))
    go_simp
 intro listed f W5 hI hr
 have hal:=all_lst hr (by kernel_rfl) hI.sz
 have l9:=hal 9 (by show 9<13;omega)
 have l10:=hal 10 (by show 10<13;omega)
 have l11:=hal 11 (by show 11<13;omega)
 have l12:=hal 12 (by show 12<13;omega)
 obtain ⟨gb,e1,e2,_,e4⟩:=hI.bx l9
 obtain ⟨M,base,mid,L,β,kb,O⟩:=e4 l10
 have xq1:=hI.p 11 (by omega) (by omega) (by omega) l11
 have xq2:=hI.p 12 (by omega) (by omega) (by omega) l12
 have hF:=show Fin8 C w1 gb M base mid L β W5 from ⟨hI.b,kb,O⟩
 have x0:=show f.tmps.getD 6 undef=.pointer (some ⟨gb,0,none⟩) from e1
 have x1:=show f.tmps.getD 7 undef=.int .i64 cd from xq1
 have x2:=show f.tmps.getD 8 undef=.int .i64 ca from xq2
 rw [putS_eq hI.fd hI.fs hI.fo]
 have HX:=hide (And.intro x0 (And.intro x1 x2))
 clear hI hr kb O e1 x0 x1 x2 xq1 xq2 e2 e4 hal l9 l10 l11 l12
 obtain ⟨y,hy⟩:∃ y:Nat→Value,y=fun t=>f.tmps.getD t undef:=⟨_,rfl⟩
 rw [← hy]
 have x1:y 6=.pointer (some ⟨gb,0,none⟩):=by rw [hy];exact HX.out.1
 have x2:y 7=.int .i64 cd:=by rw [hy];exact HX.out.2.1
 have x3:y 8=.int .i64 ca:=by rw [hy];exact HX.out.2.2
 clear hy HX
 simp only [putS,Act.put,List.setIfInBounds_toArray,List.set_cons_zero,List.set_cons_succ]
 rw [x1,x2,x3]
 generalize y 25=u25
 generalize y 26=u26
 generalize y 27=u27
 generalize y 28=u28
 generalize y 29=u29
 generalize y 24=u24
 generalize y 30=u30
 generalize y 31=u31
 generalize y 32=u32
 clear x1 x2 x3 y f
 show Exit.then _ _ _ _ _
 clear HBW HQ
 have HK5:=hide (show ∀ X,Below W5.heap.size W5 X→(Below w.heap.size w X∧Blk X w.heap.size #[.int .i64 s,.int .i64 c,.int .i64 k,.int .i64 d] 76)∧Blk X gb #[.slice M.ma M.mn M.mc,.int .i64 M.cs,.int .i64 M.cw,.int .i64 M.ck,.int .i64 M.cd,.int .i64 M.pc,.slice M.ka M.kn M.kc,.slice M.fa M.fn M.fc,.slice M.ra M.rn M.rc,.slice M.oa M.on M.oc,.int .i64 M.md,.int .i64 M.bk,.slice M.la M.ln M.lc,.slice M.ha M.hn M.hc,.int .i64 M.tn] 54∧LdO X base mid C M L β from fun X hX=>⟨⟨(HBK.out.1.trans (hF.b.mono HBK.out.1.size)).trans (hX.mono (HBK.out.1.trans (hF.b.mono HBK.out.1.size)).size),(HBK.out.2.below hF.b).below hX⟩,hF.k.below hX,hF.m.below hX⟩)
 have HG5:=hide (show w.heap.size<W5.heap.size∧gb<W5.heap.size from ⟨Nat.lt_of_lt_of_le hw1 hF.b.size,hF.k.lt⟩)
 clear hF hw1 HBK HCL HSP cz0 cz1 cz2 cz3
 go_wp2_with fail
 refine (HT.out W5 (HK5.out _ (Below.refl _ _)).1.1).mono ?_
 rintro e w6 ⟨rfl,⟨gs,lx,rx⟩,hb6⟩
 have hs6:W5.heap.size<w6.heap.size:=by obtain ⟨⟨cur,hc,_⟩,_⟩:=rx;exact hc.lt
 have HRX:=hide rx
 have k6:=(HK5.out _ hb6).1.2
 have HB6:=hide hb6
 clear hb6 rx
 have g0:w6.cell? ⟨w.heap.size,0,none⟩=some (.int .i64 s):=k6.cell 0
 have g1:w6.cell? ⟨w.heap.size,1,none⟩=some (.int .i64 c):=k6.cell 1
 have g2:w6.cell? ⟨w.heap.size,2,none⟩=some (.int .i64 k):=k6.cell 2
 have g3:w6.cell? ⟨w.heap.size,3,none⟩=some (.int .i64 d):=k6.cell 3
 clear k6
 go_wp2_with fail
 refine (toConfig_any s c k d _).mono ?_
 rintro e w7 ⟨rfl,hb7⟩
 have HB67:=hide hb7
 have HB7:=hide (HB6.out.trans (hb7.mono HB6.out.size))
 clear g0 g1 g2 g3 hb7
 go_wp2_with fail
 refine (HIM.out _ gs w7 (HRX.out.below HB67.out) lx).mono ?_
 rintro e w8 ⟨hb8,N,nb,ni,nL,nβ,rfl,O8,nbs,nown⟩
 have hA8:Below w8.heap.size w8 (w8.alloc (.cells #[.slice N.ma N.mn N.mc,.int .i64 N.cs,.int .i64 N.cw,.int .i64 N.ck,.int .i64 N.cd,.int .i64 N.pc,.slice N.ka N.kn N.kc,.slice N.fa N.fn N.fc,.slice N.ra N.rn N.rc,.slice N.oa N.on N.oc,.int .i64 N.md,.int .i64 N.bk,.slice N.la N.ln N.lc,.slice N.ha N.hn N.hc,.int .i64 N.tn] 54)):=(Below.refl _ _).alloc (Nat.le_refl _) _
 have k8:=Blk.new w8 #[.slice N.ma N.mn N.mc,.int .i64 N.cs,.int .i64 N.cw,.int .i64 N.ck,.int .i64 N.cd,.int .i64 N.pc,.slice N.ka N.kn N.kc,.slice N.fa N.fn N.fc,.slice N.ra N.rn N.rc,.slice N.oa N.on N.oc,.int .i64 N.md,.int .i64 N.bk,.slice N.la N.ln N.lc,.slice N.ha N.hn N.hc,.int .i64 N.tn] 54
 have b78:=hb8.trans (hA8.mono hb8.size)
 have b68:=HB67.out.trans (b78.mono HB67.out.size)
 have b58:=HB6.out.trans (b68.mono HB6.out.size)
 have HN8:=hide (And.intro (O8.below hA8) (And.intro k8 (And.intro b58 b68)))
 have hs7:w6.heap.size≤nb:=Nat.le_trans HB67.out.size nbs
 have hs68:w6.heap.size≤w8.heap.size:=Nat.le_trans HB67.out.size hb8.size
 obtain ⟨p0,p1,p2,p3,p4,p5,p6,p7,p8,p9,p10,p11,p12,p13,p14⟩:=(k8).mc
 obtain ⟨r0,r1,r2,r3,r4,r5,r6,r7,r8,r9,r10,r11,r12,r13,r14⟩:=((HK5.out _ b58).2.1).mc
 clear hA8 k8 b78 b68 b58 hb8 O8
 go_wp2_with fail
 clear p0 p1 p2 p3 p4 p5 p6 p7 p8 p9 p10 p11 p12 p13 p14 r0 r1 r2 r3 r4 r5 r6 r7 r8 r9 r10 r11 r12 r13 r14
 generalize w8.alloc (.cells #[.slice N.ma N.mn N.mc,.int .i64 N.cs,.int .i64 N.cw,.int .i64 N.ck,.int .i64 N.cd,.int .i64 N.pc,.slice N.ka N.kn N.kc,.slice N.fa N.fn N.fc,.slice N.ra N.rn N.rc,.slice N.oa N.on N.oc,.int .i64 N.md,.int .i64 N.bk,.slice N.la N.ln N.lc,.slice N.ha N.hn N.hc,.int .i64 N.tn] 54)=W8 at *
 have HG8:=hide (show w6.heap.size≤w8.heap.size from hs68)
 clear hs68
 generalize w8.heap.size=g8 at *
 refine (eqMachine_same N M _ (HN8.out.1.mnd HCB.out) ((HK5.out _ HN8.out.2.2.1).2.2.mnd HCB.out) (LdO.sam HN8.out.1 (HK5.out _ HN8.out.2.2.1).2.2 HCB.out)).mono ?_
 rintro e w9 ⟨rfl,hb9⟩
 have HB9:=hide hb9
 have HB59:=hide (HN8.out.2.2.1.trans (hb9.mono HN8.out.2.2.1.size))
 clear hb9
 generalize Value.agg #[.slice N.ma N.mn N.mc,.int .i64 N.cs,.int .i64 N.cw,.int .i64 N.ck,.int .i64 N.cd,.int .i64 N.pc,.slice N.ka N.kn N.kc,.slice N.fa N.fn N.fc,.slice N.ra N.rn N.rc,.slice N.oa N.on N.oc,.int .i64 N.md,.int .i64 N.bk,.slice N.la N.ln N.lc,.slice N.ha N.hn N.hc,.int .i64 N.tn]=v9N
 generalize Value.agg #[.slice M.ma M.mn M.mc,.int .i64 M.cs,.int .i64 M.cw,.int .i64 M.ck,.int .i64 M.cd,.int .i64 M.pc,.slice M.ka M.kn M.kc,.slice M.fa M.fn M.fc,.slice M.ra M.rn M.rc,.slice M.oa M.on M.oc,.int .i64 M.md,.int .i64 M.bk,.slice M.la M.ln M.lc,.slice M.ha M.hn M.hc,.int .i64 M.tn]=v9M
 generalize Value.tuple #[v9N,.int .i64 cd,.int .i64 ca]=v9T
 go_wp2_with fail
 refine (HT.out w9 (HK5.out _ HB59.out).1.1).mono ?_
 rintro e w10 ⟨rfl,⟨gs',lx',rx'⟩,hb10⟩
 have HB10:=hide (HB9.out.trans (hb10.mono HB9.out.size))
 have HB510:=hide (HB59.out.trans (hb10.mono HB59.out.size))
 have HB610:=hide (HN8.out.2.2.2.trans (HB10.out.mono HN8.out.2.2.2.size))
 clear hb10
 go_wp2_with fail
 refine (eqByteSS_same _ _ n n n _ _ _ ((HRX.out.below HB610.out).bbs HH.out lx) (rx'.bbs HH.out lx') (reb_same (w:=w) (X:=w) (Y:=w) (g:=0) (g':=0) lx lx' HH.out)).mono ?_
 rintro e w11 ⟨rfl,hb11⟩
 have HB11:=hide (HB10.out.trans (hb11.mono HB10.out.size))
 have HB511:=hide (HB510.out.trans (hb11.mono HB510.out.size))
 have HB611:=hide (HB610.out.trans (hb11.mono HB610.out.size))
 clear hb11 rx' HB10 HB510 HB610 HB9 HB59
 have HMK:=hide (markByteSS_sl (fun j=>W5.heap.size<j∧j<w6.heap.size) (some ⟨W5.heap.size,0,none⟩) n n 1 (bankF gs bl) w11 (rowy_sl (HRX.out.below HB611.out) lx HH.out (fun q=>by omega) (fun i hi=>⟨(HRX.out.2.1 i (by omega)).2,Blk.lt (HRX.out.2.1 i (by omega)).1⟩)) hn (by rw [sumB_bank];exact HZS.out) (by omega))
 obtain ⟨KM,hKM⟩:∃ KM,KM=1+sumB (bankF gs bl) n:=⟨_,rfl⟩
 rw [← hKM] at HMK
 have hKB:¬ ((KM:Nat):Int)<0:=by omega
 clear hKM
 go_wp2_with fail
 refine HMK.out.mono ?_
 rintro e w12 ⟨rfl,mk12⟩
 have t12:=mk12.turn
 have b512:Below W5.heap.size W5 w12:=below_turn HB511.out t12 (fun j hj=>by omega) HB511.out.size
 have O12:=(HN8.out.1.below HB11.out).turn t12 (fun j hj=>by omega)
 have k12:=turn_blk t12 (HN8.out.2.1.below HB11.out) (fun q=>by have h1:=HG8.out;omega)
 have HN12:=hide (And.intro O12 (And.intro k12 b512))
 clear t12 mk12 b512 O12
 obtain ⟨p0,p1,p2,p3,p4,p5,p6,p7,p8,p9,p10,p11,p12,p13,p14⟩:=(k12).mc
 obtain ⟨r0,r1,r2,r3,r4,r5,r6,r7,r8,r9,r10,r11,r12,r13,r14⟩:=((HK5.out _ HN12.out.2.2).2.1).mc
 clear k12 HMK
 go_wp2_with fail
 clear p0 p1 p2 p3 p4 p5 p6 p7 p8 p9 p10 p11 p12 p13 p14 r0 r1 r2 r3 r4 r5 r6 r7 r8 r9 r10 r11 r12 r13 r14
 refine (eqMachine_same N M _ (HN12.out.1.mnd HCB.out) ((HK5.out _ HN12.out.2.2).2.2.mnd HCB.out) (LdO.sam HN12.out.1 (HK5.out _ HN12.out.2.2).2.2 HCB.out)).mono ?_
 rintro e w13 ⟨rfl,hb13⟩
 have O13:=HN12.out.1.below hb13
 have k13:=HN12.out.2.1.below hb13
 have b513:=HN12.out.2.2.trans (hb13.mono HN12.out.2.2.size)
 obtain ⟨cn1,cn2⟩:=O13.cnt HCB.out
 obtain ⟨ln1,ln2⟩:=O13.len HCB.out
 have CM:=hide (markMachine_any N nb _ (nL.map hdP) nβ _ _ _ _ _ _ w13 (O13.mno (nown trivial)) (by rw [List.length_map];exact ln1) cn1 (fun i hi=>by have:=cn2 i hi;omega) (by omega))
 have HCN:=hide (And.intro cn1 (And.intro cn2 (And.intro ln1 ln2)))
 have HN13:=hide (And.intro O13 (And.intro k13 b513))
 generalize hKQ:1+upS (fun j=>cntH (((nL.map hdP).map fun x=>x.1).getD j zHd)) N.mn+N.kn+N.fn+N.rn+N.on+4 * N.ln+4 * N.hn=KQ at CM
 have HKQ:=hide hKQ
 clear hKQ cn1 cn2 ln1 ln2 hb13 O13 b513
 obtain ⟨p0,p1,p2,p3,p4,p5,p6,p7,p8,p9,p10,p11,p12,p13,p14⟩:=(k13).mc
 clear k13
 generalize Value.agg #[.slice N.ma N.mn N.mc,.int .i64 N.cs,.int .i64 N.cw,.int .i64 N.ck,.int .i64 N.cd,.int .i64 N.pc,.slice N.ka N.kn N.kc,.slice N.fa N.fn N.fc,.slice N.ra N.rn N.rc,.slice N.oa N.on N.oc,.int .i64 N.md,.int .i64 N.bk,.slice N.la N.ln N.lc,.slice N.ha N.hn N.hc,.int .i64 N.tn]=v13N
 generalize Value.agg #[.slice M.ma M.mn M.mc,.int .i64 M.cs,.int .i64 M.cw,.int .i64 M.ck,.int .i64 M.cd,.int .i64 M.pc,.slice M.ka M.kn M.kc,.slice M.fa M.fn M.fc,.slice M.ra M.rn M.rc,.slice M.oa M.on M.oc,.int .i64 M.md,.int .i64 M.bk,.slice M.la M.ln M.lc,.slice M.ha M.hn M.hc,.int .i64 M.tn]=v13M
 go_wp2_with fail
 refine CM.out.mono ?_
 rintro e w14 ⟨rfl,⟨L14,O14,D14⟩,t14⟩
 have k14:=turn_blk t14 HN13.out.2.1 (fun q=>by obtain ⟨_,cs,t,kq,hq⟩:=q;exact hq (blk_kind kq HN13.out.2.1))
 have b514:Below W5.heap.size W5 w14:=below_turn HN13.out.2.2 t14 (fun j hj=>by have:=hj.1.1;omega) HN13.out.2.2.size
 have CH:=hide (heldMachine_any N nb _ L14 nβ w14 O14 D14 HCN.out.1 (fun i hi=>by have:=HCN.out.2.1 i hi;omega) (by have:=HCN.out.2.2;omega))
 rw [HKQ.out] at CH
 have HN14:=hide b514
 clear p0 p1 p2 p3 p4 p5 p6 p7 p8 p9 p10 p11 p12 p13 p14 O14 D14 t14 b514 CM
 obtain ⟨p0,p1,p2,p3,p4,p5,p6,p7,p8,p9,p10,p11,p12,p13,p14⟩:=(k14).mc
 clear k14
 have hKQ0:¬ ((KQ:Nat):Int)<0:=by omega
 have hKQ1:(((KQ:Nat):Int) != ((KQ:Nat):Int))=false:=by simp
 go_wp2_with fail
 refine CH.out.mono ?_
 rintro e w15 ⟨rfl,hb15⟩
 have HB15:=hide (HN14.out.trans (hb15.mono HN14.out.size))
 clear p0 p1 p2 p3 p4 p5 p6 p7 p8 p9 p10 p11 p12 p13 p14 hb15 CH HN14 HN13 HN12 HN8 HCN HKQ HRX HB11 HB511 HB611 HB6 HB67 HB7 nown nbs hs7 hs6 HG8
 generalize (nL.map hdP).map (fun x=>x.1)=nh at *
 have hw15:w.heap.size<w15.heap.size:=Nat.lt_of_lt_of_le HG5.out.1 HB15.out.size
 have HCL2:=hide (fun (W:World) (hb:Below w15.heap.size w15 W)=>show W.cell? ⟨w.heap.size,0,none⟩=some (.int .i64 s)∧W.cell? ⟨w.heap.size,1,none⟩=some (.int .i64 c)∧W.cell? ⟨w.heap.size,2,none⟩=some (.int .i64 k)∧W.cell? ⟨w.heap.size,3,none⟩=some (.int .i64 d) from ⟨((HK5.out _ HB15.out).1.2.below hb).cell 0,((HK5.out _ HB15.out).1.2.below hb).cell 1,((HK5.out _ HB15.out).1.2.below hb).cell 2,((HK5.out _ HB15.out).1.2.below hb).cell 3⟩)
 have HBE:=hide (HK5.out _ HB15.out).1.1
 obtain ⟨cz0,cz1,cz2,cz3⟩:=HCL2.out w15 (Below.refl _ _)
 generalize Value.agg #[.slice N.ma N.mn N.mc,.int .i64 N.cs,.int .i64 N.cw,.int .i64 N.ck,.int .i64 N.cd,.int .i64 N.pc,.slice N.ka N.kn N.kc,.slice N.fa N.fn N.fc,.slice N.ra N.rn N.rc,.slice N.oa N.on N.oc,.int .i64 N.md,.int .i64 N.bk,.slice N.la N.ln N.lc,.slice N.ha N.hn N.hc,.int .i64 N.tn]=v15N
 have HBW:=hide HBE.out
 go_wp2_with fail
 have HQ:=hide (show SlOk (fun j=>[95,96,97,98,99,94,100,101,102,16,1000,17,18].getD j 0) [95,96,97,98,99,94,100,101,102,16,17,18] 117 from ⟨sl_m _ _ (by decide),sl_i _ (by decide),sl_s _ _ (by decide)⟩)
 refine wp_region_inv0 (by kernel_rfl) (fun A listed f W=>IL a n cap bl s c k d cd ca C (fun j=>[95,96,97,98,99,94,100,101,102,16,1000,17,18].getD j 0) [95,96,97,98,99,94,100,101,102,16,17,18] w15 A listed f W) (IL.start rfl) ?_ ?_
 ·intro listed f W i K hI hi hK
  have hlt:i<13:=by obtain ⟨_,o,ho,_⟩:=mem_ready.1 hi;exact (Array.getElem?_eq_some_iff.1 ho).1
  have hb:=(mem_ready.1 hi).1
  rcases (show i=0∨i=1∨i=2∨i=3∨i=4∨i=5∨i=6∨i=7∨i=8∨i=9∨i=10∨i=11∨i=12 by omega) with rfl | rfl | rfl | rfl | rfl | rfl | rfl | rfl | rfl | rfl | rfl | rfl | rfl
  · -- 0
    have y:=show f.tmps.getD 0 undef=.slice a n cap from hI.fo 0 (by decide)
    simp only [Array.getD_eq_getD_getElem?] at y
    refine wpoV (o:=_) rfl rfl (w':=W) (v:=.slice a n cap) ?_ (hK _ _ (hI.next HQ.out (j:=0) (by omega) (by omega) (by omega) _ W (Below.refl _ _) rfl))
    go_simp
  · -- 1
    have t0:=rdy_pre (o:=_) hi rfl ⟨0,.data⟩ (by simp) rfl
    have v0:=hI.p 0 (by omega) (by omega) (by omega) t0
    have y0:=show f.tmps.getD 95 undef=.slice a n cap from v0
    simp only [Array.getD_eq_getD_getElem?] at y0
    refine wpoC (o:=_) (f:=36) (args:=#[.slice a n cap]) rfl rfl (w':=W) (by go_simp) (HT.out W (HBW.out.trans (hI.b.mono HBW.out.size))) ?_
    rintro e W' ⟨rfl,⟨gs,lx,rx⟩,hb1⟩
    exact ⟨_,rfl,(hK _ _ (hI.next HQ.out (j:=1) (by omega) (by omega) (by omega) _ _ hb1 ⟨_,gs,rfl,rx,lx⟩))⟩
  · -- 2
    obtain ⟨c0,c1,c2,c3⟩:=HCL2.out W hI.b
    have y:=show f.tmps.getD 3 undef=.pointer (some ⟨w.heap.size,0,none⟩) from hI.fo 3 (by decide)
    simp only [Array.getD_eq_getD_getElem?] at y
    refine wpoV (o:=_) rfl rfl (w':=W) (v:=.agg #[.int .i64 s,.int .i64 c,.int .i64 k,.int .i64 d]) ?_ (hK _ _ (hI.next HQ.out (j:=2) (by omega) (by omega) (by omega) _ W (Below.refl _ _) rfl))
    go_simp
  · -- 3
    have t2:=rdy_pre (o:=_) hi rfl ⟨2,.data⟩ (by simp) rfl
    have v2:=hI.p 2 (by omega) (by omega) (by omega) t2
    have y2:=show f.tmps.getD 97 undef=.agg #[.int .i64 s,.int .i64 c,.int .i64 k,.int .i64 d] from v2
    simp only [Array.getD_eq_getD_getElem?] at y2
    refine wpoC (o:=_) (f:=37) (args:=#[.agg #[.int .i64 s,.int .i64 c,.int .i64 k,.int .i64 d]]) rfl rfl (w':=W) (by go_simp) (toConfig_any s c k d W) ?_
    rintro e W' ⟨rfl,hb1⟩
    exact ⟨_,rfl,(hK _ _ (hI.next HQ.out (j:=3) (by omega) (by omega) (by omega) _ _ hb1 rfl))⟩
  · -- 4
    have t1:=rdy_pre (o:=_) hi rfl ⟨1,.data⟩ (by simp) rfl
    have v1:=hI.p 1 (by omega) (by omega) (by omega) t1
    have t3:=rdy_pre (o:=_) hi rfl ⟨3,.data⟩ (by simp) rfl
    have v3:=hI.p 3 (by omega) (by omega) (by omega) t3
    obtain ⟨g1,gs,y1,rx,lx⟩:=v1
    have y1:=show f.tmps.getD 96 undef=_ from y1
    simp only [Array.getD_eq_getD_getElem?] at y1
    have y3:=show f.tmps.getD 98 undef=.agg #[.int .i64 s,.int .i64 c,.int .i64 k,.int .i64 d] from v3
    simp only [Array.getD_eq_getD_getElem?] at y3
    refine wpoC (o:=_) (f:=19) (args:=#[.slice (some ⟨g1,0,none⟩) n n,.agg #[.int .i64 s,.int .i64 c,.int .i64 k,.int .i64 d]]) rfl rfl (w':=W) (by go_simp) (HIM.out g1 gs W rx lx) ?_
    rintro e W' ⟨hb1,M,base,mid,L,β,rfl,O,_,_⟩
    exact ⟨_,rfl,(hK _ _ (hI.next HQ.out (j:=4) (by omega) (by omega) (by omega) _ _ hb1 ⟨M,base,mid,L,β,rfl,O⟩))⟩
  · -- 5
    have t4:=rdy_pre (o:=_) hi rfl ⟨4,.data⟩ (by simp) rfl
    have v4:=hI.p 4 (by omega) (by omega) (by omega) t4
    obtain ⟨M,base,mid,L,β,y,O⟩:=v4
    have y:=show f.tmps.getD 99 undef=_ from y
    simp only [Array.getD_eq_getD_getElem?] at y
    refine wpoV (o:=_) rfl rfl (w':=W) (v:=.tuple #[.agg #[.slice M.ma M.mn M.mc,.int .i64 M.cs,.int .i64 M.cw,.int .i64 M.ck,.int .i64 M.cd,.int .i64 M.pc,.slice M.ka M.kn M.kc,.slice M.fa M.fn M.fc,.slice M.ra M.rn M.rc,.slice M.oa M.on M.oc,.int .i64 M.md,.int .i64 M.bk,.slice M.la M.ln M.lc,.slice M.ha M.hn M.hc,.int .i64 M.tn],.int .i64 cd,.int .i64 ca]) ?_ (hK _ _ (hI.next HQ.out (j:=5) (by omega) (by omega) (by omega) _ W (Below.refl _ _) ⟨M,base,mid,L,β,rfl,O⟩))
    go_simp
  · -- 6
    have t5:=rdy_pre (o:=_) hi rfl ⟨5,.data⟩ (by simp) rfl
    have v5:=hI.p 5 (by omega) (by omega) (by omega) t5
    obtain ⟨M,base,mid,L,β,y,O⟩:=v5
    have y:=show f.tmps.getD 94 undef=_ from y
    simp only [Array.getD_eq_getD_getElem?] at y
    refine wpoV (o:=_) rfl rfl (w':=W) (v:=.agg #[.slice M.ma M.mn M.mc,.int .i64 M.cs,.int .i64 M.cw,.int .i64 M.ck,.int .i64 M.cd,.int .i64 M.pc,.slice M.ka M.kn M.kc,.slice M.fa M.fn M.fc,.slice M.ra M.rn M.rc,.slice M.oa M.on M.oc,.int .i64 M.md,.int .i64 M.bk,.slice M.la M.ln M.lc,.slice M.ha M.hn M.hc,.int .i64 M.tn]) ?_ (hK _ _ (hI.next HQ.out (j:=6) (by omega) (by omega) (by omega) _ W (Below.refl _ _) ⟨M,base,mid,L,β,rfl,O⟩))
    go_simp
  · -- 7
    have t5:=rdy_pre (o:=_) hi rfl ⟨5,.data⟩ (by simp) rfl
    have v5:=hI.p 5 (by omega) (by omega) (by omega) t5
    obtain ⟨M,base,mid,L,β,y,O⟩:=v5
    have y:=show f.tmps.getD 94 undef=_ from y
    simp only [Array.getD_eq_getD_getElem?] at y
    refine wpoV (o:=_) rfl rfl (w':=W) (v:=.int .i64 cd) ?_ (hK _ _ (hI.next HQ.out (j:=7) (by omega) (by omega) (by omega) _ W (Below.refl _ _) rfl))
    go_simp
  · -- 8
    have t5:=rdy_pre (o:=_) hi rfl ⟨5,.data⟩ (by simp) rfl
    have v5:=hI.p 5 (by omega) (by omega) (by omega) t5
    obtain ⟨M,base,mid,L,β,y,O⟩:=v5
    have y:=show f.tmps.getD 94 undef=_ from y
    simp only [Array.getD_eq_getD_getElem?] at y
    refine wpoV (o:=_) rfl rfl (w':=W) (v:=.int .i64 ca) ?_ (hK _ _ (hI.next HQ.out (j:=8) (by omega) (by omega) (by omega) _ W (Below.refl _ _) rfl))
    go_simp
  · -- 9
    refine wpoV (o:=_) rfl rfl (w':=W.alloc (.cells z15 54)) (v:=.pointer (some ⟨W.heap.size,0,none⟩)) ?_ (hK _ _ (hI.box HQ.out hb))
    unfold z15
    go_simp
  · -- 10
    have t9:=rdy_pre (o:=_) hi rfl ⟨9,.data⟩ (by simp) rfl
    have t6:=rdy_pre (o:=_) hi rfl ⟨6,.data⟩ (by simp) rfl
    have v6:=hI.p 6 (by omega) (by omega) (by omega) t6
    obtain ⟨M,base,mid,L,β,y6,O⟩:=v6
    have y6:=show f.tmps.getD 100 undef=_ from y6
    obtain ⟨gb,e1,e2,e3,_⟩:=hI.bx t9
    have kb:=e3 ((lstT (by rw [hI.sz];omega) true).symm.trans hb)
    have y9:=show f.tmps.getD 16 undef=_ from e1
    have KB:=kb
    unfold z15 at KB
    obtain ⟨c0,c1,c2,c3,c4,c5,c6,c7,c8,c9,c10,c11,c12,c13,c14⟩:=KB.mc
    have f0:=KB.frozen 0
    have f1:=KB.frozen 1
    have f2:=KB.frozen 2
    have f3:=KB.frozen 3
    have f4:=KB.frozen 4
    have f5:=KB.frozen 5
    have f6:=KB.frozen 6
    have f7:=KB.frozen 7
    have f8:=KB.frozen 8
    have f9:=KB.frozen 9
    have f10:=KB.frozen 10
    have f11:=KB.frozen 11
    have f12:=KB.frozen 12
    have f13:=KB.frozen 13
    have f14:=KB.frozen 14
    refine wpoS (o:=_) rfl rfl (w':=st15 W gb (.slice M.ma M.mn M.mc) (.int .i64 M.cs) (.int .i64 M.cw) (.int .i64 M.ck) (.int .i64 M.cd) (.int .i64 M.pc) (.slice M.ka M.kn M.kc) (.slice M.fa M.fn M.fc) (.slice M.ra M.rn M.rc) (.slice M.oa M.on M.oc) (.int .i64 M.md) (.int .i64 M.bk) (.slice M.la M.ln M.lc) (.slice M.ha M.hn M.hc) (.int .i64 M.tn)) ?_ (hK _ _ (hI.store hb t9 O e1 e2 kb))
    simp only [Array.getD_eq_getD_getElem?] at y6 y9
    unfold st15
    go_simp
  · -- 11
    have t7:=rdy_pre (o:=_) hi rfl ⟨7,.data⟩ (by simp) rfl
    have v7:=hI.p 7 (by omega) (by omega) (by omega) t7
    have y7:=show f.tmps.getD 101 undef=.int .i64 cd from v7
    simp only [Array.getD_eq_getD_getElem?] at y7
    refine wpoV (o:=_) rfl rfl (w':=W) (v:=.int .i64 cd) ?_ (hK _ _ (hI.next HQ.out (j:=11) (by omega) (by omega) (by omega) _ W (Below.refl _ _) rfl))
    go_simp
  · -- 12
    have t8:=rdy_pre (o:=_) hi rfl ⟨8,.data⟩ (by simp) rfl
    have v8:=hI.p 8 (by omega) (by omega) (by omega) t8
    have y8:=show f.tmps.getD 102 undef=.int .i64 ca from v8
    simp only [Array.getD_eq_getD_getElem?] at y8
    refine wpoV (o:=_) rfl rfl (w':=W) (v:=.int .i64 ca) ?_ (hK _ _ (hI.next HQ.out (j:=12) (by omega) (by omega) (by omega) _ W (Below.refl _ _) rfl))
    go_simp
 as_aux_lemma=>
  intro listed f W16 hI hr
  have hal:=all_lst hr (by kernel_rfl) hI.sz
  have l9:=hal 9 (by show 9<13;omega)
  have l10:=hal 10 (by show 10<13;omega)
  have l11:=hal 11 (by show 11<13;omega)
  have l12:=hal 12 (by show 12<13;omega)
  obtain ⟨gb',e1,e2,_,e4⟩:=hI.bx l9
  obtain ⟨N2,nb2,ni2,nL2,nβ2,kb,O⟩:=e4 l10
  have xq1:=hI.p 11 (by omega) (by omega) (by omega) l11
  have xq2:=hI.p 12 (by omega) (by omega) (by omega) l12
  have hF:=show Fin8 C w15 gb' N2 nb2 ni2 nL2 nβ2 W16 from ⟨hI.b,kb,O⟩
  have x0:=show f.tmps.getD 16 undef=.pointer (some ⟨gb',0,none⟩) from e1
  have x1:=show f.tmps.getD 17 undef=.int .i64 cd from xq1
  have x2:=show f.tmps.getD 18 undef=.int .i64 ca from xq2
  rw [putS_eq hI.fd hI.fs hI.fo]
  have HX:=hide (And.intro x0 (And.intro x1 x2))
  clear hI hr kb O e1 x0 x1 x2 xq1 xq2 e2 e4 hal l9 l10 l11 l12
  obtain ⟨y,hy⟩:∃ y:Nat→Value,y=fun t=>f.tmps.getD t undef:=⟨_,rfl⟩
  rw [← hy]
  have x1:y 16=.pointer (some ⟨gb',0,none⟩):=by rw [hy];exact HX.out.1
  have x2:y 17=.int .i64 cd:=by rw [hy];exact HX.out.2.1
  have x3:y 18=.int .i64 ca:=by rw [hy];exact HX.out.2.2
  clear hy HX
  simp only [putS,Act.put,List.setIfInBounds_toArray,List.set_cons_zero,List.set_cons_succ]
  rw [x1,x2,x3]
  generalize y 95=u95
  generalize y 96=u96
  generalize y 97=u97
  generalize y 98=u98
  generalize y 99=u99
  generalize y 94=u94
  generalize y 100=u100
  generalize y 101=u101
  generalize y 102=u102
  clear x1 x2 x3 y f
  show Exit.then _ _ _ _ _
  clear HBW HQ
  have HF:=hide hF
  have b16:=HB15.out.trans (hF.b.mono HB15.out.size)
  have HB16:=hide b16
  obtain ⟨p0,p1,p2,p3,p4,p5,p6,p7,p8,p9,p10,p11,p12,p13,p14⟩:=(hF.k).mc
  obtain ⟨r0,r1,r2,r3,r4,r5,r6,r7,r8,r9,r10,r11,r12,r13,r14⟩:=((HK5.out _ b16).2.1).mc
  clear hF b16 cz0 cz1 cz2 cz3 hw15 HCL2
  go_wp2_with fail
  refine (eqMachine_same N2 M _ (HF.out.m.mnd HCB.out) ((HK5.out _ HB16.out).2.2.mnd HCB.out) (LdO.sam HF.out.m (HK5.out _ HB16.out).2.2 HCB.out)).mono ?_
  rintro e w17 ⟨rfl,hb17⟩
  have HB:=hide ((HK5.out _ (HB16.out.trans (hb17.mono HB16.out.size))).1.1)
  clear p0 p1 p2 p3 p4 p5 p6 p7 p8 p9 p10 p11 p12 p13 p14 r0 r1 r2 r3 r4 r5 r6 r7 r8 r9 r10 r11 r12 r13 r14 hb17
  go_wp2
  go_ret
  exact ⟨rfl,HB.out⟩
end Go.Proofs.YtngdgogjlpjjpaeGreat
