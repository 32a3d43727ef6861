import Derived.Test.YtngdgogjlpjjpadGreatP21
import Derived.Test.YtngdgogjlpjjpadGreatP36
namespace Go.Proofs.YtngdgogjlpjjpadGreat
open Go.RowKit Classical
set_option linter.unusedVariables false
set_option linter.unusedSimpArgs false
set_option maxRecDepth 100000
theorem cut4 {S F:Nat→Nat→Nat→World→Prop} {G:Prop} (main:(∀ a b c W,F a b c W→S a b c W)→G) (pf:∀ a b c W,F a b c W→S a b c W):G:=main pf
structure Mk3 (N:Nat) (w1 W:World) (ZF ZR:Array Value) (F R gf gr gm:Nat):Prop where
 be:Below N w1 W
 f:Blk W gf ZF 5
 r:Blk W gr ZR 5
 m:Blk W gm #[.slice (some ⟨gf,0,none⟩) F F,.slice (some ⟨gr,0,none⟩) R R,.slice none 0 0] 38
 lo:N≤gf∧N≤gr∧N≤gm
 ne:gf≠gr
structure ImT (w:World) (V:Array Value) (F R gf gr gm:Nat) (fz rz:List Int) (W:World):Prop where
 be:Below w.heap.size w W
 kl:Blk W w.heap.size V 32
 kr:Blk W (w.heap.size+1) #[.slice none 0 0,.slice none 0 0,.slice none 0 0] 38
 km:Blk W gm #[.slice (some ⟨gf,0,none⟩) F F,.slice (some ⟨gr,0,none⟩) R R,.slice none 0 0] 38
 f:OB W w.heap.size (.slice (some ⟨gf,0,none⟩) F F) fz
 r:OB W w.heap.size (.slice (some ⟨gr,0,none⟩) R R) rz
 lo:w.heap.size+1<gf∧w.heap.size+1<gr∧w.heap.size+1<gm
 ne:gf≠gr
structure It5 (w:World) (V:Array Value) (F R gf gr gm gp:Nat) (PV:Array Value) (fz rz:List Int) (W:World):Prop where
 s:ImT w V F R gf gr gm fz rz W
 p:Blk W gp PV 43
section
variable {w:World} {V:Array Value} {F R gf gr gm gp:Nat} {PV:Array Value} {fz rz:List Int} {W W':World}
theorem ImT.below (h:ImT w V F R gf gr gm fz rz W) (hb:Below W.heap.size W W'):ImT w V F R gf gr gm fz rz W':=⟨h.be.trans (hb.mono h.be.size),h.kl.below hb,h.kr.below hb,h.km.below hb,h.f.below hb,h.r.below hb,h.lo,h.ne⟩
theorem ImT.mf (h:ImT w V F R gf gr gm fz rz W):gm≠gf∧gm≠gr:=by
 obtain ⟨c1,k1⟩:=ob_blk h.f
 obtain ⟨c2,k2⟩:=ob_blk h.r
 exact ⟨fun e=>by subst e;exact absurd (blk_kind h.km k1) (by decide),fun e=>by subst e;exact absurd (blk_kind h.km k2) (by decide)⟩
theorem ImT.setf (h:ImT w V F R gf gr gm fz rz W) {fz':List Int} (O:OB W' w.heap.size (.slice (some ⟨gf,0,none⟩) F F) fz') (T:Turn (fun j=>j=gf) W W'):ImT w V F R gf gr gm fz' rz W':=
 have lo:=h.lo
 have ne:=h.ne
 ⟨below_turn h.be T (fun k e=>by omega) h.be.size,turn_blk T h.kl (by omega),turn_blk T h.kr (by omega),turn_blk T h.km h.mf.1,O,turn_ob T h.r (fun k hk e=>by simp [Value.ownBlock] at hk;omega),lo,ne⟩
theorem ImT.setr (h:ImT w V F R gf gr gm fz rz W) {rz':List Int} (O:OB W' w.heap.size (.slice (some ⟨gr,0,none⟩) R R) rz') (T:Turn (fun j=>j=gr) W W'):ImT w V F R gf gr gm fz rz' W':=
 have lo:=h.lo
 have ne:=h.ne
 ⟨below_turn h.be T (fun k e=>by omega) h.be.size,turn_blk T h.kl (by omega),turn_blk T h.kr (by omega),turn_blk T h.km h.mf.2,turn_ob T h.f (fun k hk e=>by simp [Value.ownBlock] at hk;omega),O,lo,ne⟩
theorem It5.below (h:It5 w V F R gf gr gm gp PV fz rz W) (hb:Below W.heap.size W W'):It5 w V F R gf gr gm gp PV fz rz W':=⟨h.s.below hb,h.p.below hb⟩
theorem It5.drew (h:It5 w V F R gf gr gm gp PV fz rz W):It5 w V F R gf gr gm gp PV fz rz W.drew:=h.below (Below.refl _ _).drew
theorem It5.pf (h:It5 w V F R gf gr gm gp PV fz rz W):gp≠gf∧gp≠gr:=by
 obtain ⟨c1,k1⟩:=ob_blk h.s.f
 obtain ⟨c2,k2⟩:=ob_blk h.s.r
 exact ⟨fun e=>by subst e;exact absurd (blk_kind h.p k1) (by decide),fun e=>by subst e;exact absurd (blk_kind h.p k2) (by decide)⟩
theorem It5.setf (h:It5 w V F R gf gr gm gp PV fz rz W) {fz':List Int} (O:OB W' w.heap.size (.slice (some ⟨gf,0,none⟩) F F) fz') (T:Turn (fun j=>j=gf) W W'):It5 w V F R gf gr gm gp PV fz' rz W':=⟨h.s.setf O T,turn_blk T h.p h.pf.1⟩
theorem It5.setr (h:It5 w V F R gf gr gm gp PV fz rz W) {rz':List Int} (O:OB W' w.heap.size (.slice (some ⟨gr,0,none⟩) R R) rz') (T:Turn (fun j=>j=gr) W W'):It5 w V F R gf gr gm gp PV fz rz' W':=⟨h.s.setr O T,turn_blk T h.p h.pf.2⟩
end
set_option maxHeartbeats 16000000 in
theorem iImage_any (a:Option Addr) (n cap:Nat) (ms:List Md) (L:Lay) (a0:Option Addr) (c0:Nat) (xs:List PB) (a2:Option Addr) (c2:Nat) (a5:Option Addr) (c5:Nat) (ts:List TB) (w:World) (h:MSD w a n cap ms) (hL:LyT w L a0 c0 xs a2 c2 a5 c5 ts):
 Calls Tryz.prog 13 #[.slice a n cap,.agg #[.slice a0 xs.length c0,.int .i64 L.stack,.slice a2 L.slots.length c2,.int .i64 L.flash,.int .i64 L.ram,.slice a5 ts.length c5]] w (ImM w (pmS ms) L):=by
 have B0:Below w.heap.size w ((w.alloc (.cells #[.slice a0 xs.length c0,.int .i64 L.stack,.slice a2 L.slots.length c2,.int .i64 L.flash,.int .i64 L.ram,.slice a5 ts.length c5] 32)).alloc (.cells #[.slice none 0 0,.slice none 0 0,.slice none 0 0] 38)):=((Below.refl _ _).alloc (Nat.le_refl _) _).alloc (by simp) _
 have kl:=(Blk.new w #[.slice a0 xs.length c0,.int .i64 L.stack,.slice a2 L.slots.length c2,.int .i64 L.flash,.int .i64 L.ram,.slice a5 ts.length c5] 32).alloc (.cells #[.slice none 0 0,.slice none 0 0,.slice none 0 0] 38)
 have kr:=Blk.new (w.alloc (.cells #[.slice a0 xs.length c0,.int .i64 L.stack,.slice a2 L.slots.length c2,.int .i64 L.flash,.int .i64 L.ram,.slice a5 ts.length c5] 32)) #[.slice none 0 0,.slice none 0 0,.slice none 0 0] 38
 simp only [World.size_alloc] at kr
 have HRL:=hide (fun (W:World) (hb:Below w.heap.size w W)=>layoutOk_any a n cap ms L a0 c0 xs a2 c2 a5 c5 ts W (h.below hb) (hL.below hb))
 have HM:=hide h
 have HL:=hide hL
 clear h hL
 go_enter Tryz.func13,Tryz.ntmps13
 go_wp2_with fail
 refine (HRL.out _ B0).mono ?_
 rintro e w1 ⟨rfl,hb1⟩
 have B1:=B0.trans (hb1.mono B0.size)
 have kl1:=kl.below hb1
 have kr1:=kr.below hb1
 clear B0 kl kr hb1
 by_cases hok:Lok (pmS ms) L
 ·rw [decide_eq_true hok]
  have K:=lok_kn hok
  obtain ⟨F,hF⟩:∃ F:Nat,L.flash=(F:Int):=⟨L.flash.toNat,by have:=K.fr;omega⟩
  obtain ⟨R,hR⟩:∃ R:Nat,L.ram=(R:Int):=⟨L.ram.toNat,by have:=K.rr;omega⟩
  have hF1:F≤16384:=by have:=K.fr;omega
  have hR1:R≤16384:=by have:=K.rr;omega
  have hmF:=make8 F hF1
  have hmR:=make8 R hR1
  have x3:w1.cell? ⟨w.heap.size,3,none⟩=some (.int .i64 (F:Int)):=by rw [← hF];exact kl1.cell 3
  have x4:w1.cell? ⟨w.heap.size,4,none⟩=some (.int .i64 (R:Int)):=by rw [← hR];exact kl1.cell 4
  have hw1:w.heap.size<w1.heap.size:=kl1.lt
  generalize hZF:zby F=ZF at *
  generalize hZR:zby R=ZR at *
  have HZ:=hide (And.intro hZF hZR)
  clear hZF hZR
  have HK1:=hide (And.intro B1 (And.intro kl1 kr1))
  have HFR:=hide (And.intro hF hR)
  have HKN:=hide K
  have HOK:=hide hok
  clear HRL
  clear B1 kl1 kr1 hF hR K hok
  go_wp2_with fail
  obtain ⟨N,hN⟩:∃ N,N=w1.heap.size:=⟨_,rfl⟩
  have hNw:N≤w1.heap.size:=by omega
  rename_i K hK
  apply cut4 (F:=fun gf gr gm W=>Mk3 N w1 W ZF ZR F R gf gr gm) (S:=fun gf gr gm W=>Exit.then K (bodyPost Tryz.prog Tryz.f13 (ImM w (pmS ms) L)) .normal ⟨#[.slice a n cap,.agg #[.slice a0 xs.length c0,.int .i64 L.stack,.slice a2 L.slots.length c2,.int .i64 L.flash,.int .i64 L.ram,.slice a5 ts.length c5],undef,.pointer (some ⟨w.heap.size,0,none⟩),.pointer (some ⟨w.heap.size+1,0,none⟩),.bool false,.pointer (some ⟨gm,0,none⟩),undef,undef,.slice a n cap,.agg #[.slice a0 xs.length c0,.int .i64 L.stack,.slice a2 L.slots.length c2,.int .i64 L.flash,.int .i64 L.ram,.slice a5 ts.length c5],.bool true,.bool false,undef,.pointer (some ⟨w.heap.size,3,none⟩),.int .i64 (F:Int),.slice (some ⟨gf,0,none⟩) F F,.pointer (some ⟨w.heap.size,4,none⟩),.int .i64 (R:Int),.slice (some ⟨gr,0,none⟩) R R,.agg #[.slice (some ⟨gf,0,none⟩) F F,.slice (some ⟨gr,0,none⟩) R R,.slice none 0 0],undef,undef,undef,undef,undef,undef,undef,undef,undef,undef,undef,undef,undef,undef,undef,undef,undef,undef,undef,undef,undef,undef,undef,undef,undef,undef,undef,undef,undef,undef,undef],[]⟩ W)
  ·intro REST0
   have REST:=hide REST0
   clear REST0
   go_region_held3 (fun w'=>w'.cell? ⟨w.heap.size,3,none⟩=some (.int .i64 (F:Int))∧w'.cell? ⟨w.heap.size,4,none⟩=some (.int .i64 (R:Int))) ((refine And.intro ?_ ?_) <;> (repeat (first | exact x3 | exact x4 | apply cell_drew' | apply cell_alloc' | (apply cell_set' (by omega))))) (fail)
   all_goals
    refine REST.out _ _ _ _ ?_
    exact ⟨(by repeat (first | with_reducible exact Below.refl _ _ | with_reducible apply bel_drew | with_reducible apply bel_alloc hNw | with_reducible apply bel_set (by omega))),(by repeat (first | with_reducible apply blk_drew | with_reducible exact blk_new' (by simp only [World.size_alloc,drew_sz']) | with_reducible apply blk_set3 | with_reducible apply blk_other' (by omega) | with_reducible apply Blk.alloc)),(by repeat (first | with_reducible apply blk_drew | with_reducible exact blk_new' (by simp only [World.size_alloc,drew_sz']) | with_reducible apply blk_set3 | with_reducible apply blk_other' (by omega) | with_reducible apply Blk.alloc)),(by repeat (first | with_reducible apply blk_drew | with_reducible exact blk_new' (by simp only [World.size_alloc,drew_sz']) | with_reducible apply blk_set3 | with_reducible apply blk_other' (by omega) | with_reducible apply Blk.alloc)),(by omega),(by omega)⟩
  ·rintro gf gr gm W hF
   show Exit.then _ _ _ _ _
   subst hN
   have hpl:(pmS ms).length=n:=by rw [pmS_len];exact HM.out.s.1
   have hn4:n≤4:=by have:=HKN.out.n;omega
   have HXL:=hide (show xs.length=n from by
    have h1:=congrArg List.length HL.out.ps
    rw [HKN.out.pl] at h1
    simp at h1
    omega)
   have hx4:xs.length≤4:=by have:=HXL.out;omega
   have S0:ImT w #[.slice a0 xs.length c0,.int .i64 L.stack,.slice a2 L.slots.length c2,.int .i64 L.flash,.int .i64 L.ram,.slice a5 ts.length c5] F R gf gr gm (flB (pmS ms) L 0) (raB (pmS ms) L 0) W:=by
    obtain ⟨B1,kl1,kr1⟩:=HK1.out
    have h1:=kr1.lt
    have h2:=hF.lo
    have e1:flB (pmS ms) L 0=List.replicate F 0:=by show List.replicate L.flash.toNat 0=_;rw [HFR.out.1];rfl
    have e2:raB (pmS ms) L 0=List.replicate R 0:=by show List.replicate L.ram.toNat 0=_;rw [HFR.out.2];rfl
    rw [e1,e2]
    refine ⟨B1.trans (hF.be.mono B1.size),kl1.below hF.be,kr1.below hF.be,hF.m,zby_ob (by rw [HZ.out.1];exact hF.f) (by omega) hF1,zby_ob (by rw [HZ.out.2];exact hF.r) (by omega) hR1,by omega,hF.ne⟩
   have HS0:=hide S0
   have c0':=S0.kl.cell 0
   simp only [List.getElem?_toArray,List.getElem?_cons_zero] at c0'
   clear S0 hF HK1 x3 x4 hw1 hmF hmR HZ hNw
   go_wp2
   clear c0'
   go_loopw [24] (fun i wr=>∃ m:Nat,m≤n∧i=.int .i64 m∧ImT w #[.slice a0 xs.length c0,.int .i64 L.stack,.slice a2 L.slots.length c2,.int .i64 L.flash,.int .i64 L.ram,.slice a5 ts.length c5] F R gf gr gm (flB (pmS ms) L m) (raB (pmS ms) L m) wr) (fun i _=>n - (intOf i).toNat)
   case atStart=>exact ⟨0,Nat.zero_le _,rfl,HS0.out⟩
   case round=>
    clear HS0
    obtain ⟨m,hm,rfl,S⟩:=hrel
    generalize wr=wo at *
    by_cases hlt:m<n
    ·have hlt':(m:Int)<(n:Int):=by omega
     have hml':(m:Int)<(xs.length:Int):=by have:=HXL.out;omega
     obtain ⟨b,off,rfl,y0,y1,y2,y3,y4,y5,y6,y7⟩:=HM.out.s.at m hlt
     obtain ⟨pb,po,rfl,z0,z1,z2,z3⟩:=HL.out.p.at m (by have:=HXL.out;omega)
     have HPB:=hide (HL.out.p.2.2.2.1 m (by have:=HXL.out;omega))
     have HMD:=hide (HM.out.d m hlt)
     have HPM:=hide (show (pmS ms).getD m zP=(ms.getD m zMd).pm from pmS_at (by have:=HM.out.s.1;omega))
     have HPP:=hide (show (xs.getD m zPB).1=plc (pmS ms) m from by
      rw [← HKN.out.place m (by omega),← HL.out.ps,map_getD _ _ _ zPB _ (by have:=HXL.out;omega)])
     have HAT:=hide (HKN.out.at m (by omega))
     have HFL:=hide (show flB (pmS ms) L (m+1)=pourB (flB (pmS ms) L m) ((pmS ms).getD m zP) (L.places.getD m zPB.1) ((pmS ms).getD m zP).bl.length from rfl)
     have HRA:=hide (show raB (pmS ms) L (m+1)=relB (ovr (raB (pmS ms) L m) ((L.places.getD m zPB.1).data - 65536).toNat ((pmS ms).getD m zP).dz) ((L.places.getD m zPB.1).data - 65536).toNat ((pmS ms).getD m zP).rz (L.places.getD m zPB.1).data ((pmS ms).getD m zP).rz.length from rfl)
     have HVL:=hide (HKN.out.v m (by omega))
     rw [HKN.out.place m (by omega),← HPP.out,HPM.out] at HFL HRA
     rw [← HPP.out,HPM.out,HFR.out.1,HFR.out.2] at HAT
     rw [HPM.out] at HVL
     clear HPM HPP
     generalize hFZ:flB (pmS ms) L (m+1)=FZ at HFL
     generalize hRZ:raB (pmS ms) L (m+1)=RZ at HRA
     have HFZ:=hide (And.intro hFZ hRZ)
     clear hFZ hRZ
     generalize flB (pmS ms) L m=fz at *
     generalize raB (pmS ms) L m=rz at *
     unfold svP at z1
     generalize xs.getD m zPB=x at *
     obtain ⟨⟨xt,xb,xd,xz⟩,xa,xc⟩:=x
     generalize ms.getD m zMd=M at *
     obtain ⟨P,hP⟩:∃ P,P=M.pm:=⟨_,rfl⟩
     rw [← hP] at HFL HRA HAT HVL
     have HPE:=hide (show P.tz=M.tz∧P.bl=M.bl.map (fun B=>B.2.2.2)∧P.dz=M.dz∧P.rz=M.rz by rw [hP];exact ⟨rfl,rfl,rfl,rfl⟩)
     clear hP
     obtain ⟨nm,ta,tn,tc,tz,ba,bn,bc,bl,da,dn,dc,dz,bss,ra,rn,rc,rrz,ia,im,ic,ss,ea,en,ec,es⟩:=M
     dsimp only at z0 z1 z2 z3 HPB HFL HRA HAT HMD HPE y0 y1 y2 y3 y4 y5 y6 y7
     obtain ⟨kt,hkt⟩:∃ kt:Nat,xt=(kt:Int):=⟨xt.toNat,by have:=HAT.out.1.1;omega⟩
     obtain ⟨f,hf⟩:∃ f:Nat,xd=65536+(f:Int):=⟨(xd - 65536).toNat,by have:=HAT.out.2.2.2.1;omega⟩
     subst hkt hf
     have HIT:Hid (IS w ta tn tc tz∧BKS w ba bn bc bl∧BS w da dn dc dz∧IS w ra rn rc rrz):=hide ⟨HMD.out.t,HMD.out.b,HMD.out.d,HMD.out.r⟩
     have hbl:bl.length=bn:=HIT.out.2.1.1
     have htl:tz.length=tn:=HIT.out.1.1
     have hdl:dz.length=dn:=HIT.out.2.2.1.1
     have hrl:rrz.length=rn:=HIT.out.2.2.2.1
     have hPl:P.bl.length=bn:=by rw [HPE.out.2.1,List.length_map];exact hbl
     have hbn4:bn≤4:=by have h1:=(vld_en HVL.out).2.2.2.1;omega
     have hrn:rn≤16:=by
      have V:=vm_of_mdo (by simp [bkOf]) (show mdo P.nm P.tz.length P.tz P.bl.length (bkOf P.bl) P.dz.length P.bss P.rz.length P.rz P.ss.length P.ss P.es.length P.es=0 from HVL.out)
      have h1:=V.r
      rw [HPE.out.2.2.2] at h1
      omega
     have hfd:f+dn≤R:=by
      have h1:=HAT.out.2.2.2.2
      rw [HPE.out.2.2.1] at h1
      omega
     have HRLB:=hide (show ∀ q,q<rn→0≤rrz.getD q 0∧rrz.getD q 0+4≤(dn:Int) from fun q hq=>by
      have h1:=vld_rl HVL.out q (by rw [HPE.out.2.2.2];omega)
      rw [HPE.out.2.2.2,HPE.out.2.2.1] at h1
      omega)
     have HPC:=hide (fun (X:World) (I:It5 w #[.slice (some ⟨pb,po,none⟩) xs.length c0,.int .i64 L.stack,.slice a2 L.slots.length c2,.int .i64 L.flash,.int .i64 L.ram,.slice a5 ts.length c5] F R gf gr gm wo.heap.size #[.int .i64 (kt:Int),.slice xa xb.length xc,.int .i64 (65536+(f:Int)),.int .i64 xz] fz rz X)=>show Calls Tryz.prog 67 #[.slice (some ⟨gf,0,none⟩) F F,.agg #[.string nm,.slice ta tn tc,.slice ba bn bc,.slice da dn dc,.int .i64 bss,.slice ra rn rc,.slice ia im ic,.slice ea en ec],.agg #[.int .i64 (kt:Int),.slice xa xb.length xc,.int .i64 (65536+(f:Int)),.int .i64 xz]] X fun e w'=>e=.returned (.tuple #[])∧It5 w #[.slice (some ⟨pb,po,none⟩) xs.length c0,.int .i64 L.stack,.slice a2 L.slots.length c2,.int .i64 L.flash,.int .i64 L.ram,.slice a5 ts.length c5] F R gf gr gm wo.heap.size #[.int .i64 (kt:Int),.slice xa xb.length xc,.int .i64 (65536+(f:Int)),.int .i64 xz] FZ rz w' from
      (putCode_any gf F nm ta tn tc tz ba bn bc bl da dn dc bss ra rn rc ia im ic ea en ec P kt xa xb xc (65536+(f:Int)) xz fz w.heap.size X w HIT.out.1 HIT.out.2.1 HPE.out.1 HPE.out.2.1 HPB.out I.s.be (by have:=I.s.lo;omega) I.s.f hF1 hbn4 (by have h1:=HAT.out.1.2;rw [HPE.out.1] at h1;omega) (by have h1:=HAT.out.2.1;omega) (fun j hj=>by
        have h1:=HAT.out.2.2.1 j (by omega)
        rw [HPE.out.2.1,getD_map _ _ _ zB _ (by omega)] at h1
        rw [(HIT.out.2.1.2.2.2.1 j hj).1] at h1
        exact h1)).mono (fun e w' he=>⟨he.1,by rw [HFL.out];exact I.setf he.2.1 he.2.2⟩))
     have HPD:=hide (fun (bp:Option Addr) (bl':Nat) (hbp:(f<R∧bp=some ⟨gr,f,none⟩∧bl'=R - f)∨(f=R∧bp=some ⟨gr,0,none⟩∧bl'=0)) (X:World) (I:It5 w #[.slice (some ⟨pb,po,none⟩) xs.length c0,.int .i64 L.stack,.slice a2 L.slots.length c2,.int .i64 L.flash,.int .i64 L.ram,.slice a5 ts.length c5] F R gf gr gm wo.heap.size #[.int .i64 (kt:Int),.slice xa xb.length xc,.int .i64 (65536+(f:Int)),.int .i64 xz] FZ rz X)=>show Calls Tryz.prog 68 #[.slice bp bl' bl',.agg #[.string nm,.slice ta tn tc,.slice ba bn bc,.slice da dn dc,.int .i64 bss,.slice ra rn rc,.slice ia im ic,.slice ea en ec],.int .i64 (65536+(f:Int))] X fun e w'=>e=.returned (.tuple #[])∧It5 w #[.slice (some ⟨pb,po,none⟩) xs.length c0,.int .i64 L.stack,.slice a2 L.slots.length c2,.int .i64 L.flash,.int .i64 L.ram,.slice a5 ts.length c5] F R gf gr gm wo.heap.size #[.int .i64 (kt:Int),.slice xa xb.length xc,.int .i64 (65536+(f:Int)),.int .i64 xz] FZ RZ w' from
      (putData_any gr R f bp bl' nm ta tn tc ba bn bc da dn dc dz bss ra rn rc rrz ia im ic ea en ec rz w.heap.size X w HIT.out.2.2.1 HIT.out.2.2.2 I.s.be (by have:=I.s.lo;omega) I.s.r hR1 hrn hfd HRLB.out hbp).mono (fun e w' he=>⟨he.1,by
        rw [HRA.out,HPE.out.2.2.1,HPE.out.2.2.2,hrl,show ((65536:Int)+(f:Int) - 65536).toNat=f by omega]
        exact I.setr he.2.1 he.2.2⟩))
     have I1:It5 w #[.slice (some ⟨pb,po,none⟩) xs.length c0,.int .i64 L.stack,.slice a2 L.slots.length c2,.int .i64 L.flash,.int .i64 L.ram,.slice a5 ts.length c5] F R gf gr gm wo.heap.size #[.int .i64 (kt:Int),.slice xa xb.length xc,.int .i64 (65536+(f:Int)),.int .i64 xz] fz rz (wo.alloc (.cells #[.int .i64 (kt:Int),.slice xa xb.length xc,.int .i64 (65536+(f:Int)),.int .i64 xz] 43)):=⟨S.below (show Below wo.heap.size wo (wo.alloc (.cells #[.int .i64 (kt:Int),.slice xa xb.length xc,.int .i64 (65536+(f:Int)),.int .i64 xz] 43)) from (Below.refl _ _).alloc (Nat.le_refl _) _),Blk.new _ _ _⟩
     have HI1:=hide I1
     have zz0:=cell_below S.be z0
     have zz1:=cell_below S.be z1
     have zz2:=cell_below S.be z2
     have zz3:=cell_below S.be z3
     have HCL:=hide (fun (fz rz:List Int) (X:World) (I:It5 w #[.slice (some ⟨pb,po,none⟩) xs.length c0,.int .i64 L.stack,.slice a2 L.slots.length c2,.int .i64 L.flash,.int .i64 L.ram,.slice a5 ts.length c5] F R gf gr gm wo.heap.size #[.int .i64 (kt:Int),.slice xa xb.length xc,.int .i64 (65536+(f:Int)),.int .i64 xz] fz rz X)=>show (X.cell? ⟨b,off+m * 8,none⟩=some (.string nm)∧X.cell? ⟨b,off+m * 8+1,none⟩=some (.slice ta tn tc)∧X.cell? ⟨b,off+m * 8+2,none⟩=some (.slice ba bn bc)∧X.cell? ⟨b,off+m * 8+3,none⟩=some (.slice da dn dc)∧X.cell? ⟨b,off+m * 8+4,none⟩=some (.int .i64 bss)∧X.cell? ⟨b,off+m * 8+5,none⟩=some (.slice ra rn rc)∧X.cell? ⟨b,off+m * 8+6,none⟩=some (.slice ia im ic)∧X.cell? ⟨b,off+m * 8+7,none⟩=some (.slice ea en ec))∧(X.cell? ⟨wo.heap.size,0,none⟩=some (.int .i64 (kt:Int))∧X.cell? ⟨wo.heap.size,1,none⟩=some (.slice xa xb.length xc)∧X.cell? ⟨wo.heap.size,2,none⟩=some (.int .i64 (65536+(f:Int)))∧X.cell? ⟨wo.heap.size,3,none⟩=some (.int .i64 xz))∧X.cell? ⟨gm,0,none⟩=some (.slice (some ⟨gf,0,none⟩) F F)∧X.cell? ⟨gm,1,none⟩=some (.slice (some ⟨gr,0,none⟩) R R) from
      ⟨⟨cell_below I.s.be y0,cell_below I.s.be y1,cell_below I.s.be y2,cell_below I.s.be y3,cell_below I.s.be y4,cell_below I.s.be y5,cell_below I.s.be y6,cell_below I.s.be y7⟩,⟨I.p.cell 0,I.p.cell 1,I.p.cell 2,I.p.cell 3⟩,I.s.km.cell 0,I.s.km.cell 1⟩)
     clear S I1 HAT HVL HPE HMD hbl htl hdl hrl hPl
     go_wp2_with fail
     generalize hW1:wo.alloc (.cells #[.int .i64 (kt:Int),.slice xa xb.length xc,.int .i64 (65536+(f:Int)),.int .i64 xz] 43)=W1 at *
     clear hW1 zz0 zz1 zz2 zz3
     obtain ⟨⟨v0,v1,v2,v3,v4,v5,v6,v7⟩,⟨p0,p1,p2,p3⟩,q0,q1⟩:=HCL.out _ _ _ HI1.out
     go_region_held3 (fun w'=>w'.cell? ⟨gm,0,none⟩=some (.slice (some ⟨gf,0,none⟩) F F)∧w'.cell? ⟨b,off+m * 8,none⟩=some (.string nm)∧w'.cell? ⟨b,off+m * 8+1,none⟩=some (.slice ta tn tc)∧w'.cell? ⟨b,off+m * 8+2,none⟩=some (.slice ba bn bc)∧w'.cell? ⟨b,off+m * 8+3,none⟩=some (.slice da dn dc)∧w'.cell? ⟨b,off+m * 8+4,none⟩=some (.int .i64 bss)∧w'.cell? ⟨b,off+m * 8+5,none⟩=some (.slice ra rn rc)∧w'.cell? ⟨b,off+m * 8+6,none⟩=some (.slice ia im ic)∧w'.cell? ⟨b,off+m * 8+7,none⟩=some (.slice ea en ec)∧w'.cell? ⟨wo.heap.size,0,none⟩=some (.int .i64 (kt:Int))∧w'.cell? ⟨wo.heap.size,1,none⟩=some (.slice xa xb.length xc)∧w'.cell? ⟨wo.heap.size,2,none⟩=some (.int .i64 (65536+(f:Int)))∧w'.cell? ⟨wo.heap.size,3,none⟩=some (.int .i64 xz)) (go_keep)
      (first
        | (go_at_call 67;first
            | with_reducible refine (HPC.out _ HI1.out).mono ?_
            | with_reducible refine (HPC.out _ HI1.out.drew).mono ?_
           rintro e w2 ⟨rfl,hI2⟩
           have HI2:=hide hI2
           clear hI2
           obtain ⟨⟨r0,r1,r2,r3,r4,r5,r6,r7⟩,⟨t0,t1,t2,t3⟩,u0,u1⟩:=HCL.out _ _ _ HI2.out))
     clear v0 v1 v2 v3 v4 v5 v6 v7 p0 p1 p2 p3 q0 q1 u0
     have hff:(65536:Int)+(f:Int) - 65536=(f:Int):=by omega
     have hffw:IntKind.i64.wrap ((65536:Int)+(f:Int) - 65536)=(f:Int):=by rw [IntWalk.i64_left,IntWalk.wrap64_in _ (by omega)];omega
     have hffw2:IntKind.i64.wrap (f:Int)=(f:Int):=by rw [IntWalk.i64_left,IntWalk.wrap64_in _ (by omega)]
     have f0':(0:Int)≤(f:Int):=by omega
     have f1':(f:Int)≤(R:Int):=by omega
     by_cases hfl:f<R
     ·have hfl':(f:Int)<(R:Int):=by omega
      have hfn:¬ (R=f):=by omega
      have HPD0:=hide (HPD.out (some ⟨gr,f,none⟩) (R - f) (.inl ⟨hfl,rfl,rfl⟩))
      clear HPD
      go_wp2_with fail
      go_region_held3 (fun w'=>w'.cell? ⟨gm,1,none⟩=some (.slice (some ⟨gr,0,none⟩) R R)∧w'.cell? ⟨b,off+m * 8,none⟩=some (.string nm)∧w'.cell? ⟨b,off+m * 8+1,none⟩=some (.slice ta tn tc)∧w'.cell? ⟨b,off+m * 8+2,none⟩=some (.slice ba bn bc)∧w'.cell? ⟨b,off+m * 8+3,none⟩=some (.slice da dn dc)∧w'.cell? ⟨b,off+m * 8+4,none⟩=some (.int .i64 bss)∧w'.cell? ⟨b,off+m * 8+5,none⟩=some (.slice ra rn rc)∧w'.cell? ⟨b,off+m * 8+6,none⟩=some (.slice ia im ic)∧w'.cell? ⟨b,off+m * 8+7,none⟩=some (.slice ea en ec)∧w'.cell? ⟨wo.heap.size,2,none⟩=some (.int .i64 (65536+(f:Int)))) (go_keep)
       (first
         | (go_at_call 68;first
             | with_reducible refine (HPD0.out _ HI2.out).mono ?_
             | with_reducible refine (HPD0.out _ HI2.out.drew).mono ?_
            rintro e w3 ⟨rfl,hI3⟩
            have HI3:=hide hI3
            clear hI3
            obtain ⟨⟨a0',a1',a2',a3',a4',a5',a6',a7'⟩,⟨b0',b1',b2',b3'⟩,c0',c1'⟩:=HCL.out _ _ _ HI3.out))
      clear a0' a1' a2' a3' a4' a5' a6' a7' b0' b1' b2' b3' c0' c1' r0 r1 r2 r3 r4 r5 r6 r7 t0 t1 t2 t3 u1 hff hffw hffw2
      go_wp2
      go_roundw
      case rel=>exact ⟨m+1,by omega,by go_num,by rw [HFZ.out.1,HFZ.out.2];exact HI3.out.s⟩
      case measure=>simp [intOf];omega
     ·obtain rfl:R=f:=by omega
      have HPD0:=hide (HPD.out (some ⟨gr,0,none⟩) 0 (.inr ⟨rfl,rfl,rfl⟩))
      clear HPD
      go_wp2_with fail
      go_region_held3 (fun w'=>w'.cell? ⟨gm,1,none⟩=some (.slice (some ⟨gr,0,none⟩) R R)∧w'.cell? ⟨b,off+m * 8,none⟩=some (.string nm)∧w'.cell? ⟨b,off+m * 8+1,none⟩=some (.slice ta tn tc)∧w'.cell? ⟨b,off+m * 8+2,none⟩=some (.slice ba bn bc)∧w'.cell? ⟨b,off+m * 8+3,none⟩=some (.slice da dn dc)∧w'.cell? ⟨b,off+m * 8+4,none⟩=some (.int .i64 bss)∧w'.cell? ⟨b,off+m * 8+5,none⟩=some (.slice ra rn rc)∧w'.cell? ⟨b,off+m * 8+6,none⟩=some (.slice ia im ic)∧w'.cell? ⟨b,off+m * 8+7,none⟩=some (.slice ea en ec)∧w'.cell? ⟨wo.heap.size,2,none⟩=some (.int .i64 (65536+(R:Int)))) (go_keep)
       (first
         | (go_at_call 68;first
             | with_reducible refine (HPD0.out _ HI2.out).mono ?_
             | with_reducible refine (HPD0.out _ HI2.out.drew).mono ?_
            rintro e w3 ⟨rfl,hI3⟩
            have HI3:=hide hI3
            clear hI3
            obtain ⟨⟨a0',a1',a2',a3',a4',a5',a6',a7'⟩,⟨b0',b1',b2',b3'⟩,c0',c1'⟩:=HCL.out _ _ _ HI3.out))
      clear a0' a1' a2' a3' a4' a5' a6' a7' b0' b1' b2' b3' c0' c1' r0 r1 r2 r3 r4 r5 r6 r7 t0 t1 t2 t3 u1 hff hffw hffw2
      go_wp2
      go_roundw
      case rel=>exact ⟨m+1,by omega,by go_num,by rw [HFZ.out.1,HFZ.out.2];exact HI3.out.s⟩
      case measure=>simp [intOf];omega
    ·have e:Hid (m=n):=by show m=n;omega
     obtain ⟨q0,q1,q2⟩:wo.cell? ⟨gm,0,none⟩=some (.slice (some ⟨gf,0,none⟩) F F)∧wo.cell? ⟨gm,1,none⟩=some (.slice (some ⟨gr,0,none⟩) R R)∧wo.cell? ⟨gm,2,none⟩=some (.slice none 0 0):=⟨S.km.cell 0,S.km.cell 1,S.km.cell 2⟩
     obtain ⟨p0,p1,p2⟩:wo.cell? ⟨w.heap.size+1,0,none⟩=some (.slice none 0 0)∧wo.cell? ⟨w.heap.size+1,1,none⟩=some (.slice none 0 0)∧wo.cell? ⟨w.heap.size+1,2,none⟩=some (.slice none 0 0):=⟨S.kr.cell 0,S.kr.cell 1,S.kr.cell 2⟩
     have pf:=S.kr.frozen
     have hmx:¬ ((m:Int)<(xs.length:Int)):=by have:=HXL.out;omega
     have T:Turn (fun j=>j=w.heap.size+1) wo (((wo.setCell ⟨w.heap.size+1,0,none⟩ (.slice (some ⟨gf,0,none⟩) F F)).setCell ⟨w.heap.size+1,1,none⟩ (.slice (some ⟨gr,0,none⟩) R R)).setCell ⟨w.heap.size+1,2,none⟩ (.slice none 0 0)):=((turn_set _ _ _ _).trans (turn_set _ _ _ _)).trans (turn_set _ _ _ _)
     have HE:=hide (show ImM w (pmS ms) L (.returned (.tuple #[.agg #[.slice (some ⟨gf,0,none⟩) F F,.slice (some ⟨gr,0,none⟩) R R,.slice none 0 0],.bool true])) (((wo.setCell ⟨w.heap.size+1,0,none⟩ (.slice (some ⟨gf,0,none⟩) F F)).setCell ⟨w.heap.size+1,1,none⟩ (.slice (some ⟨gr,0,none⟩) R R)).setCell ⟨w.heap.size+1,2,none⟩ (.slice none 0 0)) from by
      have hlo:=S.lo
      refine ⟨below_turn S.be T (fun k e=>by omega) S.be.size,some ⟨gf,0,none⟩,F,F,some ⟨gr,0,none⟩,R,R,none,0,0,by rw [decide_eq_true HOK.out],?_⟩
      unfold imF imR
      rw [if_pos HOK.out,if_pos HOK.out,hpl,← e.out]
      refine ⟨turn_ob T S.f (fun k hk s=>by simp [Value.ownBlock] at hk;omega),turn_ob T S.r (fun k hk s=>by simp [Value.ownBlock] at hk;omega),⟨⟨rfl,.inl ⟨rfl,rfl⟩⟩,by simp⟩,?_,?_,?_⟩
      all_goals
       intro k hk
       have hne:=S.ne
       simp [Value.ownBlock] at hk ⊢
       try omega)
     have k3:=blk_set3 (v0:=.slice (some ⟨gf,0,none⟩) F F) (v1:=.slice (some ⟨gr,0,none⟩) R R) (v2:=.slice none 0 0) S.kr
     have s0:=k3.cell 0
     have s1:=k3.cell 1
     have s2:=k3.cell 2
     simp only [List.getElem?_toArray,List.getElem?_cons_zero,List.getElem?_cons_succ] at s0 s1 s2
     clear S T k3
     go_wp2
     exact bodyPost_ret (v:=.tuple #[.agg #[.slice (some ⟨gf,0,none⟩) F F,.slice (some ⟨gr,0,none⟩) R R,.slice none 0 0],.bool true]) (by simp [results,Tryz.results13,go_sem,s0,s1,s2]) rfl HE.out
 ·rw [decide_eq_false hok]
  have HE:=hide (show ∀ W',Below w.heap.size w W'→ImM w (pmS ms) L (.returned (.tuple #[.agg #[.slice none 0 0,.slice none 0 0,.slice none 0 0],.bool false])) W' from fun W' hb=>by
   refine ⟨hb,none,0,0,none,0,0,none,0,0,by rw [decide_eq_false hok],?_⟩
   unfold imF imR
   rw [if_neg hok,if_neg hok]
   refine ⟨⟨⟨rfl,.inl ⟨rfl,rfl⟩⟩,by simp⟩,⟨⟨rfl,.inl ⟨rfl,rfl⟩⟩,by simp⟩,⟨⟨rfl,.inl ⟨rfl,rfl⟩⟩,by simp⟩,?_,?_,?_⟩
   all_goals
    intro k hk
    simp [Value.ownBlock] at hk)
  have k3:=blk_set3 (v0:=.slice none 0 0) (v1:=.slice none 0 0) (v2:=.slice none 0 0) kr1
  have s0:=k3.cell 0
  have s1:=k3.cell 1
  have s2:=k3.cell 2
  simp only [List.getElem?_toArray,List.getElem?_cons_zero,List.getElem?_cons_succ] at s0 s1 s2
  have T:Turn (fun j=>j=w.heap.size+1) w1 (((w1.setCell ⟨w.heap.size+1,0,none⟩ (.slice none 0 0)).setCell ⟨w.heap.size+1,1,none⟩ (.slice none 0 0)).setCell ⟨w.heap.size+1,2,none⟩ (.slice none 0 0)):=((turn_set _ _ _ _).trans (turn_set _ _ _ _)).trans (turn_set _ _ _ _)
  have HB:=hide (below_turn B1 T (fun k e=>by omega) B1.size)
  obtain ⟨p0,p1,p2⟩:w1.cell? ⟨w.heap.size+1,0,none⟩=some (.slice none 0 0)∧w1.cell? ⟨w.heap.size+1,1,none⟩=some (.slice none 0 0)∧w1.cell? ⟨w.heap.size+1,2,none⟩=some (.slice none 0 0):=⟨kr1.cell 0,kr1.cell 1,kr1.cell 2⟩
  have pf:=kr1.frozen
  clear T k3 kl1 kr1 B1 hok HRL HM HL
  go_wp2
  exact bodyPost_ret (v:=.tuple #[.agg #[.slice none 0 0,.slice none 0 0,.slice none 0 0],.bool false]) (by simp [results,Tryz.results13,go_sem,s0,s1,s2]) rfl (HE.out _ HB.out)
end Go.Proofs.YtngdgogjlpjjpadGreat
