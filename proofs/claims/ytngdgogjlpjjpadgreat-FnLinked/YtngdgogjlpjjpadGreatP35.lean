import Derived.Test.YtngdgogjlpjjpadGreatP20
import Derived.Test.YtngdgogjlpjjpadGreatP21
namespace Go.Proofs.YtngdgogjlpjjpadGreat
open Go.RowKit Classical
set_option linter.unusedVariables false
set_option linter.unusedSimpArgs false
set_option maxRecDepth 100000
theorem cut1 {S F:Value→World→Prop} {G:Prop} (main:(∀ v W,F v W→S v W)→G) (pf:∀ v W,F v W→S v W):G:=main pf
set_option maxHeartbeats 16000000 in
theorem sImage_any (a:Option Addr) (n cap:Nat) (ms:List Md) (L:Lay) (a0:Option Addr) (c0:Nat) (xs:List PB) (a2:Option Addr) (c2:Nat) (a5:Option Addr) (c5:Nat) (ts:List TB) (w:World) (h:MSD w a n cap ms) (hL:LyT w L a0 c0 xs a2 c2 a5 c5 ts):
 Calls Tryz.prog 14 #[.slice a n cap,.agg #[.slice a0 xs.length c0,.int .i64 L.stack,.slice a2 L.slots.length c2,.int .i64 L.flash,.int .i64 L.ram,.slice a5 ts.length c5]] w (ImM w (pmS ms) L):=by
 have B0:Below w.heap.size w ((w.alloc (.cells #[.slice a0 xs.length c0,.int .i64 L.stack,.slice a2 L.slots.length c2,.int .i64 L.flash,.int .i64 L.ram,.slice a5 ts.length c5] 32)).alloc (.cells #[.slice none 0 0,.slice none 0 0,.slice none 0 0] 38)):=((Below.refl _ _).alloc (Nat.le_refl _) _).alloc (by simp) _
 have kl:=(Blk.new w #[.slice a0 xs.length c0,.int .i64 L.stack,.slice a2 L.slots.length c2,.int .i64 L.flash,.int .i64 L.ram,.slice a5 ts.length c5] 32).alloc (.cells #[.slice none 0 0,.slice none 0 0,.slice none 0 0] 38)
 have kr:=Blk.new (w.alloc (.cells #[.slice a0 xs.length c0,.int .i64 L.stack,.slice a2 L.slots.length c2,.int .i64 L.flash,.int .i64 L.ram,.slice a5 ts.length c5] 32)) #[.slice none 0 0,.slice none 0 0,.slice none 0 0] 38
 simp only [World.size_alloc] at kr
 have HRL:=hide (fun (W:World) (hb:Below w.heap.size w W)=>l5Real_any a n cap ms L a0 c0 xs a2 c2 a5 c5 ts W (h.below hb) (hL.below hb))
 have HM:=hide h
 have HL:=hide hL
 clear h hL
 go_enter Tryz.func14,Tryz.ntmps14
 go_wp2_with fail
 refine (HRL.out _ B0).mono ?_
 rintro e w1 ⟨rfl,hb1⟩
 have B1:=B0.trans (hb1.mono B0.size)
 have kl1:=kl.below hb1
 have kr1:=kr.below hb1
 clear B0 kl kr hb1
 by_cases hok:Lok (pmS ms) L
 ·rw [decide_eq_true hok]
  have K:=lok_kn hok
  obtain ⟨F,hF⟩:∃ F:Nat,L.flash=(F:Int):=⟨L.flash.toNat,by have:=K.fr;omega⟩
  obtain ⟨R,hR⟩:∃ R:Nat,L.ram=(R:Int):=⟨L.ram.toNat,by have:=K.rr;omega⟩
  have hF1:F≤16384:=by have:=K.fr;omega
  have hR1:R≤16384:=by have:=K.rr;omega
  have hmF:=make8 F hF1
  have hmR:=make8 R hR1
  have x3:w1.cell? ⟨w.heap.size,3,none⟩=some (.int .i64 (F:Int)):=by rw [← hF];exact kl1.cell 3
  have x4:w1.cell? ⟨w.heap.size,4,none⟩=some (.int .i64 (R:Int)):=by rw [← hR];exact kl1.cell 4
  have hw1:w.heap.size<w1.heap.size:=kl1.lt
  generalize hZF:zby F=ZF at *
  generalize hZR:zby R=ZR at *
  have HZ:=hide (And.intro hZF hZR)
  clear hZF hZR
  have HK1:=hide (And.intro B1 (And.intro kl1 kr1))
  have HFR:=hide (And.intro hF hR)
  have HKN:=hide K
  have HOK:=hide hok
  clear HRL
  clear B1 kl1 kr1 hF hR K hok
  go_wp2_with fail
  obtain ⟨N,hN⟩:∃ N,N=w1.heap.size:=⟨_,rfl⟩
  have hNw:N≤w1.heap.size:=by omega
  rename_i K hK
  apply cut5 (F:=fun gf gr go gm W=>Mk4 N w1 W ZF ZR F R gf gr go gm) (S:=fun gf gr go gm W=>Exit.then K (bodyPost Tryz.prog Tryz.f14 (ImM w (pmS ms) L)) .normal ⟨#[.slice a n cap,.agg #[.slice a0 xs.length c0,.int .i64 L.stack,.slice a2 L.slots.length c2,.int .i64 L.flash,.int .i64 L.ram,.slice a5 ts.length c5],undef,.pointer (some ⟨w.heap.size,0,none⟩),.pointer (some ⟨w.heap.size+1,0,none⟩),.bool false,.pointer (some ⟨gm,0,none⟩),undef,undef,undef,undef,undef,undef,.slice a n cap,.agg #[.slice a0 xs.length c0,.int .i64 L.stack,.slice a2 L.slots.length c2,.int .i64 L.flash,.int .i64 L.ram,.slice a5 ts.length c5],.bool true,.bool false,undef,.pointer (some ⟨w.heap.size,3,none⟩),.int .i64 (F:Int),.slice (some ⟨gf,0,none⟩) F F,.pointer (some ⟨w.heap.size,4,none⟩),.int .i64 (R:Int),.slice (some ⟨gr,0,none⟩) R R,.slice (some ⟨go,0,none⟩) 0 0,.agg #[.slice (some ⟨gf,0,none⟩) F F,.slice (some ⟨gr,0,none⟩) R R,.slice (some ⟨go,0,none⟩) 0 0],undef,undef,undef,undef,undef,undef,undef,undef,undef,undef,undef,undef,undef,undef,undef,undef,undef,undef,undef,undef,undef,undef,undef,undef,undef,undef,undef,undef,undef,undef,undef,undef,undef,undef,undef,undef,undef,undef,undef,undef,undef,undef,undef,undef,undef,undef,undef,undef,undef,undef,undef,undef,undef,undef,undef,undef,undef,undef,undef,undef,undef,undef,undef,undef,undef,undef,undef,undef,undef,undef,undef,undef,undef,undef,undef,undef,undef,undef,undef,undef,undef,undef,undef,undef,undef,undef,undef,undef,undef,undef,undef,undef,undef,undef,undef,undef],[]⟩ W)
  ·intro REST0
   have REST:=hide REST0
   clear REST0
   go_region_held3 (fun w'=>w'.cell? ⟨w.heap.size,3,none⟩=some (.int .i64 (F:Int))∧w'.cell? ⟨w.heap.size,4,none⟩=some (.int .i64 (R:Int))) ((refine And.intro ?_ ?_) <;> (repeat (first | exact x3 | exact x4 | apply cell_drew' | apply cell_alloc' | (apply cell_set' (by omega))))) (fail)
   all_goals
    refine REST.out _ _ _ _ _ ?_
    exact ⟨(by repeat (first | with_reducible exact Below.refl _ _ | with_reducible apply bel_drew | with_reducible apply bel_alloc hNw | with_reducible apply bel_set (by omega))),(by repeat (first | with_reducible apply blk_drew | with_reducible exact blk_new' (by simp only [World.size_alloc,drew_sz']) | with_reducible apply blk_set3 | with_reducible apply blk_other' (by omega) | with_reducible apply Blk.alloc)),(by repeat (first | with_reducible apply blk_drew | with_reducible exact blk_new' (by simp only [World.size_alloc,drew_sz']) | with_reducible apply blk_set3 | with_reducible apply blk_other' (by omega) | with_reducible apply Blk.alloc)),(by repeat (first | with_reducible apply blk_drew | with_reducible exact blk_new' (by simp only [World.size_alloc,drew_sz']) | with_reducible apply blk_set3 | with_reducible apply blk_other' (by omega) | with_reducible apply Blk.alloc)),(by repeat (first | with_reducible apply blk_drew | with_reducible exact blk_new' (by simp only [World.size_alloc,drew_sz']) | with_reducible apply blk_set3 | with_reducible apply blk_other' (by omega) | with_reducible apply Blk.alloc)),(by omega),(by omega)⟩
  ·rintro gf gr go gm W hF
   show Exit.then _ _ _ _ _
   subst hN
   have hpl:(pmS ms).length=n:=by rw [pmS_len];exact HM.out.s.1
   have hn4:n≤4:=by have:=HKN.out.n;omega
   have S0:ImS w #[.slice a0 xs.length c0,.int .i64 L.stack,.slice a2 L.slots.length c2,.int .i64 L.flash,.int .i64 L.ram,.slice a5 ts.length c5] F R gf gr go gm (flB (pmS ms) L 0) (raB (pmS ms) L 0) W:=by
    obtain ⟨B1,kl1,kr1⟩:=HK1.out
    have h1:=kr1.lt
    have h2:=hF.lo
    have e1:flB (pmS ms) L 0=List.replicate F 0:=by show List.replicate L.flash.toNat 0=_;rw [HFR.out.1];rfl
    have e2:raB (pmS ms) L 0=List.replicate R 0:=by show List.replicate L.ram.toNat 0=_;rw [HFR.out.2];rfl
    rw [e1,e2]
    refine ⟨B1.trans (hF.be.mono B1.size),kl1.below hF.be,kr1.below hF.be,hF.m,zby_ob (by rw [HZ.out.1];exact hF.f) (by omega) hF1,zby_ob (by rw [HZ.out.2];exact hF.r) (by omega) hR1,hF.o,by omega,hF.ne⟩
   have HS0:=hide S0
   clear S0 hF HK1 x3 x4 hw1 hmF hmR HZ hNw
   go_wp2
   go_loopw [7] (fun i wr=>∃ m:Nat,m≤n∧i=.int .i64 m∧ImS w #[.slice a0 xs.length c0,.int .i64 L.stack,.slice a2 L.slots.length c2,.int .i64 L.flash,.int .i64 L.ram,.slice a5 ts.length c5] F R gf gr go gm (flB (pmS ms) L m) (raB (pmS ms) L m) wr) (fun i _=>n - (intOf i).toNat)
   case atStart=>exact ⟨0,Nat.zero_le _,rfl,HS0.out⟩
   case round=>
    clear HS0
    obtain ⟨m,hm,rfl,S⟩:=hrel
    generalize wr=wo at *
    have HS:=hide S
    by_cases hlt:m<n
    ·have hlt':(m:Int)<(n:Int):=by omega
     obtain ⟨b,off,rfl,y0,y1,y2,y3,y4,y5,y6,y7⟩:=HM.out.s.at m hlt
     have HXL:=hide (show xs.length=n from by
      have h1:=congrArg List.length HL.out.ps
      rw [HKN.out.pl] at h1
      simp at h1
      omega)
     obtain ⟨pb,po,rfl,z0,z1,z2,z3⟩:=HL.out.p.at m (by have:=HXL.out;omega)
     have HPB:=hide (HL.out.p.2.2.2.1 m (by have:=HXL.out;omega))
     have HMD:=hide (HM.out.d m hlt)
     have HPM:=hide (show (pmS ms).getD m zP=(ms.getD m zMd).pm from pmS_at (by have:=HM.out.s.1;omega))
     have HPP:=hide (show (xs.getD m zPB).1=plc (pmS ms) m from by
      rw [← HKN.out.place m (by omega),← HL.out.ps,map_getD _ _ _ zPB _ (by have:=HXL.out;omega)])
     have HAT:=hide (HKN.out.at m (by omega))
     have HFL:=hide (show flB (pmS ms) L (m+1)=pourB (flB (pmS ms) L m) ((pmS ms).getD m zP) (L.places.getD m zPB.1) ((pmS ms).getD m zP).bl.length from rfl)
     have HRA:=hide (show raB (pmS ms) L (m+1)=relB (ovr (raB (pmS ms) L m) ((L.places.getD m zPB.1).data - 65536).toNat ((pmS ms).getD m zP).dz) ((L.places.getD m zPB.1).data - 65536).toNat ((pmS ms).getD m zP).rz (L.places.getD m zPB.1).data ((pmS ms).getD m zP).rz.length from rfl)
     have HVL:=hide (HKN.out.v m (by omega))
     rw [HKN.out.place m (by omega),← HPP.out,HPM.out] at HFL HRA
     rw [← HPP.out,HPM.out,HFR.out.1,HFR.out.2] at HAT
     rw [HPM.out] at HVL
     clear HPM HPP
     generalize hFZ:flB (pmS ms) L (m+1)=FZ at HFL
     generalize hRZ:raB (pmS ms) L (m+1)=RZ at HRA
     have HFZ:=hide (And.intro hFZ hRZ)
     clear hFZ hRZ
     generalize flB (pmS ms) L m=fz at *
     generalize raB (pmS ms) L m=rz at *
     unfold svP at z1
     generalize xs.getD m zPB=x at *
     obtain ⟨⟨xt,xb,xd,xz⟩,xa,xc⟩:=x
     generalize ms.getD m zMd=M at *
     obtain ⟨P,hP⟩:∃ P,P=M.pm:=⟨_,rfl⟩
     rw [← hP] at HFL HRA HAT HVL
     have HPE:=hide (show P.tz=M.tz∧P.bl=M.bl.map (fun B=>B.2.2.2)∧P.dz=M.dz∧P.rz=M.rz by rw [hP];exact ⟨rfl,rfl,rfl,rfl⟩)
     clear hP
     obtain ⟨nm,ta,tn,tc,tz,ba,bn,bc,bl,da,dn,dc,dz,bss,ra,rn,rc,rrz,ia,im,ic,ss,ea,en,ec,es⟩:=M
     dsimp only at z0 z1 z2 z3 HPB HFL HRA HAT HMD HPE y0 y1 y2 y3 y4 y5 y6 y7
     obtain ⟨kt,hkt⟩:∃ kt:Nat,xt=(kt:Int):=⟨xt.toNat,by have:=HAT.out.1.1;omega⟩
     obtain ⟨f,hf⟩:∃ f:Nat,xd=65536+(f:Int):=⟨(xd - 65536).toNat,by have:=HAT.out.2.2.2.1;omega⟩
     subst hkt hf
     have HPZ1:=hide (fun (X:World) (I:Im5 w #[.slice (some ⟨pb,po,none⟩) xs.length c0,.int .i64 L.stack,.slice a2 L.slots.length c2,.int .i64 L.flash,.int .i64 L.ram,.slice a5 ts.length c5] F R gf gr go gm wo.heap.size #[.int .i64 (kt:Int),.slice xa xb.length xc,.int .i64 (65536+(f:Int)),.int .i64 xz] fz rz X)=>(l5Pour_any gf F F kt ta tn tc tz fz w.heap.size w X HMD.out.t I.s.be (by have:=I.s.lo;omega) I.s.f hF1 (by have h1:=HAT.out.1.2;have h2:tz.length=tn:=HMD.out.t.1;rw [HPE.out.1] at h1;omega) (fun i hi=>by have h1:=(vld_wd HVL.out).1 i;have h2:tz.length=tn:=HMD.out.t.1;rw [HPE.out.1] at h1;exact h1 (by omega))).mono (fun e w' he=>show e=.returned (.tuple #[])∧Im5 w #[.slice (some ⟨pb,po,none⟩) xs.length c0,.int .i64 L.stack,.slice a2 L.slots.length c2,.int .i64 L.flash,.int .i64 L.ram,.slice a5 ts.length c5] F R gf gr go gm wo.heap.size #[.int .i64 (kt:Int),.slice xa xb.length xc,.int .i64 (65536+(f:Int)),.int .i64 xz] (pourB fz P ⟨(kt:Int),xb,65536+(f:Int),xz⟩ 0) rz w' from ⟨he.1,by
      have e1:pourB fz P ⟨(kt:Int),xb,65536+(f:Int),xz⟩ 0=pour fz kt tz tn:=by
       show pour fz ((kt:Int)).toNat P.tz P.tz.length=_
       rw [HPE.out.1,Int.toNat_natCast,show tz.length=tn from HMD.out.t.1]
      rw [e1]
      exact I.setf he.2.1 he.2.2⟩))
     have hbl:bl.length=bn:=HMD.out.b.1
     have HLE:=hide (vld_en HVL.out)
     have hbn4:bn≤4:=by have h1:=HLE.out.2.2.2.1;rw [HPE.out.2.1,List.length_map] at h1;omega
     have HBE:=hide (show ∀ j,j<bn→P.bl.getD j []=(bl.getD j zB).2.2.2 from fun j hj=>by rw [HPE.out.2.1,getD_map _ _ _ zB _ (by omega)])
     have HPZ2:=hide (fun (j:Nat) (hj:j<bn) (X:World) (I:Im5 w #[.slice (some ⟨pb,po,none⟩) xs.length c0,.int .i64 L.stack,.slice a2 L.slots.length c2,.int .i64 L.flash,.int .i64 L.ram,.slice a5 ts.length c5] F R gf gr go gm wo.heap.size #[.int .i64 (kt:Int),.slice xa xb.length xc,.int .i64 (65536+(f:Int)),.int .i64 xz] (pourB fz P ⟨(kt:Int),xb,65536+(f:Int),xz⟩ j) rz X)=>(show Calls Tryz.prog 70 #[.slice (some ⟨gf,0,none⟩) F F,.int .i64 (xb.getD j 0),.slice (bl.getD j zB).1 (bl.getD j zB).2.1 (bl.getD j zB).2.2.1] X fun e w'=>e=.returned (.tuple #[])∧Im5 w #[.slice (some ⟨pb,po,none⟩) xs.length c0,.int .i64 L.stack,.slice a2 L.slots.length c2,.int .i64 L.flash,.int .i64 L.ram,.slice a5 ts.length c5] F R gf gr go gm wo.heap.size #[.int .i64 (kt:Int),.slice xa xb.length xc,.int .i64 (65536+(f:Int)),.int .i64 xz] (pourB fz P ⟨(kt:Int),xb,65536+(f:Int),xz⟩ (j+1)) rz w' from by
      have hPl:P.bl.length=bn:=by rw [HPE.out.2.1,List.length_map];exact hbl
      obtain ⟨h1,h2⟩:=HAT.out.2.2.1 j (by omega)
      have hI:IS w (bl.getD j zB).1 (bl.getD j zB).2.1 (bl.getD j zB).2.2.1 (bl.getD j zB).2.2.2:=HMD.out.b.2.2.2.1 j hj
      have h3:(bl.getD j zB).2.2.2.length=(bl.getD j zB).2.1:=hI.1
      have h4:=(vld_wd HVL.out).2 j (by omega)
      rw [HBE.out j hj] at h2 h4
      obtain ⟨kb,hkb⟩:∃ kb:Nat,xb.getD j 0=(kb:Int):=⟨(xb.getD j 0).toNat,by omega⟩
      rw [hkb] at h2
      have e1:pourB fz P ⟨(kt:Int),xb,65536+(f:Int),xz⟩ (j+1)=pour (pourB fz P ⟨(kt:Int),xb,65536+(f:Int),xz⟩ j) kb (bl.getD j zB).2.2.2 (bl.getD j zB).2.1:=by
       show pour _ (xb.getD j 0).toNat (P.bl.getD j []) (P.bl.getD j []).length=_
       rw [HBE.out j hj,hkb,Int.toNat_natCast,h3]
      rw [hkb,e1]
      exact (l5Pour_any gf F F kb _ _ _ _ _ w.heap.size w X hI I.s.be (by have:=I.s.lo;omega) I.s.f hF1 (by omega) (fun i hi=>h4 i (by omega))).mono (fun e w' he=>⟨he.1,I.setf he.2.1 he.2.2⟩)))
     have I1:Im5 w #[.slice (some ⟨pb,po,none⟩) xs.length c0,.int .i64 L.stack,.slice a2 L.slots.length c2,.int .i64 L.flash,.int .i64 L.ram,.slice a5 ts.length c5] F R gf gr go gm wo.heap.size #[.int .i64 (kt:Int),.slice xa xb.length xc,.int .i64 (65536+(f:Int)),.int .i64 xz] fz rz (wo.alloc (.cells #[.int .i64 (kt:Int),.slice xa xb.length xc,.int .i64 (65536+(f:Int)),.int .i64 xz] 43)):=⟨S.below (show Below wo.heap.size wo (wo.alloc (.cells #[.int .i64 (kt:Int),.slice xa xb.length xc,.int .i64 (65536+(f:Int)),.int .i64 xz] 43)) from (Below.refl _ _).alloc (Nat.le_refl _) _),Blk.new _ _ _⟩
     have HI1:=hide I1
     have c0':=S.kl.cell 0
     simp only [List.getElem?_toArray,List.getElem?_cons_zero] at c0'
     have zz0:=cell_below S.be z0
     have zz1:=cell_below S.be z1
     have zz2:=cell_below S.be z2
     have zz3:=cell_below S.be z3
     have hml':(m:Int)<(xs.length:Int):=by have:=HXL.out;omega
     clear S I1 HS
     go_wp2_with fail
     generalize hW1:wo.alloc (.cells #[.int .i64 (kt:Int),.slice xa xb.length xc,.int .i64 (65536+(f:Int)),.int .i64 xz] 43)=W1 at *
     clear hW1
     have v0:W1.cell? ⟨gm,0,none⟩=some (.slice (some ⟨gf,0,none⟩) F F):=HI1.out.s.km.cell 0
     have v1:W1.cell? ⟨wo.heap.size,0,none⟩=some (.int .i64 (kt:Int)):=HI1.out.p.cell 0
     have v2:=cell_below HI1.out.s.be y1
     go_region_held3 (fun w'=>w'.cell? ⟨gm,0,none⟩=some (.slice (some ⟨gf,0,none⟩) F F)∧w'.cell? ⟨wo.heap.size,0,none⟩=some (.int .i64 (kt:Int))∧w'.cell? ⟨b,off+m * 8+1,none⟩=some (.slice ta tn tc)) (go_keep)
      (first
        | (go_at_call 70;first
            | with_reducible refine (HPZ1.out _ HI1.out).mono ?_
            | with_reducible refine (HPZ1.out _ HI1.out.drew).mono ?_
           rintro e w2 ⟨rfl,hI2⟩
           have HI2:=hide hI2
           clear hI2
           have u0:w2.cell? ⟨gm,0,none⟩=some (.slice (some ⟨gf,0,none⟩) F F):=HI2.out.s.km.cell 0
           have u1:w2.cell? ⟨wo.heap.size,0,none⟩=some (.int .i64 (kt:Int)):=HI2.out.p.cell 0
           have u2:=cell_below HI2.out.s.be y1))
     clear v0 v1 v2 u0 u1 u2 zz0 zz1 zz2 zz3 c0' z0 z1 z2 z3
     go_wp2
     go_loopw [9] (fun i wr=>∃ j:Nat,j≤bn∧i=.int .i64 j∧Im5 w #[.slice (some ⟨pb,po,none⟩) xs.length c0,.int .i64 L.stack,.slice a2 L.slots.length c2,.int .i64 L.flash,.int .i64 L.ram,.slice a5 ts.length c5] F R gf gr go gm wo.heap.size #[.int .i64 (kt:Int),.slice xa xb.length xc,.int .i64 (65536+(f:Int)),.int .i64 xz] (pourB fz P ⟨(kt:Int),xb,65536+(f:Int),xz⟩ j) rz wr) (fun i _=>bn - (intOf i).toNat)
     case atStart=>exact ⟨0,Nat.zero_le _,rfl,HI2.out⟩
     case round=>
      clear HI1 HI2 HPZ1
      obtain ⟨j,hj,rfl,hJ⟩:=hrel
      have HJ:=hide hJ
      generalize wr=wj at *
      have s2:=cell_below hJ.s.be y2
      by_cases hjb:j<bn
      ·have hjb':(j:Int)<(bn:Int):=by omega
       have hxb:xb.length=bn:=by
        have h1:=HAT.out.2.1
        rw [HPE.out.2.1,List.length_map] at h1
        omega
       have HXB:=hide hxb
       have hjx':(j:Int)<(xb.length:Int):=by omega
       clear hxb
       obtain ⟨bb,bo,rfl,hbc⟩:=HMD.out.b.2.2.1 (show bn≠0 by omega)
       obtain ⟨qb,qo,rfl,hqc⟩:=HPB.out.2.2.2.1 (show xb.length≠0 by have:=HXB.out;omega)
       have v0:wj.cell? ⟨gm,0,none⟩=some (.slice (some ⟨gf,0,none⟩) F F):=hJ.s.km.cell 0
       have v1:wj.cell? ⟨wo.heap.size,1,none⟩=some (.slice (some ⟨qb,qo,none⟩) xb.length xc):=hJ.p.cell 1
       have v2:=cell_below hJ.s.be (hqc j (by have:=HXB.out;omega))
       have hbcj:=hbc j hjb
       dsimp only at hbcj
       have v3:=cell_below hJ.s.be hbcj
       have HP2:=hide (HPZ2.out j hjb)
       have HVW:=hide (fun (W:World) (hb:Below w.heap.size w W)=>And.intro (cell_below hb (hqc j (by have:=HXB.out;omega))) (And.intro (cell_below hb hbcj) (cell_below hb y2)))
       clear hJ hbc hqc hbcj
       generalize (bl.getD j zB).1=k1 at *
       generalize (bl.getD j zB).2.1=k2 at *
       generalize (bl.getD j zB).2.2.1=k3 at *
       generalize xb.getD j 0=k4 at *
       go_wp2_with fail
       go_region_held3 (fun w'=>w'.cell? ⟨gm,0,none⟩=some (.slice (some ⟨gf,0,none⟩) F F)∧w'.cell? ⟨wo.heap.size,1,none⟩=some (.slice (some ⟨qb,qo,none⟩) xb.length xc)∧w'.cell? ⟨qb,qo+j,none⟩=some (.int .i64 k4)∧w'.cell? ⟨b,off+m * 8+2,none⟩=some (.slice (some ⟨bb,bo,none⟩) bn bc)∧w'.cell? ⟨bb,bo+j,none⟩=some (.slice k1 k2 k3)) (go_keep)
        (first
          | (go_at_call 70;first
              | with_reducible refine (HP2.out _ HJ.out).mono ?_
              | with_reducible refine (HP2.out _ HJ.out.drew).mono ?_
             rintro e w3 ⟨rfl,hI3⟩
             have HI3:=hide hI3
             clear hI3
             have u0:w3.cell? ⟨gm,0,none⟩=some (.slice (some ⟨gf,0,none⟩) F F):=HI3.out.s.km.cell 0
             have u1:w3.cell? ⟨wo.heap.size,1,none⟩=some (.slice (some ⟨qb,qo,none⟩) xb.length xc):=HI3.out.p.cell 1
             obtain ⟨u2,u3,u4⟩:=HVW.out w3 HI3.out.s.be))
       clear v0 v1 v2 v3 u0 u1 u2 u3 u4 s2
       go_wp2
       go_roundw
       case rel=>exact ⟨j+1,by omega,by go_num,HI3.out⟩
       case measure=>simp [intOf];omega
      ·have HJN:=hide (show j=bn by omega)
       have t2:wj.cell? ⟨wo.heap.size,2,none⟩=some (.int .i64 (65536+(f:Int))):=hJ.p.cell 2
       have t1:wj.cell? ⟨gm,1,none⟩=some (.slice (some ⟨gr,0,none⟩) R R):=hJ.s.km.cell 1
       have s3:=cell_below hJ.s.be y3
       have hff:(65536:Int)+(f:Int) - 65536=(f:Int):=by omega
       have hfR:(f:Int)≤(R:Int):=by have:=HAT.out.2.2.2.2;omega
       clear hJ
       have hdn:dz.length=dn:=HMD.out.d.1
       have hfd:f+dn≤R:=by
        have h1:=HAT.out.2.2.2.2
        rw [HPE.out.2.2.1] at h1
        omega
       have HBS:=hide (fun (X:World) (hb:Below w.heap.size w X)=>show BS X da dn dc dz from HMD.out.d.below hb)
       have HI4F:=hide (fun (X X':World) (I:Im5 w #[.slice (some ⟨pb,po,none⟩) xs.length c0,.int .i64 L.stack,.slice a2 L.slots.length c2,.int .i64 L.flash,.int .i64 L.ram,.slice a5 ts.length c5] F R gf gr go gm wo.heap.size #[.int .i64 (kt:Int),.slice xa xb.length xc,.int .i64 (65536+(f:Int)),.int .i64 xz] (pourB fz P ⟨(kt:Int),xb,65536+(f:Int),xz⟩ j) rz X) (O:OB X' w.heap.size (.slice (some ⟨gr,0,none⟩) R R) (ovr rz f dz)) (T:Only gr X X')=>I.setr O T)
       have f0':(0:Int)≤(f:Int):=by omega
       have HFT:=hide (show ((f:Int)).toNat=f from Int.toNat_natCast f)
       go_wp2_with fail
       apply cut1 (F:=fun v W=>Im5 w #[.slice (some ⟨pb,po,none⟩) xs.length c0,.int .i64 L.stack,.slice a2 L.slots.length c2,.int .i64 L.flash,.int .i64 L.ram,.slice a5 ts.length c5] F R gf gr go gm wo.heap.size #[.int .i64 (kt:Int),.slice xa xb.length xc,.int .i64 (65536+(f:Int)),.int .i64 xz] (pourB fz P ⟨(kt:Int),xb,65536+(f:Int),xz⟩ j) (ovr rz f dz) W)
       ·intro REST0
        have REST:=hide REST0
        clear REST0
        by_cases hfl:f<R
        ·have hfl':(f:Int)<(R:Int):=by omega
         obtain ⟨w4,hrun,O4,T4⟩:=copy_run (f:=f) HJ.out.drew.s.r 3 (some ⟨gr,f,none⟩) da (R - f) (R - f) dn dc (HBS.out _ HJ.out.drew.s.be) (by omega) (by omega) (fun _=>rfl)
         have HI4:=hide (HI4F.out _ _ HJ.out.drew O4 T4)
         clear O4 T4
         have u1:w4.cell? ⟨gm,1,none⟩=some (.slice (some ⟨gr,0,none⟩) R R):=HI4.out.s.km.cell 1
         have u2:=cell_below HI4.out.s.be y3
         go_region_held3 (fun w'=>w'.cell? ⟨gm,1,none⟩=some (.slice (some ⟨gr,0,none⟩) R R)∧w'.cell? ⟨b,off+m * 8+3,none⟩=some (.slice da dn dc)) (go_keep) (fail)
         generalize Value.slice (some ⟨gr,f,none⟩) (R - f) (R - f)=v79
         exact REST.out v79 w4 HI4.out
        ·obtain rfl:R=f:=by omega
         have hd0:dn=0:=by omega
         obtain ⟨w4,hrun,O4,T4⟩:=copy_run (f:=R) HJ.out.drew.s.r 3 (some ⟨gr,0,none⟩) da 0 0 dn dc (HBS.out _ HJ.out.drew.s.be) (by omega) (by omega) (fun h=>by omega)
         have HI4:=hide (HI4F.out _ _ HJ.out.drew O4 T4)
         clear O4 T4
         have u1:w4.cell? ⟨gm,1,none⟩=some (.slice (some ⟨gr,0,none⟩) R R):=HI4.out.s.km.cell 1
         have u2:=cell_below HI4.out.s.be y3
         have HD0:=hide hd0
         clear hd0
         go_region_held3 (fun w'=>w'.cell? ⟨gm,1,none⟩=some (.slice (some ⟨gr,0,none⟩) R R)∧w'.cell? ⟨b,off+m * 8+3,none⟩=some (.slice da dn dc)) (go_keep) (fail)
         exact REST.out _ w4 HI4.out
       ·rintro v79 W4 hI4
        show Exit.then _ _ _ _ _
        have HI4:=hide hI4
        have hrl:rrz.length=rn:=HMD.out.r.1
        have hrn:rn≤16:=by
         have V:=vm_of_mdo (by simp [bkOf]) (show mdo P.nm P.tz.length P.tz P.bl.length (bkOf P.bl) P.dz.length P.bss P.rz.length P.rz P.ss.length P.ss P.es.length P.es=0 from HVL.out)
         have h1:=V.r
         rw [HPE.out.2.2.2] at h1
         omega
        have HRLB:=hide (show ∀ q,q<rn→0≤rrz.getD q 0∧rrz.getD q 0+4≤(dn:Int) from fun q hq=>by
         have h1:=vld_rl HVL.out q (by rw [HPE.out.2.2.2];omega)
         rw [HPE.out.2.2.2,HPE.out.2.2.1] at h1
         omega)
        clear hI4 HJ HBS HI4F t1 t2 s3 s2 hff HFT
        go_wp2
        go_loopw [11,12] (fun i _ wr=>∃ q:Nat,q≤rn∧i=.int .i64 q∧Im5 w #[.slice (some ⟨pb,po,none⟩) xs.length c0,.int .i64 L.stack,.slice a2 L.slots.length c2,.int .i64 L.flash,.int .i64 L.ram,.slice a5 ts.length c5] F R gf gr go gm wo.heap.size #[.int .i64 (kt:Int),.slice xa xb.length xc,.int .i64 (65536+(f:Int)),.int .i64 xz] (pourB fz P ⟨(kt:Int),xb,65536+(f:Int),xz⟩ j) (relB (ovr rz f dz) f rrz (65536+(f:Int)) q) wr) (fun i _ _=>rn - (intOf i).toNat)
        case atStart=>exact ⟨0,Nat.zero_le _,rfl,HI4.out⟩
        case round=>
         clear HI4
         obtain ⟨q,hq,rfl,hQ⟩:=hrel
         have HQ:=hide hQ
         generalize wr=wq at *
         have s5:=cell_below hQ.s.be y5
         by_cases hqr:q<rn
         ·have hqr':(q:Int)<(rn:Int):=by omega
          obtain ⟨rb,ro,rfl,hrc⟩:=HMD.out.r.2.2.2.1 (show rn≠0 by omega)
          obtain ⟨h1,h2⟩:=HRLB.out q hqr
          have hrq:=hrc q hqr
          dsimp only at hrq
          have s6:=cell_below hQ.s.be hrq
          have HRE:=hide (show relB (ovr rz f dz) f rrz (65536+(f:Int)) (q+1)=put (relB (ovr rz f dz) f rrz (65536+(f:Int)) q) (f+(rrz.getD q 0).toNat) (low (((relB (ovr rz f dz) f rrz (65536+(f:Int)) q).drop (f+(rrz.getD q 0).toNat)).take 4)+(65536+(f:Int))) 4 from rfl)
          clear hrc hrq hQ
          generalize hRQ1:relB (ovr rz f dz) f rrz (65536+(f:Int)) (q+1)=RQ1 at HRE
          have HRQ1:=hide hRQ1
          clear hRQ1
          generalize relB (ovr rz f dz) f rrz (65536+(f:Int)) q=RQ at *
          obtain ⟨x,hx⟩:∃ x:Nat,rrz.getD q 0=(x:Int):=⟨(rrz.getD q 0).toNat,by omega⟩
          rw [hx] at s6 HRE h1 h2
          rw [Int.toNat_natCast] at HRE
          clear hx
          obtain ⟨A,hA⟩:∃ A:Nat,A=f+x:=⟨_,rfl⟩
          obtain ⟨A4,hA4⟩:∃ A4:Nat,A4=A+4:=⟨_,rfl⟩
          rw [← hA] at HRE
          have hAR:A4≤R:=by omega
          have hAi:(f:Int)+(x:Int)=(A:Int):=by omega
          have HAI:=hide hAi
          have hw4:IntKind.i64.wrap ((A:Int)+4)=(A4:Int):=by rw [IntWalk.i64_left,IntWalk.wrap64_in _ (by omega)];omega
          have hz0:(0:Int)≤(A:Int):=by omega
          have hz1:(A:Int)≤(A4:Int):=by omega
          have hz2:(A4:Int)≤(R:Int):=by omega
          have hz3:(A:Int)<(R:Int):=by omega
          have hz4:A≤A4:=by omega
          have hz5:¬ (R=A):=by omega
          have hz6:A<R:=by omega
          have hRQ:RQ.length=R:=(ob_row8 HQ.out.s.r).2.1
          have HLR:=hide (low_small ((RQ.drop A).take 4) (fun z hz=>HQ.out.s.r.2 z (List.mem_of_mem_drop (List.mem_of_mem_take hz))) (by simp;omega))
          obtain ⟨lw,hlw⟩:∃ lw,lw=low ((RQ.drop A).take 4):=⟨_,rfl⟩
          rw [← hlw] at HLR HRE
          obtain ⟨VV,hVV⟩:∃ VV,VV=lw+(65536+(f:Int)):=⟨_,rfl⟩
          rw [← hVV] at HRE
          have hwV:IntKind.i64.wrap (lw+(65536+(f:Int)))=VV:=by rw [hVV,IntWalk.i64_left,IntWalk.wrap64_in _ (by have:=HLR.out;omega)]
          have HVR:=hide (show -9223372036854775808≤VV∧VV≤9223372036854775807 by have:=HLR.out;omega)
          have HLO:=hide (fun (X:World) (I:Im5 w #[.slice (some ⟨pb,po,none⟩) xs.length c0,.int .i64 L.stack,.slice a2 L.slots.length c2,.int .i64 L.flash,.int .i64 L.ram,.slice a5 ts.length c5] F R gf gr go gm wo.heap.size #[.int .i64 (kt:Int),.slice xa xb.length xc,.int .i64 (65536+(f:Int)),.int .i64 xz] (pourB fz P ⟨(kt:Int),xb,65536+(f:Int),xz⟩ j) RQ X)=>show Calls Tryz.prog 73 #[.slice (some ⟨gr,A,none⟩) (A4 - A) (R - A)] X fun e w'=>e=.returned (.int .i64 lw)∧X=w' from by
           have hbs:BS X (some ⟨gr,A,none⟩) (A4 - A) (R - A) ((RQ.drop A).take 4):=by
            have hb:=I.s.r.bs
            refine ⟨by simp;omega,by unfold maxLen;omega,fun z hz=>I.s.r.2 z (List.mem_of_mem_drop (List.mem_of_mem_take hz)),fun _=>⟨gr,A,rfl,fun i hi=>?_⟩,by omega⟩
            have h1:=hb.at (A+i) (by omega)
            rw [Nat.zero_add] at h1
            rw [h1]
            congr 2
            simp [List.getD_eq_getElem?_getD,List.getElem?_take,List.getElem?_drop,show i<4 by omega]
           have:=l1Low_any gr A (A4 - A) (R - A) _ X hbs (by omega)
           rw [← hlw] at this
           exact this)
          have HPU:=hide (fun (X:World) (I:Im5 w #[.slice (some ⟨pb,po,none⟩) xs.length c0,.int .i64 L.stack,.slice a2 L.slots.length c2,.int .i64 L.flash,.int .i64 L.ram,.slice a5 ts.length c5] F R gf gr go gm wo.heap.size #[.int .i64 (kt:Int),.slice xa xb.length xc,.int .i64 (65536+(f:Int)),.int .i64 xz] (pourB fz P ⟨(kt:Int),xb,65536+(f:Int),xz⟩ j) RQ X)=>show Calls Tryz.prog 71 #[.slice (some ⟨gr,0,none⟩) R R,.int .i64 (A:Int),.int .i64 4,.int .i64 (VV % 4294967296)] X fun e w'=>e=.returned (.tuple #[])∧Im5 w #[.slice (some ⟨pb,po,none⟩) xs.length c0,.int .i64 L.stack,.slice a2 L.slots.length c2,.int .i64 L.flash,.int .i64 L.ram,.slice a5 ts.length c5] F R gf gr go gm wo.heap.size #[.int .i64 (kt:Int),.slice xa xb.length xc,.int .i64 (65536+(f:Int)),.int .i64 xz] (pourB fz P ⟨(kt:Int),xb,65536+(f:Int),xz⟩ j) RQ1 w' from
           (l1Put_any gr R R A 4 (VV % 4294967296) X (ob_room I.s.r) hR1 (by omega) (by omega) (by omega) (by omega) (by omega)).mono (fun e w' he=>⟨he.1,by
             rw [he.2,HRE.out]
             have O:=ob_put I.s.r A (VV % 4294967296) 4 (by omega)
             rw [(put_word RQ A VV).1] at O
             exact I.setr O (only_put gr A (VV % 4294967296) X 4)⟩))
          clear hlw hVV hA hA4 h1 h2
          go_wp2_with fail
          try rw [HAI.out]
          have v1:wq.cell? ⟨gm,1,none⟩=some (.slice (some ⟨gr,0,none⟩) R R):=HQ.out.s.km.cell 1
          have v2:wq.cell? ⟨wo.heap.size,2,none⟩=some (.int .i64 (65536+(f:Int))):=HQ.out.p.cell 2
          clear hAi s5 s6
          go_region_held3 (fun w'=>w'.cell? ⟨gm,1,none⟩=some (.slice (some ⟨gr,0,none⟩) R R)∧w'.cell? ⟨wo.heap.size,2,none⟩=some (.int .i64 (65536+(f:Int)))) (go_keep)
           (first
             | (go_at_call 73;first
                 | with_reducible refine (HLO.out _ HQ.out).mono ?_
                 | with_reducible refine (HLO.out _ HQ.out.drew).mono ?_
                rintro e w5 ⟨rfl,rfl⟩)
             | (go_at_call 72;first
                 | with_reducible refine (l1Word_any VV _ HVR.out).mono ?_
                 | (rw [hwV];with_reducible refine (l1Word_any VV _ HVR.out).mono ?_)
                rintro e w5 ⟨rfl,rfl⟩)
             | (go_at_call 71;first
                 | with_reducible refine (HPU.out _ HQ.out).mono ?_
                 | with_reducible refine (HPU.out _ HQ.out.drew).mono ?_
                rintro e w6 ⟨rfl,hI6⟩
                have HI6:=hide hI6
                clear hI6
                have u1:w6.cell? ⟨gm,1,none⟩=some (.slice (some ⟨gr,0,none⟩) R R):=HI6.out.s.km.cell 1
                have u2:w6.cell? ⟨wo.heap.size,2,none⟩=some (.int .i64 (65536+(f:Int))):=HI6.out.p.cell 2))
          clear v1 v2 u1 u2 hw4 hwV
          go_wp2
          go_roundw
          case rel=>exact ⟨q+1,by omega,by go_num,by rw [HRQ1.out];exact HI6.out⟩
          case measure=>simp [intOf];omega
         ·have HQN:=hide (show q=rn by omega)
          have HZ2:=hide (show ImS w #[.slice (some ⟨pb,po,none⟩) xs.length c0,.int .i64 L.stack,.slice a2 L.slots.length c2,.int .i64 L.flash,.int .i64 L.ram,.slice a5 ts.length c5] F R gf gr go gm FZ RZ wq from by
           have h1:=hQ.s
           have e1:P.bl.length=bn:=by rw [HPE.out.2.1,List.length_map];exact hbl
           rw [HFL.out,HRA.out,e1,HPE.out.2.2.1,HPE.out.2.2.2,hrl,show ((65536:Int)+(f:Int) - 65536).toNat=f by omega,← HJN.out,← HQN.out]
           exact h1)
          clear hQ HQ
          go_wp2
          go_roundw
          case rel=>exact ⟨m+1,by omega,by go_num,by rw [HFZ.out.1,HFZ.out.2];exact HZ2.out⟩
          case measure=>simp [intOf];omega
    ·have e:Hid (m=n):=by show m=n;omega
     obtain ⟨q0,q1,q2⟩:wo.cell? ⟨gm,0,none⟩=some (.slice (some ⟨gf,0,none⟩) F F)∧wo.cell? ⟨gm,1,none⟩=some (.slice (some ⟨gr,0,none⟩) R R)∧wo.cell? ⟨gm,2,none⟩=some (.slice (some ⟨go,0,none⟩) 0 0):=⟨S.km.cell 0,S.km.cell 1,S.km.cell 2⟩
     obtain ⟨p0,p1,p2⟩:wo.cell? ⟨w.heap.size+1,0,none⟩=some (.slice none 0 0)∧wo.cell? ⟨w.heap.size+1,1,none⟩=some (.slice none 0 0)∧wo.cell? ⟨w.heap.size+1,2,none⟩=some (.slice none 0 0):=⟨S.kr.cell 0,S.kr.cell 1,S.kr.cell 2⟩
     have pf:=S.kr.frozen
     have T:Turn (fun j=>j=w.heap.size+1) wo (((wo.setCell ⟨w.heap.size+1,0,none⟩ (.slice (some ⟨gf,0,none⟩) F F)).setCell ⟨w.heap.size+1,1,none⟩ (.slice (some ⟨gr,0,none⟩) R R)).setCell ⟨w.heap.size+1,2,none⟩ (.slice (some ⟨go,0,none⟩) 0 0)):=((turn_set _ _ _ _).trans (turn_set _ _ _ _)).trans (turn_set _ _ _ _)
     have HE:=hide (show ImM w (pmS ms) L (.returned (.tuple #[.agg #[.slice (some ⟨gf,0,none⟩) F F,.slice (some ⟨gr,0,none⟩) R R,.slice (some ⟨go,0,none⟩) 0 0],.bool true])) (((wo.setCell ⟨w.heap.size+1,0,none⟩ (.slice (some ⟨gf,0,none⟩) F F)).setCell ⟨w.heap.size+1,1,none⟩ (.slice (some ⟨gr,0,none⟩) R R)).setCell ⟨w.heap.size+1,2,none⟩ (.slice (some ⟨go,0,none⟩) 0 0)) from by
      have hlo:=S.lo
      refine ⟨below_turn S.be T (fun k e=>by omega) S.be.size,some ⟨gf,0,none⟩,F,F,some ⟨gr,0,none⟩,R,R,some ⟨go,0,none⟩,0,0,by rw [decide_eq_true HOK.out],?_⟩
      unfold imF imR
      rw [if_pos HOK.out,if_pos HOK.out,hpl,← e.out]
      have kO:=turn_blk T S.o (by omega)
      refine ⟨turn_ob T S.f (fun k hk s=>by simp [Value.ownBlock] at hk;omega),turn_ob T S.r (fun k hk s=>by simp [Value.ownBlock] at hk;omega),⟨⟨rfl,.inr ⟨go,0,#[],rfl,by omega,kO,Nat.le_refl _,Nat.zero_le _,rfl,rfl⟩⟩,by simp⟩,?_,?_,?_⟩
      all_goals
       intro k hk
       have hne:=S.ne
       simp [Value.ownBlock] at hk ⊢
       omega)
     have k3:=blk_set3 (v0:=.slice (some ⟨gf,0,none⟩) F F) (v1:=.slice (some ⟨gr,0,none⟩) R R) (v2:=.slice (some ⟨go,0,none⟩) 0 0) S.kr
     have s0:=k3.cell 0
     have s1:=k3.cell 1
     have s2:=k3.cell 2
     simp only [List.getElem?_toArray,List.getElem?_cons_zero,List.getElem?_cons_succ] at s0 s1 s2
     clear S T HS k3
     go_wp2
     exact bodyPost_ret (v:=.tuple #[.agg #[.slice (some ⟨gf,0,none⟩) F F,.slice (some ⟨gr,0,none⟩) R R,.slice (some ⟨go,0,none⟩) 0 0],.bool true]) (by simp [results,Tryz.results14,go_sem,s0,s1,s2]) rfl HE.out
 ·rw [decide_eq_false hok]
  have HE:=hide (show ∀ W',Below w.heap.size w W'→ImM w (pmS ms) L (.returned (.tuple #[.agg #[.slice none 0 0,.slice none 0 0,.slice none 0 0],.bool false])) W' from fun W' hb=>by
   refine ⟨hb,none,0,0,none,0,0,none,0,0,by rw [decide_eq_false hok],?_⟩
   unfold imF imR
   rw [if_neg hok,if_neg hok]
   refine ⟨⟨⟨rfl,.inl ⟨rfl,rfl⟩⟩,by simp⟩,⟨⟨rfl,.inl ⟨rfl,rfl⟩⟩,by simp⟩,⟨⟨rfl,.inl ⟨rfl,rfl⟩⟩,by simp⟩,?_,?_,?_⟩
   all_goals
    intro k hk
    simp [Value.ownBlock] at hk)
  have k3:=blk_set3 (v0:=.slice none 0 0) (v1:=.slice none 0 0) (v2:=.slice none 0 0) kr1
  have s0:=k3.cell 0
  have s1:=k3.cell 1
  have s2:=k3.cell 2
  simp only [List.getElem?_toArray,List.getElem?_cons_zero,List.getElem?_cons_succ] at s0 s1 s2
  have T:Turn (fun j=>j=w.heap.size+1) w1 (((w1.setCell ⟨w.heap.size+1,0,none⟩ (.slice none 0 0)).setCell ⟨w.heap.size+1,1,none⟩ (.slice none 0 0)).setCell ⟨w.heap.size+1,2,none⟩ (.slice none 0 0)):=((turn_set _ _ _ _).trans (turn_set _ _ _ _)).trans (turn_set _ _ _ _)
  have HB:=hide (below_turn B1 T (fun k e=>by omega) B1.size)
  obtain ⟨p0,p1,p2⟩:w1.cell? ⟨w.heap.size+1,0,none⟩=some (.slice none 0 0)∧w1.cell? ⟨w.heap.size+1,1,none⟩=some (.slice none 0 0)∧w1.cell? ⟨w.heap.size+1,2,none⟩=some (.slice none 0 0):=⟨kr1.cell 0,kr1.cell 1,kr1.cell 2⟩
  have pf:=kr1.frozen
  clear T k3 kl1 kr1 B1 hok HRL HM HL
  go_wp2
  exact bodyPost_ret (v:=.tuple #[.agg #[.slice none 0 0,.slice none 0 0,.slice none 0 0],.bool false]) (by simp [results,Tryz.results14,go_sem,s0,s1,s2]) rfl (HE.out _ HB.out)
end Go.Proofs.YtngdgogjlpjjpadGreat
