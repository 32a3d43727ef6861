import Derived.Test.YtngdgogjlpjjpaeGreatP09
import Derived.Test.YtngdgogjlpjjpaeGreatP19
import Derived.Test.YtngdgogjlpjjpaeGreatP22
set_option maxHeartbeats 16000000
namespace Go.Proofs.YtngdgogjlpjjpaeGreat
open Go.RowKit Classical
set_option linter.unusedVariables false
set_option linter.unusedSimpArgs false
set_option maxRecDepth 100000
theorem cut1 {S F:Value→World→Prop}{G:Prop}(main:(∀ v W,F v W→S v W)→G)(pf:∀ v W,F v W→S v W):G:=main pf
theorem sImage_any (a:Option Addr)(n cap:Nat)(ms:List Md)(L:Lay)(a0:Option Addr)(c0:Nat)(xs:List PB)(a2:Option Addr)(c2:Nat)(a5:Option Addr)(c5:Nat)(ts:List TB)(w:World)(h:MSD w a n cap ms)(hL:LyT w L a0 c0 xs a2 c2 a5 c5 ts):
 Calls Tryz.prog 22 #[.slice a n cap,.agg #[.slice a0 xs.length c0,.int .i64 L.stack,.slice a2 L.slots.length c2,.int .i64 L.flash,.int .i64 L.ram,.slice a5 ts.length c5]] w (ImM w (pmS ms) L):=by
 have B0:Below w.heap.size w ((w.alloc (.cells #[.slice a0 xs.length c0,.int .i64 L.stack,.slice a2 L.slots.length c2,.int .i64 L.flash,.int .i64 L.ram,.slice a5 ts.length c5] 36)).alloc (.cells #[.slice none 0 0,.slice none 0 0,.slice none 0 0] 50)):=((Below.refl _ _).alloc (Nat.le_refl _) _).alloc (by simp) _
 have kl:=(Blk.new w #[.slice a0 xs.length c0,.int .i64 L.stack,.slice a2 L.slots.length c2,.int .i64 L.flash,.int .i64 L.ram,.slice a5 ts.length c5] 36).alloc (.cells #[.slice none 0 0,.slice none 0 0,.slice none 0 0] 50)
 have kr:=Blk.new (w.alloc (.cells #[.slice a0 xs.length c0,.int .i64 L.stack,.slice a2 L.slots.length c2,.int .i64 L.flash,.int .i64 L.ram,.slice a5 ts.length c5] 36)) #[.slice none 0 0,.slice none 0 0,.slice none 0 0] 50
 simp only [World.size_alloc] at kr
 have HRL:=hide (fun (W:World) (hb:Below w.heap.size w W)=>l5Real_any a n cap ms L a0 c0 xs a2 c2 a5 c5 ts W (h.below hb) (hL.below hb))
 have HM:=hide h
 have HL:=hide hL
 clear h hL
 go_enter Tryz.func22,Tryz.ntmps22
 go_wp2_with fail
 refine (HRL.out _ B0).mono ?_
 rintro e w1 ⟨rfl,hb1⟩
 have B1:=B0.trans (hb1.mono B0.size)
 have kl1:=kl.below hb1
 have kr1:=kr.below hb1
 clear B0 kl kr hb1
 by_cases hok:Lok (pmS ms) L
 ·rw [decide_eq_true hok]
  have K:=lok_kn hok
  obtain ⟨F,hF⟩:∃ F:Nat,L.flash=(F:Int):=⟨L.flash.toNat,by have:=K.fr;omega⟩
  obtain ⟨R,hR⟩:∃ R:Nat,L.ram=(R:Int):=⟨L.ram.toNat,by have:=K.rr;omega⟩
  have hF1:F≤16384:=by have:=K.fr;omega
  have hR1:R≤16384:=by have:=K.rr;omega
  have hmF:=make8 F hF1
  have hmR:=make8 R hR1
  have x3:w1.cell? ⟨w.heap.size,3,none⟩=some (.int .i64 (F:Int)):=by rw [← hF];exact kl1.cell 3
  have x4:w1.cell? ⟨w.heap.size,4,none⟩=some (.int .i64 (R:Int)):=by rw [← hR];exact kl1.cell 4
  have hw1:w.heap.size<w1.heap.size:=kl1.lt
  generalize hZF:zby F=ZF at *
  generalize hZR:zby R=ZR at *
  have HZ:=hide (And.intro hZF hZR)
  clear hZF hZR
  have HK1:=hide (And.intro B1 (And.intro kl1 kr1))
  have HFR:=hide (And.intro hF hR)
  have HKN:=hide K
  have HOK:=hide hok
  clear HRL
  clear B1 kl1 kr1 hF hR K hok
  go_wp2_with fail
  obtain ⟨N,hN⟩:∃ N,N=w1.heap.size:=⟨_,rfl⟩
  have hNw:N≤w1.heap.size:=by omega
  rename_i K hK
  apply cut5 (F:=fun gf gr go gm W=>Mk4 N w1 W ZF ZR F R gf gr go gm) (S:=fun gf gr go gm W=>Exit.then K (bodyPost Tryz.prog Tryz.f22 (ImM w (pmS ms) L)) .normal ⟨#[.slice a n cap,.agg #[.slice a0 xs.length c0,.int .i64 L.stack,.slice a2 L.slots.length c2,.int .i64 L.flash,.int .i64 L.ram,.slice a5 ts.length c5],undef,.pointer (some ⟨w.heap.size,0,none⟩),.pointer (some ⟨w.heap.size+1,0,none⟩),.bool false,.pointer (some ⟨gm,0,none⟩),undef,undef,undef,undef,undef,undef,.slice a n cap,.agg #[.slice a0 xs.length c0,.int .i64 L.stack,.slice a2 L.slots.length c2,.int .i64 L.flash,.int .i64 L.ram,.slice a5 ts.length c5],.bool true,.bool false,undef,.pointer (some ⟨w.heap.size,3,none⟩),.int .i64 (F:Int),.slice (some ⟨gf,0,none⟩) F F,.pointer (some ⟨w.heap.size,4,none⟩),.int .i64 (R:Int),.slice (some ⟨gr,0,none⟩) R R,.slice (some ⟨go,0,none⟩) 0 0,.agg #[.slice (some ⟨gf,0,none⟩) F F,.slice (some ⟨gr,0,none⟩) R R,.slice (some ⟨go,0,none⟩) 0 0],undef,undef,undef,undef,undef,undef,undef,undef,undef,undef,undef,undef,undef,undef,undef,undef,undef,undef,undef,undef,undef,undef,undef,undef,undef,undef,undef,undef,undef,undef,undef,undef,undef,undef,undef,undef,undef,undef,undef,undef,undef,undef,undef,undef,undef,undef,undef,undef,undef,undef,undef,undef,undef,undef,undef,undef,undef,undef,undef,undef,undef,undef,undef,undef,undef,undef,undef,undef,undef,undef,undef,undef,undef,undef,undef,undef,undef,undef,undef,undef,undef,undef,undef,undef,undef,undef,undef,undef,undef,undef,undef,undef,undef,undef,undef,undef],[]⟩ W)
  ·intro REST0
   have REST:=hide REST0
   clear REST0
   go_region_held3 (fun w'=>w'.cell? ⟨w.heap.size,3,none⟩=some (.int .i64 (F:Int))∧w'.cell? ⟨w.heap.size,4,none⟩=some (.int .i64 (R:Int))) ((refine And.intro ?_ ?_) <;> (repeat (first | exact x3 | exact x4 | apply cell_drew' | apply cell_alloc' | (apply cell_set' (by omega))))) (fail)
   all_goals
    refine REST.out _ _ _ _ _ ?_
    exact ⟨(by repeat (first | with_reducible exact Below.refl _ _ | with_reducible apply bel_drew | with_reducible apply bel_alloc hNw | with_reducible apply bel_set (by omega))),(by repeat (first | with_reducible apply blk_drew | with_reducible exact blk_new' (by simp only [World.size_alloc,drew_sz']) | with_reducible apply blk_set3 | with_reducible apply blk_other' (by omega) | with_reducible apply Blk.alloc)),(by repeat (first | with_reducible apply blk_drew | with_reducible exact blk_new' (by simp only [World.size_alloc,drew_sz']) | with_reducible apply blk_set3 | with_reducible apply blk_other' (by omega) | with_reducible apply Blk.alloc)),(by repeat (first | with_reducible apply blk_drew | with_reducible exact blk_new' (by simp only [World.size_alloc,drew_sz']) | with_reducible apply blk_set3 | with_reducible apply blk_other' (by omega) | with_reducible apply Blk.alloc)),(by repeat (first | with_reducible apply blk_drew | with_reducible exact blk_new' (by simp only [World.size_alloc,drew_sz']) | with_reducible apply blk_set3 | with_reducible apply blk_other' (by omega) | with_reducible apply Blk.alloc)),(by omega),(by omega)⟩
  ·rintro gf gr go gm W hF
   show Exit.then _ _ _ _ _
   subst hN
   have hpl:(pmS ms).length=n:=by rw [pmS_len];exact HM.out.s.1
   have hn4:n≤4:=by have:=HKN.out.n;omega
   have S0:ImS w #[.slice a0 xs.length c0,.int .i64 L.stack,.slice a2 L.slots.length c2,.int .i64 L.flash,.int .i64 L.ram,.slice a5 ts.length c5] F R gf gr go gm (flB (pmS ms) L 0) (raB (pmS ms) L 0) W:=by
    obtain ⟨B1,kl1,kr1⟩:=HK1.out
    have h1:=kr1.lt
    have h2:=hF.lo
    have e1:flB (pmS ms) L 0=List.replicate F 0:=by show List.replicate L.flash.toNat 0=_;rw [HFR.out.1];rfl
    have e2:raB (pmS ms) L 0=List.replicate R 0:=by show List.replicate L.ram.toNat 0=_;rw [HFR.out.2];rfl
    rw [e1,e2]
    refine ⟨B1.trans (hF.be.mono B1.size),kl1.below hF.be,kr1.below hF.be,hF.m,zby_ob (by rw [HZ.out.1];exact hF.f) (by omega) hF1,zby_ob (by rw [HZ.out.2];exact hF.r) (by omega) hR1,hF.o,by omega,hF.ne⟩
   have HS0:=hide S0
   clear S0 hF HK1 x3 x4 hw1 hmF hmR HZ hNw
   go_wp2
   go_loopw [7] (fun i wr=>∃ m:Nat,m≤n∧i=.int .i64 m∧ImS w #[.slice a0 xs.length c0,.int .i64 L.stack,.slice a2 L.slots.length c2,.int .i64 L.flash,.int .i64 L.ram,.slice a5 ts.length c5] F R gf gr go gm (flB (pmS ms) L m) (raB (pmS ms) L m) wr) (fun i _=>n - (intOf i).toNat)
   case atStart=>exact ⟨0,Nat.zero_le _,rfl,HS0.out⟩
   case round=>
    clear HS0
    obtain ⟨m,hm,rfl,S⟩:=hrel
    generalize wr=wo at *
    have HS:=hide S
    by_cases hlt:m<n
    ·have hlt':(m:Int)<(n:Int):=by omega
     obtain ⟨b,off,rfl,y0,y1,y2,y3,y4,y5,y6,y7⟩:=HM.out.s.at m hlt
     have HXL:=hide (show xs.length=n from by
      have h1:=congrArg List.length HL.out.ps
      rw [HKN.out.pl] at h1
      simp at h1
      omega)
     obtain ⟨pb,po,rfl,z0,z1,z2,z3⟩:=HL.out.p.at m (by have:=HXL.out;omega)
     have HPB:=hide (HL.out.p.2.2.2.1 m (by have:=HXL.out;omega))
     have HMD:=hide (HM.out.d m hlt)
     have HPM:=hide (show (pmS ms).getD m zP=(ms.getD m zMd).pm from pmS_at (by have:=HM.out.s.1;omega))
     have HPP:=hide (show (xs.getD m zPB).1=plc (pmS ms) m from by
      rw [← HKN.out.place m (by omega),← HL.out.ps,map_getD _ _ _ zPB _ (by have:=HXL.out;omega)])
     have HAT:=hide (HKN.out.at m (by omega))
     have HFL:=hide (show flB (pmS ms) L (m+1)=pourB (flB (pmS ms) L m) ((pmS ms).getD m zP) (L.places.getD m zPB.1) ((pmS ms).getD m zP).bl.length from rfl)
     have HRA:=hide (show raB (pmS ms) L (m+1)=relB (ovr (raB (pmS ms) L m) ((L.places.getD m zPB.1).data - 65536).toNat ((pmS ms).getD m zP).dz) ((L.places.getD m zPB.1).data - 65536).toNat ((pmS ms).getD m zP).rz (L.places.getD m zPB.1).data ((pmS ms).getD m zP).rz.length from rfl)
     have HVL:=hide (HKN.out.v m (by omega))
     rw [HKN.out.place m (by omega),← HPP.out,HPM.out] at HFL HRA
     rw [← HPP.out,HPM.out,HFR.out.1,HFR.out.2] at HAT
     rw [HPM.out] at HVL
     clear HPM HPP
     generalize hFZ:flB (pmS ms) L (m+1)=FZ at HFL
     generalize hRZ:raB (pmS ms) L (m+1)=RZ at HRA
     have HFZ:=hide (And.intro hFZ hRZ)
     clear hFZ hRZ
     generalize flB (pmS ms) L m=fz at *
     generalize raB (pmS ms) L m=rz at *
     unfold svP at z1
     generalize xs.getD m zPB=x at *
     obtain ⟨⟨xt,xb,xd,xz⟩,xa,xc⟩:=x
     generalize ms.getD m zMd=M at *
     obtain ⟨P,hP⟩:∃ P,P=M.pm:=⟨_,rfl⟩
     rw [← hP] at HFL HRA HAT HVL
     have HPE:=hide (show P.tz=M.tz∧P.bl=M.bl.map (fun B=>B.2.2.2)∧P.dz=M.dz∧P.rz=M.rz by rw [hP];exact ⟨rfl,rfl,rfl,rfl⟩)
     clear hP
     obtain ⟨nm,ta,tn,tc,tz,ba,bn,bc,bl,da,dn,dc,dz,bss,ra,rn,rc,rrz,ia,im,ic,ss,ea,en,ec,es⟩:=M
     dsimp only at z0 z1 z2 z3 HPB HFL HRA HAT HMD HPE y0 y1 y2 y3 y4 y5 y6 y7
     obtain ⟨kt,hkt⟩:∃ kt:Nat,xt=(kt:Int):=⟨xt.toNat,by have:=HAT.out.1.1;omega⟩
     obtain ⟨f,hf⟩:∃ f:Nat,xd=65536+(f:Int):=⟨(xd - 65536).toNat,by have:=HAT.out.2.2.2.1;omega⟩
     subst hkt hf
     have HPZ1:=hide (fun (X:World) (I:Im5 w #[.slice (some ⟨pb,po,none⟩) xs.length c0,.int .i64 L.stack,.slice a2 L.slots.length c2,.int .i64 L.flash,.int .i64 L.ram,.slice a5 ts.length c5] F R gf gr go gm wo.heap.size #[.int .i64 (kt:Int),.slice xa xb.length xc,.int .i64 (65536+(f:Int)),.int .i64 xz] fz rz X)=>(l5Pour_any gf F F kt ta tn tc tz fz w.heap.size w X HMD.out.t I.s.be (by have:=I.s.lo;omega) I.s.f hF1 (by have h1:=HAT.out.1.2;have h2:tz.length=tn:=HMD.out.t.1;rw [HPE.out.1] at h1;omega) (fun i hi=>by have h1:=(vld_wd HVL.out).1 i;have h2:tz.length=tn:=HMD.out.t.1;rw [HPE.out.1] at h1;exact h1 (by omega))).mono (fun e w' he=>show e=.returned (.tuple #[])∧Im5 w #[.slice (some ⟨pb,po,none⟩) xs.length c0,.int .i64 L.stack,.slice a2 L.slots.length c2,.int .i64 L.flash,.int .i64 L.ram,.slice a5 ts.length c5] F R gf gr go gm wo.heap.size #[.int .i64 (kt:Int),.slice xa xb.length xc,.int .i64 (65536+(f:Int)),.int .i64 xz] (pourB fz P ⟨(kt:Int),xb,65536+(f:Int),xz⟩ 0) rz w' from ⟨he.1,by
      have e1:pourB fz P ⟨(kt:Int),xb,65536+(f:Int),xz⟩ 0=pour fz kt tz tn:=by
       show pour fz ((kt:Int)).toNat P.tz P.tz.length=_
       rw [HPE.out.1,Int.toNat_natCast,show tz.length=tn from HMD.out.t.1]
      rw [e1]
      exact I.setf he.2.1 he.2.2⟩))
     have hbl:bl.length=bn:=HMD.out.b.1
     have HLE:=hide (vld_en HVL.out)
     have hbn4:bn≤4:=by have h1:=HLE.out.2.2.2.1;rw [HPE.out.2.1,List.length_map] at h1;omega
     have HBE:=hide (show ∀ j,j<bn→P.bl.getD j []=(bl.getD j zB).2.2.2 from fun j hj=>by rw [HPE.out.2.1,getD_map _ _ _ zB _ (by omega)])
     have HPZ2:=hide (fun (j:Nat) (hj:j<bn) (X:World) (I:Im5 w #[.slice (some ⟨pb,po,none⟩) xs.length c0,.int .i64 L.stack,.slice a2 L.slots.length c2,.int .i64 L.flash,.int .i64 L.ram,.slice a5 ts.length c5] F R gf gr go gm wo.heap.size #[.int .i64 (kt:Int),.slice xa xb.length xc,.int .i64 (65536+(f:Int)),.int .i64 xz] (pourB fz P ⟨(kt:Int),xb,65536+(f:Int),xz⟩ j) rz X)=>(show Calls Tryz.prog 82 #[.slice (some ⟨gf,0,none⟩) F F,.int .i64 (xb.getD j 0),.slice (bl.getD j zB).1 (bl.getD j zB).2.1 (bl.getD j zB).2.2.1] X fun e w'=>e=.returned (.tuple #[])∧Im5 w #[.slice (some ⟨pb,po,none⟩) xs.length c0,.int .i64 L.stack,.slice a2 L.slots.length c2,.int .i64 L.flash,.int .i64 L.ram,.slice a5 ts.length c5] F R gf gr go gm wo.heap.size #[.int .i64 (kt:Int),.slice xa xb.length xc,.int .i64 (65536+(f:Int)),.int .i64 xz] (pourB fz P ⟨(kt:Int),xb,65536+(f:Int),xz⟩ (j+1)) rz w' from by
      have hPl:P.bl.length=bn:=by rw [HPE.out.2.1,List.length_map];exact hbl
      obtain ⟨h1,h2⟩:=HAT.out.2.2.1 j (by omega)
      have hI:IS w (bl.getD j zB).1 (bl.getD j zB).2.1 (bl.getD j zB).2.2.1 (bl.getD j zB).2.2.2:=HMD.out.b.2.2.2.1 j hj
      have h3:(bl.getD j zB).2.2.2.length=(bl.getD j zB).2.1:=hI.1
      have h4:=(vld_wd HVL.out).2 j (by omega)
      rw [HBE.out j hj] at h2 h4
      obtain ⟨kb,hkb⟩:∃ kb:Nat,xb.getD j 0=(kb:Int):=⟨(xb.getD j 0).toNat,by omega⟩
      rw [hkb] at h2
      have e1:pourB fz P ⟨(kt:Int),xb,65536+(f:Int),xz⟩ (j+1)=pour (pourB fz P ⟨(kt:Int),xb,65536+(f:Int),xz⟩ j) kb (bl.getD j zB).2.2.2 (bl.getD j zB).2.1:=by
       show pour _ (xb.getD j 0).toNat (P.bl.getD j []) (P.bl.getD j []).length=_
       rw [HBE.out j hj,hkb,Int.toNat_natCast,h3]
      rw [hkb,e1]
      exact (l5Pour_any gf F F kb _ _ _ _ _ w.heap.size w X hI I.s.be (by have:=I.s.lo;omega) I.s.f hF1 (by omega) (fun i hi=>h4 i (by omega))).mono (fun e w' he=>⟨he.1,I.setf he.2.1 he.2.2⟩)))
     have I1:Im5 w #[.slice (some ⟨pb,po,none⟩) xs.length c0,.int .i64 L.stack,.slice a2 L.slots.length c2,.int .i64 L.flash,.int .i64 L.ram,.slice a5 ts.length c5] F R gf gr go gm wo.heap.size #[.int .i64 (kt:Int),.slice xa xb.length xc,.int .i64 (65536+(f:Int)),.int .i64 xz] fz rz (wo.alloc (.cells #[.int .i64 (kt:Int),.slice xa xb.length xc,.int .i64 (65536+(f:Int)),.int .i64 xz] 138)):=⟨S.below (show Below wo.heap.size wo (wo.alloc (.cells #[.int .i64 (kt:Int),.slice xa xb.length xc,.int .i64 (65536+(f:Int)),.int .i64 xz] 138)) from (Below.refl _ _).alloc (Nat.le_refl _) _),Blk.new _ _ _⟩
     have HI1:=hide I1
     have c0':=S.kl.cell 0
     simp only [List.getElem?_toArray,List.getElem?_cons_zero] at c0'
     have zz0:=cell_below S.be z0
     have zz1:=cell_below S.be z1
     have zz2:=cell_below S.be z2
     have zz3:=cell_below S.be z3
     have hml':(m:Int)<(xs.length:Int):=by have:=HXL.out;omega
     clear S I1 HS
     go_wp2_with fail
     generalize hW1:wo.alloc (.cells #[.int .i64 (kt:Int),.slice xa xb.length xc,.int .i64 (65536+(f:Int)),.int .i64 xz] 138)=W1 at *
     clear hW1
     have v0:W1.cell? ⟨gm,0,none⟩=some (.slice (some ⟨gf,0,none⟩) F F):=HI1.out.s.km.cell 0
     have v1:W1.cell? ⟨wo.heap.size,0,none⟩=some (.int .i64 (kt:Int)):=HI1.out.p.cell 0
     have v2:=cell_below HI1.out.s.be y1
     go_region_held3 (fun w'=>w'.cell? ⟨gm,0,none⟩=some (.slice (some ⟨gf,0,none⟩) F F)∧w'.cell? ⟨wo.heap.size,0,none⟩=some (.int .i64 (kt:Int))∧w'.cell? ⟨b,off+m * 8+1,none⟩=some (.slice ta tn tc)) (go_keep)
      (first
        | (go_at_call 82;first
            | with_reducible refine (HPZ1.out _ HI1.out).mono ?_
            | with_reducible refine (HPZ1.out _ HI1.out.drew).mono ?_
           rintro e w2 ⟨rfl,hI2⟩
           have HI2:=hide hI2
           clear hI2
           have u0:w2.cell? ⟨gm,0,none⟩=some (.slice (some ⟨gf,0,none⟩) F F):=HI2.out.s.km.cell 0
           have u1:w2.cell? ⟨wo.heap.size,0,none⟩=some (.int .i64 (kt:Int)):=HI2.out.p.cell 0
           have u2:=cell_below HI2.out.s.be y1))
     clear v0 v1 v2 u0 u1 u2 zz0 zz1 zz2 zz3 c0' z0 z1 z2 z3
     go_wp2
     go_loopw [9] (fun i wr=>∃ j:Nat,j≤bn∧i=.int .i64 j∧Im5 w #[.slice (some ⟨pb,po,none⟩) xs.length c0,.int .i64 L.stack,.slice a2 L.slots.length c2,.int .i64 L.flash,.int .i64 L.ram,.slice a5 ts.length c5] F R gf gr go gm wo.heap.size #[.int .i64 (kt:Int),.slice xa xb.length xc,.int .i64 (65536+(f:Int)),.int .i64 xz] (pourB fz P ⟨(kt:Int),xb,65536+(f:Int),xz⟩ j) rz wr) (fun i _=>bn - (intOf i).toNat)
     case atStart=>exact ⟨0,Nat.zero_le _,rfl,HI2.out⟩
     case round=>
      clear HI1 HI2 HPZ1
      obtain ⟨j,hj,rfl,hJ⟩:=hrel
      have HJ:=hide hJ
      generalize wr=wj at *
      have s2:=cell_below hJ.s.be y2
      by_cases hjb:j<bn
      ·have hjb':(j:Int)<(bn:Int):=by omega
       have hxb:xb.length=bn:=by
        have h1:=HAT.out.2.1
        rw [HPE.out.2.1,List.length_map] at h1
        omega
       have HXB:=hide hxb
       have hjx':(j:Int)<(xb.length:Int):=by omega
       clear hxb
       obtain ⟨bb,bo,rfl,hbc⟩:=HMD.out.b.2.2.1 (show bn≠0 by omega)
       obtain ⟨qb,qo,rfl,hqc⟩:=HPB.out.2.2.2.1 (show xb.length≠0 by have:=HXB.out;omega)
       have v0:wj.cell? ⟨gm,0,none⟩=some (.slice (some ⟨gf,0,none⟩) F F):=hJ.s.km.cell 0
       have v1:wj.cell? ⟨wo.heap.size,1,none⟩=some (.slice (some ⟨qb,qo,none⟩) xb.length xc):=hJ.p.cell 1
       have v2:=cell_below hJ.s.be (hqc j (by have:=HXB.out;omega))
       have hbcj:=hbc j hjb
       dsimp only at hbcj
       have v3:=cell_below hJ.s.be hbcj
       have HP2:=hide (HPZ2.out j hjb)
       have HVW:=hide (fun (W:World) (hb:Below w.heap.size w W)=>And.intro (cell_below hb (hqc j (by have:=HXB.out;omega))) (And.intro (cell_below hb hbcj) (cell_below hb y2)))
       clear hJ hbc hqc hbcj
       generalize (bl.getD j zB).1=k1 at *
       generalize (bl.getD j zB).2.1=k2 at *
       generalize (bl.getD j zB).2.2.1=k3 at *
       generalize xb.getD j 0=k4 at *
       go_wp2_with fail
       go_region_held3 (fun w'=>w'.cell? ⟨gm,0,none⟩=some (.slice (some ⟨gf,0,none⟩) F F)∧w'.cell? ⟨wo.heap.size,1,none⟩=some (.slice (some ⟨qb,qo,none⟩) xb.length xc)∧w'.cell? ⟨qb,qo+j,none⟩=some (.int .i64 k4)∧w'.cell? ⟨b,off+m * 8+2,none⟩=some (.slice (some ⟨bb,bo,none⟩) bn bc)∧w'.cell? ⟨bb,bo+j,none⟩=some (.slice k1 k2 k3)) (go_keep)
        (first
          | (go_at_call 82;first
              | with_reducible refine (HP2.out _ HJ.out).mono ?_
              | with_reducible refine (HP2.out _ HJ.out.drew).mono ?_
             rintro e w3 ⟨rfl,hI3⟩
             have HI3:=hide hI3
             clear hI3
             have u0:w3.cell? ⟨gm,0,none⟩=some (.slice (some ⟨gf,0,none⟩) F F):=HI3.out.s.km.cell 0
             have u1:w3.cell? ⟨wo.heap.size,1,none⟩=some (.slice (some ⟨qb,qo,none⟩) xb.length xc):=HI3.out.p.cell 1
             obtain ⟨u2,u3,u4⟩:=HVW.out w3 HI3.out.s.be))
       clear v0 v1 v2 v3 u0 u1 u2 u3 u4 s2
       go_wp2
       go_roundw
       case rel=>exact ⟨j+1,by omega,by go_num,HI3.out⟩
       case measure=>simp [intOf];omega
      ·have HJN:=hide (show j=bn by omega)
       have t2:wj.cell? ⟨wo.heap.size,2,none⟩=some (.int .i64 (65536+(f:Int))):=hJ.p.cell 2
       have t1:wj.cell? ⟨gm,1,none⟩=some (.slice (some ⟨gr,0,none⟩) R R):=hJ.s.km.cell 1
       have s3:=cell_below hJ.s.be y3
       have hff:(65536:Int)+(f:Int) - 65536=(f:Int):=by omega
       have hfR:(f:Int)≤(R:Int):=by have:=HAT.out.2.2.2.2;omega
       clear hJ
       have hdn:dz.length=dn:=HMD.out.d.1
       have hfd:f+dn≤R:=by
        have h1:=HAT.out.2.2.2.2
        rw [HPE.out.2.2.1] at h1
        omega
       have HBS:=hide (fun (X:World) (hb:Below w.heap.size w X)=>show BS X da dn dc dz from HMD.out.d.below hb)
       have HI4F:=hide (fun (X X':World) (I:Im5 w #[.slice (some ⟨pb,po,none⟩) xs.length c0,.int .i64 L.stack,.slice a2 L.slots.length c2,.int .i64 L.flash,.int .i64 L.ram,.slice a5 ts.length c5] F R gf gr go gm wo.heap.size #[.int .i64 (kt:Int),.slice xa xb.length xc,.int .i64 (65536+(f:Int)),.int .i64 xz] (pourB fz P ⟨(kt:Int),xb,65536+(f:Int),xz⟩ j) rz X) (O:OB X' w.heap.size (.slice (some ⟨gr,0,none⟩) R R) (ovr rz f dz)) (T:Only gr X X')=>I.setr O T)
       have f0':(0:Int)≤(f:Int):=by omega
       have HFT:=hide (show ((f:Int)).toNat=f from Int.toNat_natCast f)
       go_wp2_with fail
       apply cut1 (F:=fun v W=>Im5 w #[.slice (some ⟨pb,po,none⟩) xs.length c0,.int .i64 L.stack,.slice a2 L.slots.length c2,.int .i64 L.flash,.int .i64 L.ram,.slice a5 ts.length c5] F R gf gr go gm wo.heap.size #[.int .i64 (kt:Int),.slice xa xb.length xc,.int .i64 (65536+(f:Int)),.int .i64 xz] (pourB fz P ⟨(kt:Int),xb,65536+(f:Int),xz⟩ j) (ovr rz f dz) W)
       ·intro REST0
        have REST:=hide REST0
        clear REST0
        by_cases hfl:f<R
        ·have hfl':(f:Int)<(R:Int):=by omega
         obtain ⟨w4,hrun,O4,T4⟩:=copy_run (f:=f) HJ.out.drew.s.r 3 (some ⟨gr,f,none⟩) da (R - f) (R - f) dn dc (HBS.out _ HJ.out.drew.s.be) (by omega) (by omega) (fun _=>rfl)
         have HI4:=hide (HI4F.out _ _ HJ.out.drew O4 T4)
         clear O4 T4
         have u1:w4.cell? ⟨gm,1,none⟩=some (.slice (some ⟨gr,0,none⟩) R R):=HI4.out.s.km.cell 1
         have u2:=cell_below HI4.out.s.be y3
         go_region_held3 (fun w'=>w'.cell? ⟨gm,1,none⟩=some (.slice (some ⟨gr,0,none⟩) R R)∧w'.cell? ⟨b,off+m * 8+3,none⟩=some (.slice da dn dc)) (go_keep) (fail)
         generalize Value.slice (some ⟨gr,f,none⟩) (R - f) (R - f)=v79
         exact REST.out v79 w4 HI4.out
        ·obtain rfl:R=f:=by omega
         have hd0:dn=0:=by omega
         obtain ⟨w4,hrun,O4,T4⟩:=copy_run (f:=R) HJ.out.drew.s.r 3 (some ⟨gr,0,none⟩) da 0 0 dn dc (HBS.out _ HJ.out.drew.s.be) (by omega) (by omega) (fun h=>by omega)
         have HI4:=hide (HI4F.out _ _ HJ.out.drew O4 T4)
         clear O4 T4
         have u1:w4.cell? ⟨gm,1,none⟩=some (.slice (some ⟨gr,0,none⟩) R R):=HI4.out.s.km.cell 1
         have u2:=cell_below HI4.out.s.be y3
         have HD0:=hide hd0
         clear hd0
         go_region_held3 (fun w'=>w'.cell? ⟨gm,1,none⟩=some (.slice (some ⟨gr,0,none⟩) R R)∧w'.cell? ⟨b,off+m * 8+3,none⟩=some (.slice da dn dc)) (go_keep) (fail)
         exact REST.out _ w4 HI4.out
       ·rintro v79 W4 hI4
        show Exit.then _ _ _ _ _
        have HI4:=hide hI4
        have hrl:rrz.length=rn:=HMD.out.r.1
        have hrn:rn≤16:=by
         have V:=vm_of_mdo (by simp [bkOf]) (show mdo P.nm P.tz.length P.tz P.bl.length (bkOf P.bl) P.dz.length P.bss P.rz.length P.rz P.ss.length P.ss P.es.length P.es=0 from HVL.out)
         have h1:=V.r
         rw [HPE.out.2.2.2] at h1
         omega
        have HRLB:=hide (show ∀ q,q<rn→0≤rrz.getD q 0∧rrz.getD q 0+4≤(dn:Int) from fun q hq=>by
         have h1:=vld_rl HVL.out q (by rw [HPE.out.2.2.2];omega)
         rw [HPE.out.2.2.2,HPE.out.2.2.1] at h1
         omega)
        clear hI4 HJ HBS HI4F t1 t2 s3 s2 hff HFT
        go_wp2
        go_loopw [11,12] (fun i _ wr=>∃ q:Nat,q≤rn∧i=.int .i64 q∧Im5 w #[.slice (some ⟨pb,po,none⟩) xs.length c0,.int .i64 L.stack,.slice a2 L.slots.length c2,.int .i64 L.flash,.int .i64 L.ram,.slice a5 ts.length c5] F R gf gr go gm wo.heap.size #[.int .i64 (kt:Int),.slice xa xb.length xc,.int .i64 (65536+(f:Int)),.int .i64 xz] (pourB fz P ⟨(kt:Int),xb,65536+(f:Int),xz⟩ j) (relB (ovr rz f dz) f rrz (65536+(f:Int)) q) wr) (fun i _ _=>rn - (intOf i).toNat)
        case atStart=>exact ⟨0,Nat.zero_le _,rfl,HI4.out⟩
        case round=>
         clear HI4
         obtain ⟨q,hq,rfl,hQ⟩:=hrel
         have HQ:=hide hQ
         generalize wr=wq at *
         have s5:=cell_below hQ.s.be y5
         by_cases hqr:q<rn
         ·have hqr':(q:Int)<(rn:Int):=by omega
          obtain ⟨rb,ro,rfl,hrc⟩:=HMD.out.r.2.2.2.1 (show rn≠0 by omega)
          obtain ⟨h1,h2⟩:=HRLB.out q hqr
          have hrq:=hrc q hqr
          dsimp only at hrq
          have s6:=cell_below hQ.s.be hrq
          have HRE:=hide (show relB (ovr rz f dz) f rrz (65536+(f:Int)) (q+1)=put (relB (ovr rz f dz) f rrz (65536+(f:Int)) q) (f+(rrz.getD q 0).toNat) (low (((relB (ovr rz f dz) f rrz (65536+(f:Int)) q).drop (f+(rrz.getD q 0).toNat)).take 4)+(65536+(f:Int))) 4 from rfl)
          clear hrc hrq hQ
          generalize hRQ1:relB (ovr rz f dz) f rrz (65536+(f:Int)) (q+1)=RQ1 at HRE
          have HRQ1:=hide hRQ1
          clear hRQ1
          generalize relB (ovr rz f dz) f rrz (65536+(f:Int)) q=RQ at *
          obtain ⟨x,hx⟩:∃ x:Nat,rrz.getD q 0=(x:Int):=⟨(rrz.getD q 0).toNat,by omega⟩
          rw [hx] at s6 HRE h1 h2
          rw [Int.toNat_natCast] at HRE
          clear hx
          obtain ⟨A,hA⟩:∃ A:Nat,A=f+x:=⟨_,rfl⟩
          obtain ⟨A4,hA4⟩:∃ A4:Nat,A4=A+4:=⟨_,rfl⟩
          rw [← hA] at HRE
          have hAR:A4≤R:=by omega
          have hAi:(f:Int)+(x:Int)=(A:Int):=by omega
          have HAI:=hide hAi
          have hw4:IntKind.i64.wrap ((A:Int)+4)=(A4:Int):=by rw [IntWalk.i64_left,IntWalk.wrap64_in _ (by omega)];omega
          have hz0:(0:Int)≤(A:Int):=by omega
          have hz1:(A:Int)≤(A4:Int):=by omega
          have hz2:(A4:Int)≤(R:Int):=by omega
          have hz3:(A:Int)<(R:Int):=by omega
          have hz4:A≤A4:=by omega
          have hz5:¬ (R=A):=by omega
          have hz6:A<R:=by omega
          have hRQ:RQ.length=R:=(ob_row8 HQ.out.s.r).2.1
          have HLR:=hide (low_small ((RQ.drop A).take 4) (fun z hz=>HQ.out.s.r.2 z (List.mem_of_mem_drop (List.mem_of_mem_take hz))) (by simp;omega))
          obtain ⟨lw,hlw⟩:∃ lw,lw=low ((RQ.drop A).take 4):=⟨_,rfl⟩
          rw [← hlw] at HLR HRE
          obtain ⟨VV,hVV⟩:∃ VV,VV=lw+(65536+(f:Int)):=⟨_,rfl⟩
          rw [← hVV] at HRE
          have hwV:IntKind.i64.wrap (lw+(65536+(f:Int)))=VV:=by rw [hVV,IntWalk.i64_left,IntWalk.wrap64_in _ (by have:=HLR.out;omega)]
          have HVR:=hide (show -9223372036854775808≤VV∧VV≤9223372036854775807 by have:=HLR.out;omega)
          have HLO:=hide (fun (X:World) (I:Im5 w #[.slice (some ⟨pb,po,none⟩) xs.length c0,.int .i64 L.stack,.slice a2 L.slots.length c2,.int .i64 L.flash,.int .i64 L.ram,.slice a5 ts.length c5] F R gf gr go gm wo.heap.size #[.int .i64 (kt:Int),.slice xa xb.length xc,.int .i64 (65536+(f:Int)),.int .i64 xz] (pourB fz P ⟨(kt:Int),xb,65536+(f:Int),xz⟩ j) RQ X)=>show Calls Tryz.prog 85 #[.slice (some ⟨gr,A,none⟩) (A4 - A) (R - A)] X fun e w'=>e=.returned (.int .i64 lw)∧X=w' from by
           have hbs:BS X (some ⟨gr,A,none⟩) (A4 - A) (R - A) ((RQ.drop A).take 4):=by
            have hb:=I.s.r.bs
            refine ⟨by simp;omega,by unfold maxLen;omega,fun z hz=>I.s.r.2 z (List.mem_of_mem_drop (List.mem_of_mem_take hz)),fun _=>⟨gr,A,rfl,fun i hi=>?_⟩,by omega⟩
            have h1:=hb.at (A+i) (by omega)
            rw [Nat.zero_add] at h1
            rw [h1]
            congr 2
            simp [List.getD_eq_getElem?_getD,List.getElem?_take,List.getElem?_drop,show i<4 by omega]
           have:=l1Low_any gr A (A4 - A) (R - A) _ X hbs (by omega)
           rw [← hlw] at this
           exact this)
          have HPU:=hide (fun (X:World) (I:Im5 w #[.slice (some ⟨pb,po,none⟩) xs.length c0,.int .i64 L.stack,.slice a2 L.slots.length c2,.int .i64 L.flash,.int .i64 L.ram,.slice a5 ts.length c5] F R gf gr go gm wo.heap.size #[.int .i64 (kt:Int),.slice xa xb.length xc,.int .i64 (65536+(f:Int)),.int .i64 xz] (pourB fz P ⟨(kt:Int),xb,65536+(f:Int),xz⟩ j) RQ X)=>show Calls Tryz.prog 83 #[.slice (some ⟨gr,0,none⟩) R R,.int .i64 (A:Int),.int .i64 4,.int .i64 (VV % 4294967296)] X fun e w'=>e=.returned (.tuple #[])∧Im5 w #[.slice (some ⟨pb,po,none⟩) xs.length c0,.int .i64 L.stack,.slice a2 L.slots.length c2,.int .i64 L.flash,.int .i64 L.ram,.slice a5 ts.length c5] F R gf gr go gm wo.heap.size #[.int .i64 (kt:Int),.slice xa xb.length xc,.int .i64 (65536+(f:Int)),.int .i64 xz] (pourB fz P ⟨(kt:Int),xb,65536+(f:Int),xz⟩ j) RQ1 w' from
           (l1Put_any gr R R A 4 (VV % 4294967296) X (ob_room I.s.r) hR1 (by omega) (by omega) (by omega) (by omega) (by omega)).mono (fun e w' he=>⟨he.1,by
             rw [he.2,HRE.out]
             have O:=ob_put I.s.r A (VV % 4294967296) 4 (by omega)
             rw [(put_word RQ A VV).1] at O
             exact I.setr O (only_put gr A (VV % 4294967296) X 4)⟩))
          clear hlw hVV hA hA4 h1 h2
          go_wp2_with fail
          try rw [HAI.out]
          have v1:wq.cell? ⟨gm,1,none⟩=some (.slice (some ⟨gr,0,none⟩) R R):=HQ.out.s.km.cell 1
          have v2:wq.cell? ⟨wo.heap.size,2,none⟩=some (.int .i64 (65536+(f:Int))):=HQ.out.p.cell 2
          clear hAi s5 s6
          go_region_held3 (fun w'=>w'.cell? ⟨gm,1,none⟩=some (.slice (some ⟨gr,0,none⟩) R R)∧w'.cell? ⟨wo.heap.size,2,none⟩=some (.int .i64 (65536+(f:Int)))) (go_keep)
           (first
             | (go_at_call 85;first
                 | with_reducible refine (HLO.out _ HQ.out).mono ?_
                 | with_reducible refine (HLO.out _ HQ.out.drew).mono ?_
                rintro e w5 ⟨rfl,rfl⟩)
             | (go_at_call 84;first
                 | with_reducible refine (l1Word_any VV _ HVR.out).mono ?_
                 | (rw [hwV];with_reducible refine (l1Word_any VV _ HVR.out).mono ?_)
                rintro e w5 ⟨rfl,rfl⟩)
             | (go_at_call 83;first
                 | with_reducible refine (HPU.out _ HQ.out).mono ?_
                 | with_reducible refine (HPU.out _ HQ.out.drew).mono ?_
                rintro e w6 ⟨rfl,hI6⟩
                have HI6:=hide hI6
                clear hI6
                have u1:w6.cell? ⟨gm,1,none⟩=some (.slice (some ⟨gr,0,none⟩) R R):=HI6.out.s.km.cell 1
                have u2:w6.cell? ⟨wo.heap.size,2,none⟩=some (.int .i64 (65536+(f:Int))):=HI6.out.p.cell 2))
          clear v1 v2 u1 u2 hw4 hwV
          go_wp2
          go_roundw
          case rel=>exact ⟨q+1,by omega,by go_num,by rw [HRQ1.out];exact HI6.out⟩
          case measure=>simp [intOf];omega
         ·have HQN:=hide (show q=rn by omega)
          have HZ2:=hide (show ImS w #[.slice (some ⟨pb,po,none⟩) xs.length c0,.int .i64 L.stack,.slice a2 L.slots.length c2,.int .i64 L.flash,.int .i64 L.ram,.slice a5 ts.length c5] F R gf gr go gm FZ RZ wq from by
           have h1:=hQ.s
           have e1:P.bl.length=bn:=by rw [HPE.out.2.1,List.length_map];exact hbl
           rw [HFL.out,HRA.out,e1,HPE.out.2.2.1,HPE.out.2.2.2,hrl,show ((65536:Int)+(f:Int) - 65536).toNat=f by omega,← HJN.out,← HQN.out]
           exact h1)
          clear hQ HQ
          go_wp2
          go_roundw
          case rel=>exact ⟨m+1,by omega,by go_num,by rw [HFZ.out.1,HFZ.out.2];exact HZ2.out⟩
          case measure=>simp [intOf];omega
    ·have e:Hid (m=n):=by show m=n;omega
     obtain ⟨q0,q1,q2⟩:wo.cell? ⟨gm,0,none⟩=some (.slice (some ⟨gf,0,none⟩) F F)∧wo.cell? ⟨gm,1,none⟩=some (.slice (some ⟨gr,0,none⟩) R R)∧wo.cell? ⟨gm,2,none⟩=some (.slice (some ⟨go,0,none⟩) 0 0):=⟨S.km.cell 0,S.km.cell 1,S.km.cell 2⟩
     obtain ⟨p0,p1,p2⟩:wo.cell? ⟨w.heap.size+1,0,none⟩=some (.slice none 0 0)∧wo.cell? ⟨w.heap.size+1,1,none⟩=some (.slice none 0 0)∧wo.cell? ⟨w.heap.size+1,2,none⟩=some (.slice none 0 0):=⟨S.kr.cell 0,S.kr.cell 1,S.kr.cell 2⟩
     have pf:=S.kr.frozen
     have T:Turn (fun j=>j=w.heap.size+1) wo (((wo.setCell ⟨w.heap.size+1,0,none⟩ (.slice (some ⟨gf,0,none⟩) F F)).setCell ⟨w.heap.size+1,1,none⟩ (.slice (some ⟨gr,0,none⟩) R R)).setCell ⟨w.heap.size+1,2,none⟩ (.slice (some ⟨go,0,none⟩) 0 0)):=((turn_set _ _ _ _).trans (turn_set _ _ _ _)).trans (turn_set _ _ _ _)
     have HE:=hide (show ImM w (pmS ms) L (.returned (.tuple #[.agg #[.slice (some ⟨gf,0,none⟩) F F,.slice (some ⟨gr,0,none⟩) R R,.slice (some ⟨go,0,none⟩) 0 0],.bool true])) (((wo.setCell ⟨w.heap.size+1,0,none⟩ (.slice (some ⟨gf,0,none⟩) F F)).setCell ⟨w.heap.size+1,1,none⟩ (.slice (some ⟨gr,0,none⟩) R R)).setCell ⟨w.heap.size+1,2,none⟩ (.slice (some ⟨go,0,none⟩) 0 0)) from by
      have hlo:=S.lo
      refine ⟨below_turn S.be T (fun k e=>by omega) S.be.size,some ⟨gf,0,none⟩,F,F,some ⟨gr,0,none⟩,R,R,some ⟨go,0,none⟩,0,0,by rw [decide_eq_true HOK.out],?_⟩
      unfold imF imR
      rw [if_pos HOK.out,if_pos HOK.out,hpl,← e.out]
      have kO:=turn_blk T S.o (by omega)
      refine ⟨turn_ob T S.f (fun k hk s=>by simp [Value.ownBlock] at hk;omega),turn_ob T S.r (fun k hk s=>by simp [Value.ownBlock] at hk;omega),⟨⟨rfl,.inr ⟨go,0,#[],rfl,by omega,kO,Nat.le_refl _,Nat.zero_le _,rfl,rfl⟩⟩,by simp⟩,?_,?_,?_⟩
      all_goals
       intro k hk
       have hne:=S.ne
       simp [Value.ownBlock] at hk ⊢
       omega)
     have k3:=blk_set3 (v0:=.slice (some ⟨gf,0,none⟩) F F) (v1:=.slice (some ⟨gr,0,none⟩) R R) (v2:=.slice (some ⟨go,0,none⟩) 0 0) S.kr
     have s0:=k3.cell 0
     have s1:=k3.cell 1
     have s2:=k3.cell 2
     simp only [List.getElem?_toArray,List.getElem?_cons_zero,List.getElem?_cons_succ] at s0 s1 s2
     clear S T HS k3
     go_wp2
     exact bodyPost_ret (v:=.tuple #[.agg #[.slice (some ⟨gf,0,none⟩) F F,.slice (some ⟨gr,0,none⟩) R R,.slice (some ⟨go,0,none⟩) 0 0],.bool true]) (by simp [results,Tryz.results22,go_sem,s0,s1,s2]) rfl HE.out
 ·rw [decide_eq_false hok]
  have HE:=hide (show ∀ W',Below w.heap.size w W'→ImM w (pmS ms) L (.returned (.tuple #[.agg #[.slice none 0 0,.slice none 0 0,.slice none 0 0],.bool false])) W' from fun W' hb=>by
   refine ⟨hb,none,0,0,none,0,0,none,0,0,by rw [decide_eq_false hok],?_⟩
   unfold imF imR
   rw [if_neg hok,if_neg hok]
   refine ⟨⟨⟨rfl,.inl ⟨rfl,rfl⟩⟩,by simp⟩,⟨⟨rfl,.inl ⟨rfl,rfl⟩⟩,by simp⟩,⟨⟨rfl,.inl ⟨rfl,rfl⟩⟩,by simp⟩,?_,?_,?_⟩
   all_goals
    intro k hk
    simp [Value.ownBlock] at hk)
  have k3:=blk_set3 (v0:=.slice none 0 0) (v1:=.slice none 0 0) (v2:=.slice none 0 0) kr1
  have s0:=k3.cell 0
  have s1:=k3.cell 1
  have s2:=k3.cell 2
  simp only [List.getElem?_toArray,List.getElem?_cons_zero,List.getElem?_cons_succ] at s0 s1 s2
  have T:Turn (fun j=>j=w.heap.size+1) w1 (((w1.setCell ⟨w.heap.size+1,0,none⟩ (.slice none 0 0)).setCell ⟨w.heap.size+1,1,none⟩ (.slice none 0 0)).setCell ⟨w.heap.size+1,2,none⟩ (.slice none 0 0)):=((turn_set _ _ _ _).trans (turn_set _ _ _ _)).trans (turn_set _ _ _ _)
  have HB:=hide (below_turn B1 T (fun k e=>by omega) B1.size)
  obtain ⟨p0,p1,p2⟩:w1.cell? ⟨w.heap.size+1,0,none⟩=some (.slice none 0 0)∧w1.cell? ⟨w.heap.size+1,1,none⟩=some (.slice none 0 0)∧w1.cell? ⟨w.heap.size+1,2,none⟩=some (.slice none 0 0):=⟨kr1.cell 0,kr1.cell 1,kr1.cell 2⟩
  have pf:=kr1.frozen
  clear T k3 kl1 kr1 B1 hok HRL HM HL
  go_wp2
  exact bodyPost_ret (v:=.tuple #[.agg #[.slice none 0 0,.slice none 0 0,.slice none 0 0],.bool false]) (by simp [results,Tryz.results22,go_sem,s0,s1,s2]) rfl (HE.out _ HB.out)
structure Mkg (w W:World)(base:Nat)(Q:Nat→Prop)(v:Value)(hs:List Hd)(L:List (Hd × Ct))(β:Nat→Nat)(k m:Nat):Prop where
 o:OMs W base v L β
 h:L.map (fun x=>x.1)=hs
 d:∀ i,i<m→L[i]?=some (hs.getD i zHd,mkC (hs.getD i zHd) (k+upS (fun j=>cntH (hs.getD j zHd)) i))
 t:Turn Q w W
theorem hs_at {hs:List Hd}{L:List (Hd × Ct)}(h:L.map (fun x=>x.1)=hs){m:Nat}(hm:m<hs.length):∃ c,L[m]?=some (hs.getD m zHd,c):=by
 subst h
 rw [List.length_map] at hm
 exact ⟨L[m].2,by simp [List.getD_eq_getElem?_getD,hm]⟩
theorem map_st {L:List (Hd × Ct)}{hs:List Hd}(h:L.map (fun x=>x.1)=hs){i:Nat}{x:Hd}{c c':Ct}(hx:L[i]?=some (x,c)):(L.set i (x,c')).map (fun x=>x.1)=hs:=by
 subst h
 apply List.ext_getElem?
 intro n
 rw [List.getElem?_map,List.getElem?_map,List.getElem?_set]
 by_cases e:i=n
 ·subst e
  rw [if_pos rfl,if_pos (lget_lt hx),hx]
  rfl
 ·rw [if_neg e]
theorem get_ss {α:Type}{L:List α}{i:Nat}{x x':α}(h:L[i]?=some x):(L.set i x')[i]?=some x':=by rw [List.getElem?_set_self (lget_lt h)]
structure Mkm (w W:World)(base:Nat)(Q:Nat→Prop)(g n cap:Nat)(hs:List Hd)(L:List (Hd × Ct))(β:Nat→Nat)(k m:Nat)(x:Hd)(c:Ct):Prop where
 o:OMs W base (.slice (some ⟨g,0,none⟩) n cap) L β
 h:L.map (fun x=>x.1)=hs
 d:∀ i,i<m→L[i]?=some (hs.getD i zHd,mkC (hs.getD i zHd) (k+upS (fun j=>cntH (hs.getD j zHd)) i))
 t:Turn Q w W
 x:L[m]?=some (x,c)
theorem Mkm.below {w W W':World}{base:Nat}{Q:Nat→Prop}{g n cap:Nat}{hs:List Hd}{L:List (Hd × Ct)}{β:Nat→Nat}{k m:Nat}{x:Hd}{c:Ct}(H:Mkm w W base Q g n cap hs L β k m x c)(hb:Below W.heap.size W W'):Mkm w W' base Q g n cap hs L β k m x c:=⟨H.o.below hb,H.h,H.d,H.t.trans (turn_below hb),H.x⟩
theorem Mkm.mod {w W W':World}{base:Nat}{Q:Nat→Prop}{g n cap:Nat}{hs:List Hd}{L:List (Hd × Ct)}{β:Nat→Nat}{k m:Nat}{x:Hd}{c c':Ct}(H:Mkm w W base Q g n cap hs L β k m x c)(M':M6h W' (β m) (x,c'))(e:clH (x,c')=clH (x,c)){S:Nat→Prop}(hS:∀ j,S j→Sh x j)(hb:∀ j,Sh x j→Q j)(T:Turn S W W'):Mkm w W' base Q g n cap hs (L.set m (x,c')) β k m x c':=
 ⟨H.o.mod H.x M' e hS T,map_st H.h H.x,fun i hi=>by rw [List.getElem?_set_ne (by omega)];exact H.d i hi,H.t.trans (T.mono (fun j s=>hb j (hS j s))),get_ss H.x⟩
theorem Mkm.cell {w W:World}{base:Nat}{Q:Nat→Prop}{g n cap:Nat}{hs:List Hd}{L:List (Hd × Ct)}{β:Nat→Nat}{k m:Nat}{x:Hd}{c c':Ct}(H:Mkm w W base Q g n cap hs L β k m x c)(hn:L.length=n)(j:Nat)(hj:j<8)(u:Value)(e:clH (x,c')=(clH (x,c)).set j u)(hM:M6h W (β m) (x,c'))(hg:Q g):Mkm w (W.setCell ⟨g,m * 8+j,none⟩ u) base Q g n cap hs (L.set m (x,c')) β k m x c':=
 ⟨H.o.cell hn H.x j hj u e hM,map_st H.h H.x,fun i hi=>by rw [List.getElem?_set_ne (by omega)];exact H.d i hi,H.t.trans ((turn_set W g _ u).mono (fun j s=>by subst s;exact hg)),get_ss H.x⟩
theorem markModuleS_some (g n cap base k:Nat)(Q:Nat→Prop)(hs:List Hd)(L:List (Hd × Ct))(β:Nat→Nat)(w:World)(H:OMs w base (.slice (some ⟨g,0,none⟩) n cap) L β)(hL:L.map (fun x=>x.1)=hs)(hl:L.length=n)(h0:0<k)(hz:k+upS (fun j=>cntH (hs.getD j zHd)) n≤1048576)(hb:∀ i,i<n→(hs.getD i zHd).bn≤1048576)(hn:n≤1048576)(hg:Q g)(hsh:∀ i,i<n→∀ j,Sh (hs.getD i zHd) j→Q j):
 Calls Tryz.prog 25 #[.slice (some ⟨g,0,none⟩) n cap,.int .i64 k] w fun e w'=>e=.returned (.int .i64 ((k+upS (fun j=>cntH (hs.getD j zHd)) n:Nat):Int))∧∃ L',Mkg w w' base Q (.slice (some ⟨g,0,none⟩) n cap) hs L' β k n:=by
 have hsl:hs.length=n:=by rw [← hL,List.length_map,hl]
 have HH:=hide (And.intro H hL)
 clear H hL hl
 go_enter Tryz.func25,Tryz.ntmps25
 go_wp2
 go_loopw [1,5] (fun x i wr=>∃ m:Nat,m≤n∧i=.int .i64 m∧x=.int .i64 ((k+upS (fun j=>cntH (hs.getD j zHd)) m:Nat):Int)∧∃ L',Mkg w wr base Q (.slice (some ⟨g,0,none⟩) n cap) hs L' β k m) (fun _ i _=>n - (intOf i).toNat)
 case atStart=>exact ⟨0,Nat.zero_le _,rfl,rfl,L,HH.out.1,HH.out.2,fun i hi=>absurd hi (Nat.not_lt_zero _),Turn.refl _ _⟩
 case round=>
  obtain ⟨m,hm,rfl,rfl,L',R⟩:=hrel
  by_cases hlt:m<n
  ·have hlt':(m:Int)<(n:Int):=by omega
   obtain ⟨c,hc⟩:=hs_at R.h (show m<hs.length by omega)
   have y7:=hb m hlt
   have hle:cntH (hs.getD m zHd)+upS (fun j=>cntH (hs.getD j zHd)) m≤upS (fun j=>cntH (hs.getD j zHd)) n:=upS_lt (fun j=>cntH (hs.getD j zHd)) n m hlt
   have HSU:=hide (show upS (fun j=>cntH (hs.getD j zHd)) (m+1)=upS (fun j=>cntH (hs.getD j zHd)) m+cntH (hs.getD m zHd) from rfl)
   have HSH:=hide (hsh m hlt)
   have HCN:=hide (show cntH (hs.getD m zHd)=2+(hs.getD m zHd).tn+sumB (hs.getD m zHd).f (hs.getD m zHd).bn+(hs.getD m zHd).dn+(hs.getD m zHd).rn+(hs.getD m zHd).im+3 * (hs.getD m zHd).en from rfl)
   have HX:Hid (Mkm w wr base Q g n cap hs L' β k m (hs.getD m zHd) c):=hide ⟨R.o,R.h,R.d,R.t,hc⟩
   have HLN:=hide (show ∀ (L:List (Hd × Ct)),L.map (fun x=>x.1)=hs→L.length=n from fun L h=>by rw [← hsl,← h,List.length_map])
   have HFI:=hide (fun (W:World) (L2:List (Hd × Ct)) (c2:Ct) (Z:Mkm w W base Q g n cap hs L2 β k m (hs.getD m zHd) c2) (e:c2=mkC (hs.getD m zHd) (k+upS (fun j=>cntH (hs.getD j zHd)) m))=>(⟨Z.o,Z.h,fun i hi=>by
    by_cases q:i=m
    ·subst q;rw [Z.x,e]
    ·exact Z.d i (by omega),Z.t⟩:Mkg w W base Q (.slice (some ⟨g,0,none⟩) n cap) hs L2 β k (m+1)))
   have HMK:=hide (show mkC (hs.getD m zHd) (k+upS (fun j=>cntH (hs.getD j zHd)) m)=mkC (hs.getD m zHd) (k+upS (fun j=>cntH (hs.getD j zHd)) m) from rfl)
   clear R hc hsh HH
   generalize upS (fun j=>cntH (hs.getD j zHd)) m=sm at *
   generalize hs.getD m zHd=q at *
   have hC:=HCN.out
   clear HMK HCN
   generalize hsb:sumB q.f q.bn=sb at *
   have HSB:=hide hsb
   generalize cntH q=cm at *
   obtain ⟨nm,T,X,D,s,R,I,E⟩:=c
   go_wp2_with fail
   refine (markText_is (k+sm) wr (by omega) (by omega)).mono ?_
   rintro e w1 ⟨rfl,hb1⟩
   have Z1:=HX.out.below hb1
   obtain ⟨⟨p0,p1,p2,p3,p4,p5,p6,p7⟩,pf⟩:=Z1.o.at Z1.x
   have f0:=pf (m * 8)
   have Z2:=Z1.cell (c':=⟨mtx (k+sm),T,X,D,s,R,I,E⟩) (HLN.out _ Z1.h) 0 (by omega) (.string (mtx (k+sm))) rfl (Z1.o.m m _ Z1.x).1 hg
   simp only [Nat.add_zero] at Z2
   clear HX Z1 hb1 p1 p2 p3 p4 p5 p6 p7 pf hsb
   obtain ⟨⟨_,q1,_⟩,_⟩:=Z2.o.at Z2.x
   go_wp2_with fail
   refine (markIntS_any q.a1 q.tn q.c1 (β m) _ (k+sm+1) _ (Z2.o.m m _ Z2.x).1.t (by omega) (by omega)).mono ?_
   rintro e w2 ⟨rfl,O,U⟩
   have Z3:=Z2.mod (c':=⟨mtx (k+sm),marksI (k+sm+1) q.tn,X,D,s,R,I,E⟩) ((Z2.o.m m _ Z2.x).1.set_t O U) rfl (fun j s=>.inl s) HSH.out U
   clear Z2 O U q1 p0 f0
   obtain ⟨⟨_,_,q2,_⟩,_⟩:=Z3.o.at Z3.x
   go_wp2_with fail
   refine (markIntSS_any q.a2 q.bn q.c2 (k+sm+1+q.tn) (β m) q.f _ _ (Z3.o.m m _ Z3.x).1.b y7 (by rw [HSB.out];omega) (by omega)).mono ?_
   rw [HSB.out]
   rintro e w3 ⟨rfl,O,U⟩
   have Z4:=Z3.mod (c':=⟨mtx (k+sm),marksI (k+sm+1) q.tn,mrk (k+sm+1+q.tn) q.f,D,s,R,I,E⟩) ((Z3.o.m m _ Z3.x).1.set_b O U) rfl (fun j s=>.inr (.inl s)) HSH.out U
   clear Z3 O U q2
   obtain ⟨⟨_,_,_,q3,_⟩,_⟩:=Z4.o.at Z4.x
   go_wp2_with fail
   refine (markByteS_any q.a3 q.dn q.c3 (β m) _ (k+sm+1+q.tn+sb) _ (Z4.o.m m _ Z4.x).1.d (by omega) (by omega)).mono ?_
   rintro e w4 ⟨rfl,O,U⟩
   have Z5:=Z4.mod (c':=⟨mtx (k+sm),marksI (k+sm+1) q.tn,mrk (k+sm+1+q.tn) q.f,marks (k+sm+1+q.tn+sb) q.dn,s,R,I,E⟩) ((Z4.o.m m _ Z4.x).1.set_d O U) rfl (fun j s=>.inr (.inr (.inl s))) HSH.out U
   clear Z4 O U q3
   obtain ⟨⟨_,_,_,_,q4,_⟩,qf⟩:=Z5.o.at Z5.x
   have f4:=qf (m * 8+4)
   have Z6:=Z5.cell (c':=⟨mtx (k+sm),marksI (k+sm+1) q.tn,mrk (k+sm+1+q.tn) q.f,marks (k+sm+1+q.tn+sb) q.dn,((k+sm+1+q.tn+sb+q.dn:Nat):Int),R,I,E⟩) (HLN.out _ Z5.h) 4 (by omega) (.int .i64 ((k+sm+1+q.tn+sb+q.dn:Nat):Int)) rfl (Z5.o.m m _ Z5.x).1 hg
   clear Z5 qf
   obtain ⟨⟨_,_,_,_,_,q5,_⟩,_⟩:=Z6.o.at Z6.x
   go_wp2_with fail
   refine (markIntS_any q.a5 q.rn q.c5 (β m) _ (k+sm+1+q.tn+sb+q.dn+1) _ (Z6.o.m m _ Z6.x).1.r (by omega) (by omega)).mono ?_
   rintro e w5 ⟨rfl,O,U⟩
   have Z7:=Z6.mod (c':=⟨mtx (k+sm),marksI (k+sm+1) q.tn,mrk (k+sm+1+q.tn) q.f,marks (k+sm+1+q.tn+sb) q.dn,((k+sm+1+q.tn+sb+q.dn:Nat):Int),marksI (k+sm+1+q.tn+sb+q.dn+1) q.rn,I,E⟩) ((Z6.o.m m _ Z6.x).1.set_r O U) rfl (fun j s=>.inr (.inr (.inr (.inl s)))) HSH.out U
   clear Z6 O U q5 q4 f4
   obtain ⟨⟨_,_,_,_,_,_,q6,_⟩,_⟩:=Z7.o.at Z7.x
   go_wp2_with fail
   refine (markStringS_any q.a6 q.im q.c6 (β m) _ (k+sm+1+q.tn+sb+q.dn+1+q.rn) _ (Z7.o.m m _ Z7.x).1.i (by omega) (by omega) (by omega)).mono ?_
   rintro e w6 ⟨rfl,O,U⟩
   have Z8:=Z7.mod (c':=⟨mtx (k+sm),marksI (k+sm+1) q.tn,mrk (k+sm+1+q.tn) q.f,marks (k+sm+1+q.tn+sb) q.dn,((k+sm+1+q.tn+sb+q.dn:Nat):Int),marksI (k+sm+1+q.tn+sb+q.dn+1) q.rn,marksT (k+sm+1+q.tn+sb+q.dn+1+q.rn) q.im,E⟩) ((Z7.o.m m _ Z7.x).1.set_i O U) rfl (fun j s=>.inr (.inr (.inr (.inr (.inl s))))) HSH.out U
   clear Z7 O U q6
   obtain ⟨⟨_,_,_,_,_,_,_,q7⟩,_⟩:=Z8.o.at Z8.x
   go_wp2_with fail
   refine (markExportS_any q.a7 q.en q.c7 (β m) _ (k+sm+1+q.tn+sb+q.dn+1+q.rn+q.im) _ (Z8.o.m m _ Z8.x).1.e (by omega) (by omega) (by omega)).mono ?_
   rintro e w7 ⟨rfl,O,U⟩
   have Z9:=hide (Z8.mod (c':=⟨mtx (k+sm),marksI (k+sm+1) q.tn,mrk (k+sm+1+q.tn) q.f,marks (k+sm+1+q.tn+sb) q.dn,((k+sm+1+q.tn+sb+q.dn:Nat):Int),marksI (k+sm+1+q.tn+sb+q.dn+1) q.rn,marksT (k+sm+1+q.tn+sb+q.dn+1+q.rn) q.im,marksX (k+sm+1+q.tn+sb+q.dn+1+q.rn+q.im) q.en⟩) ((Z8.o.m m _ Z8.x).1.set_e O U) rfl (fun j s=>.inr (.inr (.inr (.inr (.inr s))))) HSH.out U)
   clear Z8 O U q7
   go_wp2
   go_roundw
   case rel=>exact ⟨m+1,by omega,by go_num,by rw [HSU.out];go_num,_,HFI.out _ _ _ Z9.out (by unfold mkC;rw [HSB.out])⟩
   case measure=>simp [intOf];omega
  ·have e:Hid (m=n):=by show m=n;omega
   have HX:=hide R
   clear R HH
   go_wp2
   go_ret
   exact ⟨ret_int (by rw [e.out]),L',by have:=HX.out;rw [e.out] at this;exact this⟩
theorem heldModuleS_some (g n cap base k:Nat)(hs:List Hd)(L:List (Hd × Ct))(β:Nat→Nat)(w:World)(H:OMs w base (.slice (some ⟨g,0,none⟩) n cap) L β)(hd:∀ i,i<n→L[i]?=some (hs.getD i zHd,mkC (hs.getD i zHd) (k+upS (fun j=>cntH (hs.getD j zHd)) i)))(h0:0<k)(hz:k+upS (fun j=>cntH (hs.getD j zHd)) n≤1048576)(hb:∀ i,i<n→(hs.getD i zHd).bn≤1048576)(hn:n≤1048576):
 Calls Tryz.prog 113 #[.slice (some ⟨g,0,none⟩) n cap,.int .i64 k] w fun e w'=>e=.returned (.int .i64 ((k+upS (fun j=>cntH (hs.getD j zHd)) n:Nat):Int))∧Below w.heap.size w w':=by
 go_enter Tryz.func113,Tryz.ntmps113
 go_wp2
 go_loopw [1,5] (fun x i wr=>∃ m:Nat,m≤n∧i=.int .i64 m∧x=.int .i64 ((k+upS (fun j=>cntH (hs.getD j zHd)) m:Nat):Int)∧Below w.heap.size w wr) (fun _ i _=>n - (intOf i).toNat)
 case atStart=>exact ⟨0,Nat.zero_le _,rfl,rfl,Below.refl _ _⟩
 case round=>
  obtain ⟨m,hm,rfl,rfl,B⟩:=hrel
  by_cases hlt:m<n
  ·have hlt':(m:Int)<(n:Int):=by omega
   have y7:=hb m hlt
   have hle:cntH (hs.getD m zHd)+upS (fun j=>cntH (hs.getD j zHd)) m≤upS (fun j=>cntH (hs.getD j zHd)) n:=upS_lt (fun j=>cntH (hs.getD j zHd)) n m hlt
   have HSU:=hide (show upS (fun j=>cntH (hs.getD j zHd)) (m+1)=upS (fun j=>cntH (hs.getD j zHd)) m+cntH (hs.getD m zHd) from rfl)
   have HCN:=hide (show cntH (hs.getD m zHd)=2+(hs.getD m zHd).tn+sumB (hs.getD m zHd).f (hs.getD m zHd).bn+(hs.getD m zHd).dn+(hs.getD m zHd).rn+(hs.getD m zHd).im+3 * (hs.getD m zHd).en from rfl)
   have HZ:=hide (fun (X:World) (hX:Below w.heap.size w X)=>And.intro ((H.below hX).at (hd m hlt)) ((H.below hX).m m _ (hd m hlt)).1)
   generalize upS (fun j=>cntH (hs.getD j zHd)) m=sm at *
   generalize hs.getD m zHd=q at *
   unfold mkC at HZ
   have hC:=HCN.out
   clear HCN
   generalize hsb:sumB q.f q.bn=sb at *
   have HSB:=hide hsb
   generalize cntH q=cm at *
   have HB:=hide B
   clear B hsb hd
   dsimp only at HZ
   obtain ⟨⟨p0,_⟩,_⟩:=(HZ.out wr HB.out).1
   have HT:=hide (fun W=>markText_is (k+sm) W (by omega) (by omega))
   obtain ⟨s,hs⟩:∃ s,s=mtx (k+sm):=⟨_,rfl⟩
   rw [← hs] at HT HZ p0
   clear hs
   have hne:(s.toList != s.toList)=false:=by simp
   go_wp2_with fail
   go_region_held3 (fun w'=>w'.cell? ⟨g,m * 8,none⟩=some (.string s)) (go_keep) (first
    | (go_at_call 89;refine (HT.out _).mono ?_;rintro e w1 ⟨rfl,hb⟩;replace hb:=HB.out.trans ((undrew hb).mono HB.out.size);have c1:=(HZ.out w1 hb).1.1.1;have HB1:=hide hb;clear hb))
   clear p0 HB HT c1
   obtain ⟨⟨_,q1,q2,q3,q4,q5,q6,q7⟩,_⟩:=(HZ.out w1 HB1.out).1
   have M1:=(HZ.out w1 HB1.out).2
   have n1:¬ (((k+sm+1+q.tn:Nat):Int)<0):=by omega
   have n2:¬ (((k+sm+1+q.tn+sb:Nat):Int)<0):=by omega
   have n3:¬ (((k+sm+1+q.tn+sb+q.dn:Nat):Int)<0):=by omega
   have n5:¬ (((k+sm+1+q.tn+sb+q.dn+1+q.rn:Nat):Int)<0):=by omega
   have n6:¬ (((k+sm+1+q.tn+sb+q.dn+1+q.rn+q.im:Nat):Int)<0):=by omega
   have n7:¬ (((k+sm+1+q.tn+sb+q.dn+1+q.rn+q.im+3 * q.en:Nat):Int)<0):=by omega
   have H1:=hide (heldIntS_any q.a1 q.tn q.c1 (k+sm+1) w1 M1.t.is (by omega) (by omega))
   go_wp2_with fail
   refine H1.out.mono ?_
   rintro e w2 ⟨rfl,rfl⟩
   have H2:=hide (heldIntSS_any q.a2 q.bn q.c2 (k+sm+1+q.tn) (β m) q.f w1 M1.b y7 (by rw [HSB.out];omega) (by omega))
   rw [HSB.out] at H2
   have H3:=hide (heldByteS_any q.a3 q.dn q.c3 (k+sm+1+q.tn+sb) w1 M1.d.bs (by omega) (by omega))
   have H5:=hide (heldIntS_any q.a5 q.rn q.c5 (k+sm+1+q.tn+sb+q.dn+1) w1 M1.r.is (by omega) (by omega))
   have H6:=hide (heldStringS_any q.a6 q.im q.c6 (β m) (k+sm+1+q.tn+sb+q.dn+1+q.rn) w1 M1.i (by omega) (by omega) (by omega))
   clear H1 M1
   go_wp2_with fail
   refine H2.out.mono ?_
   rintro e w2 ⟨rfl,rfl⟩
   go_wp2_with fail
   refine H3.out.mono ?_
   rintro e w2 ⟨rfl,rfl⟩
   go_wp2_with fail
   refine H5.out.mono ?_
   rintro e w2 ⟨rfl,rfl⟩
   go_wp2_with fail
   refine H6.out.mono ?_
   rintro e w2 ⟨rfl,hb⟩
   have HB2:=hide (HB1.out.trans (hb.mono HB1.out.size))
   have H7:=hide (heldExportS_any q.a7 q.en q.c7 (β m) (k+sm+1+q.tn+sb+q.dn+1+q.rn+q.im) w2 (HZ.out w2 HB2.out).2.e (by omega) (by omega) (by omega))
   clear H2 H3 H5 H6 hb q1 q2 q3 q4 q5 q6 q7
   obtain ⟨⟨_,q1,q2,q3,q4,q5,q6,q7⟩,_⟩:=(HZ.out w2 HB2.out).1
   go_wp2_with fail
   refine H7.out.mono ?_
   rintro e w4 ⟨rfl,hb⟩
   have HB4:=hide (HB2.out.trans (hb.mono HB2.out.size))
   clear hb H7 q1 q2 q3 q4 q5 q6 q7 HB1 HB2
   go_wp2
   go_roundw
   case rel=>exact ⟨m+1,by omega,by go_num,by rw [HSU.out];go_num,HB4.out⟩
   case measure=>simp [intOf];omega
  ·have e:Hid (m=n):=by show m=n;omega
   have HX:=hide B
   clear B
   go_wp2
   go_ret
   exact ⟨ret_int (by rw [e.out]),HX.out⟩
theorem markModuleS_zero (a:Option Addr)(cap k:Nat)(w:World):
 Calls Tryz.prog 25 #[.slice a 0 cap,.int .i64 k] w fun e w'=>e=.returned (.int .i64 (k:Nat))∧w=w':=by
 go_enter Tryz.func25,Tryz.ntmps25
 go_wp2
 go_loopw [1,5] (fun x i wr=>x=.int .i64 (k:Nat)∧i=.int .i64 0∧w=wr) (fun _ _ _=>0)
 case atStart=>exact ⟨rfl,rfl,rfl⟩
 case round=>
  obtain ⟨rfl,rfl,rfl⟩:=hrel
  go_wp2
  go_ret
  exact ⟨rfl,rfl⟩
theorem heldModuleS_zero (a:Option Addr)(cap k:Nat)(w:World):
 Calls Tryz.prog 113 #[.slice a 0 cap,.int .i64 k] w fun e w'=>e=.returned (.int .i64 (k:Nat))∧w=w':=by
 go_enter Tryz.func113,Tryz.ntmps113
 go_wp2
 go_loopw [1,5] (fun x i wr=>x=.int .i64 (k:Nat)∧i=.int .i64 0∧w=wr) (fun _ _ _=>0)
 case atStart=>exact ⟨rfl,rfl,rfl⟩
 case round=>
  obtain ⟨rfl,rfl,rfl⟩:=hrel
  go_wp2
  go_ret
  exact ⟨rfl,rfl⟩
theorem q_get {α:Type}{f:α→List Value}(hf:∀ x,(f x).length=4):∀ (L:List α) (i:Nat) (x:α),L[i]?=some x→∀ j,j<4→(L.flatMap f)[i * 4+j]?=(f x)[j]?
 | [],i,x,h,j,hj=>by simp at h
 | y :: L,0,x,h,j,hj=>by
   simp at h
   subst h
   rw [List.flatMap_cons,List.getElem?_append_left (by rw [hf];omega)]
   simp
 | y :: L,i+1,x,h,j,hj=>by
   rw [List.flatMap_cons,List.getElem?_append_right (by rw [hf];omega)]
   have e:(i+1) * 4+j - (f y).length=i * 4+j:=by rw [hf];omega
   rw [e]
   exact q_get hf L i x (by simpa using h) j hj
theorem q_set {α:Type}{f:α→List Value}(hf:∀ x,(f x).length=4)(x:α)(v0 v1 v2 v3:Value)(hx:f x=[v0,v1,v2,v3]):∀ (xs:List α) (i:Nat),i<xs.length→((((xs.flatMap f).set (i * 4) v0).set (i * 4+1) v1).set (i * 4+2) v2).set (i * 4+3) v3=(xs.set i x).flatMap f
 | [],i,h=>by simp at h
 | y :: ys,0,h=>by
   match e:f y,hf y with
   | [a,b,c,d],_=>simp [e,hx]
 | y :: ys,i+1,h=>by
   have ih:=q_set hf x v0 v1 v2 v3 hx ys i (by simpa using h)
   match e:f y,hf y with
   | [a,b,c,d],_=>
     rw [show (i+1) * 4=i * 4+1+1+1+1 by omega]
     simp only [List.flatMap_cons,e,List.cons_append,List.nil_append,List.set_cons_succ]
     rw [← ih]
theorem og4_set {α:Type}{f:α→List Value}(hf:∀ x,(f x).length=4){t:TypeId}{w:World}{base g n c:Nat}{xs:List α}(h:OG t 4 f w base (.slice (some ⟨g,0,none⟩) n c) xs)(i:Nat)(hi:i<n)(x:α)(v0 v1 v2 v3:Value)(hx:f x=[v0,v1,v2,v3]):OG t 4 f ((((w.setCell ⟨g,i * 4,none⟩ v0).setCell ⟨g,i * 4+1,none⟩ v1).setCell ⟨g,i * 4+2,none⟩ v2).setCell ⟨g,i * 4+3,none⟩ v3) base (.slice (some ⟨g,0,none⟩) n c) (xs.set i x):=by
 obtain ⟨hl,⟨h0,_⟩ | ⟨g',cap',cur,hv,hg,hh,h1,h2,h3,h4⟩⟩:=h
 ·simp at h0
 ·simp at hv
  obtain ⟨rfl,rfl,rfl⟩:=hv
  refine ⟨?_,.inr ⟨g,c,(((cur.setIfInBounds (i * 4) v0).setIfInBounds (i * 4+1) v1).setIfInBounds (i * 4+2) v2).setIfInBounds (i * 4+3) v3,by simp,hg,Blk.set (Blk.set (Blk.set (Blk.set (w:=w) hh _ _) _ _) _ _) _ _,by simpa using h1,h2,by simpa using h3,?_⟩⟩
  ·rw [← q_set hf x v0 v1 v2 v3 hx xs i hi]
   simpa using hl
  ·rw [List.length_set,Array.toList_setIfInBounds,Array.toList_setIfInBounds,Array.toList_setIfInBounds,Array.toList_setIfInBounds,List.take_set,List.take_set,List.take_set,List.take_set,h4]
   exact q_set hf x v0 v1 v2 v3 hx xs i hi
theorem og4_at {α:Type}{f:α→List Value}(hf:∀ x,(f x).length=4)(z:α){t:TypeId}{w:World}{base n c:Nat}{a:Option Addr}{xs:List α}(h:OG t 4 f w base (.slice a n c) xs)(m:Nat)(hm:m<n):∃ g,a=some ⟨g,0,none⟩∧∀ j,j<4→∀ u,(f (xs.getD m z))[j]?=some u→w.cell? ⟨g,m * 4+j,none⟩=some u:=by
 obtain ⟨hl,_,_,h4⟩:=og_parts h
 obtain ⟨g,hg,hc⟩:=h4 (by omega)
 have hx:xs[m]?=some (xs.getD m z):=by simp [List.getD_eq_getElem?_getD,show m<xs.length by omega]
 exact ⟨g,hg,fun j hj u hu=>hc _ _ (by rw [q_get hf xs m _ hx j hj];exact hu)⟩
def mrkQ {α:Type}(mk:Nat→α)(n:Nat):List α:=(List.range n).map mk
def mixQ {α:Type}(z:α)(zs:List α)(mk:Nat→α)(m:Nat):List α:=(List.range zs.length).map fun i=>if i<m then mk i else zs.getD i z
theorem mrkQ_at {α:Type}(z:α)(mk:Nat→α)(n m:Nat)(h:m<n):(mrkQ mk n).getD m z=mk m:=by simp [mrkQ,List.getD_eq_getElem?_getD,h]
theorem mixQ_zero {α:Type}(z:α)(zs:List α)(mk:Nat→α):mixQ z zs mk 0=zs:=by
 apply List.ext_getElem
 ·simp [mixQ]
 ·intro i h1 h2;simp [mixQ,h2]
theorem mixQ_all {α:Type}(z:α)(zs:List α)(mk:Nat→α):mixQ z zs mk zs.length=mrkQ mk zs.length:=by
 apply List.ext_getElem
 ·simp [mixQ,mrkQ]
 ·intro i h1 h2
  simp [mrkQ] at h2
  simp [mixQ,mrkQ,h2]
theorem mixQ_set {α:Type}(z:α)(zs:List α)(mk:Nat→α)(m:Nat)(h:m<zs.length):(mixQ z zs mk m).set m (mk m)=mixQ z zs mk (m+1):=by
 apply List.ext_getElem
 ·simp [mixQ]
 ·intro i h1 h2
  simp only [mixQ,List.getElem_set,List.getElem_map,List.getElem_range]
  by_cases hik:m=i
  ·subst hik;simp
  ·by_cases h3:i<m
   ·simp [hik,h3,show i<m+1 by omega]
   ·simp [hik,h3,show ¬ i<m+1 by omega]
end Go.Proofs.YtngdgogjlpjjpaeGreat
