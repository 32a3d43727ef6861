import Derived.Test.YtngdgogjlpjjpaeGreatP14
import Derived.Test.YtngdgogjlpjjpaeGreatP15
import Derived.Test.YtngdgogjlpjjpaeGreatP13
import Derived.Test.YtngdgogjlpjjpaeGreatP17
import Derived.Test.YtngdgogjlpjjpaeGreatP19
import Derived.Test.YtngdgogjlpjjpaeGreatP23
import Derived.Test.YtngdgogjlpjjpaeGreatP24
import Derived.Test.YtngdgogjlpjjpaeGreatP22
import Derived.Test.YtngdgogjlpjjpaeGreatP26
set_option maxHeartbeats 16000000
namespace Go.Proofs.YtngdgogjlpjjpaeGreat
open Go.RowKit Classical
set_option linter.unusedVariables false
set_option linter.unusedSimpArgs false
set_option maxRecDepth 100000
theorem cut4 {S F:Nat→Nat→Nat→World→Prop}{G:Prop}(main:(∀ a b c W,F a b c W→S a b c W)→G)(pf:∀ a b c W,F a b c W→S a b c W):G:=main pf
structure Mk3 (N:Nat)(w1 W:World)(ZF ZR:Array Value)(F R gf gr gm:Nat):Prop where
 be:Below N w1 W
 f:Blk W gf ZF 5
 r:Blk W gr ZR 5
 m:Blk W gm #[.slice (some ⟨gf,0,none⟩) F F,.slice (some ⟨gr,0,none⟩) R R,.slice none 0 0] 50
 lo:N≤gf∧N≤gr∧N≤gm
 ne:gf≠gr
structure ImT (w:World)(V:Array Value)(F R gf gr gm:Nat)(fz rz:List Int)(W:World):Prop where
 be:Below w.heap.size w W
 kl:Blk W w.heap.size V 36
 kr:Blk W (w.heap.size+1) #[.slice none 0 0,.slice none 0 0,.slice none 0 0] 50
 km:Blk W gm #[.slice (some ⟨gf,0,none⟩) F F,.slice (some ⟨gr,0,none⟩) R R,.slice none 0 0] 50
 f:OB W w.heap.size (.slice (some ⟨gf,0,none⟩) F F) fz
 r:OB W w.heap.size (.slice (some ⟨gr,0,none⟩) R R) rz
 lo:w.heap.size+1<gf∧w.heap.size+1<gr∧w.heap.size+1<gm
 ne:gf≠gr
structure It5 (w:World)(V:Array Value)(F R gf gr gm gp:Nat)(PV:Array Value)(fz rz:List Int)(W:World):Prop where
 s:ImT w V F R gf gr gm fz rz W
 p:Blk W gp PV 138
section
variable {w:World}{V:Array Value}{F R gf gr gm gp:Nat}{PV:Array Value}{fz rz:List Int}{W W':World}
theorem ImT.below (h:ImT w V F R gf gr gm fz rz W)(hb:Below W.heap.size W W'):ImT w V F R gf gr gm fz rz W':=⟨h.be.trans (hb.mono h.be.size),h.kl.below hb,h.kr.below hb,h.km.below hb,h.f.below hb,h.r.below hb,h.lo,h.ne⟩
theorem ImT.mf (h:ImT w V F R gf gr gm fz rz W):gm≠gf∧gm≠gr:=by
 obtain ⟨c1,k1⟩:=ob_blk h.f
 obtain ⟨c2,k2⟩:=ob_blk h.r
 exact ⟨fun e=>by subst e;exact absurd (blk_kind h.km k1) (by decide),fun e=>by subst e;exact absurd (blk_kind h.km k2) (by decide)⟩
theorem ImT.setf (h:ImT w V F R gf gr gm fz rz W){fz':List Int}(O:OB W' w.heap.size (.slice (some ⟨gf,0,none⟩) F F) fz')(T:Turn (fun j=>j=gf) W W'):ImT w V F R gf gr gm fz' rz W':=
 have lo:=h.lo
 have ne:=h.ne
 ⟨below_turn h.be T (fun k e=>by omega) h.be.size,turn_blk T h.kl (by omega),turn_blk T h.kr (by omega),turn_blk T h.km h.mf.1,O,turn_ob T h.r (fun k hk e=>by simp [Value.ownBlock] at hk;omega),lo,ne⟩
theorem ImT.setr (h:ImT w V F R gf gr gm fz rz W){rz':List Int}(O:OB W' w.heap.size (.slice (some ⟨gr,0,none⟩) R R) rz')(T:Turn (fun j=>j=gr) W W'):ImT w V F R gf gr gm fz rz' W':=
 have lo:=h.lo
 have ne:=h.ne
 ⟨below_turn h.be T (fun k e=>by omega) h.be.size,turn_blk T h.kl (by omega),turn_blk T h.kr (by omega),turn_blk T h.km h.mf.2,turn_ob T h.f (fun k hk e=>by simp [Value.ownBlock] at hk;omega),O,lo,ne⟩
theorem It5.below (h:It5 w V F R gf gr gm gp PV fz rz W)(hb:Below W.heap.size W W'):It5 w V F R gf gr gm gp PV fz rz W':=⟨h.s.below hb,h.p.below hb⟩
theorem It5.drew (h:It5 w V F R gf gr gm gp PV fz rz W):It5 w V F R gf gr gm gp PV fz rz W.drew:=h.below (Below.refl _ _).drew
theorem It5.pf (h:It5 w V F R gf gr gm gp PV fz rz W):gp≠gf∧gp≠gr:=by
 obtain ⟨c1,k1⟩:=ob_blk h.s.f
 obtain ⟨c2,k2⟩:=ob_blk h.s.r
 exact ⟨fun e=>by subst e;exact absurd (blk_kind h.p k1) (by decide),fun e=>by subst e;exact absurd (blk_kind h.p k2) (by decide)⟩
theorem It5.setf (h:It5 w V F R gf gr gm gp PV fz rz W){fz':List Int}(O:OB W' w.heap.size (.slice (some ⟨gf,0,none⟩) F F) fz')(T:Turn (fun j=>j=gf) W W'):It5 w V F R gf gr gm gp PV fz' rz W':=⟨h.s.setf O T,turn_blk T h.p h.pf.1⟩
theorem It5.setr (h:It5 w V F R gf gr gm gp PV fz rz W){rz':List Int}(O:OB W' w.heap.size (.slice (some ⟨gr,0,none⟩) R R) rz')(T:Turn (fun j=>j=gr) W W'):It5 w V F R gf gr gm gp PV fz rz' W':=⟨h.s.setr O T,turn_blk T h.p h.pf.2⟩
end
theorem iImage_any (a:Option Addr)(n cap:Nat)(ms:List Md)(L:Lay)(a0:Option Addr)(c0:Nat)(xs:List PB)(a2:Option Addr)(c2:Nat)(a5:Option Addr)(c5:Nat)(ts:List TB)(w:World)(h:MSD w a n cap ms)(hL:LyT w L a0 c0 xs a2 c2 a5 c5 ts):
 Calls Tryz.prog 23 #[.slice a n cap,.agg #[.slice a0 xs.length c0,.int .i64 L.stack,.slice a2 L.slots.length c2,.int .i64 L.flash,.int .i64 L.ram,.slice a5 ts.length c5]] w (ImM w (pmS ms) L):=by
 have B0:Below w.heap.size w ((w.alloc (.cells #[.slice a0 xs.length c0,.int .i64 L.stack,.slice a2 L.slots.length c2,.int .i64 L.flash,.int .i64 L.ram,.slice a5 ts.length c5] 36)).alloc (.cells #[.slice none 0 0,.slice none 0 0,.slice none 0 0] 50)):=((Below.refl _ _).alloc (Nat.le_refl _) _).alloc (by simp) _
 have kl:=(Blk.new w #[.slice a0 xs.length c0,.int .i64 L.stack,.slice a2 L.slots.length c2,.int .i64 L.flash,.int .i64 L.ram,.slice a5 ts.length c5] 36).alloc (.cells #[.slice none 0 0,.slice none 0 0,.slice none 0 0] 50)
 have kr:=Blk.new (w.alloc (.cells #[.slice a0 xs.length c0,.int .i64 L.stack,.slice a2 L.slots.length c2,.int .i64 L.flash,.int .i64 L.ram,.slice a5 ts.length c5] 36)) #[.slice none 0 0,.slice none 0 0,.slice none 0 0] 50
 simp only [World.size_alloc] at kr
 have HRL:=hide (fun (W:World) (hb:Below w.heap.size w W)=>layoutOk_any a n cap ms L a0 c0 xs a2 c2 a5 c5 ts W (h.below hb) (hL.below hb))
 have HM:=hide h
 have HL:=hide hL
 clear h hL
 go_enter Tryz.func23,Tryz.ntmps23
 go_wp2_with fail
 refine (HRL.out _ B0).mono ?_
 rintro e w1 ⟨rfl,hb1⟩
 have B1:=B0.trans (hb1.mono B0.size)
 have kl1:=kl.below hb1
 have kr1:=kr.below hb1
 clear B0 kl kr hb1
 by_cases hok:Lok (pmS ms) L
 ·rw [decide_eq_true hok]
  have K:=lok_kn hok
  obtain ⟨F,hF⟩:∃ F:Nat,L.flash=(F:Int):=⟨L.flash.toNat,by have:=K.fr;omega⟩
  obtain ⟨R,hR⟩:∃ R:Nat,L.ram=(R:Int):=⟨L.ram.toNat,by have:=K.rr;omega⟩
  have hF1:F≤16384:=by have:=K.fr;omega
  have hR1:R≤16384:=by have:=K.rr;omega
  have hmF:=make8 F hF1
  have hmR:=make8 R hR1
  have x3:w1.cell? ⟨w.heap.size,3,none⟩=some (.int .i64 (F:Int)):=by rw [← hF];exact kl1.cell 3
  have x4:w1.cell? ⟨w.heap.size,4,none⟩=some (.int .i64 (R:Int)):=by rw [← hR];exact kl1.cell 4
  have hw1:w.heap.size<w1.heap.size:=kl1.lt
  generalize hZF:zby F=ZF at *
  generalize hZR:zby R=ZR at *
  have HZ:=hide (And.intro hZF hZR)
  clear hZF hZR
  have HK1:=hide (And.intro B1 (And.intro kl1 kr1))
  have HFR:=hide (And.intro hF hR)
  have HKN:=hide K
  have HOK:=hide hok
  clear HRL
  clear B1 kl1 kr1 hF hR K hok
  go_wp2_with fail
  obtain ⟨N,hN⟩:∃ N,N=w1.heap.size:=⟨_,rfl⟩
  have hNw:N≤w1.heap.size:=by omega
  rename_i K hK
  apply cut4 (F:=fun gf gr gm W=>Mk3 N w1 W ZF ZR F R gf gr gm) (S:=fun gf gr gm W=>Exit.then K (bodyPost Tryz.prog Tryz.f23 (ImM w (pmS ms) L)) .normal ⟨#[.slice a n cap,.agg #[.slice a0 xs.length c0,.int .i64 L.stack,.slice a2 L.slots.length c2,.int .i64 L.flash,.int .i64 L.ram,.slice a5 ts.length c5],undef,.pointer (some ⟨w.heap.size,0,none⟩),.pointer (some ⟨w.heap.size+1,0,none⟩),.bool false,.pointer (some ⟨gm,0,none⟩),undef,undef,.slice a n cap,.agg #[.slice a0 xs.length c0,.int .i64 L.stack,.slice a2 L.slots.length c2,.int .i64 L.flash,.int .i64 L.ram,.slice a5 ts.length c5],.bool true,.bool false,undef,.pointer (some ⟨w.heap.size,3,none⟩),.int .i64 (F:Int),.slice (some ⟨gf,0,none⟩) F F,.pointer (some ⟨w.heap.size,4,none⟩),.int .i64 (R:Int),.slice (some ⟨gr,0,none⟩) R R,.agg #[.slice (some ⟨gf,0,none⟩) F F,.slice (some ⟨gr,0,none⟩) R R,.slice none 0 0],undef,undef,undef,undef,undef,undef,undef,undef,undef,undef,undef,undef,undef,undef,undef,undef,undef,undef,undef,undef,undef,undef,undef,undef,undef,undef,undef,undef,undef,undef,undef],[]⟩ W)
  ·intro REST0
   have REST:=hide REST0
   clear REST0
   go_region_held3 (fun w'=>w'.cell? ⟨w.heap.size,3,none⟩=some (.int .i64 (F:Int))∧w'.cell? ⟨w.heap.size,4,none⟩=some (.int .i64 (R:Int))) ((refine And.intro ?_ ?_) <;> (repeat (first | exact x3 | exact x4 | apply cell_drew' | apply cell_alloc' | (apply cell_set' (by omega))))) (fail)
   all_goals
    refine REST.out _ _ _ _ ?_
    exact ⟨(by repeat (first | with_reducible exact Below.refl _ _ | with_reducible apply bel_drew | with_reducible apply bel_alloc hNw | with_reducible apply bel_set (by omega))),(by repeat (first | with_reducible apply blk_drew | with_reducible exact blk_new' (by simp only [World.size_alloc,drew_sz']) | with_reducible apply blk_set3 | with_reducible apply blk_other' (by omega) | with_reducible apply Blk.alloc)),(by repeat (first | with_reducible apply blk_drew | with_reducible exact blk_new' (by simp only [World.size_alloc,drew_sz']) | with_reducible apply blk_set3 | with_reducible apply blk_other' (by omega) | with_reducible apply Blk.alloc)),(by repeat (first | with_reducible apply blk_drew | with_reducible exact blk_new' (by simp only [World.size_alloc,drew_sz']) | with_reducible apply blk_set3 | with_reducible apply blk_other' (by omega) | with_reducible apply Blk.alloc)),(by omega),(by omega)⟩
  ·rintro gf gr gm W hF
   show Exit.then _ _ _ _ _
   subst hN
   have hpl:(pmS ms).length=n:=by rw [pmS_len];exact HM.out.s.1
   have hn4:n≤4:=by have:=HKN.out.n;omega
   have HXL:=hide (show xs.length=n from by
    have h1:=congrArg List.length HL.out.ps
    rw [HKN.out.pl] at h1
    simp at h1
    omega)
   have hx4:xs.length≤4:=by have:=HXL.out;omega
   have S0:ImT w #[.slice a0 xs.length c0,.int .i64 L.stack,.slice a2 L.slots.length c2,.int .i64 L.flash,.int .i64 L.ram,.slice a5 ts.length c5] F R gf gr gm (flB (pmS ms) L 0) (raB (pmS ms) L 0) W:=by
    obtain ⟨B1,kl1,kr1⟩:=HK1.out
    have h1:=kr1.lt
    have h2:=hF.lo
    have e1:flB (pmS ms) L 0=List.replicate F 0:=by show List.replicate L.flash.toNat 0=_;rw [HFR.out.1];rfl
    have e2:raB (pmS ms) L 0=List.replicate R 0:=by show List.replicate L.ram.toNat 0=_;rw [HFR.out.2];rfl
    rw [e1,e2]
    refine ⟨B1.trans (hF.be.mono B1.size),kl1.below hF.be,kr1.below hF.be,hF.m,zby_ob (by rw [HZ.out.1];exact hF.f) (by omega) hF1,zby_ob (by rw [HZ.out.2];exact hF.r) (by omega) hR1,by omega,hF.ne⟩
   have HS0:=hide S0
   have c0':=S0.kl.cell 0
   simp only [List.getElem?_toArray,List.getElem?_cons_zero] at c0'
   clear S0 hF HK1 x3 x4 hw1 hmF hmR HZ hNw
   go_wp2
   clear c0'
   go_loopw [24] (fun i wr=>∃ m:Nat,m≤n∧i=.int .i64 m∧ImT w #[.slice a0 xs.length c0,.int .i64 L.stack,.slice a2 L.slots.length c2,.int .i64 L.flash,.int .i64 L.ram,.slice a5 ts.length c5] F R gf gr gm (flB (pmS ms) L m) (raB (pmS ms) L m) wr) (fun i _=>n - (intOf i).toNat)
   case atStart=>exact ⟨0,Nat.zero_le _,rfl,HS0.out⟩
   case round=>
    clear HS0
    obtain ⟨m,hm,rfl,S⟩:=hrel
    generalize wr=wo at *
    by_cases hlt:m<n
    ·have hlt':(m:Int)<(n:Int):=by omega
     have hml':(m:Int)<(xs.length:Int):=by have:=HXL.out;omega
     obtain ⟨b,off,rfl,y0,y1,y2,y3,y4,y5,y6,y7⟩:=HM.out.s.at m hlt
     obtain ⟨pb,po,rfl,z0,z1,z2,z3⟩:=HL.out.p.at m (by have:=HXL.out;omega)
     have HPB:=hide (HL.out.p.2.2.2.1 m (by have:=HXL.out;omega))
     have HMD:=hide (HM.out.d m hlt)
     have HPM:=hide (show (pmS ms).getD m zP=(ms.getD m zMd).pm from pmS_at (by have:=HM.out.s.1;omega))
     have HPP:=hide (show (xs.getD m zPB).1=plc (pmS ms) m from by
      rw [← HKN.out.place m (by omega),← HL.out.ps,map_getD _ _ _ zPB _ (by have:=HXL.out;omega)])
     have HAT:=hide (HKN.out.at m (by omega))
     have HFL:=hide (show flB (pmS ms) L (m+1)=pourB (flB (pmS ms) L m) ((pmS ms).getD m zP) (L.places.getD m zPB.1) ((pmS ms).getD m zP).bl.length from rfl)
     have HRA:=hide (show raB (pmS ms) L (m+1)=relB (ovr (raB (pmS ms) L m) ((L.places.getD m zPB.1).data - 65536).toNat ((pmS ms).getD m zP).dz) ((L.places.getD m zPB.1).data - 65536).toNat ((pmS ms).getD m zP).rz (L.places.getD m zPB.1).data ((pmS ms).getD m zP).rz.length from rfl)
     have HVL:=hide (HKN.out.v m (by omega))
     rw [HKN.out.place m (by omega),← HPP.out,HPM.out] at HFL HRA
     rw [← HPP.out,HPM.out,HFR.out.1,HFR.out.2] at HAT
     rw [HPM.out] at HVL
     clear HPM HPP
     generalize hFZ:flB (pmS ms) L (m+1)=FZ at HFL
     generalize hRZ:raB (pmS ms) L (m+1)=RZ at HRA
     have HFZ:=hide (And.intro hFZ hRZ)
     clear hFZ hRZ
     generalize flB (pmS ms) L m=fz at *
     generalize raB (pmS ms) L m=rz at *
     unfold svP at z1
     generalize xs.getD m zPB=x at *
     obtain ⟨⟨xt,xb,xd,xz⟩,xa,xc⟩:=x
     generalize ms.getD m zMd=M at *
     obtain ⟨P,hP⟩:∃ P,P=M.pm:=⟨_,rfl⟩
     rw [← hP] at HFL HRA HAT HVL
     have HPE:=hide (show P.tz=M.tz∧P.bl=M.bl.map (fun B=>B.2.2.2)∧P.dz=M.dz∧P.rz=M.rz by rw [hP];exact ⟨rfl,rfl,rfl,rfl⟩)
     clear hP
     obtain ⟨nm,ta,tn,tc,tz,ba,bn,bc,bl,da,dn,dc,dz,bss,ra,rn,rc,rrz,ia,im,ic,ss,ea,en,ec,es⟩:=M
     dsimp only at z0 z1 z2 z3 HPB HFL HRA HAT HMD HPE y0 y1 y2 y3 y4 y5 y6 y7
     obtain ⟨kt,hkt⟩:∃ kt:Nat,xt=(kt:Int):=⟨xt.toNat,by have:=HAT.out.1.1;omega⟩
     obtain ⟨f,hf⟩:∃ f:Nat,xd=65536+(f:Int):=⟨(xd - 65536).toNat,by have:=HAT.out.2.2.2.1;omega⟩
     subst hkt hf
     have HIT:Hid (IS w ta tn tc tz∧BKS w ba bn bc bl∧BS w da dn dc dz∧IS w ra rn rc rrz):=hide ⟨HMD.out.t,HMD.out.b,HMD.out.d,HMD.out.r⟩
     have hbl:bl.length=bn:=HIT.out.2.1.1
     have htl:tz.length=tn:=HIT.out.1.1
     have hdl:dz.length=dn:=HIT.out.2.2.1.1
     have hrl:rrz.length=rn:=HIT.out.2.2.2.1
     have hPl:P.bl.length=bn:=by rw [HPE.out.2.1,List.length_map];exact hbl
     have hbn4:bn≤4:=by have h1:=(vld_en HVL.out).2.2.2.1;omega
     have hrn:rn≤16:=by
      have V:=vm_of_mdo (by simp [bkOf]) (show mdo P.nm P.tz.length P.tz P.bl.length (bkOf P.bl) P.dz.length P.bss P.rz.length P.rz P.ss.length P.ss P.es.length P.es=0 from HVL.out)
      have h1:=V.r
      rw [HPE.out.2.2.2] at h1
      omega
     have hfd:f+dn≤R:=by
      have h1:=HAT.out.2.2.2.2
      rw [HPE.out.2.2.1] at h1
      omega
     have HRLB:=hide (show ∀ q,q<rn→0≤rrz.getD q 0∧rrz.getD q 0+4≤(dn:Int) from fun q hq=>by
      have h1:=vld_rl HVL.out q (by rw [HPE.out.2.2.2];omega)
      rw [HPE.out.2.2.2,HPE.out.2.2.1] at h1
      omega)
     have HPC:=hide (fun (X:World) (I:It5 w #[.slice (some ⟨pb,po,none⟩) xs.length c0,.int .i64 L.stack,.slice a2 L.slots.length c2,.int .i64 L.flash,.int .i64 L.ram,.slice a5 ts.length c5] F R gf gr gm wo.heap.size #[.int .i64 (kt:Int),.slice xa xb.length xc,.int .i64 (65536+(f:Int)),.int .i64 xz] fz rz X)=>show Calls Tryz.prog 86 #[.slice (some ⟨gf,0,none⟩) F F,.agg #[.string nm,.slice ta tn tc,.slice ba bn bc,.slice da dn dc,.int .i64 bss,.slice ra rn rc,.slice ia im ic,.slice ea en ec],.agg #[.int .i64 (kt:Int),.slice xa xb.length xc,.int .i64 (65536+(f:Int)),.int .i64 xz]] X fun e w'=>e=.returned (.tuple #[])∧It5 w #[.slice (some ⟨pb,po,none⟩) xs.length c0,.int .i64 L.stack,.slice a2 L.slots.length c2,.int .i64 L.flash,.int .i64 L.ram,.slice a5 ts.length c5] F R gf gr gm wo.heap.size #[.int .i64 (kt:Int),.slice xa xb.length xc,.int .i64 (65536+(f:Int)),.int .i64 xz] FZ rz w' from
      (putCode_any gf F nm ta tn tc tz ba bn bc bl da dn dc bss ra rn rc ia im ic ea en ec P kt xa xb xc (65536+(f:Int)) xz fz w.heap.size X w HIT.out.1 HIT.out.2.1 HPE.out.1 HPE.out.2.1 HPB.out I.s.be (by have:=I.s.lo;omega) I.s.f hF1 hbn4 (by have h1:=HAT.out.1.2;rw [HPE.out.1] at h1;omega) (by have h1:=HAT.out.2.1;omega) (fun j hj=>by
        have h1:=HAT.out.2.2.1 j (by omega)
        rw [HPE.out.2.1,getD_map _ _ _ zB _ (by omega)] at h1
        rw [(HIT.out.2.1.2.2.2.1 j hj).1] at h1
        exact h1)).mono (fun e w' he=>⟨he.1,by rw [HFL.out];exact I.setf he.2.1 he.2.2⟩))
     have HPD:=hide (fun (bp:Option Addr) (bl':Nat) (hbp:(f<R∧bp=some ⟨gr,f,none⟩∧bl'=R - f)∨(f=R∧bp=some ⟨gr,0,none⟩∧bl'=0)) (X:World) (I:It5 w #[.slice (some ⟨pb,po,none⟩) xs.length c0,.int .i64 L.stack,.slice a2 L.slots.length c2,.int .i64 L.flash,.int .i64 L.ram,.slice a5 ts.length c5] F R gf gr gm wo.heap.size #[.int .i64 (kt:Int),.slice xa xb.length xc,.int .i64 (65536+(f:Int)),.int .i64 xz] FZ rz X)=>show Calls Tryz.prog 87 #[.slice bp bl' bl',.agg #[.string nm,.slice ta tn tc,.slice ba bn bc,.slice da dn dc,.int .i64 bss,.slice ra rn rc,.slice ia im ic,.slice ea en ec],.int .i64 (65536+(f:Int))] X fun e w'=>e=.returned (.tuple #[])∧It5 w #[.slice (some ⟨pb,po,none⟩) xs.length c0,.int .i64 L.stack,.slice a2 L.slots.length c2,.int .i64 L.flash,.int .i64 L.ram,.slice a5 ts.length c5] F R gf gr gm wo.heap.size #[.int .i64 (kt:Int),.slice xa xb.length xc,.int .i64 (65536+(f:Int)),.int .i64 xz] FZ RZ w' from
      (putData_any gr R f bp bl' nm ta tn tc ba bn bc da dn dc dz bss ra rn rc rrz ia im ic ea en ec rz w.heap.size X w HIT.out.2.2.1 HIT.out.2.2.2 I.s.be (by have:=I.s.lo;omega) I.s.r hR1 hrn hfd HRLB.out hbp).mono (fun e w' he=>⟨he.1,by
        rw [HRA.out,HPE.out.2.2.1,HPE.out.2.2.2,hrl,show ((65536:Int)+(f:Int) - 65536).toNat=f by omega]
        exact I.setr he.2.1 he.2.2⟩))
     have I1:It5 w #[.slice (some ⟨pb,po,none⟩) xs.length c0,.int .i64 L.stack,.slice a2 L.slots.length c2,.int .i64 L.flash,.int .i64 L.ram,.slice a5 ts.length c5] F R gf gr gm wo.heap.size #[.int .i64 (kt:Int),.slice xa xb.length xc,.int .i64 (65536+(f:Int)),.int .i64 xz] fz rz (wo.alloc (.cells #[.int .i64 (kt:Int),.slice xa xb.length xc,.int .i64 (65536+(f:Int)),.int .i64 xz] 138)):=⟨S.below (show Below wo.heap.size wo (wo.alloc (.cells #[.int .i64 (kt:Int),.slice xa xb.length xc,.int .i64 (65536+(f:Int)),.int .i64 xz] 138)) from (Below.refl _ _).alloc (Nat.le_refl _) _),Blk.new _ _ _⟩
     have HI1:=hide I1
     have zz0:=cell_below S.be z0
     have zz1:=cell_below S.be z1
     have zz2:=cell_below S.be z2
     have zz3:=cell_below S.be z3
     have HCL:=hide (fun (fz rz:List Int) (X:World) (I:It5 w #[.slice (some ⟨pb,po,none⟩) xs.length c0,.int .i64 L.stack,.slice a2 L.slots.length c2,.int .i64 L.flash,.int .i64 L.ram,.slice a5 ts.length c5] F R gf gr gm wo.heap.size #[.int .i64 (kt:Int),.slice xa xb.length xc,.int .i64 (65536+(f:Int)),.int .i64 xz] fz rz X)=>show (X.cell? ⟨b,off+m * 8,none⟩=some (.string nm)∧X.cell? ⟨b,off+m * 8+1,none⟩=some (.slice ta tn tc)∧X.cell? ⟨b,off+m * 8+2,none⟩=some (.slice ba bn bc)∧X.cell? ⟨b,off+m * 8+3,none⟩=some (.slice da dn dc)∧X.cell? ⟨b,off+m * 8+4,none⟩=some (.int .i64 bss)∧X.cell? ⟨b,off+m * 8+5,none⟩=some (.slice ra rn rc)∧X.cell? ⟨b,off+m * 8+6,none⟩=some (.slice ia im ic)∧X.cell? ⟨b,off+m * 8+7,none⟩=some (.slice ea en ec))∧(X.cell? ⟨wo.heap.size,0,none⟩=some (.int .i64 (kt:Int))∧X.cell? ⟨wo.heap.size,1,none⟩=some (.slice xa xb.length xc)∧X.cell? ⟨wo.heap.size,2,none⟩=some (.int .i64 (65536+(f:Int)))∧X.cell? ⟨wo.heap.size,3,none⟩=some (.int .i64 xz))∧X.cell? ⟨gm,0,none⟩=some (.slice (some ⟨gf,0,none⟩) F F)∧X.cell? ⟨gm,1,none⟩=some (.slice (some ⟨gr,0,none⟩) R R) from
      ⟨⟨cell_below I.s.be y0,cell_below I.s.be y1,cell_below I.s.be y2,cell_below I.s.be y3,cell_below I.s.be y4,cell_below I.s.be y5,cell_below I.s.be y6,cell_below I.s.be y7⟩,⟨I.p.cell 0,I.p.cell 1,I.p.cell 2,I.p.cell 3⟩,I.s.km.cell 0,I.s.km.cell 1⟩)
     clear S I1 HAT HVL HPE HMD hbl htl hdl hrl hPl
     go_wp2_with fail
     generalize hW1:wo.alloc (.cells #[.int .i64 (kt:Int),.slice xa xb.length xc,.int .i64 (65536+(f:Int)),.int .i64 xz] 138)=W1 at *
     clear hW1 zz0 zz1 zz2 zz3
     obtain ⟨⟨v0,v1,v2,v3,v4,v5,v6,v7⟩,⟨p0,p1,p2,p3⟩,q0,q1⟩:=HCL.out _ _ _ HI1.out
     go_region_held3 (fun w'=>w'.cell? ⟨gm,0,none⟩=some (.slice (some ⟨gf,0,none⟩) F F)∧w'.cell? ⟨b,off+m * 8,none⟩=some (.string nm)∧w'.cell? ⟨b,off+m * 8+1,none⟩=some (.slice ta tn tc)∧w'.cell? ⟨b,off+m * 8+2,none⟩=some (.slice ba bn bc)∧w'.cell? ⟨b,off+m * 8+3,none⟩=some (.slice da dn dc)∧w'.cell? ⟨b,off+m * 8+4,none⟩=some (.int .i64 bss)∧w'.cell? ⟨b,off+m * 8+5,none⟩=some (.slice ra rn rc)∧w'.cell? ⟨b,off+m * 8+6,none⟩=some (.slice ia im ic)∧w'.cell? ⟨b,off+m * 8+7,none⟩=some (.slice ea en ec)∧w'.cell? ⟨wo.heap.size,0,none⟩=some (.int .i64 (kt:Int))∧w'.cell? ⟨wo.heap.size,1,none⟩=some (.slice xa xb.length xc)∧w'.cell? ⟨wo.heap.size,2,none⟩=some (.int .i64 (65536+(f:Int)))∧w'.cell? ⟨wo.heap.size,3,none⟩=some (.int .i64 xz)) (go_keep)
      (first
        | (go_at_call 86;first
            | with_reducible refine (HPC.out _ HI1.out).mono ?_
            | with_reducible refine (HPC.out _ HI1.out.drew).mono ?_
           rintro e w2 ⟨rfl,hI2⟩
           have HI2:=hide hI2
           clear hI2
           obtain ⟨⟨r0,r1,r2,r3,r4,r5,r6,r7⟩,⟨t0,t1,t2,t3⟩,u0,u1⟩:=HCL.out _ _ _ HI2.out))
     clear v0 v1 v2 v3 v4 v5 v6 v7 p0 p1 p2 p3 q0 q1 u0
     have hff:(65536:Int)+(f:Int) - 65536=(f:Int):=by omega
     have hffw:IntKind.i64.wrap ((65536:Int)+(f:Int) - 65536)=(f:Int):=by rw [IntWalk.i64_left,IntWalk.wrap64_in _ (by omega)];omega
     have hffw2:IntKind.i64.wrap (f:Int)=(f:Int):=by rw [IntWalk.i64_left,IntWalk.wrap64_in _ (by omega)]
     have f0':(0:Int)≤(f:Int):=by omega
     have f1':(f:Int)≤(R:Int):=by omega
     by_cases hfl:f<R
     ·have hfl':(f:Int)<(R:Int):=by omega
      have hfn:¬ (R=f):=by omega
      have HPD0:=hide (HPD.out (some ⟨gr,f,none⟩) (R - f) (.inl ⟨hfl,rfl,rfl⟩))
      clear HPD
      go_wp2_with fail
      go_region_held3 (fun w'=>w'.cell? ⟨gm,1,none⟩=some (.slice (some ⟨gr,0,none⟩) R R)∧w'.cell? ⟨b,off+m * 8,none⟩=some (.string nm)∧w'.cell? ⟨b,off+m * 8+1,none⟩=some (.slice ta tn tc)∧w'.cell? ⟨b,off+m * 8+2,none⟩=some (.slice ba bn bc)∧w'.cell? ⟨b,off+m * 8+3,none⟩=some (.slice da dn dc)∧w'.cell? ⟨b,off+m * 8+4,none⟩=some (.int .i64 bss)∧w'.cell? ⟨b,off+m * 8+5,none⟩=some (.slice ra rn rc)∧w'.cell? ⟨b,off+m * 8+6,none⟩=some (.slice ia im ic)∧w'.cell? ⟨b,off+m * 8+7,none⟩=some (.slice ea en ec)∧w'.cell? ⟨wo.heap.size,2,none⟩=some (.int .i64 (65536+(f:Int)))) (go_keep)
       (first
         | (go_at_call 87;first
             | with_reducible refine (HPD0.out _ HI2.out).mono ?_
             | with_reducible refine (HPD0.out _ HI2.out.drew).mono ?_
            rintro e w3 ⟨rfl,hI3⟩
            have HI3:=hide hI3
            clear hI3
            obtain ⟨⟨a0',a1',a2',a3',a4',a5',a6',a7'⟩,⟨b0',b1',b2',b3'⟩,c0',c1'⟩:=HCL.out _ _ _ HI3.out))
      clear a0' a1' a2' a3' a4' a5' a6' a7' b0' b1' b2' b3' c0' c1' r0 r1 r2 r3 r4 r5 r6 r7 t0 t1 t2 t3 u1 hff hffw hffw2
      go_wp2
      go_roundw
      case rel=>exact ⟨m+1,by omega,by go_num,by rw [HFZ.out.1,HFZ.out.2];exact HI3.out.s⟩
      case measure=>simp [intOf];omega
     ·obtain rfl:R=f:=by omega
      have HPD0:=hide (HPD.out (some ⟨gr,0,none⟩) 0 (.inr ⟨rfl,rfl,rfl⟩))
      clear HPD
      go_wp2_with fail
      go_region_held3 (fun w'=>w'.cell? ⟨gm,1,none⟩=some (.slice (some ⟨gr,0,none⟩) R R)∧w'.cell? ⟨b,off+m * 8,none⟩=some (.string nm)∧w'.cell? ⟨b,off+m * 8+1,none⟩=some (.slice ta tn tc)∧w'.cell? ⟨b,off+m * 8+2,none⟩=some (.slice ba bn bc)∧w'.cell? ⟨b,off+m * 8+3,none⟩=some (.slice da dn dc)∧w'.cell? ⟨b,off+m * 8+4,none⟩=some (.int .i64 bss)∧w'.cell? ⟨b,off+m * 8+5,none⟩=some (.slice ra rn rc)∧w'.cell? ⟨b,off+m * 8+6,none⟩=some (.slice ia im ic)∧w'.cell? ⟨b,off+m * 8+7,none⟩=some (.slice ea en ec)∧w'.cell? ⟨wo.heap.size,2,none⟩=some (.int .i64 (65536+(R:Int)))) (go_keep)
       (first
         | (go_at_call 87;first
             | with_reducible refine (HPD0.out _ HI2.out).mono ?_
             | with_reducible refine (HPD0.out _ HI2.out.drew).mono ?_
            rintro e w3 ⟨rfl,hI3⟩
            have HI3:=hide hI3
            clear hI3
            obtain ⟨⟨a0',a1',a2',a3',a4',a5',a6',a7'⟩,⟨b0',b1',b2',b3'⟩,c0',c1'⟩:=HCL.out _ _ _ HI3.out))
      clear a0' a1' a2' a3' a4' a5' a6' a7' b0' b1' b2' b3' c0' c1' r0 r1 r2 r3 r4 r5 r6 r7 t0 t1 t2 t3 u1 hff hffw hffw2
      go_wp2
      go_roundw
      case rel=>exact ⟨m+1,by omega,by go_num,by rw [HFZ.out.1,HFZ.out.2];exact HI3.out.s⟩
      case measure=>simp [intOf];omega
    ·have e:Hid (m=n):=by show m=n;omega
     obtain ⟨q0,q1,q2⟩:wo.cell? ⟨gm,0,none⟩=some (.slice (some ⟨gf,0,none⟩) F F)∧wo.cell? ⟨gm,1,none⟩=some (.slice (some ⟨gr,0,none⟩) R R)∧wo.cell? ⟨gm,2,none⟩=some (.slice none 0 0):=⟨S.km.cell 0,S.km.cell 1,S.km.cell 2⟩
     obtain ⟨p0,p1,p2⟩:wo.cell? ⟨w.heap.size+1,0,none⟩=some (.slice none 0 0)∧wo.cell? ⟨w.heap.size+1,1,none⟩=some (.slice none 0 0)∧wo.cell? ⟨w.heap.size+1,2,none⟩=some (.slice none 0 0):=⟨S.kr.cell 0,S.kr.cell 1,S.kr.cell 2⟩
     have pf:=S.kr.frozen
     have hmx:¬ ((m:Int)<(xs.length:Int)):=by have:=HXL.out;omega
     have T:Turn (fun j=>j=w.heap.size+1) wo (((wo.setCell ⟨w.heap.size+1,0,none⟩ (.slice (some ⟨gf,0,none⟩) F F)).setCell ⟨w.heap.size+1,1,none⟩ (.slice (some ⟨gr,0,none⟩) R R)).setCell ⟨w.heap.size+1,2,none⟩ (.slice none 0 0)):=((turn_set _ _ _ _).trans (turn_set _ _ _ _)).trans (turn_set _ _ _ _)
     have HE:=hide (show ImM w (pmS ms) L (.returned (.tuple #[.agg #[.slice (some ⟨gf,0,none⟩) F F,.slice (some ⟨gr,0,none⟩) R R,.slice none 0 0],.bool true])) (((wo.setCell ⟨w.heap.size+1,0,none⟩ (.slice (some ⟨gf,0,none⟩) F F)).setCell ⟨w.heap.size+1,1,none⟩ (.slice (some ⟨gr,0,none⟩) R R)).setCell ⟨w.heap.size+1,2,none⟩ (.slice none 0 0)) from by
      have hlo:=S.lo
      refine ⟨below_turn S.be T (fun k e=>by omega) S.be.size,some ⟨gf,0,none⟩,F,F,some ⟨gr,0,none⟩,R,R,none,0,0,by rw [decide_eq_true HOK.out],?_⟩
      unfold imF imR
      rw [if_pos HOK.out,if_pos HOK.out,hpl,← e.out]
      refine ⟨turn_ob T S.f (fun k hk s=>by simp [Value.ownBlock] at hk;omega),turn_ob T S.r (fun k hk s=>by simp [Value.ownBlock] at hk;omega),⟨⟨rfl,.inl ⟨rfl,rfl⟩⟩,by simp⟩,?_,?_,?_⟩
      all_goals
       intro k hk
       have hne:=S.ne
       simp [Value.ownBlock] at hk ⊢
       try omega)
     have k3:=blk_set3 (v0:=.slice (some ⟨gf,0,none⟩) F F) (v1:=.slice (some ⟨gr,0,none⟩) R R) (v2:=.slice none 0 0) S.kr
     have s0:=k3.cell 0
     have s1:=k3.cell 1
     have s2:=k3.cell 2
     simp only [List.getElem?_toArray,List.getElem?_cons_zero,List.getElem?_cons_succ] at s0 s1 s2
     clear S T k3
     go_wp2
     exact bodyPost_ret (v:=.tuple #[.agg #[.slice (some ⟨gf,0,none⟩) F F,.slice (some ⟨gr,0,none⟩) R R,.slice none 0 0],.bool true]) (by simp [results,Tryz.results23,go_sem,s0,s1,s2]) rfl HE.out
 ·rw [decide_eq_false hok]
  have HE:=hide (show ∀ W',Below w.heap.size w W'→ImM w (pmS ms) L (.returned (.tuple #[.agg #[.slice none 0 0,.slice none 0 0,.slice none 0 0],.bool false])) W' from fun W' hb=>by
   refine ⟨hb,none,0,0,none,0,0,none,0,0,by rw [decide_eq_false hok],?_⟩
   unfold imF imR
   rw [if_neg hok,if_neg hok]
   refine ⟨⟨⟨rfl,.inl ⟨rfl,rfl⟩⟩,by simp⟩,⟨⟨rfl,.inl ⟨rfl,rfl⟩⟩,by simp⟩,⟨⟨rfl,.inl ⟨rfl,rfl⟩⟩,by simp⟩,?_,?_,?_⟩
   all_goals
    intro k hk
    simp [Value.ownBlock] at hk)
  have k3:=blk_set3 (v0:=.slice none 0 0) (v1:=.slice none 0 0) (v2:=.slice none 0 0) kr1
  have s0:=k3.cell 0
  have s1:=k3.cell 1
  have s2:=k3.cell 2
  simp only [List.getElem?_toArray,List.getElem?_cons_zero,List.getElem?_cons_succ] at s0 s1 s2
  have T:Turn (fun j=>j=w.heap.size+1) w1 (((w1.setCell ⟨w.heap.size+1,0,none⟩ (.slice none 0 0)).setCell ⟨w.heap.size+1,1,none⟩ (.slice none 0 0)).setCell ⟨w.heap.size+1,2,none⟩ (.slice none 0 0)):=((turn_set _ _ _ _).trans (turn_set _ _ _ _)).trans (turn_set _ _ _ _)
  have HB:=hide (below_turn B1 T (fun k e=>by omega) B1.size)
  obtain ⟨p0,p1,p2⟩:w1.cell? ⟨w.heap.size+1,0,none⟩=some (.slice none 0 0)∧w1.cell? ⟨w.heap.size+1,1,none⟩=some (.slice none 0 0)∧w1.cell? ⟨w.heap.size+1,2,none⟩=some (.slice none 0 0):=⟨kr1.cell 0,kr1.cell 1,kr1.cell 2⟩
  have pf:=kr1.frozen
  clear T k3 kl1 kr1 B1 hok HRL HM HL
  go_wp2
  exact bodyPost_ret (v:=.tuple #[.agg #[.slice none 0 0,.slice none 0 0,.slice none 0 0],.bool false]) (by simp [results,Tryz.results23,go_sem,s0,s1,s2]) rfl (HE.out _ HB.out)
section
variable {W W':World}{base:Nat}{v1 v2 v3:Value}{x1 x2 x3:List Int}
theorem OM.below (h:OM W base v1 v2 v3 x1 x2 x3)(hb:Below W.heap.size W W'):OM W' base v1 v2 v3 x1 x2 x3:=⟨h.o1.below hb,h.o2.below hb,h.o3.below hb,h.a12,h.a13,h.a23⟩
theorem OM.mono {base':Nat}(h:OM W base v1 v2 v3 x1 x2 x3)(hb:base'≤base):OM W base' v1 v2 v3 x1 x2 x3:=⟨h.o1.mono hb,h.o2.mono hb,h.o3.mono hb,h.a12,h.a13,h.a23⟩
theorem OM.lt (h:OM W base v1 v2 v3 x1 x2 x3){j:Nat}(hj:Blks v1 v2 v3 j):base≤j∧j<W.heap.size:=by
 rcases hj with e | e | e
 ·exact h.o1.lt j e
 ·exact h.o2.lt j e
 ·exact h.o3.lt j e
theorem OM.kept {S:Nat→Prop}(h:OM W base v1 v2 v3 x1 x2 x3)(t:Turn S W W')(hs:∀ j,Blks v1 v2 v3 j→¬ S j):OM W' base v1 v2 v3 x1 x2 x3:=⟨turn_ob t h.o1 (fun k hk=>hs k (.inl hk)),turn_ob t h.o2 (fun k hk=>hs k (.inr (.inl hk))),turn_ob t h.o3 (fun k hk=>hs k (.inr (.inr hk))),h.a12,h.a13,h.a23⟩
end
structure NmO (w:World)(base:Nat)(ps:List PMod)(L:Lay)(ns:Nat)(vk vf vr vo vl:Value):Prop where
 k:OI w base vk (List.replicate 8 0)
 q:OM w base vf vr vo (imF ps L) (imR ps L) []
 l:OG 134 4 clSl w base vl (List.replicate ns zSl)
theorem NmO.below {w w':World}{base:Nat}{ps:List PMod}{L:Lay}{ns:Nat}{vk vf vr vo vl:Value}(h:NmO w base ps L ns vk vf vr vo vl)(hb:Below w.heap.size w w'):NmO w' base ps L ns vk vf vr vo vl:=⟨h.k.below hb,⟨h.q.o1.below hb,h.q.o2.below hb,h.q.o3.below hb,h.q.a12,h.q.a13,h.q.a23⟩,h.l.below hb⟩
def NmP (w:World)(a:Option Addr)(n cap:Nat)(ps:List PMod)(L:Lay)(ns:Nat)(x2 x3 x4:Int)(e:Ending)(w':World):Prop:=∃ gk a1 n1 e1 a2 n2 e2 a3 n3 e3 gl,e=.returned (.agg #[.slice a n cap,.int .i64 (ns:Nat),.int .i64 x2,.int .i64 x3,.int .i64 x4,.int .i64 0,.slice (some ⟨gk,0,none⟩) 8 8,.slice a1 n1 e1,.slice a2 n2 e2,.slice a3 n3 e3,.int .i64 0,.int .i64 (-1),.slice (some ⟨gl,0,none⟩) ns ns,.slice none 0 0,.int .i64 0])∧NmO w' w.heap.size ps L ns (.slice (some ⟨gk,0,none⟩) 8 8) (.slice a1 n1 e1) (.slice a2 n2 e2) (.slice a3 n3 e3) (.slice (some ⟨gl,0,none⟩) ns ns)∧Below w.heap.size w w'
theorem newMachine_any (a:Option Addr)(n cap:Nat)(ms:List Md)(L:Lay)(a0:Option Addr)(c0:Nat)(xs:List PB)(a2:Option Addr)(c2:Nat)(a5:Option Addr)(c5:Nat)(ts:List TB)(ns:Nat)(x2 x3 x4:Int)(w:World)(h:MSD w a n cap ms)(hL:LyT w L a0 c0 xs a2 c2 a5 c5 ts)(hk:Lok (pmS ms) L)(hn:ns≤4):
 Calls Tryz.prog 77 #[.slice a n cap,.agg #[.int .i64 (ns:Nat),.int .i64 x2,.int .i64 x3,.int .i64 x4],.agg #[.slice a0 xs.length c0,.int .i64 L.stack,.slice a2 L.slots.length c2,.int .i64 L.flash,.int .i64 L.ram,.slice a5 ts.length c5]] w (NmP w a n cap (pmS ms) L ns x2 x3 x4):=by
 obtain ⟨V,hV⟩:∃ V,V=((w.alloc (.cells #[.int .i64 (ns:Nat),.int .i64 x2,.int .i64 x3,.int .i64 x4] 44)).alloc (.cells #[.slice a0 xs.length c0,.int .i64 L.stack,.slice a2 L.slots.length c2,.int .i64 L.flash,.int .i64 L.ram,.slice a5 ts.length c5] 36)).alloc (.cells z15 54):=⟨_,rfl⟩
 have bV:Below w.heap.size w V:=by rw [hV];exact (((Below.refl _ _).alloc (Nat.le_refl _) _).alloc (by simp) _).alloc (by simp;omega) _
 have k0:Blk V w.heap.size #[.int .i64 (ns:Nat),.int .i64 x2,.int .i64 x3,.int .i64 x4] 44:=by rw [hV];exact ((Blk.new w _ _).alloc _).alloc _
 have k1:Blk V (w.heap.size+1) #[.slice a0 xs.length c0,.int .i64 L.stack,.slice a2 L.slots.length c2,.int .i64 L.flash,.int .i64 L.ram,.slice a5 ts.length c5] 36:=by rw [hV];have:=(Blk.new (w.alloc (.cells #[.int .i64 (ns:Nat),.int .i64 x2,.int .i64 x3,.int .i64 x4] 44)) #[.slice a0 xs.length c0,.int .i64 L.stack,.slice a2 L.slots.length c2,.int .i64 L.flash,.int .i64 L.ram,.slice a5 ts.length c5] 36).alloc (.cells z15 54);simpa using this
 have k2:Blk V (w.heap.size+1+1) z15 54:=by rw [hV];have:=Blk.new ((w.alloc (.cells #[.int .i64 (ns:Nat),.int .i64 x2,.int .i64 x3,.int .i64 x4] 44)).alloc (.cells #[.slice a0 xs.length c0,.int .i64 L.stack,.slice a2 L.slots.length c2,.int .i64 L.flash,.int .i64 L.ram,.slice a5 ts.length c5] 36)) z15 54;simpa using this
 have CI:=hide (iImage_any a n cap ms L a0 c0 xs a2 c2 a5 c5 ts V (h.below bV) (hL.below bV))
 unfold ImM at CI
 rw [decide_eq_true hk] at CI
 obtain ⟨p0,p1,p2,p3,p4,p5⟩:=k1.ly6
 have HV:=hide hV
 have HK:=hide (And.intro bV (And.intro k0 k2))
 clear hV bV k0 k1 k2 h hL hk
 unfold z15 at HV
 go_enter Tryz.func77,Tryz.ntmps77
 go_wp2_with (rw [← HV.out])
 refine CI.out.mono ?_
 rintro e w1 ⟨b1,a1,n1,e1,a2',n2,e2,a3,n3,e3,rfl,O1⟩
 obtain ⟨bV,k0,k2⟩:=HK.out
 obtain ⟨w2,hw2⟩:∃ w2,w2=w1.alloc (.cells #[.slice a1 n1 e1,.slice a2' n2 e2,.slice a3 n3 e3] 50):=⟨_,rfl⟩
 have b2:Below w1.heap.size w1 w2:=by rw [hw2];exact (Below.refl _ _).alloc (Nat.le_refl _) _
 have k3:Blk w2 w1.heap.size #[.slice a1 n1 e1,.slice a2' n2 e2,.slice a3 n3 e3] 50:=by rw [hw2];exact Blk.new _ _ _
 obtain ⟨w3,hw3⟩:∃ w3,w3=w2.alloc (.cells in0 3):=⟨_,rfl⟩
 have b3:Below w2.heap.size w2 w3:=by rw [hw3];exact (Below.refl _ _).alloc (Nat.le_refl _) _
 have r3:Blk w3 w2.heap.size in0 3:=by rw [hw3];exact Blk.new _ _ _
 obtain ⟨w4,hw4⟩:∃ w4,w4=w3.alloc (.cells #[.int .i64 0,.slice (some ⟨w2.heap.size,0,none⟩) 8 8] 48):=⟨_,rfl⟩
 have b4:Below w3.heap.size w3 w4:=by rw [hw4];exact (Below.refl _ _).alloc (Nat.le_refl _) _
 have k4:Blk w4 w3.heap.size #[.int .i64 0,.slice (some ⟨w2.heap.size,0,none⟩) 8 8] 48:=by rw [hw4];exact Blk.new _ _ _
 have b34:=b3.trans (b4.mono b3.size)
 have b24:=b2.trans (b34.mono b2.size)
 have b14:=b1.trans (b24.mono b1.size)
 have K0:=k0.below b14
 have K2:=k2.below b14
 have K3:=k3.below b34
 obtain ⟨u0,u1,u2,u3⟩:=show w4.cell? ⟨w.heap.size,0,none⟩=some (.int .i64 (ns:Nat))∧w4.cell? ⟨w.heap.size,1,none⟩=some (.int .i64 x2)∧w4.cell? ⟨w.heap.size,2,none⟩=some (.int .i64 x3)∧w4.cell? ⟨w.heap.size,3,none⟩=some (.int .i64 x4) from ⟨K0.cell 0,K0.cell 1,K0.cell 2,K0.cell 3⟩
 obtain ⟨m0,m1,m2⟩:=show w4.cell? ⟨w1.heap.size,0,none⟩=some (.slice a1 n1 e1)∧w4.cell? ⟨w1.heap.size,1,none⟩=some (.slice a2' n2 e2)∧w4.cell? ⟨w1.heap.size,2,none⟩=some (.slice a3 n3 e3) from ⟨K3.cell 0,K3.cell 1,K3.cell 2⟩
 obtain ⟨o0,o1⟩:=show w4.cell? ⟨w3.heap.size,0,none⟩=some (.int .i64 0)∧w4.cell? ⟨w3.heap.size,1,none⟩=some (.slice (some ⟨w2.heap.size,0,none⟩) 8 8) from ⟨k4.cell 0,k4.cell 1⟩
 have hI:=makeI8 w2
 have hS:=makeSl ns hn
 have z1:w.heap.size+1+1<w1.heap.size:=Nat.lt_of_lt_of_le k2.lt b1.size
 have z3:w1.heap.size<w3.heap.size:=Nat.lt_of_lt_of_le k3.lt b3.size
 have y1:w1.heap.size≠w.heap.size+1+1:=by omega
 have y2:w3.heap.size≠w.heap.size+1+1:=by omega
 have y3:w.heap.size≠w.heap.size+1+1:=by omega
 have y4:w.heap.size+1+1≠w1.heap.size:=by omega
 have y5:w.heap.size+1+1≠w3.heap.size:=by omega
 have HSZ:=hide (show (w.heap.size≤w.heap.size+1+1∧w.heap.size+1+1<V.heap.size)∧V.heap.size≤w1.heap.size∧w1.heap.size<w2.heap.size∧w2.heap.size<w3.heap.size∧w3.heap.size<w4.heap.size from ⟨⟨by omega,k2.lt⟩,b1.size,k3.lt,r3.lt,k4.lt⟩)
 have HW2:=hide hw2
 have HW3:=hide hw3
 have HW4:=hide hw4
 have HE:=hide (And.intro K2 (And.intro (bV.trans (b14.mono bV.size)) (And.intro (And.intro O1 (And.intro b14 b24)) (r3.below b4))))
 clear p0 p1 p2 p3 p4 p5 hw2 hw3 hw4 b1 b2 b3 b4 b34 b24 b14 k0 k2 k3 k4 r3 K0 K2 K3 O1 bV HK CI
 go_wp2_with (first | rw [← HW2.out] | rw [← HW3.out] | rw [← HW4.out])
 have y6:w.heap.size+1+1≠w.heap.size:=by omega
 generalize w.heap.size+1+1=q at *
 have K5:=HE.out.1.alloc (.cells (sl0 ns) 134)
 unfold z15 at K5
 obtain ⟨c0,c1,c2,c3,c4,c5,c6,c7,c8,c9,c10,c11,c12,c13,c14⟩:=K5.mc
 have f0:=K5.frozen 0
 have f1:=K5.frozen 1
 have f2:=K5.frozen 2
 have f3:=K5.frozen 3
 have f4:=K5.frozen 4
 have f5:=K5.frozen 5
 have f6:=K5.frozen 6
 have f7:=K5.frozen 7
 have f8:=K5.frozen 8
 have f9:=K5.frozen 9
 have f10:=K5.frozen 10
 have f11:=K5.frozen 11
 have f12:=K5.frozen 12
 have f13:=K5.frozen 13
 have f14:=K5.frozen 14
 clear K5
 go_region_held3 (fun w'=>w'.cell? ⟨w.heap.size,0,none⟩=some (.int .i64 (ns:Nat))∧w'.cell? ⟨w.heap.size,1,none⟩=some (.int .i64 x2)∧w'.cell? ⟨w.heap.size,2,none⟩=some (.int .i64 x3)∧w'.cell? ⟨w.heap.size,3,none⟩=some (.int .i64 x4)∧w'.cell? ⟨w1.heap.size,0,none⟩=some (.slice a1 n1 e1)∧w'.cell? ⟨w1.heap.size,1,none⟩=some (.slice a2' n2 e2)∧w'.cell? ⟨w1.heap.size,2,none⟩=some (.slice a3 n3 e3)∧w'.cell? ⟨w3.heap.size,0,none⟩=some (.int .i64 0)∧w'.cell? ⟨w3.heap.size,1,none⟩=some (.slice (some ⟨w2.heap.size,0,none⟩) 8 8)) (go_keep)
  (fail)
 clear c0 f0 c1 f1 c2 f2 c3 f3 c4 f4 c5 f5 c6 f6 c7 f7 c8 f8 c9 f9 c10 f10 c11 f11 c12 f12 c13 f13 c14 f14
 go_wp2
 obtain ⟨K2,B4,⟨O1,b14,b24⟩,r3⟩:=HE.out
 obtain ⟨⟨s0,s1⟩,s2,s3,s4,s5⟩:=HSZ.out
 refine nm_end (K2.alloc (.cells (sl0 ns) 134)) _ _ _ _ _ _ _ _ _ _ _ _ _ _ _ _ _ rfl ?_
 have b5:Below w4.heap.size w4 (w4.alloc (.cells (sl0 ns) 134)):=(Below.refl _ _).alloc (Nat.le_refl _) _
 refine ⟨w2.heap.size,a1,n1,e1,a2',n2,e2,a3,n3,e3,w4.heap.size,rfl,?_,?_⟩
 ·refine NmO.below ?_ (Below.refl _ _).drew
  have T:=fun v0 v1 v2 v3 v4 v5 v6 v7 v8 v9 v10 v11 v12 v13 v14=>turn_st15 (w4.alloc (.cells (sl0 ns) 134)) q v0 v1 v2 v3 v4 v5 v6 v7 v8 v9 v10 v11 v12 v13 v14
  exact ⟨in0_oi (turn_blk (T _ _ _ _ _ _ _ _ _ _ _ _ _ _ _) (r3.below b5) (by omega)) (by omega),(((O1.below (b24.trans (b5.mono b24.size))).kept (T _ _ _ _ _ _ _ _ _ _ _ _ _ _ _) (fun j hj s=>by have:=(O1.lt hj).1;omega)).mono (by omega)),sl0_og (turn_blk (T _ _ _ _ _ _ _ _ _ _ _ _ _ _ _) (Blk.new w4 _ _) (by omega)) (by omega) hn⟩
 ·exact (below_turn (B4.trans (b5.mono B4.size)) (turn_st15 _ q _ _ _ _ _ _ _ _ _ _ _ _ _ _ _) (fun j hj=>by omega) (Nat.le_trans B4.size b5.size)).drew
theorem or_rowle {base n cap:Nat}{a:Option Addr}{w:World}{rs:List Rg}(h:ORg w base (.slice a n cap) rs)(k:Nat)(hk:(Value.slice a n cap).ownBlock=some k):base≤k:=by
 obtain ⟨hl,⟨h0,_⟩ | ⟨g',cap',cur,hv,hg,hh,h1,h2,h3,h4⟩⟩:=h.1
 ·rw [h0] at hk;cases hk
 ·rw [hv] at hk
  have e:some g'=some k:=hk
  injection e with e
  omega
theorem l6With_any (A:Option Addr)(m cap:Nat)(rs:List Rg)(f s:Int)(r x y:Bool)(base:Nat)(w:World)(hb:base≤w.heap.size)(h:ORg w base (.slice A m cap) rs)(hf:wfi f)(hs:wfi s)(hm:m≤1000000):
 Calls Tryz.prog 134 #[.slice A m cap,.int .i64 f,.int .i64 s,.bool r,.bool x,.bool y] w fun e w'=>∃ A' m' cap',e=.returned (.slice A' m' cap')∧m'=m+(cvL f s).length∧ORg w' base (.slice A' m' cap') (rs++rts r x y (cvL f s))∧Below base w w':=by
 obtain ⟨i0,hi,hz0,hz1,hz2⟩:=info_parts infoR
 have HC:=hide (sCover_any f s w (by unfold wfi at hf;omega) (by unfold wfi at hs;omega))
 have HL:=hide (cvL_len f s)
 have HO0:=hide h
 have HLEN0:=hide (or_rs h).1
 generalize cvL f s=C at *
 clear h
 go_enter Tryz.func134,Tryz.ntmps134
 go_wp2_with fail
 refine HC.out.mono ?_
 rintro e w2 ⟨c,n,cc,rfl,hC,hB2⟩
 have HN:=hide (or_rs hC).1
 have hn:n≤8192:=by have:=HN.out;have:=HL.out;omega
 have HX:=hide (And.intro hC hB2)
 have HO2:=hide (turn_or' (turn_below hB2) HO0.out (fun k hk h=>by exact h))
 clear hC hB2
 go_wp2_with fail
 go_loopw [0,15] (fun o i wr=>∃ (A':Option Addr) (m' cap' k:Nat),k≤n∧m'=m+k∧o=.slice A' m' cap'∧i=.int .i64 k∧ORg wr base (.slice A' m' cap') (rs++(rts r x y C).take k)∧ORg wr w.heap.size (.slice c n cc) C∧(∀ j,(Value.slice A' m' cap').ownBlock=some j→¬ (Value.slice c n cc).ownBlock=some j)∧Below base w wr) (fun _ i _=>n - (intOf i).toNat)
 case atStart=>exact ⟨A,m,cap,0,Nat.zero_le _,rfl,rfl,rfl,by simpa using HO2.out,HX.out.1,fun j h1 h2=>by have:=or_lt HO0.out j h1;have:=or_rowle HX.out.1 j h2;omega,HX.out.2.mono hb⟩
 case round=>
  obtain ⟨A',m',cap',k,hk,hm',rfl,rfl,hO,hC,hd,hB⟩:=hrel
  by_cases hlt:k<n
  ·have hlt':(k:Int)<(n:Int):=by omega
   obtain ⟨b,off,rfl⟩:=(or_rs hC).some (by omega)
   have hat:=(or_rs hC).at k hlt
   have hC2:=hC.2 (C.getD k z6) (by
    have:k<C.length:=by rw [HN.out];exact hlt
    simp [List.getD_eq_getElem?_getD,this])
   have HT:=hide (rts_step r x y C k (by rw [HN.out];exact hlt))
   generalize hG:C.getD k z6=G at *
   obtain ⟨g1,g2,g3,g4,g5,g6⟩:=G
   have HG:=hide hG
   obtain ⟨p0,p1,p2,p3,p4,p5⟩:=hat
   obtain ⟨W1,hW1⟩:∃ W1,W1=wr.alloc (.cells #[.int .i64 g1,.int .i64 g2,.int .i64 g3,.bool g4,.bool g5,.bool g6] 158):=⟨_,rfl⟩
   have K1:Blk W1 wr.heap.size #[.int .i64 g1,.int .i64 g2,.int .i64 g3,.bool g4,.bool g5,.bool g6] 158:=by rw [hW1];exact Blk.new _ _ _
   have B1:Below wr.heap.size wr W1:=by rw [hW1];exact (Below.refl _ _).alloc (Nat.le_refl _) _
   have s1:W1.heap.size=wr.heap.size+1:=by rw [hW1];simp
   obtain ⟨W2,hW2⟩:∃ W2,W2=((W1.setCell ⟨wr.heap.size,3,none⟩ (.bool r)).setCell ⟨wr.heap.size,4,none⟩ (.bool x)).setCell ⟨wr.heap.size,5,none⟩ (.bool y):=⟨_,rfl⟩
   have K2:Blk W2 wr.heap.size #[.int .i64 g1,.int .i64 g2,.int .i64 g3,.bool r,.bool x,.bool y] 158:=by
    rw [hW2];exact ((K1.set 3 (.bool r)).set 4 (.bool x)).set 5 (.bool y)
   have B2:Below wr.heap.size wr W2:=by rw [hW2];exact ((B1.setCell (Nat.le_refl _) _).setCell (Nat.le_refl _) _).setCell (Nat.le_refl _) _
   have s2:W2.heap.size=wr.heap.size+1:=by rw [hW2];simp [s1]
   have BB:Below wr.heap.size wr (W2.alloc (.cells #[.int .i64 g1,.int .i64 g2,.int .i64 g3,.bool r,.bool x,.bool y] 158)):=B2.alloc (by rw [s2];omega) _
   have HOW:=hide (show (W2.alloc (.cells #[.int .i64 g1,.int .i64 g2,.int .i64 g3,.bool r,.bool x,.bool y] 158)).ownsRow base 158 6 (.slice A' m' cap') m' (flat (rs++(rts r x y C).take k)) from by
    have:=(turn_or' (turn_below BB) hO (fun _ _ h=>h)).1
    rwa [(or_rs hO).1] at this)
   have HNEWS:=hide (by have:=news6 W2 (g1,g2,g3,r,x,y);rw [s2] at this;exact this)
   have HMM:=hide hm'
   have HONE:=hide (one6 (g1,g2,g3,r,x,y))
   have HRS:=hide hO.2
   have HLB:=hide (or_lt hO)
   have HGE:=hide (or_rowle hO)
   have HCW:=hide (turn_or' (turn_below BB) hC (fun _ _ h=>h))
   have HCL:=hide (or_lt hC)
   have HD:=hide hd
   have HML:=hide (or_rs hO).1
   have HSZ:=hide (show base≤(W2.alloc (.cells #[.int .i64 g1,.int .i64 g2,.int .i64 g3,.bool r,.bool x,.bool y] 158)).heap.size from by have:=hB.size;simp;omega)
   have HSY:=hide (show (W2.alloc (.cells #[.int .i64 g1,.int .i64 g2,.int .i64 g3,.bool r,.bool x,.bool y] 158)).heap.size=wr.heap.size+2 from by simp [s2])
   have HB3:=hide (show Below base w (W2.alloc (.cells #[.int .i64 g1,.int .i64 g2,.int .i64 g3,.bool r,.bool x,.bool y] 158)) from hB.trans (BB.mono (by have:=hB.size;omega)))
   have HG2:=hide hC2
   obtain ⟨q1,q2,q3,q4,q5,q6,q7⟩:=K1.six'
   obtain ⟨u1,u2,u3,u4,u5,u6,u7⟩:=K2.six'
   have HW1:=hide hW1
   have HW2:=hide hW2
   clear hW1 hW2 K1 K2 B1 B2 BB hO hC hd hB hC2 hG hm'
   generalize hW3:W2.alloc (.cells #[.int .i64 g1,.int .i64 g2,.int .i64 g3,.bool r,.bool x,.bool y] 158)=W3 at *
   have HW3:=hide hW3
   clear hW3
   go_wp2_with (first | rw [← HW1.out] | rw [← HW2.out] | rw [HW3.out] | (at_builtin;refine wpList_append_own_at _ rfl _ _ 68 rfl base 158 i0 (.agg #[.int .i64 0,.int .i64 0,.int .i64 0,.bool false,.bool false,.bool false]) 6 32 Tryz.underlying68 hi hz0 hz1 hz2 rfl (by decide) (.slice A' m' cap') m' (flat (rs++(rts r x y C).take k)) rfl HOW.out ⟨wr.heap.size+1,0,none⟩ 1 1 (cells6 (g1,g2,g3,r,x,y)) rfl rfl HNEWS.out HONE.out (by have:=HMM.out;unfold maxLen;omega) (by have:=HMM.out;omega) HSZ.out ?_;intro v' w3 hown3 hgr3 _ hat3;have HP:=hide (And.intro hown3 (And.intro hgr3 hat3));clear hown3 hgr3 hat3;obtain ⟨A2,cap2,he⟩:=or_shape HP.out.1;subst he))
   have t3:=grown_turn HP.out.2.1
   refine ⟨⟨A2,m'+1,cap2,k+1,by omega,by have:=HMM.out;omega,rfl,by go_num,?_,?_,?_,?_⟩,by simp [intOf];omega⟩
   ·rw [HT.out,← List.append_assoc]
    refine or_more (W:=W3) (v:=.slice A' m' cap') HRS.out HG2.out ?_
    rw [HML.out]
    exact HP.out.1
   ·exact turn_or' t3 HCW.out (fun j hj h=>HD.out j h hj)
   ·intro j h1 h2
    rcases HP.out.2.2 with h | h
    ·exact HD.out j (h ▸ h1) h2
    ·rw [h1] at h
     injection h with h
     have:=HCL.out j h2
     have:=HSY.out
     omega
   ·exact below_turn HB3.out t3 (fun j hj=>HGE.out j hj) HSZ.out
  ·have HE:=hide (show k=n by omega)
   have HF:=hide (And.intro hO hB)
   clear hO hC hd hB
   go_wp2
   go_ret
   refine ⟨A',m',cap',rfl,by rw [hm',HE.out,HN.out],?_,HF.out.2⟩
   have:=HF.out.1
   rwa [List.take_of_length_le (by rw [rts_len,HE.out,HN.out];exact Nat.le_refl _)] at this
theorem stackEnd_any (L:Lay)(a0:Option Addr)(c0:Nat)(xs:List PB)(a2:Option Addr)(c2:Nat)(a5:Option Addr)(c5:Nat)(ts:List TB)(w:World)(h:LyT w L a0 c0 xs a2 c2 a5 c5 ts):
 Calls Tryz.prog 185 #[.agg #[.slice a0 xs.length c0,.int .i64 L.stack,.slice a2 L.slots.length c2,.int .i64 L.flash,.int .i64 L.ram,.slice a5 ts.length c5]] w fun e w'=>e=.returned (.int .i64 (endOf L))∧Below w.heap.size w w':=by
 have HB:=hide (show Below w.heap.size w (w.alloc (.cells #[.slice a0 xs.length c0,.int .i64 L.stack,.slice a2 L.slots.length c2,.int .i64 L.flash,.int .i64 L.ram,.slice a5 ts.length c5] 36)) from (Below.refl _ _).alloc (Nat.le_refl _) _)
 have hs:=h.s.below HB.out
 have hmx:=h.s.2.1
 unfold maxLen at hmx
 unfold endOf
 by_cases c:L.slots=[]
 ·rw [if_pos c]
  have hl:L.slots.length=0:=by rw [c];rfl
  rw [hl]
  rw [hl] at HB
  go_enter Tryz.func185,Tryz.ntmps185
  go_wp2
  go_ret
  exact ⟨rfl,HB.out⟩
 ·rw [if_neg c]
  have hl:0<L.slots.length:=List.length_pos_iff.2 c
  have hl':(0:Int)<(L.slots.length:Int):=by omega
  obtain ⟨b,off,rfl,hc⟩:=hs.2.2.2.1 (by omega)
  have q:=hc 0 hl
  rw [Nat.add_zero] at q
  generalize L.slots.length=n at *
  generalize L.slots.getD 0 0=z at *
  clear hs hc c
  go_enter Tryz.func185,Tryz.ntmps185
  go_wp2
  go_ret
  exact ⟨rfl,HB.out⟩
def pcm (ms:List Md)(m b:Int):Int:=if 0≤m∧m<(ms.length:Int) then pcn (ms.getD m.toNat zMd).tn (ms.getD m.toNat zMd).bn (ms.getD m.toNat zMd).bl b else -1
def orgn (L:Lay)(P:PB)(b s:Int):Int:=if b=-1 then P.1.text else if s=-1 then P.1.banks.getD b.toNat 0 else L.slots.getD s.toNat 0
theorem originOf_any (L:Lay)(a0:Option Addr)(c0:Nat)(xs:List PB)(a2:Option Addr)(c2:Nat)(a5:Option Addr)(c5:Nat)(ts:List TB)(m b at' s:Int)(w:World)(h:LyT w L a0 c0 xs a2 c2 a5 c5 ts)
 (hm0:0≤m) (hm1:m<(xs.length:Int)) (hb:b=-1∨(0≤b∧b<((xs.getD m.toNat zPB).1.banks.length:Int))) (hs:s=-1∨(b≠-1∧0≤s∧s<(L.slots.length:Int))):
 Calls Tryz.prog 186 #[.agg #[.slice a0 xs.length c0,.int .i64 L.stack,.slice a2 L.slots.length c2,.int .i64 L.flash,.int .i64 L.ram,.slice a5 ts.length c5],.agg #[.int .i64 m,.int .i64 b,.int .i64 at'],.int .i64 s] w fun e w'=>e=.returned (.int .i64 (orgn L (xs.getD m.toNat zPB) b s))∧Below w.heap.size w w':=by
 obtain ⟨W,hW⟩:∃ W,W=(w.alloc (.cells #[.slice a0 xs.length c0,.int .i64 L.stack,.slice a2 L.slots.length c2,.int .i64 L.flash,.int .i64 L.ram,.slice a5 ts.length c5] 36)).alloc (.cells #[.int .i64 m,.int .i64 b,.int .i64 at'] 71):=⟨_,rfl⟩
 have hB:Below w.heap.size w W:=by rw [hW];exact ((Below.refl _ _).alloc (Nat.le_refl _) _).alloc (by simp) _
 have HB:=hide hB
 have h1:=h.below hB
 have k0:Blk W w.heap.size #[.slice a0 xs.length c0,.int .i64 L.stack,.slice a2 L.slots.length c2,.int .i64 L.flash,.int .i64 L.ram,.slice a5 ts.length c5] 36:=by rw [hW];exact (Blk.new w _ _).alloc _
 have k1:Blk W (w.heap.size+1) #[.int .i64 m,.int .i64 b,.int .i64 at'] 71:=by rw [hW];have:=Blk.new (w.alloc (.cells #[.slice a0 xs.length c0,.int .i64 L.stack,.slice a2 L.slots.length c2,.int .i64 L.flash,.int .i64 L.ram,.slice a5 ts.length c5] 36)) #[.int .i64 m,.int .i64 b,.int .i64 at'] 71;simpa using this
 have hz:W.heap.size=w.heap.size+1+1:=by rw [hW];simp
 have HZ:=hide hz
 clear hz
 have d0:W.cell? ⟨w.heap.size,0,none⟩=some (.slice a0 xs.length c0):=k0.cell 0
 have d2:W.cell? ⟨w.heap.size,2,none⟩=some (.slice a2 L.slots.length c2):=k0.cell 2
 have t0:W.cell? ⟨w.heap.size+1,0,none⟩=some (.int .i64 m):=k1.cell 0
 have t1:W.cell? ⟨w.heap.size+1,1,none⟩=some (.int .i64 b):=k1.cell 1
 obtain ⟨g,off,rfl,q0,q1,q2,q3⟩:=h1.p.at m.toNat (by omega)
 have hbk:=h1.p.2.2.2.1 m.toNat (by omega)
 have hsl:=h1.s
 have hmx:=h1.p.2.1
 have hmy:=hsl.2.1
 have hmz:=hbk.2.1
 unfold maxLen at hmx hmy hmz
 unfold svP at q1
 generalize xs.getD m.toNat zPB=P at *
 have HW:=hide hW
 clear hW hB k0 k1 h1 h
 rcases hb with rfl | ⟨hb0,hb1⟩
 ·obtain rfl:s=-1:=by rcases hs with h | h;exact h;exact absurd rfl h.1
  have HO:=hide (show orgn L P (-1) (-1)=P.1.text from rfl)
  rw [HO.out]
  clear hs hbk hsl
  generalize P.1.text=x at *
  generalize xs.length=n at *
  generalize L.slots.length=l at *
  go_enter Tryz.func186,Tryz.ntmps186
  go_wp2_with (rw [← HW.out])
  go_ret
  exact ⟨rfl,(by first | exact HB.out | exact HB.out.drew)⟩
 ·have hb2:¬ b=-1:=by omega
  have hb3:(b == -1)=false:=by simpa using hb2
  rcases hs with rfl | ⟨_,hs0,hs1⟩
  ·have HO:=hide (show orgn L P b (-1)=P.1.banks.getD b.toNat 0 by unfold orgn;rw [if_neg hb2,if_pos rfl])
   rw [HO.out]
   obtain ⟨u,v,e,hc⟩:=hbk.2.2.2.1 (by omega)
   have qq:=hc b.toNat (by omega)
   rw [e] at q1
   clear hbk hsl e hc HO
   generalize P.1.banks.getD b.toNat 0=x at *
   generalize P.1.banks.length=y at *
   generalize xs.length=n at *
   generalize L.slots.length=l at *
   go_enter Tryz.func186,Tryz.ntmps186
   go_wp2_with (rw [← HW.out])
   go_region_held3 (fun w'=>w'.cell? ⟨w.heap.size,0,none⟩=some (.slice (some ⟨g,off,none⟩) n c0)∧w'.cell? ⟨w.heap.size+1,0,none⟩=some (.int .i64 m)∧w'.cell? ⟨w.heap.size+1,1,none⟩=some (.int .i64 b)∧w'.cell? ⟨g,off+m.toNat * 4+1,none⟩=some (.slice (some ⟨u,v,none⟩) y P.2.2)∧w'.cell? ⟨u,v+b.toNat,none⟩=some (.int .i64 x)) (go_keep) (fail)
   go_wp2
   go_ret
   exact ⟨rfl,(by first | exact HB.out | exact HB.out.drew)⟩
  ·have hs2:¬ s=-1:=by omega
   have hs3:(s == -1)=false:=by simpa using hs2
   have HO:=hide (show orgn L P b s=L.slots.getD s.toNat 0 by unfold orgn;rw [if_neg hb2,if_neg hs2])
   rw [HO.out]
   obtain ⟨u,v,e,hc⟩:=hsl.2.2.2.1 (by omega)
   have qq:=hc s.toNat (by omega)
   rw [e] at d2
   clear hbk hsl e hc HO
   generalize L.slots.getD s.toNat 0=x at *
   generalize P.1.banks.length=y at *
   generalize xs.length=n at *
   generalize L.slots.length=l at *
   go_enter Tryz.func186,Tryz.ntmps186
   go_wp2_with (rw [← HW.out])
   go_ret
   exact ⟨rfl,(by first | exact HB.out | exact HB.out.drew)⟩
theorem l6Origin_any (L:Lay)(a0:Option Addr)(c0:Nat)(xs:List PB)(a2:Option Addr)(c2:Nat)(a5:Option Addr)(c5:Nat)(ts:List TB)(m b at' s:Int)(w:World)(h:LyT w L a0 c0 xs a2 c2 a5 c5 ts)
 (hm0:0≤m) (hm1:m<(xs.length:Int)) (hb:b=-1∨(0≤b∧b<((xs.getD m.toNat zPB).1.banks.length:Int))) (hs:s=-1∨(b≠-1∧0≤s∧s<(L.slots.length:Int))):
 Calls Tryz.prog 135 #[.agg #[.slice a0 xs.length c0,.int .i64 L.stack,.slice a2 L.slots.length c2,.int .i64 L.flash,.int .i64 L.ram,.slice a5 ts.length c5],.agg #[.int .i64 m,.int .i64 b,.int .i64 at'],.int .i64 s] w fun e w'=>e=.returned (.int .i64 (orgn L (xs.getD m.toNat zPB) b s))∧Below w.heap.size w w':=by
 obtain ⟨W,hW⟩:∃ W,W=(w.alloc (.cells #[.slice a0 xs.length c0,.int .i64 L.stack,.slice a2 L.slots.length c2,.int .i64 L.flash,.int .i64 L.ram,.slice a5 ts.length c5] 36)).alloc (.cells #[.int .i64 m,.int .i64 b,.int .i64 at'] 71):=⟨_,rfl⟩
 have hB:Below w.heap.size w W:=by rw [hW];exact ((Below.refl _ _).alloc (Nat.le_refl _) _).alloc (by simp) _
 have HB:=hide hB
 have h1:=h.below hB
 have k0:Blk W w.heap.size #[.slice a0 xs.length c0,.int .i64 L.stack,.slice a2 L.slots.length c2,.int .i64 L.flash,.int .i64 L.ram,.slice a5 ts.length c5] 36:=by rw [hW];exact (Blk.new w _ _).alloc _
 have k1:Blk W (w.heap.size+1) #[.int .i64 m,.int .i64 b,.int .i64 at'] 71:=by rw [hW];have:=Blk.new (w.alloc (.cells #[.slice a0 xs.length c0,.int .i64 L.stack,.slice a2 L.slots.length c2,.int .i64 L.flash,.int .i64 L.ram,.slice a5 ts.length c5] 36)) #[.int .i64 m,.int .i64 b,.int .i64 at'] 71;simpa using this
 have hz:W.heap.size=w.heap.size+1+1:=by rw [hW];simp
 have HZ:=hide hz
 clear hz
 have d0:W.cell? ⟨w.heap.size,0,none⟩=some (.slice a0 xs.length c0):=k0.cell 0
 have d2:W.cell? ⟨w.heap.size,2,none⟩=some (.slice a2 L.slots.length c2):=k0.cell 2
 have t0:W.cell? ⟨w.heap.size+1,0,none⟩=some (.int .i64 m):=k1.cell 0
 have t1:W.cell? ⟨w.heap.size+1,1,none⟩=some (.int .i64 b):=k1.cell 1
 obtain ⟨g,off,rfl,q0,q1,q2,q3⟩:=h1.p.at m.toNat (by omega)
 have hbk:=h1.p.2.2.2.1 m.toNat (by omega)
 have hsl:=h1.s
 have hmx:=h1.p.2.1
 have hmy:=hsl.2.1
 have hmz:=hbk.2.1
 unfold maxLen at hmx hmy hmz
 unfold svP at q1
 generalize xs.getD m.toNat zPB=P at *
 have kA:=k0.alloc (.cells #[.int .i64 P.1.text,.slice P.2.1 P.1.banks.length P.2.2,.int .i64 P.1.data,.int .i64 P.1.size] 138)
 have kB:=k1.alloc (.cells #[.int .i64 P.1.text,.slice P.2.1 P.1.banks.length P.2.2,.int .i64 P.1.data,.int .i64 P.1.size] 138)
 have kC:=Blk.new W #[.int .i64 P.1.text,.slice P.2.1 P.1.banks.length P.2.2,.int .i64 P.1.data,.int .i64 P.1.size] 138
 have v2:(W.alloc (.cells #[.int .i64 P.1.text,.slice P.2.1 P.1.banks.length P.2.2,.int .i64 P.1.data,.int .i64 P.1.size] 138)).cell? ⟨w.heap.size,2,none⟩=some (.slice a2 L.slots.length c2):=kA.cell 2
 have v1:(W.alloc (.cells #[.int .i64 P.1.text,.slice P.2.1 P.1.banks.length P.2.2,.int .i64 P.1.data,.int .i64 P.1.size] 138)).cell? ⟨w.heap.size+1,1,none⟩=some (.int .i64 b):=kB.cell 1
 have u0:(W.alloc (.cells #[.int .i64 P.1.text,.slice P.2.1 P.1.banks.length P.2.2,.int .i64 P.1.data,.int .i64 P.1.size] 138)).cell? ⟨W.heap.size,0,none⟩=some (.int .i64 P.1.text):=kC.cell 0
 have u1:(W.alloc (.cells #[.int .i64 P.1.text,.slice P.2.1 P.1.banks.length P.2.2,.int .i64 P.1.data,.int .i64 P.1.size] 138)).cell? ⟨W.heap.size,1,none⟩=some (.slice P.2.1 P.1.banks.length P.2.2):=kC.cell 1
 have HBV:=hide (show Below W.heap.size W (W.alloc (.cells #[.int .i64 P.1.text,.slice P.2.1 P.1.banks.length P.2.2,.int .i64 P.1.data,.int .i64 P.1.size] 138)) from (Below.refl _ _).alloc (Nat.le_refl _) _)
 have HBW:=hide (show Below w.heap.size w (W.alloc (.cells #[.int .i64 P.1.text,.slice P.2.1 P.1.banks.length P.2.2,.int .i64 P.1.data,.int .i64 P.1.size] 138)) from hB.alloc hB.size _)
 have HW:=hide hW
 clear hW hB k0 k1 h1 h kA kB kC
 rcases hb with rfl | ⟨hb0,hb1⟩
 ·obtain rfl:s=-1:=by rcases hs with h | h;exact h;exact absurd rfl h.1
  have HO:=hide (show orgn L P (-1) (-1)=P.1.text from rfl)
  rw [HO.out]
  clear hs hbk hsl
  generalize P.1.text=x at *
  generalize xs.length=n at *
  generalize L.slots.length=l at *
  go_enter Tryz.func135,Tryz.ntmps135
  go_wp2_with (rw [← HW.out])
  all_goals go_ret
  all_goals exact ⟨rfl,(by first | exact HBW.out | exact HBW.out.drew | exact HB.out | exact (HB.out.alloc HB.out.size _) | exact ((HB.out.alloc HB.out.size _).setCells (by omega) _))⟩
 ·have hb2:¬ b=-1:=by omega
  have hb3:(b == -1)=false:=by simpa using hb2
  rcases hs with rfl | ⟨_,hs0,hs1⟩
  ·have HO:=hide (show orgn L P b (-1)=P.1.banks.getD b.toNat 0 by unfold orgn;rw [if_neg hb2,if_pos rfl])
   rw [HO.out]
   obtain ⟨u,v,e,hc⟩:=hbk.2.2.2.1 (by omega)
   have qq:=hc b.toNat (by omega)
   have qv:=cell_below HBV.out qq
   rw [e] at q1
   rw [e] at u1 u0 v1 v2 qv HBW
   clear HBV
   clear hbk hsl e hc HO
   generalize P.1.banks.getD b.toNat 0=x at *
   generalize P.1.banks.length=y at *
   generalize xs.length=n at *
   generalize L.slots.length=l at *
   go_enter Tryz.func135,Tryz.ntmps135
   go_wp2_with (rw [← HW.out])
   all_goals go_ret
   all_goals exact ⟨rfl,(by first | exact HBW.out | exact HBW.out.drew | exact HB.out | exact (HB.out.alloc HB.out.size _) | exact ((HB.out.alloc HB.out.size _).setCells (by omega) _))⟩
  ·have hs2:¬ s=-1:=by omega
   have hs3:(s == -1)=false:=by simpa using hs2
   have HO:=hide (show orgn L P b s=L.slots.getD s.toNat 0 by unfold orgn;rw [if_neg hb2,if_neg hs2])
   rw [HO.out]
   obtain ⟨u,v,e,hc⟩:=hsl.2.2.2.1 (by omega)
   have qq:=hc s.toNat (by omega)
   have qv:=cell_below HBV.out qq
   rw [e] at d2 v2
   clear HBV
   clear hbk hsl e hc HO
   generalize L.slots.getD s.toNat 0=x at *
   generalize P.1.banks.length=y at *
   generalize xs.length=n at *
   generalize L.slots.length=l at *
   go_enter Tryz.func135,Tryz.ntmps135
   go_wp2_with (rw [← HW.out])
   all_goals go_ret
   all_goals exact ⟨rfl,(by first | exact HBW.out | exact HBW.out.drew | exact HB.out | exact (HB.out.alloc HB.out.size _) | exact ((HB.out.alloc HB.out.size _).setCells (by omega) _))⟩
def pcq (ps:List PMod)(m b:Int):Int:=
 if 0≤m∧m<(ps.length:Int) then (if b=-1 then ((ps.getD m.toNat zP).tz.length:Int) else if 0≤b∧b<((ps.getD m.toNat zP).bl.length:Int) then (((ps.getD m.toNat zP).bl.getD b.toNat []).length:Int) else -1) else -1
theorem pcm_pcq {w:World}{a:Option Addr}{n cap:Nat}{ms:List Md}(h:MSD w a n cap ms)(m b:Int):pcm ms m b=pcq (pmS ms) m b:=by
 have hn:=h.s.1
 unfold pcm pcq
 rw [pmS_len]
 by_cases c:0≤m∧m<(ms.length:Int)
 ·rw [if_pos c,if_pos c,pmS_at (by omega)]
  have hd:=h.d m.toNat (by omega)
  generalize ms.getD m.toNat zMd=M at *
  have ht:M.tn=M.pm.tz.length:=hd.t.1.symm
  have hb:M.bn=M.pm.bl.length:=by simp [Md.pm,hd.b.1]
  unfold pcn
  rw [ht,hb]
  by_cases c1:b=-1
  ·rw [if_pos c1,if_pos c1]
  ·rw [if_neg c1,if_neg c1]
   by_cases c2:0≤b∧b<(M.pm.bl.length:Int)
   ·rw [if_pos c2,if_pos c2]
    have hr:=(hd.b.2.2.2.1 b.toNat (by omega)).1
    rw [← hr]
    congr 1
    have:b.toNat<M.bl.length:=by rw [hd.b.1,hb];omega
    simp [Md.pm,List.getD_eq_getElem?_getD,this]
   ·rw [if_neg c2,if_neg c2]
 ·rw [if_neg c,if_neg c]
def orgq (L:Lay)(p:Pl)(b s:Int):Int:=if b=-1 then p.text else if s=-1 then p.banks.getD b.toNat 0 else L.slots.getD s.toNat 0
abbrev sOk (L:Lay)(b s:Int):Prop:=if b=-1∨L.slots=[] then s=-1 else 0≤s∧s<(L.slots.length:Int)
theorem sOk.fit {L:Lay}{b s:Int}(h:sOk L b s):s=-1∨(b≠-1∧0≤s∧s<(L.slots.length:Int)):=by
 unfold sOk at h
 split at h
 ·exact .inl h
 ·rename_i c
  exact .inr ⟨fun e=>c (.inl e),h⟩
structure Pkn (ps:List PMod)(L:Lay)(xs:List PB)(m b s:Int):Prop where
 m0:0≤m
 m1:m<(xs.length:Int)
 m2:m<(ps.length:Int)
 p:(xs.getD m.toNat zPB).1=plc ps m.toNat
 bb:b=-1∨(0≤b∧b<((xs.getD m.toNat zPB).1.banks.length:Int))
 w:0≤pcq ps m b∧pcq ps m b≤200
 d:65536≤(plc ps m.toNat).data∧(plc ps m.toNat).data≤100000∧0≤(plc ps m.toNat).size∧(plc ps m.toNat).size≤100000
 t:65536≤L.stack∧L.stack≤100000
 e:65536≤endOf L∧endOf L≤100000
theorem lok_end {ps:List PMod}{L:Lay}(h:Lok ps L):65536≤endOf L∧endOf L≤100000:=by
 have K:=lok_kn h
 obtain ⟨h1,h2⟩:=h
 have e:lay ps (L.slots.length:Int) (cfW L) (cfK L)=L:=by unfold lkL at h2;rw [if_pos h1] at h2;exact h2
 obtain ⟨hc,n1,n2,hv,hi⟩:=lkc_facts h1
 unfold cfo at hc
 simp at hc
 have a2:=Ra_range hv ps.length (Nat.le_refl _)
 have a3:(0:Int)≤((L.slots.length:Int).toNat:Int) * rnd (4 * cfW L):=Int.mul_nonneg (by omega) (by have:=rnd_range (x:=4 * cfW L) (by omega);omega)
 have e2:L.ram=Ra ps ps.length+cfK L+((L.slots.length:Int).toNat:Int) * rnd (4 * cfW L):=by
  have:=congrArg Lay.ram e
  rw [← this];rfl
 have rr:=K.rr
 unfold endOf
 by_cases c:L.slots=[]
 ·rw [if_pos c]
  have:wrap64 (65536+L.ram)=65536+L.ram:=by unfold wrap64;omega
  rw [this]
  omega
 ·rw [if_neg c]
  have hl:0<L.slots.length:=List.length_pos_iff.2 c
  have e3:L.slots.getD 0 0=slt ps (cfW L) (cfK L) 0:=by
   have:=congrArg Lay.slots e
   have e4:L.slots=(List.range (L.slots.length:Int).toNat).map (slt ps (cfW L) (cfK L)):=by
    conv=>lhs;rw [← this]
    rfl
   rw [e4]
   simp [List.getD_eq_getElem?_getD,hl]
  rw [e3]
  unfold slt
  simp only [Int.natCast_zero,Int.zero_mul]
  omega
theorem pkn_of {w:World}{L:Lay}{a0:Option Addr}{c0:Nat}{xs:List PB}{a2:Option Addr}{c2:Nat}{a5:Option Addr}{c5:Nat}{ts:List TB}{ps:List PMod}{m b s:Int}
 (hL:LyT w L a0 c0 xs a2 c2 a5 c5 ts) (hk:Lok ps L) (hp:0≤pcq ps m b):Pkn ps L xs m b s:=by
 have K:=lok_kn hk
 have hm:0≤m∧m<(ps.length:Int):=by
  unfold pcq at hp
  split at hp
  ·assumption
  ·exact absurd hp (by decide)
 have hx:xs.length=ps.length:=by
  have:=congrArg List.length (hL.ps.trans K.pl)
  simpa using this
 have hpl:(xs.getD m.toNat zPB).1=plc ps m.toNat:=by
  rw [← K.place m.toNat (by omega),← hL.ps]
  simp [List.getD_eq_getElem?_getD,show m.toNat<xs.length by omega]
 have hv:=K.v m.toNat (by omega)
 obtain ⟨_,_,v3,v4,_,_,_,v8⟩:=vld_en hv
 have r1:=Ra_range K.v m.toNat (by omega)
 have r2:=Ra_range K.v ps.length (Nat.le_refl _)
 have r3:=dsz_range hv
 have n4:=K.n.2
 have n5:(m.toNat:Int)≤4:=by omega
 refine ⟨hm.1,by rw [hx];exact hm.2,hm.2,hpl,?_,⟨hp,?_⟩,?_,?_,lok_end hk⟩
 ·rw [hpl]
  unfold pcq at hp
  rw [if_pos hm] at hp
  by_cases c:b=-1
  ·exact .inl c
  ·rw [if_neg c] at hp
   right
   split at hp
   ·rename_i c2
    simpa [plc] using c2
   ·exact absurd hp (by decide)
 ·unfold pcq
  rw [if_pos hm]
  by_cases c:b=-1
  ·rw [if_pos c];omega
  ·rw [if_neg c]
   by_cases c2:0≤b∧b<((ps.getD m.toNat zP).bl.length:Int)
   ·rw [if_pos c2]
    have:=v8 b.toNat (by omega)
    omega
   ·rw [if_neg c2];omega
 ·have:(plc ps m.toNat).data=65536+Ra ps m.toNat:=rfl
  have e2:(plc ps m.toNat).size=dsz (ps.getD m.toNat zP):=rfl
  rw [this,e2]
  omega
 ·rw [K.st]
  have:(ps.length:Int)≤4:=by omega
  omega
theorem flat_u8 (zs:List Int):zs.flatMap (fun z=>[Value.int .u8 z])=zs.map (Value.int .u8):=flat_one _ zs
theorem ob_og {W:World}{base:Nat}{v:Value}{zs:List Int}(h:OB W base v zs):OG 5 1 (fun z=>[Value.int .u8 z]) W base v zs:=by
 unfold OG
 rw [flat_u8]
 exact h.1
theorem og_ob {W:World}{base:Nat}{v:Value}{zs:List Int}(h:OG 5 1 (fun z=>[Value.int .u8 z]) W base v zs)(hz:∀ z ∈ zs,0≤z∧z≤255):OB W base v zs:=by
 unfold OG at h
 rw [flat_u8] at h
 exact ⟨h,hz⟩
theorem l1Bytes_ob (b0:Nat)(a:Option Addr)(n cap:Nat)(zs:List Int)(w:World)(h:OB w b0 (.slice a n cap) zs)(hl:zs.length=n)(hn:n≤1048576):
 Calls Tryz.prog 213 #[.slice a n cap] w fun e w'=>∃ a cap',e=.returned (.slice a n cap')∧OB w' w.heap.size (.slice a n cap') zs∧Below w.heap.size w w':=by
 obtain ⟨i0,hi,hz0,hz1,hz2⟩:=info_parts info8
 have hsrc:=hide (ob_og (h.below ((Below.refl w.heap.size w).alloc (Nat.le_refl _) (.cells #[] 5))))
 have hz:=hide h.2
 have hown:=hide (og_new' 5 1 (fun z=>[Value.int .u8 z]) w w.heap.size (Nat.le_refl _))
 have hb:=hide ((Below.refl w.heap.size w).alloc (Nat.le_refl _) (.cells #[] 5))
 clear h
 go_enter Tryz.func213,Tryz.ntmps213
 go_wp2_with (at_builtin;refine list_copy rfl _ _ 41 rfl w.heap.size 5 i0 (.int .u8 0) 1 1 Tryz.underlying41 hi hz0 hz1 hz2 rfl (by decide) _ [] rfl hown.out b0 (.slice a n cap) zs rfl hsrc.out (fun _=>rfl) (fun y u hu=>by simp at hu;subst hu;rfl) (by unfold maxLen;simp;omega) (by simp;omega) (by simp) ?_;intro v' w1 hown1 hgr1)
 rw [List.nil_append] at hown1
 obtain ⟨a',c',rfl⟩:=og_shape hown1
 have HF:=hide (And.intro (og_ob hown1 hz.out) (below_turn hb.out (S:=fun k=>k=w.heap.size) ⟨hgr1.os,hgr1.tape,hgr1.output,hgr1.size,fun k hk hs=>hgr1.block k hk (fun e=>hs (by cases e;rfl))⟩ (fun k hk=>by omega) (by simp)))
 rw [hl] at HF ⊢
 clear hown1 hgr1
 go_ret
 exact ⟨a',c',rfl,HF.out.1,HF.out.2⟩
theorem below_row {b:Nat}{X W w6:World}{v:Value}(h:Below b X W)(hs:b≤W.heap.size)(hv:v.ownBlock=some b)(G:W.grownBy w6 v.ownBlock):Below b X w6:=below_turn h (S:=fun k=>k=b) ⟨G.os,G.tape,G.output,G.size,fun k hk hs=>G.block k hk (fun e=>hs (by rw [hv] at e;cases e;rfl))⟩ (fun k hk=>by omega) hs
structure Cpb (W0 X:World)(gm lo:Nat)(t1:Option Addr)(e1:Nat)(tz:List Int)(a2:Option Addr)(c2:Nat)(bl:List Bk)(nm v3 v4 v5 v6 v7:Value):Prop where
 c:Cpm W0 X gm #[nm,.slice t1 tz.length e1,.slice a2 bl.length c2,v3,v4,v5,v6,v7]
 t:OG 3 1 clI X W0.heap.size (.slice t1 tz.length e1) tz
 b:OBk X lo (.slice a2 bl.length c2) bl
 tl:∀ k,(Value.slice t1 tz.length e1).ownBlock=some k→k<lo
 gl:gm<lo
 lh:lo≤X.heap.size
section
variable {W0 X X' w' w4:World}{gm lo:Nat}{t1:Option Addr}{e1:Nat}{tz:List Int}{a2:Option Addr}{c2:Nat}{bl:List Bk}{nm v2 v3 v4 v5 v6 v7 u:Value}
theorem Cpb.below (h:Cpb W0 X gm lo t1 e1 tz a2 c2 bl nm v3 v4 v5 v6 v7)(hb:Below X.heap.size X X'):Cpb W0 X' gm lo t1 e1 tz a2 c2 bl nm v3 v4 v5 v6 v7:=⟨h.c.below hb,h.t.below hb,h.b.turn (S:=fun _=>False) (turn_below hb) (fun _ s=>absurd s id),h.tl,h.gl,Nat.le_trans h.lh hb.size⟩
theorem below_grownN {t:TypeId}(G:(X.alloc (.cells #[] t)).grownBy w' (some X.heap.size)):Below X.heap.size X w':=below_turn ((Below.refl _ _).alloc (Nat.le_refl _) (.cells #[] t)) (S:=fun k=>k=X.heap.size) ⟨G.os,G.tape,G.output,G.size,fun k hk hs=>G.block k hk (fun e=>hs (by cases e;rfl))⟩ (fun k hk=>by omega) (by simp)
theorem Cpb.new (h:Cpm W0 X gm #[nm,.slice t1 tz.length e1,v2,v3,v4,v5,v6,v7])(ht:OG 3 1 clI X W0.heap.size (.slice t1 tz.length e1) tz):Cpb W0 ((X.alloc (.cells #[] 24)).setCell ⟨gm,2,none⟩ (.slice (some ⟨X.heap.size,0,none⟩) 0 0)) gm X.heap.size t1 e1 tz (some ⟨X.heap.size,0,none⟩) 0 [] nm v3 v4 v5 v6 v7:=by
 have hb:Below X.heap.size X (X.alloc (.cells #[] 24)):=(Below.refl _ _).alloc (Nat.le_refl _) _
 have c1:=h.below hb
 obtain ⟨c2,t2⟩:=c1.set 2 (.slice (some ⟨X.heap.size,0,none⟩) 0 0)
 refine ⟨c2,(ht.below hb).kept t2 (fun k hk e=>?_),OBk.turn (w:=X.alloc (.cells #[] 24)) ⟨og_new' 24 1 (fun v:Value=>[v]) X X.heap.size (Nat.le_refl _),by simp,by simp⟩ t2 (fun k e hk=>by have:=h.k.lt;omega),fun k hk=>(ht.lt k hk).2,h.k.lt,by simp⟩
 subst e
 obtain ⟨c,kb⟩:=own_kind (ht.below hb) hk
 exact absurd (blk_kind kb c1.k) (by decide)
theorem Cpb.bank {A:Option Addr}{C:Nat}{x:List Int}{d:Value}(h:Cpb W0 X gm lo t1 e1 tz a2 c2 bl nm v3 v4 v5 v6 v7)(O:OG 3 1 clI w' X.heap.size (.slice A x.length C) x)(hb:Below X.heap.size X w')
 (hown:w4.ownsRow lo 24 1 d (bl.length+1) (bl.map (fun B=>Value.slice B.1 B.2.1 B.2.2.1)++[.slice A x.length C])) (hg:w'.grownBy w4 (Value.slice a2 bl.length c2).ownBlock):
 Cpm W0 w4 gm #[nm,.slice t1 tz.length e1,.slice a2 bl.length c2,v3,v4,v5,v6,v7]∧∃ a2' c2',d=.slice a2' (bl++[((A,x.length,C,x):Bk)]).length c2'∧Cpb W0 (w4.setCell ⟨gm,2,none⟩ d) gm lo t1 e1 tz a2' c2' (bl++[((A,x.length,C,x):Bk)]) nm v3 v4 v5 v6 v7:=by
 have h1:=h.below hb
 have hX:=h.b
 have B4:=h1.b.push rfl O h.lh (fun B hB j hj=>((h.b.rows B hB).2.lt j hj).2) hown hg
 have lw:W0.heap.size≤lo:=by have:=h.c.g;have:=h.gl;omega
 have T:Turn (fun k=>(Value.slice a2 bl.length c2).ownBlock=some k) w' w4:=⟨hg.os,hg.tape,hg.output,hg.size,fun k hk hs=>hg.block k hk (fun e=>hs e.symm)⟩
 have k4:Blk w4 gm #[nm,.slice t1 tz.length e1,.slice a2 bl.length c2,v3,v4,v5,v6,v7] 104:=grown_blk hg h1.c.k (fun e=>by
  obtain ⟨c,kb⟩:=own_kind h1.b.head e.symm
  exact absurd (blk_kind kb h1.c.k) (by decide))
 have t4:=h1.t.kept T (fun k hk s=>by
  obtain ⟨c,kb⟩:=own_kind h1.t hk
  obtain ⟨c',kb'⟩:=own_kind h1.b.head s
  exact absurd (blk_kind kb kb') (by decide))
 have c4:Cpm W0 w4 gm #[nm,.slice t1 tz.length e1,.slice a2 bl.length c2,v3,v4,v5,v6,v7]:=⟨below_turn h1.c.b T (fun k hk=>by have:=(h1.b.lt k hk).1;omega) h1.c.b.size,k4,h1.c.g⟩
 obtain ⟨a',c',rfl⟩:=obk_shape B4
 obtain ⟨c5,t5⟩:=c4.set 2 (.slice a' (bl++[((A,x.length,C,x):Bk)]).length c')
 refine ⟨c4,a',c',rfl,c5,t4.kept t5 (fun k hk e=>?_),B4.turn t5 (fun k e hk=>by have:=h.gl;omega),h.tl,h.gl,by rw [size_setCell];exact Nat.le_trans h1.lh hg.size⟩
 subst e
 obtain ⟨c,kb⟩:=own_kind t4 hk
 exact absurd (blk_kind kb k4) (by decide)
theorem Cpb.put {v3' v4' v5' v6' v7':Value}(h:Cpb W0 X gm lo t1 e1 tz a2 c2 bl nm v3 v4 v5 v6 v7)(hb:Below X.heap.size X w')(j:Nat)(e:(#[nm,.slice t1 tz.length e1,.slice a2 bl.length c2,v3,v4,v5,v6,v7]:Array Value).setIfInBounds j u=#[nm,.slice t1 tz.length e1,.slice a2 bl.length c2,v3',v4',v5',v6',v7']):
 Cpb W0 (w'.setCell ⟨gm,j,none⟩ u) gm lo t1 e1 tz a2 c2 bl nm v3' v4' v5' v6' v7'∧Turn (fun j=>j=gm∨X.heap.size≤j) X (w'.setCell ⟨gm,j,none⟩ u):=by
 have h1:=h.below hb
 obtain ⟨c5,t5⟩:=h1.c.set j u
 rw [e] at c5
 refine ⟨⟨c5,h1.t.kept t5 (fun k hk e=>?_),h1.b.turn t5 (fun k e hk=>by have:=h.gl;omega),h.tl,h.gl,by rw [size_setCell];exact h1.lh⟩,(turn_below hb).trans (t5.mono (fun k hk=>.inl hk))⟩
 subst e
 obtain ⟨c,kb⟩:=own_kind h1.t hk
 exact absurd (blk_kind kb h1.c.k) (by decide)
theorem row_set {cs:Array Value}{t:TypeId}{sz n b:Nat}{v:Value}{xs:List Value}(h:X.ownsRow b t sz v n xs)(kg:Blk X gm cs 104)(hne:t≠104)(j:Nat)(u:Value):(X.setCell ⟨gm,j,none⟩ u).ownsRow b t sz v n xs:=row_kept ((turn_set X gm j u).mono (fun k hk=>.inl hk)) kg h hne
theorem Cpb.row {α:Type}{f:α→List Value}{sz:Nat}{t:TypeId}{v' v3' v4' v5' v6' v7':Value}{ys:List α}(h:Cpb W0 X gm lo t1 e1 tz a2 c2 bl nm v3 v4 v5 v6 v7)(O:OG t sz f w' X.heap.size v' ys)(hb:Below X.heap.size X w')(hne:t≠104)(j:Nat)(e:(#[nm,.slice t1 tz.length e1,.slice a2 bl.length c2,v3,v4,v5,v6,v7]:Array Value).setIfInBounds j v'=#[nm,.slice t1 tz.length e1,.slice a2 bl.length c2,v3',v4',v5',v6',v7']):
 Cpb W0 w' gm lo t1 e1 tz a2 c2 bl nm v3 v4 v5 v6 v7∧Cpb W0 (w'.setCell ⟨gm,j,none⟩ v') gm lo t1 e1 tz a2 c2 bl nm v3' v4' v5' v6' v7'∧OG t sz f (w'.setCell ⟨gm,j,none⟩ v') X.heap.size v' ys∧Turn (fun j=>j=gm∨X.heap.size≤j) X (w'.setCell ⟨gm,j,none⟩ v')∧X.heap.size≤w'.heap.size:=by
 have h1:=h.below hb
 obtain ⟨c2,t2⟩:=h.put hb j e
 exact ⟨h1,c2,row_set O h1.c.k hne j v',t2,hb.size⟩
theorem Cpb.apart {α:Type}{f:α→List Value}{sz:Nat}{t:TypeId}{v':Value}{ys:List α}(h:Cpb W0 X gm lo t1 e1 tz a2 c2 bl nm v3 v4 v5 v6 v7)(O:OG t sz f w' X.heap.size v' ys):∀ k,v'.ownBlock=some k→(Value.slice t1 tz.length e1).ownBlock≠some k∧∀ B ∈ bl,(Value.slice B.1 B.2.1 B.2.2.1).ownBlock≠some k:=fun k hk=>by
 have h0:=(O.lt k hk).1
 exact ⟨fun e=>by have:=(h.t.lt k e).2;omega,fun B hB e=>by have:=((h.b.rows B hB).2.lt k e).2;omega⟩
theorem Cpb.done {P:PMod}{a3 a5 a6 a7:Option Addr}{c3 c5 c6 c7 q3 q5 q6 q7:Nat}(h:Cpb W0 X gm lo t1 e1 P.tz a2 c2 bl nm v3 v4 v5 v6 v7)(hbl:bl.map (fun B=>B.2.2.2)=P.bl)(hz:∀ z ∈ P.dz,0≤z∧z≤255)
 (h3:OG 5 1 (fun z=>[Value.int .u8 z]) X q3 (.slice a3 P.dz.length c3) P.dz) (l3:W0.heap.size≤q3) (h5:OG 3 1 clI X q5 (.slice a5 P.rz.length c5) P.rz) (l5:W0.heap.size≤q5) (h6:OG 9 1 clT X q6 (.slice a6 P.ss.length c6) P.ss) (l6:W0.heap.size≤q6) (h7:OG 207 3 clX X q7 (.slice a7 P.es.length c7) P.es) (l7:W0.heap.size≤q7)
 (hap:∀ k,(Value.slice a5 P.rz.length c5).ownBlock=some k→(Value.slice t1 P.tz.length e1).ownBlock≠some k∧∀ B ∈ bl,(Value.slice B.1 B.2.1 B.2.2.1).ownBlock≠some k):ModO X W0.heap.size P t1 e1 a2 c2 bl a3 c3 a5 c5 a6 c6 a7 c7 where
 t:=h.t
 b:=h.b.mono (by have:=h.c.g;have:=h.gl;omega)
 bls:=hbl
 d:=og_ob (h3.mono l3) hz
 r:=h5.mono l5
 i:=h6.mono l6
 e:=h7.mono l7
 tb:=fun k hk B hB e=>by have h1:=h.tl k hk;have h2:=((h.b.rows B hB).2.lt k e).1;omega
 tr:=fun k hk e=>(hap k e).1 hk
 br:=fun k hk B hB=>(hap k hk).2 B hB
end
end Go.Proofs.YtngdgogjlpjjpaeGreat
