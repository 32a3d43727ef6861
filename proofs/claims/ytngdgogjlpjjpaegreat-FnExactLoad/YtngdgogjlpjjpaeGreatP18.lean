import Derived.Test.YtngdgogjlpjjpaeGreatP14
import Derived.Test.YtngdgogjlpjjpaeGreatP15
import Derived.Test.YtngdgogjlpjjpaeGreatP13
import Derived.Test.YtngdgogjlpjjpaeGreatP17
set_option maxHeartbeats 20000000
namespace Go.Proofs.YtngdgogjlpjjpaeGreat
open Go.RowKit Classical
set_option linter.unusedVariables false
set_option linter.unusedSimpArgs false
set_option maxRecDepth 100000
def Lq (w:World)(j:Nat):Prop:=w.heap.size≤j∧j<w.heap.size+5
theorem lay_endI {w W:World}(k1:Blk W (w.heap.size+1) zL 36)(v0 v1 v2 v3 v4 v5:Value)(Q:Ending→World→Prop)(tmps:Array Value)(h4:tmps[4]?=some (.pointer (some ⟨w.heap.size+1,0,none⟩)))(hQ:Q (.returned (.agg #[v0,v1,v2,v3,v4,v5])) (st6 W (w.heap.size+1) v0 v1 v2 v3 v4 v5)):
 bodyPost Tryz.prog Tryz.f170 Q Exit.ret ⟨tmps,[]⟩ (st6 W (w.heap.size+1) v0 v1 v2 v3 v4 v5):=by
 have k:=blk_st6 k1 v0 v1 v2 v3 v4 v5
 have t0:(st6 W (w.heap.size+1) v0 v1 v2 v3 v4 v5).cell? ⟨w.heap.size+1,0,none⟩=some v0:=k.cell 0
 have t1:(st6 W (w.heap.size+1) v0 v1 v2 v3 v4 v5).cell? ⟨w.heap.size+1,1,none⟩=some v1:=k.cell 1
 have t2:(st6 W (w.heap.size+1) v0 v1 v2 v3 v4 v5).cell? ⟨w.heap.size+1,2,none⟩=some v2:=k.cell 2
 have t3:(st6 W (w.heap.size+1) v0 v1 v2 v3 v4 v5).cell? ⟨w.heap.size+1,3,none⟩=some v3:=k.cell 3
 have t4:(st6 W (w.heap.size+1) v0 v1 v2 v3 v4 v5).cell? ⟨w.heap.size+1,4,none⟩=some v4:=k.cell 4
 have t5:(st6 W (w.heap.size+1) v0 v1 v2 v3 v4 v5).cell? ⟨w.heap.size+1,5,none⟩=some v5:=k.cell 5
 refine bodyPost_ret_by (v:=.agg #[v0,v1,v2,v3,v4,v5]) ?_ rfl hQ
 simp [results,Tryz.results170,go_sem,h4,t0,t1,t2,t3,t4,t5]
theorem layOut_any (a:Option Addr)(n cap:Nat)(ms:List Md)(s c k d:Int)(w:World)(h:MSD w a n cap ms)(hn:n≤4)(hcf:cfo s c k d=true)(hv:vlds (pmS ms)):
 Calls Tryz.prog 170 #[.slice a n cap,.agg #[.int .i64 s,.int .i64 c,.int .i64 k,.int .i64 d]] w fun e w'=>Below w.heap.size w w'∧∃ a0 c0 xs a2 c2,e=.returned (.agg (layV ⟨(lay (pmS ms) s c k).places,(lay (pmS ms) s c k).stack,(lay (pmS ms) s c k).slots,(lay (pmS ms) s c k).flash,(lay (pmS ms) s c k).ram,[]⟩ a0 c0 xs a2 c2 none 0 []))∧LayO w' w.heap.size ⟨(lay (pmS ms) s c k).places,(lay (pmS ms) s c k).stack,(lay (pmS ms) s c k).slots,(lay (pmS ms) s c k).flash,(lay (pmS ms) s c k).ram,[]⟩ a0 c0 xs a2 c2 none 0 []:=by
 have N0:=lo_new w s c k d
 have hl:=h.s.1
 have hpl:(pmS ms).length=n:=by rw [pmS_len,hl]
 have HH:=hide h
 have HVD:=hide hv
 obtain ⟨hs0,hs1,hc0,hc1,hk0,hk1,hk2,_⟩:=of_decide_eq_true hcf
 have HN:=hide N0
 clear h N0 hcf hv
 go_enter Tryz.func170,Tryz.ntmps170
 go_wp2_with fail
 go_loopw [15] (fun i wr=>∃ (m:Nat) (a0:Option Addr) (c0:Nat) (xs:List PB),m≤n∧i=.int .i64 m∧Lo w wr s c k d (Fl (pmS ms) m) (65536+Ra (pmS ms) m) #[.slice a0 m c0,.int .i64 0,.slice none 0 0,.int .i64 0,.int .i64 0,.slice none 0 0]∧OPl wr (w.heap.size+5) (w.heap.size+5) (.slice a0 m c0) xs∧xs.length=m∧xs.map (fun x=>x.1)=(List.range m).map (plc (pmS ms))) (fun i _=>n - (intOf i).toNat)
 case atStart=>exact ⟨0,none,0,[],Nat.zero_le _,rfl,HN.out,or_nil,rfl,rfl⟩
 case round=>
  clear HN
  obtain ⟨m,a0,c0,xs,hm,rfl,S,PX,xl,xp⟩:=hrel
  generalize wr=wo at *
  by_cases hlt:m<n
  ·have hlt':(m:Int)<(n:Int):=by omega
   have H:=HH.out.below S.be
   obtain ⟨b,off,rfl,q0,q1,q2,q3,q4,q5,q6,q7⟩:=H.s.at m hlt
   have hmd:=HH.out.d m hlt
   have hvm:=HVD.out m (by omega)
   obtain ⟨P,hP⟩:∃ P,P=(pmS ms).getD m zP:=⟨_,rfl⟩
   have hPM:P=(ms.getD m zMd).pm:=hP.trans (pmS_at (by omega))
   rw [← hP] at hvm
   have rT:0≤rnd (4 * (P.tz.length:Int))∧rnd (4 * (P.tz.length:Int))≤831:=tsz_range hvm
   have rD:0≤(rnd ((P.dz.length:Int)+P.bss))∧(rnd ((P.dz.length:Int)+P.bss))≤1055:=dsz_range hvm
   have rF:=Fl_range HVD.out m (by omega)
   have rR:=Ra_range HVD.out m (by omega)
   obtain ⟨_,_,vt,vb,vd,vs0,vs1,vbk⟩:=vld_en hvm
   have eT:(ms.getD m zMd).tn=P.tz.length:=by rw [hPM];exact hmd.t.1.symm
   have eD:(ms.getD m zMd).dn=P.dz.length:=by rw [hPM];exact hmd.d.1.symm
   have eS:(ms.getD m zMd).bss=P.bss:=by rw [hPM];rfl
   have eB:(ms.getD m zMd).bn=P.bl.length:=by rw [hPM];show _=(List.map _ _).length;rw [List.length_map];exact hmd.b.1.symm
   have HBK:=hide (show ∀ j,j<P.bl.length→((ms.getD m zMd).bl.getD j zB).2.1=(P.bl.getD j []).length from fun j hj=>by rw [hPM];exact (pm_bank hmd j (by omega)).1)
   have HBS:=hide hmd.b
   rw [eB] at HBS
   have HVM:=hide hvm
   have HPP:=hide hP
   generalize ms.getD m zMd=M at *
   rw [eT] at q1
   rw [eB] at q2
   rw [eD] at q3
   rw [eS] at q4
   have al:Below wo.heap.size wo ((wo.alloc (.cells #[.string M.nm,.slice M.ta P.tz.length M.tc,.slice M.ba P.bl.length M.bc,.slice M.da P.dz.length M.dc,.int .i64 P.bss,.slice M.ra M.rn M.rc,.slice M.ia M.im M.ic,.slice M.ea M.en M.ec] 104)).alloc (.cells #[.int .i64 0,.slice none 0 0,.int .i64 0,.int .i64 0] 138)):=((Below.refl _ _).alloc (Nat.le_refl _) _).alloc (by simp) _
   have kM:=(Blk.new wo #[.string M.nm,.slice M.ta P.tz.length M.tc,.slice M.ba P.bl.length M.bc,.slice M.da P.dz.length M.dc,.int .i64 P.bss,.slice M.ra M.rn M.rc,.slice M.ia M.im M.ic,.slice M.ea M.en M.ec] 104).alloc (.cells #[.int .i64 0,.slice none 0 0,.int .i64 0,.int .i64 0] 138)
   have kp:=Blk.new (wo.alloc (.cells #[.string M.nm,.slice M.ta P.tz.length M.tc,.slice M.ba P.bl.length M.bc,.slice M.da P.dz.length M.dc,.int .i64 P.bss,.slice M.ra M.rn M.rc,.slice M.ia M.im M.ic,.slice M.ea M.en M.ec] 104)) #[.int .i64 0,.slice none 0 0,.int .i64 0,.int .i64 0] 138
   simp only [World.size_alloc] at kp
   have S1:=S.below al
   have hgw:=S.sz
   have g1:((wo.alloc (.cells #[.string M.nm,.slice M.ta P.tz.length M.tc,.slice M.ba P.bl.length M.bc,.slice M.da P.dz.length M.dc,.int .i64 P.bss,.slice M.ra M.rn M.rc,.slice M.ia M.im M.ic,.slice M.ea M.en M.ec] 104)).alloc (.cells #[.int .i64 0,.slice none 0 0,.int .i64 0,.int .i64 0] 138)).cell? ⟨wo.heap.size,1,none⟩=some (.slice M.ta P.tz.length M.tc):=kM.cell 1
   have HPL:=hide (placeS_any (w.heap.size+2) (Fl (pmS ms) m) M.ta P.tz.length M.tc ((wo.alloc (.cells #[.string M.nm,.slice M.ta P.tz.length M.tc,.slice M.ba P.bl.length M.bc,.slice M.da P.dz.length M.dc,.int .i64 P.bss,.slice M.ra M.rn M.rc,.slice M.ia M.im M.ic,.slice M.ea M.en M.ec] 104)).alloc (.cells #[.int .i64 0,.slice none 0 0,.int .i64 0,.int .i64 0] 138)) S1.k2 (by omega) (by omega) (by omega))
   have HQ:=hide (And.intro S1 (And.intro kM (And.intro kp (turn_below (S:=Lq w) al))))
   have HPX:=hide (And.intro PX (And.intro xl xp))
   clear H hmd hP hPM eT eD eS eB al S hvm kM kp S1 PX xl xp
   go_wp2_with fail
   refine HPL.out.mono ?_
   rintro e w1 ⟨rfl,B1,U1⟩
   obtain ⟨S1,kM,kp,TT⟩:=HQ.out
   have S2:=S1.callF (fx':=(Fl (pmS ms) m+rnd (4 * (P.tz.length:Int)))) U1 B1
   have kM2:=turn_blk U1 kM (by omega)
   have kp2:=turn_blk U1 kp (by omega)
   have TT2:=TT.trans (U1.mono (S':=Lq w) (fun j hj=>by have e:j=w.heap.size+2:=hj;unfold Lq;omega))
   have y0:w1.cell? ⟨wo.heap.size+1,0,none⟩=some (.int .i64 0):=kp2.cell 0
   have f0:=kp2.frozen 0
   have S3:=S2.other (g:=wo.heap.size+1) (by omega) 0 (.int .i64 (Fl (pmS ms) m))
   have tp:=turn_set w1 (wo.heap.size+1) 0 (.int .i64 (Fl (pmS ms) m))
   have kM3:=turn_blk tp kM2 (by omega)
   have kp3:Blk (w1.setCell ⟨wo.heap.size+1,0,none⟩ (.int .i64 (Fl (pmS ms) m))) (wo.heap.size+1) #[.int .i64 (Fl (pmS ms) m),.slice none 0 0,.int .i64 0,.int .i64 0] 138:=kp2.set 0 (.int .i64 (Fl (pmS ms) m))
   have TT3:=turn_new' TT2 (show wo.heap.size≤wo.heap.size+1 by omega) 0 (.int .i64 (Fl (pmS ms) m))
   have g2:(w1.setCell ⟨wo.heap.size+1,0,none⟩ (.int .i64 (Fl (pmS ms) m))).cell? ⟨wo.heap.size,2,none⟩=some (.slice M.ba P.bl.length M.bc):=kM3.cell 2
   have g2':w1.cell? ⟨wo.heap.size,2,none⟩=some (.slice M.ba P.bl.length M.bc):=kM2.cell 2
   have HPA:=hide (placeAll_any (w.heap.size+2) (Fl (pmS ms) m+rnd (4 * (P.tz.length:Int))) P M.ba M.bc M.bl w (w1.setCell ⟨wo.heap.size+1,0,none⟩ (.int .i64 (Fl (pmS ms) m))) S3.k2 HVM.out (by omega) (by omega) S3.be (by omega) HBS.out HBK.out)
   have HQ3:=hide (And.intro S3 (And.intro kM3 (And.intro kp3 TT3)))
   clear S1 kM kp TT S2 kM2 kp2 TT2 S3 tp kM3 kp3 TT3 HQ HPL B1 U1 g1
   go_wp2_with fail
   refine HPA.out.mono ?_
   rintro e w2 ⟨ar,cr,rfl,O,B2,U2⟩
   obtain ⟨S3,kM3,kp3,TT3⟩:=HQ3.out
   have hbs:wo.heap.size+2≤(w1.setCell ⟨wo.heap.size+1,0,none⟩ (.int .i64 (Fl (pmS ms) m))).heap.size:=kp3.lt
   have O:=O.mono hbs
   have S4:=S3.callF (fx':=(Fl (pmS ms) m+rnd (4 * (P.tz.length:Int)))+fsum P P.bl.length) U2 B2
   have kM4:=turn_blk U2 kM3 (by omega)
   have kp4:=turn_blk U2 kp3 (by omega)
   have TT4:=TT3.trans (U2.mono (S':=Lq w) (fun j hj=>by have e:j=w.heap.size+2:=hj;unfold Lq;omega))
   have y1:w2.cell? ⟨wo.heap.size+1,1,none⟩=some (.slice none 0 0):=kp4.cell 1
   have f1:=kp4.frozen 1
   have tp:=turn_set w2 (wo.heap.size+1) 1 (.slice ar P.bl.length cr)
   have S5:=S4.other (g:=wo.heap.size+1) (by omega) 1 (.slice ar P.bl.length cr)
   have kM5:=turn_blk tp kM4 (by omega)
   have kp5:Blk (w2.setCell ⟨wo.heap.size+1,1,none⟩ (.slice ar P.bl.length cr)) (wo.heap.size+1) #[.int .i64 (Fl (pmS ms) m),.slice ar P.bl.length cr,.int .i64 0,.int .i64 0] 138:=kp4.set 1 (.slice ar P.bl.length cr)
   have TT5:=turn_new' TT4 (show wo.heap.size≤wo.heap.size+1 by omega) 1 (.slice ar P.bl.length cr)
   have O5:=O.kept tp (fun k hk e=>by have:=(O.lt k hk).1;have e':k=wo.heap.size+1:=e;omega)
   have g3:(w2.setCell ⟨wo.heap.size+1,1,none⟩ (.slice ar P.bl.length cr)).cell? ⟨wo.heap.size,3,none⟩=some (.slice M.da P.dz.length M.dc):=kM5.cell 3
   have g4:(w2.setCell ⟨wo.heap.size+1,1,none⟩ (.slice ar P.bl.length cr)).cell? ⟨wo.heap.size,4,none⟩=some (.int .i64 P.bss):=kM5.cell 4
   have g3':w2.cell? ⟨wo.heap.size,3,none⟩=some (.slice M.da P.dz.length M.dc):=kM4.cell 3
   have g4':w2.cell? ⟨wo.heap.size,4,none⟩=some (.int .i64 P.bss):=kM4.cell 4
   have y3:(w2.setCell ⟨wo.heap.size+1,1,none⟩ (.slice ar P.bl.length cr)).cell? ⟨wo.heap.size+1,3,none⟩=some (.int .i64 0):=kp5.cell 3
   have y3':w2.cell? ⟨wo.heap.size+1,3,none⟩=some (.int .i64 0):=kp4.cell 3
   have f3:(w2.setCell ⟨wo.heap.size+1,1,none⟩ (.slice ar P.bl.length cr)).frozen? ⟨wo.heap.size+1,3,none⟩=false:=kp5.frozen 3
   have f3':=kp4.frozen 3
   have hwd:IntKind.i64.wrap ((P.dz.length:Int)+P.bss)=(P.dz.length:Int)+P.bss:=wraps62 _ (by omega) (by omega)
   have tq:=turn_set (w2.setCell ⟨wo.heap.size+1,1,none⟩ (.slice ar P.bl.length cr)) (wo.heap.size+1) 3 (.int .i64 (rnd ((P.dz.length:Int)+P.bss)))
   have S6:=S5.other (g:=wo.heap.size+1) (by omega) 3 (.int .i64 (rnd ((P.dz.length:Int)+P.bss)))
   have kp6:Blk ((w2.setCell ⟨wo.heap.size+1,1,none⟩ (.slice ar P.bl.length cr)).setCell ⟨wo.heap.size+1,3,none⟩ (.int .i64 (rnd ((P.dz.length:Int)+P.bss)))) (wo.heap.size+1) #[.int .i64 (Fl (pmS ms) m),.slice ar P.bl.length cr,.int .i64 0,.int .i64 (rnd ((P.dz.length:Int)+P.bss))] 138:=kp5.set 3 (.int .i64 (rnd ((P.dz.length:Int)+P.bss)))
   have TT6:=turn_new' TT5 (show wo.heap.size≤wo.heap.size+1 by omega) 3 (.int .i64 (rnd ((P.dz.length:Int)+P.bss)))
   have O6:=O5.kept tq (fun k hk e=>by have:=(O5.lt k hk).1;have e':k=wo.heap.size+1:=e;omega)
   have z3:((w2.setCell ⟨wo.heap.size+1,1,none⟩ (.slice ar P.bl.length cr)).setCell ⟨wo.heap.size+1,3,none⟩ (.int .i64 (rnd ((P.dz.length:Int)+P.bss)))).cell? ⟨wo.heap.size+1,3,none⟩=some (.int .i64 (rnd ((P.dz.length:Int)+P.bss))):=kp6.cell 3
   have HPI:=hide (placeI_any (w.heap.size+3) (65536+Ra (pmS ms) m) (rnd ((P.dz.length:Int)+P.bss)) ((w2.setCell ⟨wo.heap.size+1,1,none⟩ (.slice ar P.bl.length cr)).setCell ⟨wo.heap.size+1,3,none⟩ (.int .i64 (rnd ((P.dz.length:Int)+P.bss)))) S6.k3 (by omega) (by omega) (by omega) (by omega))
   have HQ6:=hide (And.intro S6 (And.intro kp6 (And.intro TT6 O6)))
   clear S3 kM3 kp3 TT3 S4 kM4 kp4 TT4 tp S5 kM5 kp5 TT5 O O5 tq S6 kp6 TT6 O6 HQ3 HPA B2 U2 g2 g2' y0 f0 hbs
   go_wp2_with fail
   refine (roundUp_any ((P.dz.length:Int)+P.bss) _ (by omega) (by omega)).mono ?_
   rintro e wz ⟨rfl,rfl⟩
   go_wp2_with fail
   refine HPI.out.mono ?_
   rintro e w3 ⟨rfl,B3,U3⟩
   obtain ⟨S6,kp6,TT6,O6⟩:=HQ6.out
   have rR1:=Ra_range HVD.out (m+1) (by omega)
   have rF1:=Fl_range HVD.out (m+1) (by omega)
   have eR:(65536+Ra (pmS ms) m)+rnd (rnd ((P.dz.length:Int)+P.bss))=65536+Ra (pmS ms) (m+1):=by
    rw [rnd_rnd]
    show _=65536+(Ra (pmS ms) m+dsz ((pmS ms).getD m zP))
    rw [← HPP.out]
    show _=65536+(Ra (pmS ms) m+(rnd ((P.dz.length:Int)+P.bss)))
    omega
   have eF:(Fl (pmS ms) m+rnd (4 * (P.tz.length:Int)))+fsum P P.bl.length=Fl (pmS ms) (m+1):=by
    show _=Fl (pmS ms) m+msz ((pmS ms).getD m zP)
    rw [← HPP.out]
    show _=Fl (pmS ms) m+(rnd (4 * (P.tz.length:Int))+fsum P P.bl.length)
    omega
   have S7:=S6.callR (rx':=(65536+Ra (pmS ms) m)+rnd (rnd ((P.dz.length:Int)+P.bss))) U3 B3
   rw [eR,eF] at S7
   have kp7:=turn_blk U3 kp6 (by omega)
   have TT7:=TT6.trans (U3.mono (S':=Lq w) (fun j hj=>by have e:j=w.heap.size+3:=hj;unfold Lq;omega))
   have O7:=O6.kept U3 (fun k hk e=>by have:=(O6.lt k hk).1;have e':k=w.heap.size+3:=e;omega)
   have y2:w3.cell? ⟨wo.heap.size+1,2,none⟩=some (.int .i64 0):=kp7.cell 2
   have f2:=kp7.frozen 2
   have tp:=turn_set w3 (wo.heap.size+1) 2 (.int .i64 (65536+Ra (pmS ms) m))
   have S8:=S7.other (g:=wo.heap.size+1) (by omega) 2 (.int .i64 (65536+Ra (pmS ms) m))
   have kp8:Blk (w3.setCell ⟨wo.heap.size+1,2,none⟩ (.int .i64 (65536+Ra (pmS ms) m))) (wo.heap.size+1) #[.int .i64 (Fl (pmS ms) m),.slice ar P.bl.length cr,.int .i64 (65536+Ra (pmS ms) m),.int .i64 (rnd ((P.dz.length:Int)+P.bss))] 138:=kp7.set 2 (.int .i64 (65536+Ra (pmS ms) m))
   have TT8:=turn_new' TT7 (show wo.heap.size≤wo.heap.size+1 by omega) 2 (.int .i64 (65536+Ra (pmS ms) m))
   have O8:=O7.kept tp (fun k hk e=>by have:=(O7.lt k hk).1;have e':k=wo.heap.size+1:=e;omega)
   have PX8:=HPX.out.1.kept TT8 (fun k hk e=>by have:=(HPX.out.1.lt.1 k hk).1;unfold Lq at e;omega) (fun x hx k hk e=>by have:=(HPX.out.1.lt.2 x hx k hk).1;unfold Lq at e;omega)
   have p0:(w3.setCell ⟨wo.heap.size+1,2,none⟩ (.int .i64 (65536+Ra (pmS ms) m))).cell? ⟨w.heap.size+1+1+1+1,0,none⟩=some (.slice a0 m c0):=S8.k4.cell 0
   have p0':w3.cell? ⟨w.heap.size+1+1+1+1,0,none⟩=some (.slice a0 m c0):=S7.k4.cell 0
   have r0:(w3.setCell ⟨wo.heap.size+1,2,none⟩ (.int .i64 (65536+Ra (pmS ms) m))).cell? ⟨wo.heap.size+1,0,none⟩=some (.int .i64 (Fl (pmS ms) m)):=kp8.cell 0
   have r1:(w3.setCell ⟨wo.heap.size+1,2,none⟩ (.int .i64 (65536+Ra (pmS ms) m))).cell? ⟨wo.heap.size+1,1,none⟩=some (.slice ar P.bl.length cr):=kp8.cell 1
   have r2:(w3.setCell ⟨wo.heap.size+1,2,none⟩ (.int .i64 (65536+Ra (pmS ms) m))).cell? ⟨wo.heap.size+1,2,none⟩=some (.int .i64 (65536+Ra (pmS ms) m)):=kp8.cell 2
   have r3:(w3.setCell ⟨wo.heap.size+1,2,none⟩ (.int .i64 (65536+Ra (pmS ms) m))).cell? ⟨wo.heap.size+1,3,none⟩=some (.int .i64 (rnd ((P.dz.length:Int)+P.bss))):=kp8.cell 3
   have r0':w3.cell? ⟨wo.heap.size+1,0,none⟩=some (.int .i64 (Fl (pmS ms) m)):=kp7.cell 0
   have r1':w3.cell? ⟨wo.heap.size+1,1,none⟩=some (.slice ar P.bl.length cr):=kp7.cell 1
   have r3':w3.cell? ⟨wo.heap.size+1,3,none⟩=some (.int .i64 (rnd ((P.dz.length:Int)+P.bss))):=kp7.cell 3
   have hTs:=TT8.size
   have hsC:(w3.setCell ⟨wo.heap.size+1,2,none⟩ (.int .i64 (65536+Ra (pmS ms) m))).heap.size=w3.heap.size:=size_setCell _ _ _
   obtain ⟨iP,hiP,hzP0,hzP1,hzP2⟩:=info_parts infoP
   have al2:Below (w3.setCell ⟨wo.heap.size+1,2,none⟩ (.int .i64 (65536+Ra (pmS ms) m))).heap.size (w3.setCell ⟨wo.heap.size+1,2,none⟩ (.int .i64 (65536+Ra (pmS ms) m))) ((w3.setCell ⟨wo.heap.size+1,2,none⟩ (.int .i64 (65536+Ra (pmS ms) m))).alloc (.cells #[.int .i64 (Fl (pmS ms) m),.slice ar P.bl.length cr,.int .i64 (65536+Ra (pmS ms) m),.int .i64 (rnd ((P.dz.length:Int)+P.bss))] 138)):=(Below.refl _ _).alloc (Nat.le_refl _) _
   have HOW:=hide (show ((w3.setCell ⟨wo.heap.size+1,2,none⟩ (.int .i64 (65536+Ra (pmS ms) m))).alloc (.cells #[.int .i64 (Fl (pmS ms) m),.slice ar P.bl.length cr,.int .i64 (65536+Ra (pmS ms) m),.int .i64 (rnd ((P.dz.length:Int)+P.bss))] 138)).ownsRow (w.heap.size+5) 138 4 (.slice a0 m c0) m (xs.flatMap clP) by have:=PX8.head.below al2;unfold OG at this;rw [HPX.out.2.1] at this;exact this)
   have HCL:=hide (show clP ((⟨(Fl (pmS ms) m),bkx P (Fl (pmS ms) m+rnd (4 * (P.tz.length:Int))) P.bl.length,(65536+Ra (pmS ms) m),(rnd ((P.dz.length:Int)+P.bss))⟩,ar,cr):PB)=[.int .i64 (Fl (pmS ms) m),.slice ar P.bl.length cr,.int .i64 (65536+Ra (pmS ms) m),.int .i64 (rnd ((P.dz.length:Int)+P.bss))] by simp [clP,svP,bkx_len])
   have HCN:=hide (show ∀ j u,([.int .i64 (Fl (pmS ms) m),.slice ar P.bl.length cr,.int .i64 (65536+Ra (pmS ms) m),.int .i64 (rnd ((P.dz.length:Int)+P.bss))]:List Value)[j]?=some u→((w3.setCell ⟨wo.heap.size+1,2,none⟩ (.int .i64 (65536+Ra (pmS ms) m))).alloc (.cells #[.int .i64 (Fl (pmS ms) m),.slice ar P.bl.length cr,.int .i64 (65536+Ra (pmS ms) m),.int .i64 (rnd ((P.dz.length:Int)+P.bss))] 138)).cell? ((⟨w3.heap.size,0,none⟩:Addr).add j)=some u by rw [← hsC];exact cells_new (w3.setCell ⟨wo.heap.size+1,2,none⟩ (.int .i64 (65536+Ra (pmS ms) m))) _ _ [.int .i64 (Fl (pmS ms) m),.slice ar P.bl.length cr,.int .i64 (65536+Ra (pmS ms) m),.int .i64 (rnd ((P.dz.length:Int)+P.bss))] rfl)
   have HLO:=hide (show ∀ A ∈ xs,∀ j,(svP A).ownBlock=some j→j<wo.heap.size+2 from fun A hA j hj=>by have:=(HPX.out.1.lt.2 A hA j hj).2;omega)
   have HPLC:=hide (show plc (pmS ms) m=⟨(Fl (pmS ms) m),bkx P (Fl (pmS ms) m+rnd (4 * (P.tz.length:Int))) P.bl.length,(65536+Ra (pmS ms) m),(rnd ((P.dz.length:Int)+P.bss))⟩ by unfold plc bkx;rw [← HPP.out];rfl)
   have HQ8:=hide (And.intro (S8.below al2) (And.intro (PX8.below al2) (O8.below al2)))
   have HPL2:=hide HPX.out.2
   have hlw:(w3.setCell ⟨wo.heap.size+1,2,none⟩ (.int .i64 (65536+Ra (pmS ms) m))).heap.size+1=((w3.setCell ⟨wo.heap.size+1,2,none⟩ (.int .i64 (65536+Ra (pmS ms) m))).alloc (.cells #[.int .i64 (Fl (pmS ms) m),.slice ar P.bl.length cr,.int .i64 (65536+Ra (pmS ms) m),.int .i64 (rnd ((P.dz.length:Int)+P.bss))] 138)).heap.size:=by simp
   have hwl:w.heap.size+5≤w3.heap.size:=by have:=S7.sz;omega
   clear S6 kp6 TT6 O6 S7 kp7 TT7 O7 tp S8 kp8 TT8 O8 PX8 al2 HQ6 HPI B3 U3 eR eF y1 f1 g3 g4 g3' g4' y3 y3' f3 f3' z3
   go_wp2_with (at_builtin;refine wpList_append_own _ rfl _ _ 33 rfl (w.heap.size+5) 138 iP (.agg #[.int .i64 0,.slice none 0 0,.int .i64 0,.int .i64 0]) 4 48 Tryz.underlying33 hiP hzP0 hzP1 hzP2 rfl (by decide) (.slice a0 m c0) m (xs.flatMap clP) rfl HOW.out ⟨w3.heap.size,0,none⟩ 1 1 [.int .i64 (Fl (pmS ms) m),.slice ar P.bl.length cr,.int .i64 (65536+Ra (pmS ms) m),.int .i64 (rnd ((P.dz.length:Int)+P.bss))] rfl rfl HCN.out (by intro u hu;simp at hu;rcases hu with rfl | rfl | rfl | rfl <;> rfl) (by unfold maxLen;omega) (by omega) (by simp;omega) ?_;intro v' w4 hown hgr _;obtain ⟨S8,PX8,O8⟩:=HQ8.out;have hrow:∀ j,(Value.slice a0 m c0).ownBlock=some j→w.heap.size+5≤j:=(fun j hj=>(PX8.lt.1 j hj).1);have P4:=PX8.push (x:=((⟨(Fl (pmS ms) m),bkx P (Fl (pmS ms) m+rnd (4 * (P.tz.length:Int))) P.bl.length,(65536+Ra (pmS ms) m),(rnd ((P.dz.length:Int)+P.bss))⟩,ar,cr):PB)) HPL2.out.1 (by show OG _ _ _ _ _ (.slice ar (bkx P (Fl (pmS ms) m+rnd (4 * (P.tz.length:Int))) P.bl.length).length cr) _;rw [bkx_len];exact O8) (by omega) HLO.out (by rw [HCL.out];exact hown) hgr (by decide);have S9:=S8.grown hgr hrow;obtain ⟨a0',c0',rfl⟩:=og_shape P4.head;rw [show (xs++[((⟨(Fl (pmS ms) m),bkx P (Fl (pmS ms) m+rnd (4 * (P.tz.length:Int))) P.bl.length,(65536+Ra (pmS ms) m),(rnd ((P.dz.length:Int)+P.bss))⟩,ar,cr):PB)]).length=m+1 by rw [List.length_append,HPL2.out.1];rfl] at P4 ⊢;have p4:w4.cell? ⟨w.heap.size+4,0,none⟩=some (.slice a0 m c0):=S9.k4.cell 0;have f4:=S9.k4.frozen 0;have H9:=hide (And.intro S9 P4);clear S8 PX8 O8 hrow P4 S9 hown hgr HOW HQ8 p0 p0' r0 r1 r2 r3 r0' r1' r3')
   obtain ⟨S9,P9⟩:=H9.out
   have t9:=turn_set w4 (w.heap.size+4) 0 (.slice a0' (m+1) c0')
   have S10:Lo w (w4.setCell ⟨w.heap.size+4,0,none⟩ (.slice a0' (m+1) c0')) s c k d (Fl (pmS ms) (m+1)) (65536+Ra (pmS ms) (m+1)) #[.slice a0' (m+1) c0',.int .i64 0,.slice none 0 0,.int .i64 0,.int .i64 0,.slice none 0 0]:=S9.set 0 (.slice a0' (m+1) c0')
   have P10:=P9.kept t9 (fun k hk e=>by have:=(P9.lt.1 k hk).1;have e':k=w.heap.size+4:=e;omega) (fun x hx k hk e=>by have:=(P9.lt.2 x hx k hk).1;have e':k=w.heap.size+4:=e;omega)
   have H10:=hide (And.intro S10 (And.intro P10 (And.intro (show (xs++[((⟨(Fl (pmS ms) m),bkx P (Fl (pmS ms) m+rnd (4 * (P.tz.length:Int))) P.bl.length,(65536+Ra (pmS ms) m),(rnd ((P.dz.length:Int)+P.bss))⟩,ar,cr):PB)]).length=m+1 by rw [List.length_append,HPL2.out.1];rfl) (show (xs++[((⟨(Fl (pmS ms) m),bkx P (Fl (pmS ms) m+rnd (4 * (P.tz.length:Int))) P.bl.length,(65536+Ra (pmS ms) m),(rnd ((P.dz.length:Int)+P.bss))⟩,ar,cr):PB)]).map (fun x=>x.1)=(List.range (m+1)).map (plc (pmS ms)) by rw [List.map_append,HPL2.out.2,List.range_succ,List.map_append];simp only [List.map_cons,List.map_nil];rw [HPLC.out]))))
   clear S9 P9 t9 S10 P10 H9 p4 f4
   go_wp2
   go_roundw
   case rel=>exact ⟨m+1,a0',c0',_,by omega,by go_num,H10.out.1,H10.out.2.1,H10.out.2.2.1,H10.out.2.2.2⟩
   case measure=>simp [intOf];omega
  ·have hlt':¬ (m:Int)<(n:Int):=by omega
   have hmn:m=n:=by omega
   subst hmn
   have rF:=Fl_range HVD.out m (by omega)
   have rR:=Ra_range HVD.out m (by omega)
   obtain ⟨sn,rfl⟩:∃ sn:Nat,s=(sn:Int):=⟨s.toNat,by omega⟩
   obtain ⟨RW,hRW⟩:∃ RW,RW=rnd (4 * c):=⟨_,rfl⟩
   have rRW:0≤RW∧RW≤287:=by have:=rnd_range (x:=4 * c) (by omega);omega
   have HRW:=hide hRW
   have c2:wo.cell? ⟨w.heap.size,2,none⟩=some (.int .i64 k):=S.k0.cell 2
   have HPI:=hide (placeI_any (w.heap.size+3) (65536+Ra (pmS ms) m) k wo S.k3 (by omega) (by omega) (by omega) (by omega))
   have HK:=hide (rnd_whole hk2)
   have HQ:=hide (And.intro S (And.intro PX (And.intro xl xp)))
   clear S PX xl xp hRW
   go_wp2_with fail
   refine HPI.out.mono ?_
   rintro e w1 ⟨rfl,B1,U1⟩
   rw [HK.out] at B1
   obtain ⟨S,PX,xl,xp⟩:=HQ.out
   have S1:=S.callR (rx':=(65536+Ra (pmS ms) m)+k) U1 B1
   have PX1:=PX.kept U1 (fun j hj e=>by have:=(PX.lt.1 j hj).1;have e':j=w.heap.size+3:=e;omega) (fun x hx j hj e=>by have:=(PX.lt.2 x hx j hj).1;have e':j=w.heap.size+3:=e;omega)
   have HXL:=hide (show ∀ x ∈ xs,∀ j,(svP x).ownBlock=some j→j<w1.heap.size from fun x hx j hj=>(PX1.lt.2 x hx j hj).2)
   have y1:w1.cell? ⟨w.heap.size+4,1,none⟩=some (.int .i64 0):=S1.k4.cell 1
   have f1:=S1.k4.frozen 1
   have S2:Lo w (w1.setCell ⟨w.heap.size+1+1+1+1,1,none⟩ (.int .i64 (65536+Ra (pmS ms) m))) sn c k d (Fl (pmS ms) m) ((65536+Ra (pmS ms) m)+k) #[.slice a0 m c0,.int .i64 (65536+Ra (pmS ms) m),.slice none 0 0,.int .i64 0,.int .i64 0,.slice none 0 0]:=S1.set 1 (.int .i64 (65536+Ra (pmS ms) m))
   have t2:Turn (fun j=>j=w.heap.size+4) w1 (w1.setCell ⟨w.heap.size+1+1+1+1,1,none⟩ (.int .i64 (65536+Ra (pmS ms) m))):=turn_set w1 (w.heap.size+4) 1 (.int .i64 (65536+Ra (pmS ms) m))
   have PX2:=PX1.kept t2 (fun j hj e=>by have:=(PX1.lt.1 j hj).1;have e':j=w.heap.size+4:=e;omega) (fun x hx j hj e=>by have:=(PX1.lt.2 x hx j hj).1;have e':j=w.heap.size+4:=e;omega)
   have c0':(w1.setCell ⟨w.heap.size+1+1+1+1,1,none⟩ (.int .i64 (65536+Ra (pmS ms) m))).cell? ⟨w.heap.size,0,none⟩=some (.int .i64 (sn:Int)):=S2.k0.cell 0
   have c0'':w1.cell? ⟨w.heap.size,0,none⟩=some (.int .i64 (sn:Int)):=S1.k0.cell 0
   have hsz1:=S1.sz
   have HXX:=hide (And.intro xl xp)
   have HQ2:=hide (And.intro S2 PX2)
   have HZ:=hide (show (65536+Ra (pmS ms) m)+k=(65536+Ra (pmS ms) m)+k+((0:Nat):Int) * RW by simp)
   obtain ⟨iI,hiI,hz0,hz1,hz2⟩:=info_parts infoI
   clear S PX xl xp S1 PX1 S2 t2 PX2 B1 U1 HPI HQ c2
   go_wp2_with fail
   go_loopw [52] (fun i wx=>∃ (q:Nat) (a2:Option Addr) (c2:Nat) (RQ:Int),q≤sn∧i=.int .i64 q∧Hid (RQ=(65536+Ra (pmS ms) m)+k+(q:Int) * RW)∧Lo w wx sn c k d (Fl (pmS ms) m) RQ #[.slice a0 m c0,.int .i64 (65536+Ra (pmS ms) m),.slice a2 q c2,.int .i64 0,.int .i64 0,.slice none 0 0]∧OG 3 1 clI wx w1.heap.size (.slice a2 q c2) ((List.range q).map (slt (pmS ms) c k))∧OPl wx (w.heap.size+5) (w.heap.size+5) (.slice a0 m c0) xs∧w1.heap.size≤wx.heap.size) (fun i _=>sn - (intOf i).toNat)
   case atStart=>exact ⟨0,none,0,_,Nat.zero_le _,rfl,HZ,HQ2.out.1,og_nil _ _ _ _ _,HQ2.out.2,by rw [size_setCell];exact Nat.le_refl _⟩
   case round=>
    clear HQ2 y1 f1 c0' c0'' HZ
    obtain ⟨q,a2,c2,RQ,hq,rfl,hRQ,S,O,PX,hsw⟩:=hrel
    have rRQ:0≤RQ∧RQ≤100000:=by
     have:=hRQ.out
     have h1:(q:Int) * RW≤4 * 287:=Int.mul_le_mul (by omega) (by omega) (by omega) (by omega)
     have h0:0≤(q:Int) * RW:=Int.mul_nonneg (by omega) (by omega)
     omega
    by_cases hlt2:q<sn
    ·have hlt2':(q:Int)<(sn:Int):=by omega
     have p2:wr.cell? ⟨w.heap.size+4,2,none⟩=some (.slice a2 q c2):=S.k4.cell 2
     have v1:wr.cell? ⟨w.heap.size,1,none⟩=some (.int .i64 c):=S.k0.cell 1
     have hwc:IntKind.i64.wrap (4 * c)=4 * c:=wraps62 _ (by omega) (by omega)
     have HSU:=hide (show (List.range (q+1)).map (slt (pmS ms) c k)=(List.range q).map (slt (pmS ms) c k)++[RQ] by
      rw [List.range_succ,List.map_append]
      simp only [List.map_cons,List.map_nil]
      congr 2
      unfold slt
      rw [hpl,hRQ.out,HRW.out])
     have HLN:=hide (show ((List.range q).map (slt (pmS ms) c k)).length=q by simp)
     have HNQ:=hide (show RQ+RW=(65536+Ra (pmS ms) m)+k+((q+1:Nat):Int) * RW by rw [hRQ.out];push_cast;rw [Int.add_mul];omega)
     have HO:=hide (And.intro S (And.intro O PX))
     have hszr:=S.sz
     clear S O PX hRQ
     go_wp2_with fail
     go_region_law (first
      | (refine step_append_lies _ rfl _ _ 24 rfl w1.heap.size 3 iI (.int .i64 0) 1 8 Tryz.underlying24 hiI hz0 hz1 hz2 rfl (by decide) (.slice a2 q c2) q (((List.range q).map (slt (pmS ms) c k)).flatMap clI) rfl HOW.out ⟨wa.heap.size,0,none⟩ 1 1 (clI RQ) rfl rfl (cells_new wa _ _ (clI RQ) rfl) (by intro u hu;simp [clI] at hu;subst hu;rfl) (by decide) (by unfold maxLen;omega) (by omega) (by simp;omega) _ rfl ?_;intro g4 c4 w4 hown hgr hat hlt4;have hrw:∀ j,(Value.slice a2 q c2).ownBlock=some j→w.heap.size+5≤j:=(fun j hj=>by have:=(OAL.out.lt j hj).1;omega);have p4:w4.cell? ⟨w.heap.size+4,2,none⟩=some (.slice a2 q c2):=(SAL.out.grown hgr hrw).k4.cell 2;have f4:=(SAL.out.grown hgr hrw).k4.frozen 2)
      | (go_simp;go_at_call 232;refine (placeI_any (w.heap.size+3) RQ (4 * c) _ (by first | exact HO.out.1.k3 | exact HO.out.1.drew.k3) (by omega) (by omega) (by omega) (by omega)).mono ?_;rintro e wa ⟨rfl,Ba,Ua⟩;rw [← HRW.out] at Ba;have Ua':Turn (fun j=>j=w.heap.size+3) wr wa:=⟨Ua.os,Ua.tape,Ua.output,Ua.size,Ua.block⟩;have SA:=HO.out.1.callR (rx':=RQ+RW) Ua' Ba;have hsa:=Ua'.size;have OA:=HO.out.2.1.kept Ua' (fun j hj e=>by have:=(HO.out.2.1.lt j hj).1;have e':j=w.heap.size+3:=e;omega);have XA:=HO.out.2.2.kept Ua' (fun j hj e=>by have:=(HO.out.2.2.lt.1 j hj).1;have e':j=w.heap.size+3:=e;omega) (fun x hx j hj e=>by have:=(HO.out.2.2.lt.2 x hx j hj).1;have e':j=w.heap.size+3:=e;omega);have al:Below wa.heap.size wa (wa.alloc (.cells #[.int .i64 RQ] 3)):=(Below.refl _ _).alloc (Nat.le_refl _) _;have pa:wa.cell? ⟨w.heap.size+4,2,none⟩=some (.slice a2 q c2):=SA.k4.cell 2;have SAL:=hide (SA.below al);have OAL:=hide (OA.below al);have XAL:=hide (XA.below al);have pb:(wa.alloc (.cells #[.int .i64 RQ] 3)).cell? ⟨w.heap.size+4,2,none⟩=some (.slice a2 q c2):=SAL.out.k4.cell 2;have va:wa.cell? ⟨w.heap.size,1,none⟩=some (.int .i64 c):=SA.k0.cell 1;have HOW:=hide (show (wa.alloc (.cells #[.int .i64 RQ] 3)).ownsRow w1.heap.size 3 1 (.slice a2 q c2) q (((List.range q).map (slt (pmS ms) c k)).flatMap clI) by have:=OAL.out;unfold OG at this;rw [HLN.out] at this;exact this);clear Ba Ua Ua' SA OA XA al))
     all_goals
      have S4:=SAL.out.grown hgr hrw
      have O4:OG 3 1 clI w4 w1.heap.size (.slice (some ⟨g4,0,none⟩) (q+1) c4) ((List.range (q+1)).map (slt (pmS ms) c k)):=by
       unfold OG
       rw [HSU.out,List.length_append,HLN.out,List.flatMap_append,List.flatMap_singleton]
       exact hown
      have X4:OPl w4 (w.heap.size+5) (w.heap.size+5) (.slice a0 m c0) xs:=⟨XAL.out.head.kept' hgr (fun k hk e=>by obtain ⟨cc,k1⟩:=own_kind OAL.out e;exact kind_no XAL.out.head hk k1 (by decide)),fun x hx=>(XAL.out.rows x hx).kept' hgr (fun k hk e=>by have h1:=(OAL.out.lt k e).1;have h2:=HXL.out x hx k hk;omega),XAL.out.apart⟩
      have t5:=turn_set w4 (w.heap.size+4) 2 (.slice (some ⟨g4,0,none⟩) (q+1) c4)
      have S5:Lo w (w4.setCell ⟨w.heap.size+4,2,none⟩ (.slice (some ⟨g4,0,none⟩) (q+1) c4)) sn c k d (Fl (pmS ms) m) (RQ+RW) #[.slice a0 m c0,.int .i64 (65536+Ra (pmS ms) m),.slice (some ⟨g4,0,none⟩) (q+1) c4,.int .i64 0,.int .i64 0,.slice none 0 0]:=S4.set 2 (.slice (some ⟨g4,0,none⟩) (q+1) c4)
      have O5:=O4.kept t5 (fun k hk e=>by have:=(O4.lt k hk).1;have e':k=w.heap.size+4:=e;omega)
      have X5:=X4.kept t5 (fun k hk e=>by have:=(X4.lt.1 k hk).1;have e':k=w.heap.size+4:=e;omega) (fun x hx k hk e=>by have:=(X4.lt.2 x hx k hk).1;have e':k=w.heap.size+4:=e;omega)
      have hs5:w1.heap.size≤(w4.setCell ⟨w.heap.size+4,2,none⟩ (.slice (some ⟨g4,0,none⟩) (q+1) c4)).heap.size:=by
       have h1:=hgr.size
       have h2:(wa.alloc (.cells #[.int .i64 RQ] 3)).heap.size=wa.heap.size+1:=by simp
       rw [size_setCell]
       first | omega | (
        have h3:wa.heap.size≤w4.heap.size:=by (try simp at h1);omega
        omega)
      have H5:=hide (And.intro S5 (And.intro O5 (And.intro X5 hs5)))
      clear S4 O4 X4 t5 S5 O5 X5 hs5 SAL OAL XAL HOW hown hgr hat hlt4 hrw p4 f4 pa pb va HO p2 v1
      go_wp2
      go_roundw
      case rel=>exact ⟨q+1,_,_,_,by omega,by go_num,HNQ,H5.out.1,H5.out.2.1,H5.out.2.2.1,H5.out.2.2.2⟩
      case measure=>simp [intOf];omega
    ·have hlt2':¬ (q:Int)<(sn:Int):=by omega
     have hqs:q=sn:=by omega
     have hRQ0:65536≤RQ:=by
      have:=hRQ.out
      have h0:0≤(q:Int) * RW:=Int.mul_nonneg (by omega) (by omega)
      omega
     have hw:IntKind.i64.wrap (RQ - 65536)=RQ - 65536:=wraps62 _ (by omega) (by omega)
     have S1:Lo w (wr.setCell ⟨w.heap.size+1+1+1+1,3,none⟩ (.int .i64 (Fl (pmS ms) m))) sn c k d (Fl (pmS ms) m) RQ #[.slice a0 m c0,.int .i64 (65536+Ra (pmS ms) m),.slice a2 q c2,.int .i64 (Fl (pmS ms) m),.int .i64 0,.slice none 0 0]:=S.set 3 (.int .i64 (Fl (pmS ms) m))
     have S2:Lo w ((wr.setCell ⟨w.heap.size+1+1+1+1,3,none⟩ (.int .i64 (Fl (pmS ms) m))).setCell ⟨w.heap.size+1+1+1+1,4,none⟩ (.int .i64 (RQ - 65536))) sn c k d (Fl (pmS ms) m) RQ #[.slice a0 m c0,.int .i64 (65536+Ra (pmS ms) m),.slice a2 q c2,.int .i64 (Fl (pmS ms) m),.int .i64 (RQ - 65536),.slice none 0 0]:=S1.set 4 (.int .i64 (RQ - 65536))
     have t1:Turn (fun j=>j=w.heap.size+4) wr (wr.setCell ⟨w.heap.size+1+1+1+1,3,none⟩ (.int .i64 (Fl (pmS ms) m))):=turn_set wr (w.heap.size+4) 3 (.int .i64 (Fl (pmS ms) m))
     have t2:Turn (fun j=>j=w.heap.size+4) (wr.setCell ⟨w.heap.size+1+1+1+1,3,none⟩ (.int .i64 (Fl (pmS ms) m))) ((wr.setCell ⟨w.heap.size+1+1+1+1,3,none⟩ (.int .i64 (Fl (pmS ms) m))).setCell ⟨w.heap.size+1+1+1+1,4,none⟩ (.int .i64 (RQ - 65536))):=turn_set _ (w.heap.size+4) 4 (.int .i64 (RQ - 65536))
     have t12:=t1.trans t2
     have O2:=O.kept t12 (fun k hk e=>by have:=(O.lt k hk).1;have e':k=w.heap.size+4:=e;omega)
     have X2:=PX.kept t12 (fun k hk e=>by have:=(PX.lt.1 k hk).1;have e':k=w.heap.size+4:=e;omega) (fun x hx k hk e=>by have:=(PX.lt.2 x hx k hk).1;have e':k=w.heap.size+4:=e;omega)
     have a0c:wr.cell? ⟨w.heap.size+2,0,none⟩=some (.int .i64 (Fl (pmS ms) m)):=S.k2.cell 0
     have b0c:(wr.setCell ⟨w.heap.size+1+1+1+1,3,none⟩ (.int .i64 (Fl (pmS ms) m))).cell? ⟨w.heap.size+1+1+1,0,none⟩=some (.int .i64 RQ):=S1.k3.cell 0
     have b0c':wr.cell? ⟨w.heap.size+1+1+1,0,none⟩=some (.int .i64 RQ):=S.k3.cell 0
     have l3:wr.cell? ⟨w.heap.size+4,3,none⟩=some (.int .i64 0):=S.k4.cell 3
     have n3:=S.k4.frozen 3
     have l4:(wr.setCell ⟨w.heap.size+1+1+1+1,3,none⟩ (.int .i64 (Fl (pmS ms) m))).cell? ⟨w.heap.size+1+1+1+1,4,none⟩=some (.int .i64 0):=S1.k4.cell 4
     have l4':wr.cell? ⟨w.heap.size+1+1+1+1,4,none⟩=some (.int .i64 0):=S.k4.cell 4
     have n4:(wr.setCell ⟨w.heap.size+1+1+1+1,3,none⟩ (.int .i64 (Fl (pmS ms) m))).frozen? ⟨w.heap.size+1+1+1+1,4,none⟩=false:=S1.k4.frozen 4
     have n4':wr.frozen? ⟨w.heap.size+1+1+1+1,4,none⟩=false:=S.k4.frozen 4
     have v0:((wr.setCell ⟨w.heap.size+1+1+1+1,3,none⟩ (.int .i64 (Fl (pmS ms) m))).setCell ⟨w.heap.size+1+1+1+1,4,none⟩ (.int .i64 (RQ - 65536))).cell? ⟨w.heap.size+1+1+1+1,0,none⟩=some (.slice a0 m c0):=S2.k4.cell 0
     have v1:((wr.setCell ⟨w.heap.size+1+1+1+1,3,none⟩ (.int .i64 (Fl (pmS ms) m))).setCell ⟨w.heap.size+1+1+1+1,4,none⟩ (.int .i64 (RQ - 65536))).cell? ⟨w.heap.size+1+1+1+1,1,none⟩=some (.int .i64 (65536+Ra (pmS ms) m)):=S2.k4.cell 1
     have v2:((wr.setCell ⟨w.heap.size+1+1+1+1,3,none⟩ (.int .i64 (Fl (pmS ms) m))).setCell ⟨w.heap.size+1+1+1+1,4,none⟩ (.int .i64 (RQ - 65536))).cell? ⟨w.heap.size+1+1+1+1,2,none⟩=some (.slice a2 q c2):=S2.k4.cell 2
     have v3:((wr.setCell ⟨w.heap.size+1+1+1+1,3,none⟩ (.int .i64 (Fl (pmS ms) m))).setCell ⟨w.heap.size+1+1+1+1,4,none⟩ (.int .i64 (RQ - 65536))).cell? ⟨w.heap.size+1+1+1+1,3,none⟩=some (.int .i64 (Fl (pmS ms) m)):=S2.k4.cell 3
     have v4:((wr.setCell ⟨w.heap.size+1+1+1+1,3,none⟩ (.int .i64 (Fl (pmS ms) m))).setCell ⟨w.heap.size+1+1+1+1,4,none⟩ (.int .i64 (RQ - 65536))).cell? ⟨w.heap.size+1+1+1+1,4,none⟩=some (.int .i64 (RQ - 65536)):=S2.k4.cell 4
     have v5:((wr.setCell ⟨w.heap.size+1+1+1+1,3,none⟩ (.int .i64 (Fl (pmS ms) m))).setCell ⟨w.heap.size+1+1+1+1,4,none⟩ (.int .i64 (RQ - 65536))).cell? ⟨w.heap.size+1+1+1+1,5,none⟩=some (.slice none 0 0):=S2.k4.cell 5
     have u0:((wr.setCell ⟨w.heap.size+1+1+1+1,3,none⟩ (.int .i64 (Fl (pmS ms) m))).setCell ⟨w.heap.size+1+1+1+1,4,none⟩ (.int .i64 (RQ - 65536))).cell? ⟨w.heap.size+1,0,none⟩=some (.slice none 0 0):=S2.k1.cell 0
     have u1:((wr.setCell ⟨w.heap.size+1+1+1+1,3,none⟩ (.int .i64 (Fl (pmS ms) m))).setCell ⟨w.heap.size+1+1+1+1,4,none⟩ (.int .i64 (RQ - 65536))).cell? ⟨w.heap.size+1,1,none⟩=some (.int .i64 0):=S2.k1.cell 1
     have u2:((wr.setCell ⟨w.heap.size+1+1+1+1,3,none⟩ (.int .i64 (Fl (pmS ms) m))).setCell ⟨w.heap.size+1+1+1+1,4,none⟩ (.int .i64 (RQ - 65536))).cell? ⟨w.heap.size+1,2,none⟩=some (.slice none 0 0):=S2.k1.cell 2
     have u3:((wr.setCell ⟨w.heap.size+1+1+1+1,3,none⟩ (.int .i64 (Fl (pmS ms) m))).setCell ⟨w.heap.size+1+1+1+1,4,none⟩ (.int .i64 (RQ - 65536))).cell? ⟨w.heap.size+1,3,none⟩=some (.int .i64 0):=S2.k1.cell 3
     have u4:((wr.setCell ⟨w.heap.size+1+1+1+1,3,none⟩ (.int .i64 (Fl (pmS ms) m))).setCell ⟨w.heap.size+1+1+1+1,4,none⟩ (.int .i64 (RQ - 65536))).cell? ⟨w.heap.size+1,4,none⟩=some (.int .i64 0):=S2.k1.cell 4
     have u5:((wr.setCell ⟨w.heap.size+1+1+1+1,3,none⟩ (.int .i64 (Fl (pmS ms) m))).setCell ⟨w.heap.size+1+1+1+1,4,none⟩ (.int .i64 (RQ - 65536))).cell? ⟨w.heap.size+1,5,none⟩=some (.slice none 0 0):=S2.k1.cell 5
     have z0:((wr.setCell ⟨w.heap.size+1+1+1+1,3,none⟩ (.int .i64 (Fl (pmS ms) m))).setCell ⟨w.heap.size+1+1+1+1,4,none⟩ (.int .i64 (RQ - 65536))).frozen? ⟨w.heap.size+1,0,none⟩=false:=S2.k1.frozen 0
     have z1:((wr.setCell ⟨w.heap.size+1+1+1+1,3,none⟩ (.int .i64 (Fl (pmS ms) m))).setCell ⟨w.heap.size+1+1+1+1,4,none⟩ (.int .i64 (RQ - 65536))).frozen? ⟨w.heap.size+1,1,none⟩=false:=S2.k1.frozen 1
     have z2:((wr.setCell ⟨w.heap.size+1+1+1+1,3,none⟩ (.int .i64 (Fl (pmS ms) m))).setCell ⟨w.heap.size+1+1+1+1,4,none⟩ (.int .i64 (RQ - 65536))).frozen? ⟨w.heap.size+1,2,none⟩=false:=S2.k1.frozen 2
     have z3:((wr.setCell ⟨w.heap.size+1+1+1+1,3,none⟩ (.int .i64 (Fl (pmS ms) m))).setCell ⟨w.heap.size+1+1+1+1,4,none⟩ (.int .i64 (RQ - 65536))).frozen? ⟨w.heap.size+1,3,none⟩=false:=S2.k1.frozen 3
     have z4:((wr.setCell ⟨w.heap.size+1+1+1+1,3,none⟩ (.int .i64 (Fl (pmS ms) m))).setCell ⟨w.heap.size+1+1+1+1,4,none⟩ (.int .i64 (RQ - 65536))).frozen? ⟨w.heap.size+1,4,none⟩=false:=S2.k1.frozen 4
     have z5:((wr.setCell ⟨w.heap.size+1+1+1+1,3,none⟩ (.int .i64 (Fl (pmS ms) m))).setCell ⟨w.heap.size+1+1+1+1,4,none⟩ (.int .i64 (RQ - 65536))).frozen? ⟨w.heap.size+1,5,none⟩=false:=S2.k1.frozen 5
     have HLAY:=hide (show lay (pmS ms) sn c k=⟨(List.range m).map (plc (pmS ms)),(65536+Ra (pmS ms) m),(List.range q).map (slt (pmS ms) c k),(Fl (pmS ms) m),RQ - 65536,(List.range m).map fun i=>tgs (pmS ms) ((pmS ms).getD i zP)⟩ by
      unfold lay
      rw [hpl,hRQ.out,HRW.out,Int.toNat_natCast,hqs]
      congr 1
      omega)
     have t26:=turn_st6 ((wr.setCell ⟨w.heap.size+1+1+1+1,3,none⟩ (.int .i64 (Fl (pmS ms) m))).setCell ⟨w.heap.size+1+1+1+1,4,none⟩ (.int .i64 (RQ - 65536))) (w.heap.size+1) (.slice a0 m c0) (.int .i64 (65536+Ra (pmS ms) m)) (.slice a2 q c2) (.int .i64 (Fl (pmS ms) m)) (.int .i64 (RQ - 65536)) (.slice none 0 0)
     have X26:=X2.kept t26 (fun k hk e=>by have:=(X2.lt.1 k hk).1;have e':k=w.heap.size+1:=e;omega) (fun x hx k hk e=>by have:=(X2.lt.2 x hx k hk).1;have e':k=w.heap.size+1:=e;omega)
     have O26:=O2.kept t26 (fun k hk e=>by have:=(O2.lt k hk).1;have e':k=w.heap.size+1:=e;omega)
     have B26:=below_turn S2.be t26 (fun j hj=>by have e':j=w.heap.size+1:=hj;omega) S2.be.size
     have SP:∀ j,(Value.slice a2 q c2).ownBlock=some j→∀ x ∈ xs,(svP x).ownBlock≠some j:=fun j hj x hx e=>by have h1:=(O.lt j hj).1;have h2:=HXL.out x hx j e;omega
     have HFIN:=hide (And.intro S2.k1 (And.intro X26 (And.intro O26 (And.intro B26 SP))))
     clear S S1 S2 t1 t2 t12 O PX O2 X2 t26 X26 O26 B26 SP hqs hRQ
     go_wp2
     refine lay_endI HFIN.out.1 _ _ _ _ _ _ _ _ rfl ?_
     obtain ⟨_,X26,O26,B26,SP⟩:=HFIN.out
     refine ⟨B26,a0,c0,xs,a2,c2,?_,?_⟩
     ·unfold layV
      rw [HLAY.out,HXX.out.1]
      simp
     ·rw [HLAY.out]
      exact ⟨by rw [HXX.out.1];exact X26.mono (by omega) (by omega),HXX.out.2,by simpa using O26.mono (by omega),or_nil,rfl,by simpa using SP⟩
structure Kin (w W:World)(s c k d:Int):Prop where
 be:Below w.heap.size w W
 k0:Blk W w.heap.size #[.int .i64 s,.int .i64 c,.int .i64 k,.int .i64 d] 44
 k1:Blk W (w.heap.size+1) zL 36
theorem Kin.below {w W W':World}{s c k d:Int}(h:Kin w W s c k d)(hb:Below W.heap.size W W'):Kin w W' s c k d:=⟨h.be.trans (hb.mono h.be.size),h.k0.below hb,h.k1.below hb⟩
theorem Kin.drew {w W:World}{s c k d:Int}(h:Kin w W s c k d):Kin w W.drew s c k d:=⟨h.be.drew,h.k0,h.k1⟩
theorem kin_new (w:World)(s c k d:Int):Kin w ((w.alloc (.cells #[.int .i64 s,.int .i64 c,.int .i64 k,.int .i64 d] 44)).alloc (.cells #[.slice none 0 0,.int .i64 0,.slice none 0 0,.int .i64 0,.int .i64 0,.slice none 0 0] 36)) s c k d:=by
 have k0:=Blk.new w #[.int .i64 s,.int .i64 c,.int .i64 k,.int .i64 d] 44
 have b0:Below w.heap.size w (w.alloc (.cells #[.int .i64 s,.int .i64 c,.int .i64 k,.int .i64 d] 44)):=(Below.refl _ _).alloc (Nat.le_refl _) _
 have s0:(w.alloc (.cells #[.int .i64 s,.int .i64 c,.int .i64 k,.int .i64 d] 44)).heap.size=w.heap.size+1:=by simp
 generalize w.alloc (.cells #[.int .i64 s,.int .i64 c,.int .i64 k,.int .i64 d] 44)=W0 at *
 have k1:=Blk.new W0 #[.slice none 0 0,.int .i64 0,.slice none 0 0,.int .i64 0,.int .i64 0,.slice none 0 0] 36
 have b1:Below W0.heap.size W0 (W0.alloc (.cells #[.slice none 0 0,.int .i64 0,.slice none 0 0,.int .i64 0,.int .i64 0,.slice none 0 0] 36)):=(Below.refl _ _).alloc (Nat.le_refl _) _
 rw [s0] at k1
 exact ⟨b0.trans (b1.mono (by omega)),k0.below b1,k1⟩
theorem link_endI {w W:World}(k1:Blk W (w.heap.size+1) zL 36)(v0 v1 v2 v3 v4 v5:Value)(V:Int)(Q:Ending→World→Prop)(tmps:Array Value)(h4:tmps[4]?=some (.pointer (some ⟨w.heap.size+1,0,none⟩)))(h5:tmps[5]?=some (.int .i64 V))(hQ:Q (.returned (.tuple #[.agg #[v0,v1,v2,v3,v4,v5],.int .i64 V])) (st6 W (w.heap.size+1) v0 v1 v2 v3 v4 v5)):
 bodyPost Tryz.prog Tryz.f76 Q Exit.ret ⟨tmps,[]⟩ (st6 W (w.heap.size+1) v0 v1 v2 v3 v4 v5):=by
 have k:=blk_st6 k1 v0 v1 v2 v3 v4 v5
 have t0:(st6 W (w.heap.size+1) v0 v1 v2 v3 v4 v5).cell? ⟨w.heap.size+1,0,none⟩=some v0:=k.cell 0
 have t1:(st6 W (w.heap.size+1) v0 v1 v2 v3 v4 v5).cell? ⟨w.heap.size+1,1,none⟩=some v1:=k.cell 1
 have t2:(st6 W (w.heap.size+1) v0 v1 v2 v3 v4 v5).cell? ⟨w.heap.size+1,2,none⟩=some v2:=k.cell 2
 have t3:(st6 W (w.heap.size+1) v0 v1 v2 v3 v4 v5).cell? ⟨w.heap.size+1,3,none⟩=some v3:=k.cell 3
 have t4:(st6 W (w.heap.size+1) v0 v1 v2 v3 v4 v5).cell? ⟨w.heap.size+1,4,none⟩=some v4:=k.cell 4
 have t5:(st6 W (w.heap.size+1) v0 v1 v2 v3 v4 v5).cell? ⟨w.heap.size+1,5,none⟩=some v5:=k.cell 5
 refine bodyPost_ret_by (v:=.tuple #[.agg #[v0,v1,v2,v3,v4,v5],.int .i64 V]) ?_ rfl hQ
 simp [results,Tryz.results76,go_sem,h4,h5,t0,t1,t2,t3,t4,t5]
theorem link_noI {w W:World}{ps:List PMod}{s c k d V:Int}(S:Kin w W s c k d)(hV:lkc ps s c k d=V)(h0:V≠0)(tmps:Array Value)(h4:tmps[4]?=some (.pointer (some ⟨w.heap.size+1,0,none⟩)))(h5:tmps[5]?=some (.int .i64 V)):
 bodyPost Tryz.prog Tryz.f76 (LkM w ps s c k d) Exit.ret ⟨tmps,[]⟩ (st6 W (w.heap.size+1) (.slice none 0 0) (.int .i64 0) (.slice none 0 0) (.int .i64 0) (.int .i64 0) (.slice none 0 0)):=
 link_endI S.k1 _ _ _ _ _ _ V _ tmps h4 h5 (lk_none (below_turn S.be (turn_st6 _ _ _ _ _ _ _ _) (fun j hj=>by have e:j=w.heap.size+1:=hj;omega) S.be.size) hV h0)
theorem iLink_any (a:Option Addr)(n cap:Nat)(ms:List Md)(s c k d:Int)(w:World)(h:MSD w a n cap ms):
 Calls Tryz.prog 76 #[.slice a n cap,.agg #[.int .i64 s,.int .i64 c,.int .i64 k,.int .i64 d]] w (LkM w (pmS ms) s c k d):=by
 have K0:=kin_new w s c k d
 have hl:=h.s.1
 have hpl:(pmS ms).length=n:=by rw [pmS_len,hl]
 have HH:=hide h
 have HSND:=hide (fun (W:World) (hb:Below w.heap.size w W)=>linkFault_any a n cap ms s c k d W (h.below hb))
 obtain ⟨V,hV⟩:∃ V,V=snd4 (pmS ms) s c k d:=⟨_,rfl⟩
 rw [← hV] at HSND
 have HV:=hide hV
 have HK:=hide K0
 clear h K0 hV
 go_enter Tryz.func76,Tryz.ntmps76
 go_wp2_with fail
 refine (HSND.out _ HK.out.be).mono ?_
 rintro e w1 ⟨rfl,hb1⟩
 have S1:=HK.out.below hb1
 clear hb1 HK
 by_cases hV0:V=0
 ·have hs4:=HV.out
  rw [hV0] at hs4
  obtain ⟨hcf,h4,hvl⟩:=snd4_parts hs4.symm
  obtain ⟨hs0,hs1,hc0,hc1,_⟩:=of_decide_eq_true hcf
  have HS4:=hide hs4.symm
  have HVL:=hide hvl
  have HCF:=hide hcf
  rw [hpl] at h4
  subst hV0
  have HTA:=hide (targetsOf_any a n cap ms w1 (HH.out.below S1.be) hvl h4)
  have HS1:=hide S1
  clear hs4 hvl hcf S1
  go_wp2_with fail
  refine HTA.out.mono ?_
  rintro e w2 ⟨hb2,H2⟩
  have S2:=HS1.out.below hb2
  have hs1w:=HS1.out.be.size
  rcases H2 with ⟨hno,v,rfl⟩ | ⟨hyes,f,rfl,TF,hfe⟩
  ·have HP:=hide (lkc_5 (d:=d) (k:=k) (w:=c) (s:=s) HS4.out hno)
   have HS:=hide S2
   have p0:w2.cell? ⟨w.heap.size+1,0,none⟩=some (.slice none 0 0):=S2.k1.cell 0
   have p1:w2.cell? ⟨w.heap.size+1,1,none⟩=some (.int .i64 0):=S2.k1.cell 1
   have p2:w2.cell? ⟨w.heap.size+1,2,none⟩=some (.slice none 0 0):=S2.k1.cell 2
   have p3:w2.cell? ⟨w.heap.size+1,3,none⟩=some (.int .i64 0):=S2.k1.cell 3
   have p4:w2.cell? ⟨w.heap.size+1,4,none⟩=some (.int .i64 0):=S2.k1.cell 4
   have p5:w2.cell? ⟨w.heap.size+1,5,none⟩=some (.slice none 0 0):=S2.k1.cell 5
   have y0:w2.frozen? ⟨w.heap.size+1,0,none⟩=false:=S2.k1.frozen 0
   have y1:w2.frozen? ⟨w.heap.size+1,1,none⟩=false:=S2.k1.frozen 1
   have y2:w2.frozen? ⟨w.heap.size+1,2,none⟩=false:=S2.k1.frozen 2
   have y3:w2.frozen? ⟨w.heap.size+1,3,none⟩=false:=S2.k1.frozen 3
   have y4:w2.frozen? ⟨w.heap.size+1,4,none⟩=false:=S2.k1.frozen 4
   have y5:w2.frozen? ⟨w.heap.size+1,5,none⟩=false:=S2.k1.frozen 5
   clear S2 hno hb2 HTA HS1
   go_wp2
   exact link_noI HS.out HP.out (by decide) _ rfl rfl
  ·have HI:=hide hyes
   have HFE:=hide hfe
   obtain ⟨gt,hgt0⟩:∃ gt,gt=w1.heap.size:=⟨_,rfl⟩
   rw [← hgt0] at TF hs1w ⊢
   have HTF0:=hide TF
   have HS2:=hide S2
   have c0:w2.cell? ⟨w.heap.size,0,none⟩=some (.int .i64 s):=S2.k0.cell 0
   have c1:w2.cell? ⟨w.heap.size,1,none⟩=some (.int .i64 c):=S2.k0.cell 1
   have c2:w2.cell? ⟨w.heap.size,2,none⟩=some (.int .i64 k):=S2.k0.cell 2
   have c3:w2.cell? ⟨w.heap.size,3,none⟩=some (.int .i64 d):=S2.k0.cell 3
   clear hyes hfe TF S2 hb2 HTA HS1 hgt0
   by_cases hsz:s=0
   ·subst hsz
    have HN6:=hide (show ¬ ((0:Int)<0∧¬ shrt (pmS ms) c) from fun e=>absurd e.1 (by omega))
    go_wp2_with fail
    go_quiet (fail)
    have HS:Hid (Kin w (w2.drewN nq) 0 c k d):=hide ⟨below_dN HS2.out.be nq,HS2.out.k0,HS2.out.k1⟩
    have HTF:Hid (Tf (w2.drewN nq) gt gt n f):=hide ⟨HTF0.out.head,HTF0.out.rows,HTF0.out.apart⟩
    clear HS2 HTF0 c0 c1 c2 c3
    generalize w2.drewN nq=w3 at *
    have HLA:=hide (layOut_any a n cap ms 0 c k d w3 (HH.out.below HS.out.be) h4 HCF.out HVL.out)
    have c0:w3.cell? ⟨w.heap.size,0,none⟩=some (.int .i64 0):=HS.out.k0.cell 0
    have c1:w3.cell? ⟨w.heap.size,1,none⟩=some (.int .i64 c):=HS.out.k0.cell 1
    have c2:w3.cell? ⟨w.heap.size,2,none⟩=some (.int .i64 k):=HS.out.k0.cell 2
    have c3:w3.cell? ⟨w.heap.size,3,none⟩=some (.int .i64 d):=HS.out.k0.cell 3
    go_wp2_with fail
    refine HLA.out.mono ?_
    rintro e w4 ⟨hb4,a0,d0,xs,a2,d2,rfl,LO⟩
    have S4:=HS.out.below hb4
    have TF4:=HTF.out.below hb4
    obtain ⟨L,hL⟩:∃ L,L=lay (pmS ms) 0 c k:=⟨_,rfl⟩
    rw [← hL] at LO ⊢
    have HLL:=hide hL
    have al:Below w4.heap.size w4 (w4.alloc (.cells #[.slice a0 xs.length d0,.int .i64 L.stack,.slice a2 L.slots.length d2,.int .i64 L.flash,.int .i64 L.ram,.slice none 0 0] 36)):=(Below.refl _ _).alloc (Nat.le_refl _) _
    have kL:=Blk.new w4 #[.slice a0 xs.length d0,.int .i64 L.stack,.slice a2 L.slots.length d2,.int .i64 L.flash,.int .i64 L.ram,.slice none 0 0] 36
    have S5:=S4.below al
    have TF5:=TF4.below al
    have hs34:=hb4.size
    have hs3:=HS.out.k1.lt
    have hgt:=HTF.out.lt.1
    have LO5:LayO (w4.alloc (.cells #[.slice a0 xs.length d0,.int .i64 L.stack,.slice a2 L.slots.length d2,.int .i64 L.flash,.int .i64 L.ram,.slice none 0 0] 36)) w3.heap.size ⟨L.places,L.stack,L.slots,L.flash,L.ram,[]⟩ a0 d0 xs a2 d2 none 0 []:=⟨LO.p.below al,LO.ps,LO.s.below al,LO.t.below al,LO.tt,LO.sp⟩
    have alM:Below w4.heap.size w4 (w4.alloc (.cells #[.slice a0 xs.length d0,.int .i64 L.stack,.slice a2 L.slots.length d2,.int .i64 L.flash,.int .i64 L.ram,.slice (some ⟨gt,0,none⟩) n n] 36)):=(Below.refl _ _).alloc (Nat.le_refl _) _
    have kM:=Blk.new w4 #[.slice a0 xs.length d0,.int .i64 L.stack,.slice a2 L.slots.length d2,.int .i64 L.flash,.int .i64 L.ram,.slice (some ⟨gt,0,none⟩) n n] 36
    have S6:=S4.below alM
    have TF6:=TF4.below alM
    have LO6:LayO (w4.alloc (.cells #[.slice a0 xs.length d0,.int .i64 L.stack,.slice a2 L.slots.length d2,.int .i64 L.flash,.int .i64 L.ram,.slice (some ⟨gt,0,none⟩) n n] 36)) w3.heap.size ⟨L.places,L.stack,L.slots,L.flash,L.ram,[]⟩ a0 d0 xs a2 d2 none 0 []:=⟨LO.p.below alM,LO.ps,LO.s.below alM,LO.t.below alM,LO.tt,LO.sp⟩
    have l0:(w4.alloc (.cells #[.slice a0 xs.length d0,.int .i64 L.stack,.slice a2 L.slots.length d2,.int .i64 L.flash,.int .i64 L.ram,.slice none 0 0] 36)).cell? ⟨w4.heap.size,0,none⟩=some (.slice a0 xs.length d0):=kL.cell 0
    have l1:(w4.alloc (.cells #[.slice a0 xs.length d0,.int .i64 L.stack,.slice a2 L.slots.length d2,.int .i64 L.flash,.int .i64 L.ram,.slice none 0 0] 36)).cell? ⟨w4.heap.size,1,none⟩=some (.int .i64 L.stack):=kL.cell 1
    have l2:(w4.alloc (.cells #[.slice a0 xs.length d0,.int .i64 L.stack,.slice a2 L.slots.length d2,.int .i64 L.flash,.int .i64 L.ram,.slice none 0 0] 36)).cell? ⟨w4.heap.size,2,none⟩=some (.slice a2 L.slots.length d2):=kL.cell 2
    have l3:(w4.alloc (.cells #[.slice a0 xs.length d0,.int .i64 L.stack,.slice a2 L.slots.length d2,.int .i64 L.flash,.int .i64 L.ram,.slice none 0 0] 36)).cell? ⟨w4.heap.size,3,none⟩=some (.int .i64 L.flash):=kL.cell 3
    have l4:(w4.alloc (.cells #[.slice a0 xs.length d0,.int .i64 L.stack,.slice a2 L.slots.length d2,.int .i64 L.flash,.int .i64 L.ram,.slice none 0 0] 36)).cell? ⟨w4.heap.size,4,none⟩=some (.int .i64 L.ram):=kL.cell 4
    have l5:(w4.alloc (.cells #[.slice a0 xs.length d0,.int .i64 L.stack,.slice a2 L.slots.length d2,.int .i64 L.flash,.int .i64 L.ram,.slice none 0 0] 36)).cell? ⟨w4.heap.size,5,none⟩=some (.slice none 0 0):=kL.cell 5
    have n5:=kL.frozen 5
    have HKL:=hide kM
    have m0:(w4.alloc (.cells #[.slice a0 xs.length d0,.int .i64 L.stack,.slice a2 L.slots.length d2,.int .i64 L.flash,.int .i64 L.ram,.slice (some ⟨gt,0,none⟩) n n] 36)).cell? ⟨w4.heap.size,0,none⟩=some (.slice a0 xs.length d0):=kM.cell 0
    have m1:(w4.alloc (.cells #[.slice a0 xs.length d0,.int .i64 L.stack,.slice a2 L.slots.length d2,.int .i64 L.flash,.int .i64 L.ram,.slice (some ⟨gt,0,none⟩) n n] 36)).cell? ⟨w4.heap.size,1,none⟩=some (.int .i64 L.stack):=kM.cell 1
    have m2:(w4.alloc (.cells #[.slice a0 xs.length d0,.int .i64 L.stack,.slice a2 L.slots.length d2,.int .i64 L.flash,.int .i64 L.ram,.slice (some ⟨gt,0,none⟩) n n] 36)).cell? ⟨w4.heap.size,2,none⟩=some (.slice a2 L.slots.length d2):=kM.cell 2
    have m3:(w4.alloc (.cells #[.slice a0 xs.length d0,.int .i64 L.stack,.slice a2 L.slots.length d2,.int .i64 L.flash,.int .i64 L.ram,.slice (some ⟨gt,0,none⟩) n n] 36)).cell? ⟨w4.heap.size,3,none⟩=some (.int .i64 L.flash):=kM.cell 3
    have m4:(w4.alloc (.cells #[.slice a0 xs.length d0,.int .i64 L.stack,.slice a2 L.slots.length d2,.int .i64 L.flash,.int .i64 L.ram,.slice (some ⟨gt,0,none⟩) n n] 36)).cell? ⟨w4.heap.size,4,none⟩=some (.int .i64 L.ram):=kM.cell 4
    have m5:(w4.alloc (.cells #[.slice a0 xs.length d0,.int .i64 L.stack,.slice a2 L.slots.length d2,.int .i64 L.flash,.int .i64 L.ram,.slice (some ⟨gt,0,none⟩) n n] 36)).cell? ⟨w4.heap.size,5,none⟩=some (.slice (some ⟨gt,0,none⟩) n n):=kM.cell 5
    have HS5:=hide (And.intro S5 (And.intro LO6 (And.intro TF6 S6)))
    clear hb4 S4 TF4 LO al kL hL HS HTF HLA c0 c1 c2 c3 alM kM TF5 LO5
    unfold layV
    by_cases h7:16384<L.flash
    ·have HP:=hide (lkc_7 (d:=d) HS4.out HI.out HN6.out (by rw [← HLL.out];exact h7))
     have p0:(w4.alloc (.cells #[.slice a0 xs.length d0,.int .i64 L.stack,.slice a2 L.slots.length d2,.int .i64 L.flash,.int .i64 L.ram,.slice none 0 0] 36)).cell? ⟨w.heap.size+1,0,none⟩=some (.slice none 0 0):=S5.k1.cell 0
     have p1:(w4.alloc (.cells #[.slice a0 xs.length d0,.int .i64 L.stack,.slice a2 L.slots.length d2,.int .i64 L.flash,.int .i64 L.ram,.slice none 0 0] 36)).cell? ⟨w.heap.size+1,1,none⟩=some (.int .i64 0):=S5.k1.cell 1
     have p2:(w4.alloc (.cells #[.slice a0 xs.length d0,.int .i64 L.stack,.slice a2 L.slots.length d2,.int .i64 L.flash,.int .i64 L.ram,.slice none 0 0] 36)).cell? ⟨w.heap.size+1,2,none⟩=some (.slice none 0 0):=S5.k1.cell 2
     have p3:(w4.alloc (.cells #[.slice a0 xs.length d0,.int .i64 L.stack,.slice a2 L.slots.length d2,.int .i64 L.flash,.int .i64 L.ram,.slice none 0 0] 36)).cell? ⟨w.heap.size+1,3,none⟩=some (.int .i64 0):=S5.k1.cell 3
     have p4:(w4.alloc (.cells #[.slice a0 xs.length d0,.int .i64 L.stack,.slice a2 L.slots.length d2,.int .i64 L.flash,.int .i64 L.ram,.slice none 0 0] 36)).cell? ⟨w.heap.size+1,4,none⟩=some (.int .i64 0):=S5.k1.cell 4
     have p5:(w4.alloc (.cells #[.slice a0 xs.length d0,.int .i64 L.stack,.slice a2 L.slots.length d2,.int .i64 L.flash,.int .i64 L.ram,.slice none 0 0] 36)).cell? ⟨w.heap.size+1,5,none⟩=some (.slice none 0 0):=S5.k1.cell 5
     have y0:(w4.alloc (.cells #[.slice a0 xs.length d0,.int .i64 L.stack,.slice a2 L.slots.length d2,.int .i64 L.flash,.int .i64 L.ram,.slice none 0 0] 36)).frozen? ⟨w.heap.size+1,0,none⟩=false:=S5.k1.frozen 0
     have y1:(w4.alloc (.cells #[.slice a0 xs.length d0,.int .i64 L.stack,.slice a2 L.slots.length d2,.int .i64 L.flash,.int .i64 L.ram,.slice none 0 0] 36)).frozen? ⟨w.heap.size+1,1,none⟩=false:=S5.k1.frozen 1
     have y2:(w4.alloc (.cells #[.slice a0 xs.length d0,.int .i64 L.stack,.slice a2 L.slots.length d2,.int .i64 L.flash,.int .i64 L.ram,.slice none 0 0] 36)).frozen? ⟨w.heap.size+1,2,none⟩=false:=S5.k1.frozen 2
     have y3:(w4.alloc (.cells #[.slice a0 xs.length d0,.int .i64 L.stack,.slice a2 L.slots.length d2,.int .i64 L.flash,.int .i64 L.ram,.slice none 0 0] 36)).frozen? ⟨w.heap.size+1,3,none⟩=false:=S5.k1.frozen 3
     have y4:(w4.alloc (.cells #[.slice a0 xs.length d0,.int .i64 L.stack,.slice a2 L.slots.length d2,.int .i64 L.flash,.int .i64 L.ram,.slice none 0 0] 36)).frozen? ⟨w.heap.size+1,4,none⟩=false:=S5.k1.frozen 4
     have y5:(w4.alloc (.cells #[.slice a0 xs.length d0,.int .i64 L.stack,.slice a2 L.slots.length d2,.int .i64 L.flash,.int .i64 L.ram,.slice none 0 0] 36)).frozen? ⟨w.heap.size+1,5,none⟩=false:=S5.k1.frozen 5
     clear S5 S6 LO6 TF6
     go_wp2
     exact link_noI HS5.out.1 HP.out (by decide) _ rfl rfl
    ·have h7':¬ 16384<L.flash:=h7
     by_cases h8:16384<L.ram
     ·have HP:=hide (lkc_8 (d:=d) HS4.out HI.out HN6.out (by rw [← HLL.out];exact h7) (by rw [← HLL.out];exact h8))
      have p0:(w4.alloc (.cells #[.slice a0 xs.length d0,.int .i64 L.stack,.slice a2 L.slots.length d2,.int .i64 L.flash,.int .i64 L.ram,.slice none 0 0] 36)).cell? ⟨w.heap.size+1,0,none⟩=some (.slice none 0 0):=S5.k1.cell 0
      have p1:(w4.alloc (.cells #[.slice a0 xs.length d0,.int .i64 L.stack,.slice a2 L.slots.length d2,.int .i64 L.flash,.int .i64 L.ram,.slice none 0 0] 36)).cell? ⟨w.heap.size+1,1,none⟩=some (.int .i64 0):=S5.k1.cell 1
      have p2:(w4.alloc (.cells #[.slice a0 xs.length d0,.int .i64 L.stack,.slice a2 L.slots.length d2,.int .i64 L.flash,.int .i64 L.ram,.slice none 0 0] 36)).cell? ⟨w.heap.size+1,2,none⟩=some (.slice none 0 0):=S5.k1.cell 2
      have p3:(w4.alloc (.cells #[.slice a0 xs.length d0,.int .i64 L.stack,.slice a2 L.slots.length d2,.int .i64 L.flash,.int .i64 L.ram,.slice none 0 0] 36)).cell? ⟨w.heap.size+1,3,none⟩=some (.int .i64 0):=S5.k1.cell 3
      have p4:(w4.alloc (.cells #[.slice a0 xs.length d0,.int .i64 L.stack,.slice a2 L.slots.length d2,.int .i64 L.flash,.int .i64 L.ram,.slice none 0 0] 36)).cell? ⟨w.heap.size+1,4,none⟩=some (.int .i64 0):=S5.k1.cell 4
      have p5:(w4.alloc (.cells #[.slice a0 xs.length d0,.int .i64 L.stack,.slice a2 L.slots.length d2,.int .i64 L.flash,.int .i64 L.ram,.slice none 0 0] 36)).cell? ⟨w.heap.size+1,5,none⟩=some (.slice none 0 0):=S5.k1.cell 5
      have y0:(w4.alloc (.cells #[.slice a0 xs.length d0,.int .i64 L.stack,.slice a2 L.slots.length d2,.int .i64 L.flash,.int .i64 L.ram,.slice none 0 0] 36)).frozen? ⟨w.heap.size+1,0,none⟩=false:=S5.k1.frozen 0
      have y1:(w4.alloc (.cells #[.slice a0 xs.length d0,.int .i64 L.stack,.slice a2 L.slots.length d2,.int .i64 L.flash,.int .i64 L.ram,.slice none 0 0] 36)).frozen? ⟨w.heap.size+1,1,none⟩=false:=S5.k1.frozen 1
      have y2:(w4.alloc (.cells #[.slice a0 xs.length d0,.int .i64 L.stack,.slice a2 L.slots.length d2,.int .i64 L.flash,.int .i64 L.ram,.slice none 0 0] 36)).frozen? ⟨w.heap.size+1,2,none⟩=false:=S5.k1.frozen 2
      have y3:(w4.alloc (.cells #[.slice a0 xs.length d0,.int .i64 L.stack,.slice a2 L.slots.length d2,.int .i64 L.flash,.int .i64 L.ram,.slice none 0 0] 36)).frozen? ⟨w.heap.size+1,3,none⟩=false:=S5.k1.frozen 3
      have y4:(w4.alloc (.cells #[.slice a0 xs.length d0,.int .i64 L.stack,.slice a2 L.slots.length d2,.int .i64 L.flash,.int .i64 L.ram,.slice none 0 0] 36)).frozen? ⟨w.heap.size+1,4,none⟩=false:=S5.k1.frozen 4
      have y5:(w4.alloc (.cells #[.slice a0 xs.length d0,.int .i64 L.stack,.slice a2 L.slots.length d2,.int .i64 L.flash,.int .i64 L.ram,.slice none 0 0] 36)).frozen? ⟨w.heap.size+1,5,none⟩=false:=S5.k1.frozen 5
      clear S5 S6 LO6 TF6
      go_wp2
      exact link_noI HS5.out.1 HP.out (by decide) _ rfl rfl
     ·have HP:=hide (lkc_0 (d:=d) HS4.out HI.out HN6.out (by rw [← HLL.out];exact h7) (by rw [← HLL.out];exact h8))
      have p0:(w4.alloc (.cells #[.slice a0 xs.length d0,.int .i64 L.stack,.slice a2 L.slots.length d2,.int .i64 L.flash,.int .i64 L.ram,.slice (some ⟨gt,0,none⟩) n n] 36)).cell? ⟨w.heap.size+1,0,none⟩=some (.slice none 0 0):=S6.k1.cell 0
      have p1:(w4.alloc (.cells #[.slice a0 xs.length d0,.int .i64 L.stack,.slice a2 L.slots.length d2,.int .i64 L.flash,.int .i64 L.ram,.slice (some ⟨gt,0,none⟩) n n] 36)).cell? ⟨w.heap.size+1,1,none⟩=some (.int .i64 0):=S6.k1.cell 1
      have p2:(w4.alloc (.cells #[.slice a0 xs.length d0,.int .i64 L.stack,.slice a2 L.slots.length d2,.int .i64 L.flash,.int .i64 L.ram,.slice (some ⟨gt,0,none⟩) n n] 36)).cell? ⟨w.heap.size+1,2,none⟩=some (.slice none 0 0):=S6.k1.cell 2
      have p3:(w4.alloc (.cells #[.slice a0 xs.length d0,.int .i64 L.stack,.slice a2 L.slots.length d2,.int .i64 L.flash,.int .i64 L.ram,.slice (some ⟨gt,0,none⟩) n n] 36)).cell? ⟨w.heap.size+1,3,none⟩=some (.int .i64 0):=S6.k1.cell 3
      have p4:(w4.alloc (.cells #[.slice a0 xs.length d0,.int .i64 L.stack,.slice a2 L.slots.length d2,.int .i64 L.flash,.int .i64 L.ram,.slice (some ⟨gt,0,none⟩) n n] 36)).cell? ⟨w.heap.size+1,4,none⟩=some (.int .i64 0):=S6.k1.cell 4
      have p5:(w4.alloc (.cells #[.slice a0 xs.length d0,.int .i64 L.stack,.slice a2 L.slots.length d2,.int .i64 L.flash,.int .i64 L.ram,.slice (some ⟨gt,0,none⟩) n n] 36)).cell? ⟨w.heap.size+1,5,none⟩=some (.slice none 0 0):=S6.k1.cell 5
      have y0:(w4.alloc (.cells #[.slice a0 xs.length d0,.int .i64 L.stack,.slice a2 L.slots.length d2,.int .i64 L.flash,.int .i64 L.ram,.slice (some ⟨gt,0,none⟩) n n] 36)).frozen? ⟨w.heap.size+1,0,none⟩=false:=S6.k1.frozen 0
      have y1:(w4.alloc (.cells #[.slice a0 xs.length d0,.int .i64 L.stack,.slice a2 L.slots.length d2,.int .i64 L.flash,.int .i64 L.ram,.slice (some ⟨gt,0,none⟩) n n] 36)).frozen? ⟨w.heap.size+1,1,none⟩=false:=S6.k1.frozen 1
      have y2:(w4.alloc (.cells #[.slice a0 xs.length d0,.int .i64 L.stack,.slice a2 L.slots.length d2,.int .i64 L.flash,.int .i64 L.ram,.slice (some ⟨gt,0,none⟩) n n] 36)).frozen? ⟨w.heap.size+1,2,none⟩=false:=S6.k1.frozen 2
      have y3:(w4.alloc (.cells #[.slice a0 xs.length d0,.int .i64 L.stack,.slice a2 L.slots.length d2,.int .i64 L.flash,.int .i64 L.ram,.slice (some ⟨gt,0,none⟩) n n] 36)).frozen? ⟨w.heap.size+1,3,none⟩=false:=S6.k1.frozen 3
      have y4:(w4.alloc (.cells #[.slice a0 xs.length d0,.int .i64 L.stack,.slice a2 L.slots.length d2,.int .i64 L.flash,.int .i64 L.ram,.slice (some ⟨gt,0,none⟩) n n] 36)).frozen? ⟨w.heap.size+1,4,none⟩=false:=S6.k1.frozen 4
      have y5:(w4.alloc (.cells #[.slice a0 xs.length d0,.int .i64 L.stack,.slice a2 L.slots.length d2,.int .i64 L.flash,.int .i64 L.ram,.slice (some ⟨gt,0,none⟩) n n] 36)).frozen? ⟨w.heap.size+1,5,none⟩=false:=S6.k1.frozen 5
      clear S5 S6 LO6 TF6
      go_wp2
      refine link_endI HS5.out.2.2.2.k1 _ _ _ _ _ _ 0 _ _ rfl rfl ?_
      obtain ⟨S5,LO5,TF5,S6⟩:=HS5.out
      have t:=turn_st6 (w4.alloc (.cells #[.slice a0 xs.length d0,.int .i64 L.stack,.slice a2 L.slots.length d2,.int .i64 L.flash,.int .i64 L.ram,.slice (some ⟨gt,0,none⟩) n n] 36)) (w.heap.size+1) (.slice a0 xs.length d0) (.int .i64 L.stack) (.slice a2 L.slots.length d2) (.int .i64 L.flash) (.int .i64 L.ram) (.slice (some ⟨gt,0,none⟩) n n)
      have OT:=TF5.otg (c:=n) (Nat.le_refl _) (by unfold maxLen;omega) rfl
      have key:∀ (base sz nn:Nat) (ty:TypeId) (v:Value) (ys:List Value),(w4.alloc (.cells #[.slice a0 xs.length d0,.int .i64 L.stack,.slice a2 L.slots.length d2,.int .i64 L.flash,.int .i64 L.ram,.slice (some ⟨gt,0,none⟩) n n] 36)).ownsRow base ty sz v nn ys→ty≠36→∀ j,v.ownBlock=some j→¬ (fun j=>j=w.heap.size+1) j:=fun base sz nn ty v ys ho hne j hj e=>by
       have e':j=w.heap.size+1:=e
       subst e'
       exact kind_no ho hj S6.k1 hne
      refine ⟨below_turn S6.be (turn_st6 _ _ _ _ _ _ _ _) (fun j hj=>by have e:j=w.heap.size+1:=hj;omega) S6.be.size,a0,d0,xs,a2,d2,some ⟨gt,0,none⟩,n,(List.range n).map f,?_,?_⟩
      ·unfold lkL layV;rw [if_pos HP.out,HP.out,← HLL.out];simp
      ·unfold lkL;rw [if_pos HP.out,← HLL.out]
       exact ⟨(LO5.p.kept t (key _ _ _ _ _ _ LO5.p.head (by decide)) (fun x hx=>key _ _ _ _ _ _ (LO5.p.rows x hx) (by decide))).mono (by omega) (by omega),LO5.ps,(LO5.s.kept t (key _ _ _ _ _ _ LO5.s (by decide))).mono (by omega),(OT.kept t (key _ _ _ _ _ _ OT.head (by decide)) (fun x hx=>key _ _ _ _ _ _ (OT.rows x hx) (by decide))).mono (by omega) (by omega),by rw [HLL.out];unfold lay;rw [hpl,List.map_map];exact List.map_congr_left (fun i hi=>HFE.out i (by simpa using hi)),LO5.sp⟩
   ·have hsn:(s != 0)=true:=by simp [hsz]
    have HGB:=hide (fun (W:World) (hb:Below w.heap.size w W)=>greatestBank_any a n cap ms W (HH.out.below hb) HVL.out h4)
    go_wp2_with fail
    go_region_law (first
     | (go_simp;go_at_call 169;refine (HGB.out _ (by first | exact HS2.out.be | exact HS2.out.drew.be)).mono ?_;rintro e wa ⟨R,rfl,hG,hba⟩;have HSA:=hide (show Kin w wa s c k d from (by first | exact HS2.out.below hba | exact HS2.out.drew.below hba));have HTB:=hide (show Tf wa gt gt n f from (by first | exact HTF0.out.below hba | exact Tf.below (w:=w2.drew) ⟨HTF0.out.head,HTF0.out.rows,HTF0.out.apart⟩ hba));have e1:wa.cell? ⟨w.heap.size,1,none⟩=some (.int .i64 c):=HSA.out.k0.cell 1;have HG:=hide hG;clear hba hG))
    all_goals
     have HS:=HSA
     have HTF:=HTB
     clear HS2 HTF0 c0 c1 c2 c3 HSA HTB e1 HGB
     generalize wa=w3 at *
     by_cases h6:c<(R:Int)
     ·have HP:=hide (lkc_6 (d:=d) (k:=k) HS4.out HI.out ⟨by omega,(gb_shrt HG.out c hc0).1 h6⟩)
      have S3:=HS.out
      have p0:w3.cell? ⟨w.heap.size+1,0,none⟩=some (.slice none 0 0):=S3.k1.cell 0
      have p1:w3.cell? ⟨w.heap.size+1,1,none⟩=some (.int .i64 0):=S3.k1.cell 1
      have p2:w3.cell? ⟨w.heap.size+1,2,none⟩=some (.slice none 0 0):=S3.k1.cell 2
      have p3:w3.cell? ⟨w.heap.size+1,3,none⟩=some (.int .i64 0):=S3.k1.cell 3
      have p4:w3.cell? ⟨w.heap.size+1,4,none⟩=some (.int .i64 0):=S3.k1.cell 4
      have p5:w3.cell? ⟨w.heap.size+1,5,none⟩=some (.slice none 0 0):=S3.k1.cell 5
      have y0:w3.frozen? ⟨w.heap.size+1,0,none⟩=false:=S3.k1.frozen 0
      have y1:w3.frozen? ⟨w.heap.size+1,1,none⟩=false:=S3.k1.frozen 1
      have y2:w3.frozen? ⟨w.heap.size+1,2,none⟩=false:=S3.k1.frozen 2
      have y3:w3.frozen? ⟨w.heap.size+1,3,none⟩=false:=S3.k1.frozen 3
      have y4:w3.frozen? ⟨w.heap.size+1,4,none⟩=false:=S3.k1.frozen 4
      have y5:w3.frozen? ⟨w.heap.size+1,5,none⟩=false:=S3.k1.frozen 5
      clear S3
      go_wp2
      exact link_noI HS.out HP.out (by decide) _ rfl rfl
     ·have HN6:=hide (show ¬ (0<s∧¬ shrt (pmS ms) c) from fun e=>h6 ((gb_shrt HG.out c hc0).2 e.2))
      have h6':¬ c<(R:Int):=h6
      have HLA:=hide (layOut_any a n cap ms s c k d w3 (HH.out.below HS.out.be) h4 HCF.out HVL.out)
      have c0:w3.cell? ⟨w.heap.size,0,none⟩=some (.int .i64 s):=HS.out.k0.cell 0
      have c1:w3.cell? ⟨w.heap.size,1,none⟩=some (.int .i64 c):=HS.out.k0.cell 1
      have c2:w3.cell? ⟨w.heap.size,2,none⟩=some (.int .i64 k):=HS.out.k0.cell 2
      have c3:w3.cell? ⟨w.heap.size,3,none⟩=some (.int .i64 d):=HS.out.k0.cell 3
      go_wp2_with fail
      refine HLA.out.mono ?_
      rintro e w4 ⟨hb4,a0,d0,xs,a2,d2,rfl,LO⟩
      have S4:=HS.out.below hb4
      have TF4:=HTF.out.below hb4
      obtain ⟨L,hL⟩:∃ L,L=lay (pmS ms) s c k:=⟨_,rfl⟩
      rw [← hL] at LO ⊢
      have HLL:=hide hL
      have al:Below w4.heap.size w4 (w4.alloc (.cells #[.slice a0 xs.length d0,.int .i64 L.stack,.slice a2 L.slots.length d2,.int .i64 L.flash,.int .i64 L.ram,.slice none 0 0] 36)):=(Below.refl _ _).alloc (Nat.le_refl _) _
      have kL:=Blk.new w4 #[.slice a0 xs.length d0,.int .i64 L.stack,.slice a2 L.slots.length d2,.int .i64 L.flash,.int .i64 L.ram,.slice none 0 0] 36
      have S5:=S4.below al
      have TF5:=TF4.below al
      have hs34:=hb4.size
      have hs3:=HS.out.k1.lt
      have hgt:=HTF.out.lt.1
      have LO5:LayO (w4.alloc (.cells #[.slice a0 xs.length d0,.int .i64 L.stack,.slice a2 L.slots.length d2,.int .i64 L.flash,.int .i64 L.ram,.slice none 0 0] 36)) w3.heap.size ⟨L.places,L.stack,L.slots,L.flash,L.ram,[]⟩ a0 d0 xs a2 d2 none 0 []:=⟨LO.p.below al,LO.ps,LO.s.below al,LO.t.below al,LO.tt,LO.sp⟩
      have alM:Below w4.heap.size w4 (w4.alloc (.cells #[.slice a0 xs.length d0,.int .i64 L.stack,.slice a2 L.slots.length d2,.int .i64 L.flash,.int .i64 L.ram,.slice (some ⟨gt,0,none⟩) n n] 36)):=(Below.refl _ _).alloc (Nat.le_refl _) _
      have kM:=Blk.new w4 #[.slice a0 xs.length d0,.int .i64 L.stack,.slice a2 L.slots.length d2,.int .i64 L.flash,.int .i64 L.ram,.slice (some ⟨gt,0,none⟩) n n] 36
      have S6:=S4.below alM
      have TF6:=TF4.below alM
      have LO6:LayO (w4.alloc (.cells #[.slice a0 xs.length d0,.int .i64 L.stack,.slice a2 L.slots.length d2,.int .i64 L.flash,.int .i64 L.ram,.slice (some ⟨gt,0,none⟩) n n] 36)) w3.heap.size ⟨L.places,L.stack,L.slots,L.flash,L.ram,[]⟩ a0 d0 xs a2 d2 none 0 []:=⟨LO.p.below alM,LO.ps,LO.s.below alM,LO.t.below alM,LO.tt,LO.sp⟩
      have l0:(w4.alloc (.cells #[.slice a0 xs.length d0,.int .i64 L.stack,.slice a2 L.slots.length d2,.int .i64 L.flash,.int .i64 L.ram,.slice none 0 0] 36)).cell? ⟨w4.heap.size,0,none⟩=some (.slice a0 xs.length d0):=kL.cell 0
      have l1:(w4.alloc (.cells #[.slice a0 xs.length d0,.int .i64 L.stack,.slice a2 L.slots.length d2,.int .i64 L.flash,.int .i64 L.ram,.slice none 0 0] 36)).cell? ⟨w4.heap.size,1,none⟩=some (.int .i64 L.stack):=kL.cell 1
      have l2:(w4.alloc (.cells #[.slice a0 xs.length d0,.int .i64 L.stack,.slice a2 L.slots.length d2,.int .i64 L.flash,.int .i64 L.ram,.slice none 0 0] 36)).cell? ⟨w4.heap.size,2,none⟩=some (.slice a2 L.slots.length d2):=kL.cell 2
      have l3:(w4.alloc (.cells #[.slice a0 xs.length d0,.int .i64 L.stack,.slice a2 L.slots.length d2,.int .i64 L.flash,.int .i64 L.ram,.slice none 0 0] 36)).cell? ⟨w4.heap.size,3,none⟩=some (.int .i64 L.flash):=kL.cell 3
      have l4:(w4.alloc (.cells #[.slice a0 xs.length d0,.int .i64 L.stack,.slice a2 L.slots.length d2,.int .i64 L.flash,.int .i64 L.ram,.slice none 0 0] 36)).cell? ⟨w4.heap.size,4,none⟩=some (.int .i64 L.ram):=kL.cell 4
      have l5:(w4.alloc (.cells #[.slice a0 xs.length d0,.int .i64 L.stack,.slice a2 L.slots.length d2,.int .i64 L.flash,.int .i64 L.ram,.slice none 0 0] 36)).cell? ⟨w4.heap.size,5,none⟩=some (.slice none 0 0):=kL.cell 5
      have n5:=kL.frozen 5
      have HKL:=hide kM
      have m0:(w4.alloc (.cells #[.slice a0 xs.length d0,.int .i64 L.stack,.slice a2 L.slots.length d2,.int .i64 L.flash,.int .i64 L.ram,.slice (some ⟨gt,0,none⟩) n n] 36)).cell? ⟨w4.heap.size,0,none⟩=some (.slice a0 xs.length d0):=kM.cell 0
      have m1:(w4.alloc (.cells #[.slice a0 xs.length d0,.int .i64 L.stack,.slice a2 L.slots.length d2,.int .i64 L.flash,.int .i64 L.ram,.slice (some ⟨gt,0,none⟩) n n] 36)).cell? ⟨w4.heap.size,1,none⟩=some (.int .i64 L.stack):=kM.cell 1
      have m2:(w4.alloc (.cells #[.slice a0 xs.length d0,.int .i64 L.stack,.slice a2 L.slots.length d2,.int .i64 L.flash,.int .i64 L.ram,.slice (some ⟨gt,0,none⟩) n n] 36)).cell? ⟨w4.heap.size,2,none⟩=some (.slice a2 L.slots.length d2):=kM.cell 2
      have m3:(w4.alloc (.cells #[.slice a0 xs.length d0,.int .i64 L.stack,.slice a2 L.slots.length d2,.int .i64 L.flash,.int .i64 L.ram,.slice (some ⟨gt,0,none⟩) n n] 36)).cell? ⟨w4.heap.size,3,none⟩=some (.int .i64 L.flash):=kM.cell 3
      have m4:(w4.alloc (.cells #[.slice a0 xs.length d0,.int .i64 L.stack,.slice a2 L.slots.length d2,.int .i64 L.flash,.int .i64 L.ram,.slice (some ⟨gt,0,none⟩) n n] 36)).cell? ⟨w4.heap.size,4,none⟩=some (.int .i64 L.ram):=kM.cell 4
      have m5:(w4.alloc (.cells #[.slice a0 xs.length d0,.int .i64 L.stack,.slice a2 L.slots.length d2,.int .i64 L.flash,.int .i64 L.ram,.slice (some ⟨gt,0,none⟩) n n] 36)).cell? ⟨w4.heap.size,5,none⟩=some (.slice (some ⟨gt,0,none⟩) n n):=kM.cell 5
      have HS5:=hide (And.intro S5 (And.intro LO6 (And.intro TF6 S6)))
      clear hb4 S4 TF4 LO al kL hL HS HTF HLA c0 c1 c2 c3 alM kM TF5 LO5
      unfold layV
      by_cases h7:16384<L.flash
      ·have HP:=hide (lkc_7 (d:=d) HS4.out HI.out HN6.out (by rw [← HLL.out];exact h7))
       have p0:(w4.alloc (.cells #[.slice a0 xs.length d0,.int .i64 L.stack,.slice a2 L.slots.length d2,.int .i64 L.flash,.int .i64 L.ram,.slice none 0 0] 36)).cell? ⟨w.heap.size+1,0,none⟩=some (.slice none 0 0):=S5.k1.cell 0
       have p1:(w4.alloc (.cells #[.slice a0 xs.length d0,.int .i64 L.stack,.slice a2 L.slots.length d2,.int .i64 L.flash,.int .i64 L.ram,.slice none 0 0] 36)).cell? ⟨w.heap.size+1,1,none⟩=some (.int .i64 0):=S5.k1.cell 1
       have p2:(w4.alloc (.cells #[.slice a0 xs.length d0,.int .i64 L.stack,.slice a2 L.slots.length d2,.int .i64 L.flash,.int .i64 L.ram,.slice none 0 0] 36)).cell? ⟨w.heap.size+1,2,none⟩=some (.slice none 0 0):=S5.k1.cell 2
       have p3:(w4.alloc (.cells #[.slice a0 xs.length d0,.int .i64 L.stack,.slice a2 L.slots.length d2,.int .i64 L.flash,.int .i64 L.ram,.slice none 0 0] 36)).cell? ⟨w.heap.size+1,3,none⟩=some (.int .i64 0):=S5.k1.cell 3
       have p4:(w4.alloc (.cells #[.slice a0 xs.length d0,.int .i64 L.stack,.slice a2 L.slots.length d2,.int .i64 L.flash,.int .i64 L.ram,.slice none 0 0] 36)).cell? ⟨w.heap.size+1,4,none⟩=some (.int .i64 0):=S5.k1.cell 4
       have p5:(w4.alloc (.cells #[.slice a0 xs.length d0,.int .i64 L.stack,.slice a2 L.slots.length d2,.int .i64 L.flash,.int .i64 L.ram,.slice none 0 0] 36)).cell? ⟨w.heap.size+1,5,none⟩=some (.slice none 0 0):=S5.k1.cell 5
       have y0:(w4.alloc (.cells #[.slice a0 xs.length d0,.int .i64 L.stack,.slice a2 L.slots.length d2,.int .i64 L.flash,.int .i64 L.ram,.slice none 0 0] 36)).frozen? ⟨w.heap.size+1,0,none⟩=false:=S5.k1.frozen 0
       have y1:(w4.alloc (.cells #[.slice a0 xs.length d0,.int .i64 L.stack,.slice a2 L.slots.length d2,.int .i64 L.flash,.int .i64 L.ram,.slice none 0 0] 36)).frozen? ⟨w.heap.size+1,1,none⟩=false:=S5.k1.frozen 1
       have y2:(w4.alloc (.cells #[.slice a0 xs.length d0,.int .i64 L.stack,.slice a2 L.slots.length d2,.int .i64 L.flash,.int .i64 L.ram,.slice none 0 0] 36)).frozen? ⟨w.heap.size+1,2,none⟩=false:=S5.k1.frozen 2
       have y3:(w4.alloc (.cells #[.slice a0 xs.length d0,.int .i64 L.stack,.slice a2 L.slots.length d2,.int .i64 L.flash,.int .i64 L.ram,.slice none 0 0] 36)).frozen? ⟨w.heap.size+1,3,none⟩=false:=S5.k1.frozen 3
       have y4:(w4.alloc (.cells #[.slice a0 xs.length d0,.int .i64 L.stack,.slice a2 L.slots.length d2,.int .i64 L.flash,.int .i64 L.ram,.slice none 0 0] 36)).frozen? ⟨w.heap.size+1,4,none⟩=false:=S5.k1.frozen 4
       have y5:(w4.alloc (.cells #[.slice a0 xs.length d0,.int .i64 L.stack,.slice a2 L.slots.length d2,.int .i64 L.flash,.int .i64 L.ram,.slice none 0 0] 36)).frozen? ⟨w.heap.size+1,5,none⟩=false:=S5.k1.frozen 5
       clear S5 S6 LO6 TF6
       go_wp2
       exact link_noI HS5.out.1 HP.out (by decide) _ rfl rfl
      ·have h7':¬ 16384<L.flash:=h7
       by_cases h8:16384<L.ram
       ·have HP:=hide (lkc_8 (d:=d) HS4.out HI.out HN6.out (by rw [← HLL.out];exact h7) (by rw [← HLL.out];exact h8))
        have p0:(w4.alloc (.cells #[.slice a0 xs.length d0,.int .i64 L.stack,.slice a2 L.slots.length d2,.int .i64 L.flash,.int .i64 L.ram,.slice none 0 0] 36)).cell? ⟨w.heap.size+1,0,none⟩=some (.slice none 0 0):=S5.k1.cell 0
        have p1:(w4.alloc (.cells #[.slice a0 xs.length d0,.int .i64 L.stack,.slice a2 L.slots.length d2,.int .i64 L.flash,.int .i64 L.ram,.slice none 0 0] 36)).cell? ⟨w.heap.size+1,1,none⟩=some (.int .i64 0):=S5.k1.cell 1
        have p2:(w4.alloc (.cells #[.slice a0 xs.length d0,.int .i64 L.stack,.slice a2 L.slots.length d2,.int .i64 L.flash,.int .i64 L.ram,.slice none 0 0] 36)).cell? ⟨w.heap.size+1,2,none⟩=some (.slice none 0 0):=S5.k1.cell 2
        have p3:(w4.alloc (.cells #[.slice a0 xs.length d0,.int .i64 L.stack,.slice a2 L.slots.length d2,.int .i64 L.flash,.int .i64 L.ram,.slice none 0 0] 36)).cell? ⟨w.heap.size+1,3,none⟩=some (.int .i64 0):=S5.k1.cell 3
        have p4:(w4.alloc (.cells #[.slice a0 xs.length d0,.int .i64 L.stack,.slice a2 L.slots.length d2,.int .i64 L.flash,.int .i64 L.ram,.slice none 0 0] 36)).cell? ⟨w.heap.size+1,4,none⟩=some (.int .i64 0):=S5.k1.cell 4
        have p5:(w4.alloc (.cells #[.slice a0 xs.length d0,.int .i64 L.stack,.slice a2 L.slots.length d2,.int .i64 L.flash,.int .i64 L.ram,.slice none 0 0] 36)).cell? ⟨w.heap.size+1,5,none⟩=some (.slice none 0 0):=S5.k1.cell 5
        have y0:(w4.alloc (.cells #[.slice a0 xs.length d0,.int .i64 L.stack,.slice a2 L.slots.length d2,.int .i64 L.flash,.int .i64 L.ram,.slice none 0 0] 36)).frozen? ⟨w.heap.size+1,0,none⟩=false:=S5.k1.frozen 0
        have y1:(w4.alloc (.cells #[.slice a0 xs.length d0,.int .i64 L.stack,.slice a2 L.slots.length d2,.int .i64 L.flash,.int .i64 L.ram,.slice none 0 0] 36)).frozen? ⟨w.heap.size+1,1,none⟩=false:=S5.k1.frozen 1
        have y2:(w4.alloc (.cells #[.slice a0 xs.length d0,.int .i64 L.stack,.slice a2 L.slots.length d2,.int .i64 L.flash,.int .i64 L.ram,.slice none 0 0] 36)).frozen? ⟨w.heap.size+1,2,none⟩=false:=S5.k1.frozen 2
        have y3:(w4.alloc (.cells #[.slice a0 xs.length d0,.int .i64 L.stack,.slice a2 L.slots.length d2,.int .i64 L.flash,.int .i64 L.ram,.slice none 0 0] 36)).frozen? ⟨w.heap.size+1,3,none⟩=false:=S5.k1.frozen 3
        have y4:(w4.alloc (.cells #[.slice a0 xs.length d0,.int .i64 L.stack,.slice a2 L.slots.length d2,.int .i64 L.flash,.int .i64 L.ram,.slice none 0 0] 36)).frozen? ⟨w.heap.size+1,4,none⟩=false:=S5.k1.frozen 4
        have y5:(w4.alloc (.cells #[.slice a0 xs.length d0,.int .i64 L.stack,.slice a2 L.slots.length d2,.int .i64 L.flash,.int .i64 L.ram,.slice none 0 0] 36)).frozen? ⟨w.heap.size+1,5,none⟩=false:=S5.k1.frozen 5
        clear S5 S6 LO6 TF6
        go_wp2
        exact link_noI HS5.out.1 HP.out (by decide) _ rfl rfl
       ·have HP:=hide (lkc_0 (d:=d) HS4.out HI.out HN6.out (by rw [← HLL.out];exact h7) (by rw [← HLL.out];exact h8))
        have p0:(w4.alloc (.cells #[.slice a0 xs.length d0,.int .i64 L.stack,.slice a2 L.slots.length d2,.int .i64 L.flash,.int .i64 L.ram,.slice (some ⟨gt,0,none⟩) n n] 36)).cell? ⟨w.heap.size+1,0,none⟩=some (.slice none 0 0):=S6.k1.cell 0
        have p1:(w4.alloc (.cells #[.slice a0 xs.length d0,.int .i64 L.stack,.slice a2 L.slots.length d2,.int .i64 L.flash,.int .i64 L.ram,.slice (some ⟨gt,0,none⟩) n n] 36)).cell? ⟨w.heap.size+1,1,none⟩=some (.int .i64 0):=S6.k1.cell 1
        have p2:(w4.alloc (.cells #[.slice a0 xs.length d0,.int .i64 L.stack,.slice a2 L.slots.length d2,.int .i64 L.flash,.int .i64 L.ram,.slice (some ⟨gt,0,none⟩) n n] 36)).cell? ⟨w.heap.size+1,2,none⟩=some (.slice none 0 0):=S6.k1.cell 2
        have p3:(w4.alloc (.cells #[.slice a0 xs.length d0,.int .i64 L.stack,.slice a2 L.slots.length d2,.int .i64 L.flash,.int .i64 L.ram,.slice (some ⟨gt,0,none⟩) n n] 36)).cell? ⟨w.heap.size+1,3,none⟩=some (.int .i64 0):=S6.k1.cell 3
        have p4:(w4.alloc (.cells #[.slice a0 xs.length d0,.int .i64 L.stack,.slice a2 L.slots.length d2,.int .i64 L.flash,.int .i64 L.ram,.slice (some ⟨gt,0,none⟩) n n] 36)).cell? ⟨w.heap.size+1,4,none⟩=some (.int .i64 0):=S6.k1.cell 4
        have p5:(w4.alloc (.cells #[.slice a0 xs.length d0,.int .i64 L.stack,.slice a2 L.slots.length d2,.int .i64 L.flash,.int .i64 L.ram,.slice (some ⟨gt,0,none⟩) n n] 36)).cell? ⟨w.heap.size+1,5,none⟩=some (.slice none 0 0):=S6.k1.cell 5
        have y0:(w4.alloc (.cells #[.slice a0 xs.length d0,.int .i64 L.stack,.slice a2 L.slots.length d2,.int .i64 L.flash,.int .i64 L.ram,.slice (some ⟨gt,0,none⟩) n n] 36)).frozen? ⟨w.heap.size+1,0,none⟩=false:=S6.k1.frozen 0
        have y1:(w4.alloc (.cells #[.slice a0 xs.length d0,.int .i64 L.stack,.slice a2 L.slots.length d2,.int .i64 L.flash,.int .i64 L.ram,.slice (some ⟨gt,0,none⟩) n n] 36)).frozen? ⟨w.heap.size+1,1,none⟩=false:=S6.k1.frozen 1
        have y2:(w4.alloc (.cells #[.slice a0 xs.length d0,.int .i64 L.stack,.slice a2 L.slots.length d2,.int .i64 L.flash,.int .i64 L.ram,.slice (some ⟨gt,0,none⟩) n n] 36)).frozen? ⟨w.heap.size+1,2,none⟩=false:=S6.k1.frozen 2
        have y3:(w4.alloc (.cells #[.slice a0 xs.length d0,.int .i64 L.stack,.slice a2 L.slots.length d2,.int .i64 L.flash,.int .i64 L.ram,.slice (some ⟨gt,0,none⟩) n n] 36)).frozen? ⟨w.heap.size+1,3,none⟩=false:=S6.k1.frozen 3
        have y4:(w4.alloc (.cells #[.slice a0 xs.length d0,.int .i64 L.stack,.slice a2 L.slots.length d2,.int .i64 L.flash,.int .i64 L.ram,.slice (some ⟨gt,0,none⟩) n n] 36)).frozen? ⟨w.heap.size+1,4,none⟩=false:=S6.k1.frozen 4
        have y5:(w4.alloc (.cells #[.slice a0 xs.length d0,.int .i64 L.stack,.slice a2 L.slots.length d2,.int .i64 L.flash,.int .i64 L.ram,.slice (some ⟨gt,0,none⟩) n n] 36)).frozen? ⟨w.heap.size+1,5,none⟩=false:=S6.k1.frozen 5
        clear S5 S6 LO6 TF6
        go_wp2
        refine link_endI HS5.out.2.2.2.k1 _ _ _ _ _ _ 0 _ _ rfl rfl ?_
        obtain ⟨S5,LO5,TF5,S6⟩:=HS5.out
        have t:=turn_st6 (w4.alloc (.cells #[.slice a0 xs.length d0,.int .i64 L.stack,.slice a2 L.slots.length d2,.int .i64 L.flash,.int .i64 L.ram,.slice (some ⟨gt,0,none⟩) n n] 36)) (w.heap.size+1) (.slice a0 xs.length d0) (.int .i64 L.stack) (.slice a2 L.slots.length d2) (.int .i64 L.flash) (.int .i64 L.ram) (.slice (some ⟨gt,0,none⟩) n n)
        have OT:=TF5.otg (c:=n) (Nat.le_refl _) (by unfold maxLen;omega) rfl
        have key:∀ (base sz nn:Nat) (ty:TypeId) (v:Value) (ys:List Value),(w4.alloc (.cells #[.slice a0 xs.length d0,.int .i64 L.stack,.slice a2 L.slots.length d2,.int .i64 L.flash,.int .i64 L.ram,.slice (some ⟨gt,0,none⟩) n n] 36)).ownsRow base ty sz v nn ys→ty≠36→∀ j,v.ownBlock=some j→¬ (fun j=>j=w.heap.size+1) j:=fun base sz nn ty v ys ho hne j hj e=>by
         have e':j=w.heap.size+1:=e
         subst e'
         exact kind_no ho hj S6.k1 hne
        refine ⟨below_turn S6.be (turn_st6 _ _ _ _ _ _ _ _) (fun j hj=>by have e:j=w.heap.size+1:=hj;omega) S6.be.size,a0,d0,xs,a2,d2,some ⟨gt,0,none⟩,n,(List.range n).map f,?_,?_⟩
        ·unfold lkL layV;rw [if_pos HP.out,HP.out,← HLL.out];simp
        ·unfold lkL;rw [if_pos HP.out,← HLL.out]
         exact ⟨(LO5.p.kept t (key _ _ _ _ _ _ LO5.p.head (by decide)) (fun x hx=>key _ _ _ _ _ _ (LO5.p.rows x hx) (by decide))).mono (by omega) (by omega),LO5.ps,(LO5.s.kept t (key _ _ _ _ _ _ LO5.s (by decide))).mono (by omega),(OT.kept t (key _ _ _ _ _ _ OT.head (by decide)) (fun x hx=>key _ _ _ _ _ _ (OT.rows x hx) (by decide))).mono (by omega) (by omega),by rw [HLL.out];unfold lay;rw [hpl,List.map_map];exact List.map_congr_left (fun i hi=>HFE.out i (by simpa using hi)),LO5.sp⟩
 ·have hV0':(V != 0)=true:=by simp [hV0]
  have HP:=hide (lkc_1 (ps:=pmS ms) HV.out.symm hV0)
  have HS:=hide S1
  have p0:w1.cell? ⟨w.heap.size+1,0,none⟩=some (.slice none 0 0):=S1.k1.cell 0
  have p1:w1.cell? ⟨w.heap.size+1,1,none⟩=some (.int .i64 0):=S1.k1.cell 1
  have p2:w1.cell? ⟨w.heap.size+1,2,none⟩=some (.slice none 0 0):=S1.k1.cell 2
  have p3:w1.cell? ⟨w.heap.size+1,3,none⟩=some (.int .i64 0):=S1.k1.cell 3
  have p4:w1.cell? ⟨w.heap.size+1,4,none⟩=some (.int .i64 0):=S1.k1.cell 4
  have p5:w1.cell? ⟨w.heap.size+1,5,none⟩=some (.slice none 0 0):=S1.k1.cell 5
  have y0:w1.frozen? ⟨w.heap.size+1,0,none⟩=false:=S1.k1.frozen 0
  have y1:w1.frozen? ⟨w.heap.size+1,1,none⟩=false:=S1.k1.frozen 1
  have y2:w1.frozen? ⟨w.heap.size+1,2,none⟩=false:=S1.k1.frozen 2
  have y3:w1.frozen? ⟨w.heap.size+1,3,none⟩=false:=S1.k1.frozen 3
  have y4:w1.frozen? ⟨w.heap.size+1,4,none⟩=false:=S1.k1.frozen 4
  have y5:w1.frozen? ⟨w.heap.size+1,5,none⟩=false:=S1.k1.frozen 5
  clear S1
  go_wp2
  exact link_noI HS.out HP.out hV0 _ rfl rfl
structure RdS (W:World)(g b n cap:Nat)(zs:List Int)(st:Option (List Int)):Prop where
 pos:∃ k,k≤n∧Blk W g #[.slice (some ⟨b,0,none⟩) n cap,.int .i64 k,.bool st.isNone] 202∧∀ r,st=some r→r=zs.drop k
 bs:BS W (some ⟨b,0,none⟩) n cap zs
 ne:b≠g
 small:n≤1048576
theorem RdS.below {W W':World}{g b n cap:Nat}{zs:List Int}{st:Option (List Int)}(h:RdS W g b n cap zs st)(hb:Below W.heap.size W W'):RdS W' g b n cap zs st:=by
 obtain ⟨k,h1,h2,h3⟩:=h.pos
 exact ⟨⟨k,h1,h2.below hb,h3⟩,h.bs.below hb,h.ne,h.small⟩
theorem RdS.turn {S:Nat→Prop}{W W':World}{g b n cap:Nat}{zs:List Int}{st:Option (List Int)}(h:RdS W g b n cap zs st)(t:Turn S W W')(hg:¬ S g)(hb:¬ S b):RdS W' g b n cap zs st:=by
 obtain ⟨k',p1,p3,p4⟩:=h.pos
 exact ⟨⟨k',p1,turn_blk t p3 hg,p4⟩,turn_bs t h.bs (fun j hj b' off e=>by simp at e;intro e';apply hb;rw [e.1,e'];exact hj),h.ne,h.small⟩
theorem RdS.range {W:World}{g b n cap:Nat}{zs r:List Int}(h:RdS W g b n cap zs (some r)):Byt r:=by
 obtain ⟨k,h1,h2,h3⟩:=h.pos
 rw [h3 r rfl]
 exact fun z hz=>h.bs.2.2.1 z (List.mem_of_mem_drop hz)
def oN (s:Nat):Option (List Int)→Int × Option (List Int)
 | none=>(0,none)
 | some zs=>match pN s zs with
   | none=>(0,none)
   | some x=>(x.1,some x.2)
theorem oN_some {s:Nat}{zs r:List Int}{x:Int}(h:pN s zs=some (x,r)):oN s (some zs)=(x,some r):=by show (match pN s zs with | none=>_ | some x=>_)=_;rw [h]
theorem oN_none {s:Nat}{zs:List Int}(h:pN s zs=none):oN s (some zs)=(0,none):=by show (match pN s zs with | none=>_ | some x=>_)=_;rw [h]
theorem RdS.short {W:World}{g b n cap:Nat}{zs:List Int}{st:Option (List Int)}(h:RdS W g b n cap zs st):RdS (W.setCell ⟨g,2,none⟩ (.bool true)) g b n cap zs none:=by
 obtain ⟨k,h1,h2,h3⟩:=h.pos
 refine ⟨⟨k,h1,?_,fun r e=>by cases e⟩,turn_bs (turn_set W g 2 _) h.bs (fun j hj b' off e=>by simp at e;rw [hj,← e.1];exact h.ne),h.ne,h.small⟩
 simpa using h2.set 2 (.bool true)
theorem RdS.go {W:World}{g b n cap:Nat}{zs r:List Int}{k s:Nat}(h:RdS W g b n cap zs (some r))(hk:Blk W g #[.slice (some ⟨b,0,none⟩) n cap,.int .i64 k,.bool false] 202)(hr:r=zs.drop k)(hs:k+s≤n)(v:Value)(hv:v=.int .i64 ((k+s:Nat):Int)):RdS (W.setCell ⟨g,1,none⟩ v) g b n cap zs (some (r.drop s)):=by
 refine ⟨⟨k+s,hs,?_,fun r' e=>by simp at e;rw [← e,hr,List.drop_drop]⟩,turn_bs (turn_set W g 1 _) h.bs (fun j hj b' off e=>by simp at e;rw [hj,← e.1];exact h.ne),h.ne,h.small⟩
 subst hv
 simpa using hk.set 1 (.int .i64 ((k+s:Nat):Int))
theorem RdS.drewN {W:World}{g b n cap:Nat}{zs:List Int}{st:Option (List Int)}(h:RdS W g b n cap zs st)(m:Nat):RdS (W.drewN m) g b n cap zs st:=⟨h.pos,h.bs,h.ne,h.small⟩
theorem RdS.drew {W:World}{g b n cap:Nat}{zs:List Int}{st:Option (List Int)}(h:RdS W g b n cap zs st):RdS W.drew g b n cap zs st:=⟨h.pos,h.bs,h.ne,h.small⟩
theorem turn_dN {S:Nat→Prop}{a W:World}(h:Turn S a W)(n:Nat):Turn S a (W.drewN n):=⟨h.os,h.tape,h.output,h.size,h.block⟩
theorem turn_dr {S:Nat→Prop}{a W:World}(h:Turn S a W):Turn S a W.drew:=⟨h.os,h.tape,h.output,h.size,h.block⟩
theorem num_rd (g b n cap:Nat)(zs:List Int)(st:Option (List Int))(s:Nat)(w:World)(h:RdS w g b n cap zs st)(hs:s=1∨s=2∨s=4):
 Calls Tryz.prog 152 #[.pointer (some ⟨g,0,none⟩),.int .i64 s] w fun e w'=>e=.returned (.int .i64 (oN s st).1)∧RdS w' g b n cap zs (oN s st).2∧Turn (fun j=>j=g) w w':=by
 obtain ⟨k,hk,hb,hr⟩:=h.pos
 have hs4:s≤4:=by omega
 have hs1:1≤s:=by omega
 have hl:=h.bs.1
 have hsm:=h.small
 cases st with
 | none=>
   obtain ⟨q0,q1,q2,_⟩:=hb.three
   simp at q2
   have HH:=hide h
   clear h hb hr hs
   go_enter Tryz.func152,Tryz.ntmps152
   go_wp2_with fail
   go_quiet (fail)
   have R1:=HH.out.drewN nq
   have T1:=turn_dN (Turn.refl (fun j=>j=g) w) nq
   generalize w.drewN nq=W1 at *
   obtain ⟨k1,_,hb1,_⟩:=R1.pos
   have u2:=hb1.cell 2
   have f2:=hb1.frozen 2
   simp at u2
   have HF:=hide (And.intro (RdS.short R1) (T1.trans (turn_set W1 g 2 (.bool true))))
   clear R1 T1 hb1 q0 q1 q2
   go_wp2
   go_ret
   exact ⟨rfl,HF.out.1,HF.out.2⟩
 | some r=>
   have hr':=hr r rfl
   have hrl:r.length=n - k:=by rw [hr',List.length_drop,hl]
   obtain ⟨q0,q1,q2,_⟩:=hb.three
   simp at q2
   by_cases c:s≤r.length
   ·rw [oN_some (pN_some c)]
    obtain ⟨m,hm⟩:∃ m,m=k+s:=⟨_,rfl⟩
    have hwr:IntKind.i64.wrap ((k:Int)+(s:Int))=(m:Int):=by rw [hm];push_cast;exact wraps62 _ (by omega) (by omega)
    have hcc:¬ ((n:Int)<(m:Int)):=by omega
    have hks:k+s≤n:=by omega
    have hcap:=h.bs.2.2.2.2
    have HH:=hide (And.intro h (And.intro hb hr'))
    have HLO:=hide (show low (r.take s)=low ((zs.drop k).take s) by rw [hr'])
    have hw1:IntKind.i64.wrap ((m:Int) - (s:Int))=(k:Int):=by rw [hm];push_cast;rw [show (k:Int)+s - s=k by omega];exact wraps62 _ (by omega) (by omega)
    have hi1:(k:Int)≤(m:Int):=by omega
    have hi2:(m:Int)≤(cap:Int):=by omega
    have hz1:¬ cap=k:=by omega
    have hz4:m - k=s:=by omega
    have HLOW:=hide (fun (W:World) (hB:BS W (some ⟨b,0,none⟩) n cap zs)=>l1Low_any b k s (cap - k) ((zs.drop k).take s) W (by have:=(hB.drop k hk).take s (by omega);rw [Nat.zero_add] at this;exact this) hs4)
    have HMK:=hide hm
    clear h hb hr hs hr' hrl c hm
    go_enter Tryz.func152,Tryz.ntmps152
    go_wp2_with fail
    go_region_held3 (fun w'=>w'.cell? ⟨g,0,none⟩=some (.slice (some ⟨b,0,none⟩) n cap)∧w'.cell? ⟨g,1,none⟩=some (.int .i64 k)∧w'.cell? ⟨g,2,none⟩=some (.bool false)) (go_keep) (first | fail)
    obtain ⟨h,hb,hr'⟩:=HH.out
    have hb0:Blk w.drew g #[.slice (some ⟨b,0,none⟩) n cap,.int .i64 k,.bool false] 202:=hb
    have R1:=h.drew
    have T1:=turn_dr (Turn.refl (fun j=>j=g) w)
    generalize w.drew=W1 at *
    clear q0 q1 q2
    obtain ⟨q0,q1,q2,_⟩:=hb0.three
    have f1:=hb0.frozen 1
    have R2:=R1.go hb0 hr' hks (.int .i64 (m:Int)) (by rw [HMK.out])
    have k2:=hb0.set 1 (.int .i64 (m:Int))
    have T2:=T1.trans (turn_set W1 g 1 (.int .i64 (m:Int)))
    simp at k2
    obtain ⟨u0,u1,u2,_⟩:=k2.three
    have hB:=R2.bs
    have HF:=hide (And.intro R2 T2)
    clear h hb hr' hb0 R1 T1 k2 R2 T2
    go_wp2_with fail
    go_region_held3 (fun w'=>w'.cell? ⟨g,0,none⟩=some (.slice (some ⟨b,0,none⟩) n cap)∧w'.cell? ⟨g,1,none⟩=some (.int .i64 (m:Int))) (go_keep) (first
     | (go_at_call 85;refine (HLOW.out _ (by first | exact hB | exact hB.below (Below.refl _ _).drew)).mono ?_;rintro e w9 ⟨rfl,rfl⟩))
    have HF2:=hide (And.intro HF.out.1.drew (turn_dr HF.out.2))
    have HL2:=hide HLO.out.symm
    clear HF HLO hB HLOW q0 q1 q2 u0 u1 u2 f1
    go_wp2
    go_ret
    exact ⟨ret_int HL2.out,HF2.out.1,HF2.out.2⟩
   ·rw [oN_none (pN_none c)]
    have hwr:IntKind.i64.wrap ((k:Int)+(s:Int))=(k:Int)+s:=wraps62 _ (by omega) (by omega)
    have hcc:(n:Int)<(k:Int)+(s:Int):=by omega
    have HH:=hide h
    clear h hb hr hs hr' hrl c
    go_enter Tryz.func152,Tryz.ntmps152
    go_wp2_with fail
    go_region_held3 (fun w'=>w'.cell? ⟨g,0,none⟩=some (.slice (some ⟨b,0,none⟩) n cap)∧w'.cell? ⟨g,1,none⟩=some (.int .i64 k)∧w'.cell? ⟨g,2,none⟩=some (.bool false)) (go_keep) (first | fail)
    have R1:=HH.out.drew
    have T1:=turn_dr (Turn.refl (fun j=>j=g) w)
    generalize w.drew=W1 at *
    obtain ⟨k1,_,hb1,_⟩:=R1.pos
    have v2:=hb1.cell 2
    have f2:=hb1.frozen 2
    simp at v2
    have HF:=hide (And.intro (RdS.short R1) (T1.trans (turn_set W1 g 2 (.bool true))))
    clear R1 T1 hb1 q0 q1 q2
    go_wp2
    go_ret
    exact ⟨rfl,HF.out.1,HF.out.2⟩
end Go.Proofs.YtngdgogjlpjjpaeGreat
