import Derived.Deep.AppendLies
import Derived.Test.YtngdgogjlpjjpaeGreatP01
import Derived.Test.YtngdgogjlpjjpaeGreatP02
import Derived.Test.YtngdgogjlpjjpaeGreatP13
set_option maxHeartbeats 40000000
namespace Go.Proofs.YtngdgogjlpjjpaeGreat
open Go.RowKit
set_option linter.unusedVariables false
set_option linter.unusedSimpArgs false
set_option maxRecDepth 100000
theorem l5Lay_any (a:Option Addr)(n cap:Nat)(ms:List Md)(s c k d:Int)(w:World)(h:MSD w a n cap ms)(hn:n≤4)(hcf:cfo s c k d=true)(hv:vlds (pmS ms))(hi:imps (pmS ms)):
 Calls Tryz.prog 162 #[.slice a n cap,.agg #[.int .i64 s,.int .i64 c,.int .i64 k,.int .i64 d]] w fun e w'=>Below w.heap.size w w'∧∃ a0 c0 xs a2 c2 a5 c5 ts,e=.returned (.agg (layV (lay (pmS ms) s c k) a0 c0 xs a2 c2 a5 c5 ts))∧LayO w' w.heap.size (lay (pmS ms) s c k) a0 c0 xs a2 c2 a5 c5 ts:=by
 have N0:=lay_new w s c k d (pmS ms)
 have hl:=h.s.1
 have hpl:(pmS ms).length=n:=by rw [pmS_len,hl]
 have HH:=hide h
 have HI:=hide hi
 have HVD:=hide hv
 obtain ⟨hs0,hs1,hc0,hc1,hk0,hk1,hk2,_⟩:=of_decide_eq_true hcf
 have HN:=hide N0
 clear h N0 hi hcf
 go_enter Tryz.func162,Tryz.ntmps162
 go_wp2_with fail
 go_loopw [6,7] (fun x i wr=>∃ (m:Nat) (a0:Option Addr) (c0:Nat) (xs:List PB) (a5:Option Addr) (c5:Nat) (ts:List TB),m≤n∧i=.int .i64 m∧x=.int .i64 (Ra (pmS ms) m)∧Lst w wr s c k d #[.slice a0 m c0,.int .i64 0,.slice (some ⟨w.heap.size+3,0,none⟩) 0 0,.int .i64 (Fl (pmS ms) m),.int .i64 0,.slice a5 m c5]∧Lrw w wr (pmS ms) m a0 c0 xs a5 c5 ts) (fun _ i _=>n - (intOf i).toNat)
 case atStart=>exact ⟨0,_,_,[],_,_,[],Nat.zero_le _,rfl,rfl,HN.out.1,HN.out.2⟩
 case round=>
  clear HN
  obtain ⟨m,a0,c0,xs,a5,c5,ts,hm,rfl,rfl,S,R⟩:=hrel
  generalize wr=wo at *
  by_cases hlt:m<n
  ·have hlt':(m:Int)<(n:Int):=by omega
   have H:=HH.out.below S.be
   obtain ⟨b,off,rfl,q0,q1,q2,q3,q4,q5,q6,q7⟩:=H.s.at m hlt
   have hmd:=H.d m hlt
   have hvm:=HVD.out m (by omega)
   obtain ⟨P,hP⟩:∃ P,P=(pmS ms).getD m zP:=⟨_,rfl⟩
   have hPM:P=(ms.getD m zMd).pm:=hP.trans (pmS_at (by omega))
   rw [← hP] at hvm
   have rT:=tsz_range hvm
   have rD:=dsz_range hvm
   have rF:=Fl_range HVD.out m (by omega)
   have rR:=Ra_range HVD.out m (by omega)
   obtain ⟨_,_,vt,vb,vd,vs0,vs1,vbk⟩:=vld_en hvm
   have HFS:=hide (fun k hk=>fsum_range hvm k hk)
   have eT:(ms.getD m zMd).tn=P.tz.length:=by rw [hPM];exact hmd.t.1.symm
   have eD:(ms.getD m zMd).dn=P.dz.length:=by rw [hPM];exact hmd.d.1.symm
   have eS:(ms.getD m zMd).bss=P.bss:=by rw [hPM];rfl
   have eB:(ms.getD m zMd).bn=P.bl.length:=by rw [hPM];show _=(List.map _ _).length;rw [List.length_map];exact hmd.b.1.symm
   have HBK:=hide (show ∀ j,j<P.bl.length→((ms.getD m zMd).bl.getD j zB).2.1=(P.bl.getD j []).length from fun j hj=>by rw [hPM];exact (pm_bank hmd j (by omega)).1)
   have HTG:=hide (And.intro hmd (show tgOk (pmS ms) (ms.getD m zMd).pm by have:=HI.out m (by omega);rw [← hP,hPM] at this;exact this))
   have HMW:=hide (fun (W:World) (hb:Below w.heap.size w W)=>(HH.out.below hb).d m hlt)
   have hok:mdoP (ms.getD m zMd).pm=0:=by rw [← hPM];exact hvm
   have HOKM:=hide hok
   have HPP:=hide hP
   have HPM:=hide hPM
   generalize ms.getD m zMd=M at *
   rw [eT] at q1
   rw [eB] at q2
   rw [eD] at q3
   rw [eS] at q4
   have HE:=hide (And.intro eT (And.intro eD (And.intro eS eB)))
   have al:Below wo.heap.size wo (wo.alloc (.cells #[.string M.nm,.slice M.ta P.tz.length M.tc,.slice M.ba P.bl.length M.bc,.slice M.da P.dz.length M.dc,.int .i64 P.bss,.slice M.ra M.rn M.rc,.slice M.ia M.im M.ic,.slice M.ea M.en M.ec] 104)):=(Below.refl _ _).alloc (Nat.le_refl _) _
   have kM:=Blk.new wo #[.string M.nm,.slice M.ta P.tz.length M.tc,.slice M.ba P.bl.length M.bc,.slice M.da P.dz.length M.dc,.int .i64 P.bss,.slice M.ra M.rn M.rc,.slice M.ia M.im M.ic,.slice M.ea M.en M.ec] 104
   have S1:=S.below al
   have TT:Turn (Lg w) wo (wo.alloc (.cells #[.string M.nm,.slice M.ta P.tz.length M.tc,.slice M.ba P.bl.length M.bc,.slice M.da P.dz.length M.dc,.int .i64 P.bss,.slice M.ra M.rn M.rc,.slice M.ia M.im M.ic,.slice M.ea M.en M.ec] 104)):=turn_below al
   have hgw:=S.sz
   have HSR:=hide (And.intro S R)
   clear H hmd hP hPM hok eT eD eS eB al S R hvm
   have p3:(wo.alloc (.cells #[.string M.nm,.slice M.ta P.tz.length M.tc,.slice M.ba P.bl.length M.bc,.slice M.da P.dz.length M.dc,.int .i64 P.bss,.slice M.ra M.rn M.rc,.slice M.ia M.im M.ic,.slice M.ea M.en M.ec] 104)).cell? ⟨w.heap.size+5,3,none⟩=some (.int .i64 (Fl (pmS ms) m)):=S1.k5.cell 3
   obtain ⟨g0,g1,g2,g3,g4,g5,g6,g7⟩:=kM.eight
   have HS1:=hide (And.intro S1 (And.intro kM TT))
   clear S1 kM TT
   have hwd:IntKind.i64.wrap ((P.dz.length:Int)+P.bss)=(P.dz.length:Int)+P.bss:=wraps62 _ (by omega) (by omega)
   have hwr:IntKind.i64.wrap (65536+Ra (pmS ms) m)=65536+Ra (pmS ms) m:=wraps62 _ (by omega) (by omega)
   go_wp2_with fail
   generalize hV1:wo.alloc (.cells #[.string M.nm,.slice M.ta P.tz.length M.tc,.slice M.ba P.bl.length M.bc,.slice M.da P.dz.length M.dc,.int .i64 P.bss,.slice M.ra M.rn M.rc,.slice M.ia M.im M.ic,.slice M.ea M.en M.ec] 104)=V1 at *
   have HV1:=hide (show V1.heap.size=wo.heap.size+1 by rw [← hV1];simp)
   clear hV1 q0 q1 q2 q3 q4 q5 q6 q7
   apply cut3 (F:=fun (gp gr:Nat) (W:World)=>(Lst w W s c k d #[.slice a0 m c0,.int .i64 0,.slice (some ⟨w.heap.size+3,0,none⟩) 0 0,.int .i64 (Fl (pmS ms) m),.int .i64 0,.slice a5 m c5]∧Blk W wo.heap.size #[.string M.nm,.slice M.ta P.tz.length M.tc,.slice M.ba P.bl.length M.bc,.slice M.da P.dz.length M.dc,.int .i64 P.bss,.slice M.ra M.rn M.rc,.slice M.ia M.im M.ic,.slice M.ea M.en M.ec] 104∧Turn (Lg w) wo W∧Blk W gp #[.int .i64 (Fl (pmS ms) m),.slice (some ⟨gr,0,none⟩) 0 0,.int .i64 (65536+Ra (pmS ms) m),.int .i64 (rnd ((P.dz.length:Int)+P.bss))] 138∧OG 3 1 clI W (wo.heap.size+1) (.slice (some ⟨gr,0,none⟩) 0 0) []∧wo.heap.size+1≤gp))
   ·intro REST0
    have REST:=hide REST0
    clear REST0
    have HFA:=hide (show (fun (gp gr:Nat) (W:World)=>(Lst w W s c k d #[.slice a0 m c0,.int .i64 0,.slice (some ⟨w.heap.size+3,0,none⟩) 0 0,.int .i64 (Fl (pmS ms) m),.int .i64 0,.slice a5 m c5]∧Blk W wo.heap.size #[.string M.nm,.slice M.ta P.tz.length M.tc,.slice M.ba P.bl.length M.bc,.slice M.da P.dz.length M.dc,.int .i64 P.bss,.slice M.ra M.rn M.rc,.slice M.ia M.im M.ic,.slice M.ea M.en M.ec] 104∧Turn (Lg w) wo W∧Blk W gp #[.int .i64 (Fl (pmS ms) m),.slice (some ⟨gr,0,none⟩) 0 0,.int .i64 (65536+Ra (pmS ms) m),.int .i64 (rnd ((P.dz.length:Int)+P.bss))] 138∧OG 3 1 clI W (wo.heap.size+1) (.slice (some ⟨gr,0,none⟩) 0 0) []∧wo.heap.size+1≤gp)) (V1.heap.size+1) V1.heap.size (((V1.alloc (.cells #[] 3)).alloc (.cells #[.int .i64 (Fl (pmS ms) m),.slice (some ⟨V1.heap.size,0,none⟩) 0 0,.int .i64 (65536+Ra (pmS ms) m),.int .i64 (rnd ((P.dz.length:Int)+P.bss))] 138)).drew) from by
     obtain ⟨S1,kM,TT⟩:=HS1.out
     have hv1:=HV1.out
     have b1:Below V1.heap.size V1 (V1.alloc (.cells #[] 3)):=(Below.refl _ _).alloc (Nat.le_refl _) _
     have o1:=og_new' 3 1 clI V1 (wo.heap.size+1) (by omega)
     have s1:(V1.alloc (.cells #[] 3)).heap.size=V1.heap.size+1:=by simp
     generalize V1.alloc (.cells #[] 3)=V2 at *
     have b2:Below V2.heap.size V2 ((V2.alloc (.cells #[.int .i64 (Fl (pmS ms) m),.slice (some ⟨V1.heap.size,0,none⟩) 0 0,.int .i64 (65536+Ra (pmS ms) m),.int .i64 (rnd ((P.dz.length:Int)+P.bss))] 138)).drew):=((Below.refl _ _).alloc (Nat.le_refl _) _).drew
     have k2:=Blk.new V2 #[.int .i64 (Fl (pmS ms) m),.slice (some ⟨V1.heap.size,0,none⟩) 0 0,.int .i64 (65536+Ra (pmS ms) m),.int .i64 (rnd ((P.dz.length:Int)+P.bss))] 138
     rw [s1] at k2
     have b12:=b1.trans (b2.mono (by omega))
     exact ⟨S1.below b12,kM.below b12,TT.trans (turn_below b12),k2,o1.below b2,by omega⟩)
    have HFB:=hide (show (fun (gp gr:Nat) (W:World)=>(Lst w W s c k d #[.slice a0 m c0,.int .i64 0,.slice (some ⟨w.heap.size+3,0,none⟩) 0 0,.int .i64 (Fl (pmS ms) m),.int .i64 0,.slice a5 m c5]∧Blk W wo.heap.size #[.string M.nm,.slice M.ta P.tz.length M.tc,.slice M.ba P.bl.length M.bc,.slice M.da P.dz.length M.dc,.int .i64 P.bss,.slice M.ra M.rn M.rc,.slice M.ia M.im M.ic,.slice M.ea M.en M.ec] 104∧Turn (Lg w) wo W∧Blk W gp #[.int .i64 (Fl (pmS ms) m),.slice (some ⟨gr,0,none⟩) 0 0,.int .i64 (65536+Ra (pmS ms) m),.int .i64 (rnd ((P.dz.length:Int)+P.bss))] 138∧OG 3 1 clI W (wo.heap.size+1) (.slice (some ⟨gr,0,none⟩) 0 0) []∧wo.heap.size+1≤gp)) V1.heap.size (V1.heap.size+1) (((V1.alloc (.cells #[.int .i64 (Fl (pmS ms) m),.slice (some ⟨V1.heap.size+1,0,none⟩) 0 0,.int .i64 (65536+Ra (pmS ms) m),.int .i64 (rnd ((P.dz.length:Int)+P.bss))] 138)).alloc (.cells #[] 3)).drew) from by
     obtain ⟨S1,kM,TT⟩:=HS1.out
     have hv1:=HV1.out
     have b1:Below V1.heap.size V1 (V1.alloc (.cells #[.int .i64 (Fl (pmS ms) m),.slice (some ⟨V1.heap.size+1,0,none⟩) 0 0,.int .i64 (65536+Ra (pmS ms) m),.int .i64 (rnd ((P.dz.length:Int)+P.bss))] 138)):=(Below.refl _ _).alloc (Nat.le_refl _) _
     have k2:=Blk.new V1 #[.int .i64 (Fl (pmS ms) m),.slice (some ⟨V1.heap.size+1,0,none⟩) 0 0,.int .i64 (65536+Ra (pmS ms) m),.int .i64 (rnd ((P.dz.length:Int)+P.bss))] 138
     have s1:(V1.alloc (.cells #[.int .i64 (Fl (pmS ms) m),.slice (some ⟨V1.heap.size+1,0,none⟩) 0 0,.int .i64 (65536+Ra (pmS ms) m),.int .i64 (rnd ((P.dz.length:Int)+P.bss))] 138)).heap.size=V1.heap.size+1:=by simp
     generalize V1.alloc (.cells #[.int .i64 (Fl (pmS ms) m),.slice (some ⟨V1.heap.size+1,0,none⟩) 0 0,.int .i64 (65536+Ra (pmS ms) m),.int .i64 (rnd ((P.dz.length:Int)+P.bss))] 138)=V2 at *
     have b2:Below V2.heap.size V2 ((V2.alloc (.cells #[] 3)).drew):=((Below.refl _ _).alloc (Nat.le_refl _) _).drew
     have o1:=og_new' 3 1 clI V2 (wo.heap.size+1) (by omega)
     rw [s1] at o1
     have b12:=b1.trans (b2.mono (by omega))
     have o1':OG 3 1 clI ((V2.alloc (.cells #[] 3)).drew) (wo.heap.size+1) (.slice (some ⟨V1.heap.size+1,0,none⟩) 0 0) []:=o1.below (((Below.refl _ _)).drew)
     exact ⟨S1.below b12,kM.below b12,TT.trans (turn_below b12),k2.below b2,o1',by omega⟩)
    go_region_held3 (fun w'=>w'.cell? ⟨w.heap.size+5,3,none⟩=some (.int .i64 (Fl (pmS ms) m))∧w'.cell? ⟨wo.heap.size,3,none⟩=some (.slice M.da P.dz.length M.dc)∧w'.cell? ⟨wo.heap.size,4,none⟩=some (.int .i64 P.bss)) (go_keep) (first
     | (go_at_call 136;refine (l5Round_any _ _ (by omega) (by omega)).mono ?_;rintro e wz ⟨rfl,rfl⟩))
    ·have HFX:=HFA
     clear HFA
     generalize (((V1.alloc (.cells #[] 3)).alloc (.cells #[.int .i64 (Fl (pmS ms) m),.slice (some ⟨V1.heap.size,0,none⟩) 0 0,.int .i64 (65536+Ra (pmS ms) m),.int .i64 (rnd ((P.dz.length:Int)+P.bss))] 138)).drew)=W' at HFX ⊢
     generalize V1.heap.size+1=gp at HFX ⊢
     generalize V1.heap.size=gr at HFX ⊢
     exact REST.out gp gr W' HFX.out
    all_goals first | exact REST.out _ _ _ HFA.out | exact REST.out _ _ _ HFB.out
   ·clear HS1 p3 g0 g1 g2 g3 g4 g5 g6 g7
    rintro gp gr W' ⟨S1,kM,TT,kp,O,hgp⟩
    show Exit.then _ _ _ _ _
    have p3:W'.cell? ⟨w.heap.size+5,3,none⟩=some (.int .i64 (Fl (pmS ms) m)):=S1.k5.cell 3
    have f3:=S1.k5.frozen 3
    have g1:W'.cell? ⟨wo.heap.size,1,none⟩=some (.slice M.ta P.tz.length M.tc):=kM.cell 1
    have hw4:IntKind.i64.wrap (4 * (P.tz.length:Int))=4 * (P.tz.length:Int):=wraps62 _ (by omega) (by omega)
    have rT':0≤rnd (4 * (P.tz.length:Int))∧rnd (4 * (P.tz.length:Int))≤831:=rT
    have hwf:IntKind.i64.wrap (Fl (pmS ms) m+rnd (4 * (P.tz.length:Int)))=Fl (pmS ms) m+rnd (4 * (P.tz.length:Int)):=wraps62 _ (by omega) (by omega)
    have HQ:=hide (And.intro S1 (And.intro kM (And.intro TT (And.intro kp O))))
    clear S1 kM TT kp O
    go_wp2_with fail
    apply cut0
    ·intro REST0
     have REST:=hide REST0
     clear REST0
     go_region_law (first
      | (go_simp;go_at_call 136;refine (l5Round_any _ _ (by omega) (by omega)).mono ?_;rintro e wz ⟨rfl,rfl⟩))
     all_goals exact REST.out
    ·obtain ⟨S1,kM,TT,kp,O⟩:=HQ.out
     have t8:=turn_set W' (w.heap.size+5) 3 (.int .i64 (Fl (pmS ms) m+rnd (4 * (P.tz.length:Int))))
     have t8d:=turn_d1 t8
     have S2:Lst w ((W'.setCell ⟨w.heap.size+5,3,none⟩ (.int .i64 (Fl (pmS ms) m+rnd (4 * (P.tz.length:Int))))).drew) s c k d #[.slice a0 m c0,.int .i64 0,.slice (some ⟨w.heap.size+3,0,none⟩) 0 0,.int .i64 (Fl (pmS ms) m+rnd (4 * (P.tz.length:Int))),.int .i64 0,.slice a5 m c5]:=(S1.set 3 (.int .i64 (Fl (pmS ms) m+rnd (4 * (P.tz.length:Int))))).drew
     have kM2:Blk ((W'.setCell ⟨w.heap.size+5,3,none⟩ (.int .i64 (Fl (pmS ms) m+rnd (4 * (P.tz.length:Int))))).drew) wo.heap.size #[.string M.nm,.slice M.ta P.tz.length M.tc,.slice M.ba P.bl.length M.bc,.slice M.da P.dz.length M.dc,.int .i64 P.bss,.slice M.ra M.rn M.rc,.slice M.ia M.im M.ic,.slice M.ea M.en M.ec] 104:=turn_blk t8d kM (fun e=>by have e':wo.heap.size=w.heap.size+5:=e;omega)
     have TT2:Turn (Lg w) wo ((W'.setCell ⟨w.heap.size+5,3,none⟩ (.int .i64 (Fl (pmS ms) m+rnd (4 * (P.tz.length:Int))))).drew):=TT.trans (t8d.mono (fun j hj=>hj))
     have kp2:Blk ((W'.setCell ⟨w.heap.size+5,3,none⟩ (.int .i64 (Fl (pmS ms) m+rnd (4 * (P.tz.length:Int))))).drew) gp #[.int .i64 (Fl (pmS ms) m),.slice (some ⟨gr,0,none⟩) 0 0,.int .i64 (65536+Ra (pmS ms) m),.int .i64 (rnd ((P.dz.length:Int)+P.bss))] 138:=turn_blk t8d kp (fun e=>by have e':gp=w.heap.size+5:=e;omega)
     have O2:OG 3 1 clI ((W'.setCell ⟨w.heap.size+5,3,none⟩ (.int .i64 (Fl (pmS ms) m+rnd (4 * (P.tz.length:Int))))).drew) (wo.heap.size+1) (.slice (some ⟨gr,0,none⟩) 0 0) []:=O.kept t8d (fun k hk e=>by have:=(O.lt k hk).1;have e':k=w.heap.size+5:=e;omega)
     have e0:(Fl (pmS ms) m+rnd (4 * (P.tz.length:Int)))=(Fl (pmS ms) m+rnd (4 * (P.tz.length:Int))+fsum P 0):=by simp [fsum]
     have HE0:=hide e0
     have HQ2:=hide (And.intro S2 (And.intro kM2 (And.intro TT2 (And.intro kp2 O2))))
     clear S1 kM TT kp O S2 kM2 TT2 kp2 O2 t8 t8d HQ p3 f3 g1 e0
     obtain ⟨iI,hiI,hz0,hz1,hz2⟩:=info_parts infoI
     go_wp2_with fail
     go_loopw [10] (fun i wx=>∃ (q:Nat) (ar:Option Addr) (cr:Nat),q≤P.bl.length∧i=.int .i64 q∧Lst w wx s c k d #[.slice a0 m c0,.int .i64 0,.slice (some ⟨w.heap.size+3,0,none⟩) 0 0,.int .i64 (Fl (pmS ms) m+rnd (4 * (P.tz.length:Int))+fsum P q),.int .i64 0,.slice a5 m c5]∧Blk wx wo.heap.size #[.string M.nm,.slice M.ta P.tz.length M.tc,.slice M.ba P.bl.length M.bc,.slice M.da P.dz.length M.dc,.int .i64 P.bss,.slice M.ra M.rn M.rc,.slice M.ia M.im M.ic,.slice M.ea M.en M.ec] 104∧Turn (Lg w) wo wx∧Blk wx gp #[.int .i64 (Fl (pmS ms) m),.slice ar q cr,.int .i64 (65536+Ra (pmS ms) m),.int .i64 (rnd ((P.dz.length:Int)+P.bss))] 138∧OG 3 1 clI wx (wo.heap.size+1) (.slice ar q cr) (bks (pmS ms) m q)) (fun i _=>P.bl.length - (intOf i).toNat)
     case atStart=>exact ⟨0,some ⟨gr,0,none⟩,0,Nat.zero_le _,rfl,(by rw [← HE0.out];exact HQ2.out.1),HQ2.out.2.1,HQ2.out.2.2.1,HQ2.out.2.2.2.1,HQ2.out.2.2.2.2⟩
     case round=>
      clear HQ2
      obtain ⟨q,ar,cr,hq,rfl,S2,kM,TT,kp,O⟩:=hrel
      have g2:wr.cell? ⟨wo.heap.size,2,none⟩=some (.slice M.ba P.bl.length M.bc):=kM.cell 2
      by_cases hlt2:q<P.bl.length
      ·have hlt2':(q:Int)<(P.bl.length:Int):=by omega
       obtain ⟨FQ,hFQ⟩:∃ FQ,FQ=(Fl (pmS ms) m+rnd (4 * (P.tz.length:Int))+fsum P q):=⟨_,rfl⟩
       rw [← hFQ] at S2
       have rq:=HFS.out q (by omega)
       have rFQ:0≤FQ∧FQ≤20000:=by omega
       have p3:wr.cell? ⟨w.heap.size+5,3,none⟩=some (.int .i64 FQ):=S2.k5.cell 3
       have p1:wr.cell? ⟨gp,1,none⟩=some (.slice ar q cr):=kp.cell 1
       have al:Below wr.heap.size wr (wr.alloc (.cells #[.int .i64 FQ] 3)):=(Below.refl _ _).alloc (Nat.le_refl _) _
       have hTs:=TT.size
       have HSU:=hide (show bks (pmS ms) m (q+1)=bks (pmS ms) m q++[FQ] by rw [bks_succ,← HPP.out,hFQ];rfl)
       have HOW:=hide (show (wr.alloc (.cells #[.int .i64 FQ] 3)).ownsRow (wo.heap.size+1) 3 1 (.slice ar q cr) q ((bks (pmS ms) m q).flatMap clI) by have:=O.below al;unfold OG at this;rw [bks_len] at this;exact this)
       have HQ:=hide (And.intro (S2.below al) (And.intro (kM.below al) (And.intro (TT.trans (turn_below al)) (And.intro (kp.below al) (O.below al)))))
       have HFQ:=hide hFQ
       clear S2 kM TT kp O al hFQ
       go_wp2_with (at_builtin;refine wpList_append_own _ rfl _ _ 24 rfl (wo.heap.size+1) 3 iI (.int .i64 0) 1 8 Tryz.underlying24 hiI hz0 hz1 hz2 rfl (by decide) (.slice ar q cr) q ((bks (pmS ms) m q).flatMap clI) rfl HOW.out ⟨wr.heap.size,0,none⟩ 1 1 (clI FQ) rfl rfl (cells_new wr _ _ (clI FQ) rfl) (by intro u hu;simp [clI] at hu;subst hu;rfl) (by unfold maxLen;omega) (by omega) (by simp;omega) ?_;intro v' w4 hown hgr _;obtain ⟨S2,kM,TT,kp,O⟩:=HQ.out;have hrow:∀ j,(Value.slice ar q cr).ownBlock=some j→wo.heap.size+1≤j:=(fun j hj=>(O.lt j hj).1);have O4:OG 3 1 clI w4 (wo.heap.size+1) v' (bks (pmS ms) m (q+1)):=(by unfold OG;rw [bks_len,HSU.out,List.flatMap_append,List.flatMap_singleton];exact hown);have S4:=S2.grown hgr (fun j hj=>by have:=hrow j hj;omega);have kM4:=blk_grown kM hgr (fun e=>by have:=hrow _ e.symm;omega);have TT4:=turn_grown TT hgr (fun j hj=>by have:=hrow j hj;omega);have kp4:=blk_grown kp hgr (fun e=>by obtain ⟨cs,hk⟩:=own_kind O e.symm;exact absurd (blk_kind kp hk) (by decide));obtain ⟨ar',cr',rfl⟩:=og_shape O4;rw [bks_len] at O4 ⊢;have c1:w4.cell? ⟨gp,1,none⟩=some (.slice ar q cr):=kp4.cell 1;have f1:=kp4.frozen 1;have H4:=hide (And.intro S4 (And.intro kM4 (And.intro TT4 (And.intro kp4 O4))));clear S2 kM TT kp O hrow S4 kM4 TT4 kp4 O4 hown hgr HOW HQ p1 p3 g2)
       obtain ⟨S4,kM4,TT4,kp4,O4⟩:=H4.out
       have tp:=turn_set w4 gp 1 (.slice ar' (q+1) cr')
       have S5:=S4.other (g:=gp) (by omega) 1 (.slice ar' (q+1) cr')
       have kM5:=turn_blk tp kM4 (fun e=>by have e':wo.heap.size=gp:=e;omega)
       have TT5:=turn_new' TT4 (show wo.heap.size≤gp by omega) 1 (.slice ar' (q+1) cr')
       have kp5:Blk (w4.setCell ⟨gp,1,none⟩ (.slice ar' (q+1) cr')) gp #[.int .i64 (Fl (pmS ms) m),.slice ar' (q+1) cr',.int .i64 (65536+Ra (pmS ms) m),.int .i64 (rnd ((P.dz.length:Int)+P.bss))] 138:=kp4.set 1 (.slice ar' (q+1) cr')
       have O5:=O4.kept tp (fun k hk e=>by have e':k=gp:=e;subst e';exact kind_no O4 hk kp4 (by decide))
       have md5:=HMW.out _ S5.be
       obtain ⟨_,_,hcb,_,_⟩:=md5.b
       obtain ⟨b2,off2,hba,hc⟩:=hcb (by rw [HE.out.2.2.2];omega)
       have cb:=hc q (by rw [HE.out.2.2.2];exact hlt2)
       rw [HBK.out q hlt2] at cb
       have g2:(w4.setCell ⟨gp,1,none⟩ (.slice ar' (q+1) cr')).cell? ⟨wo.heap.size,2,none⟩=some (.slice M.ba P.bl.length M.bc):=kM5.cell 2
       rw [hba] at g2
       have p3:(w4.setCell ⟨gp,1,none⟩ (.slice ar' (q+1) cr')).cell? ⟨w.heap.size+5,3,none⟩=some (.int .i64 FQ):=S5.k5.cell 3
       have f3:=S5.k5.frozen 3
       have hLq:=vbk q hlt2
       obtain ⟨LQ,hLQ⟩:∃ LQ,LQ=(P.bl.getD q []).length:=⟨_,rfl⟩
       rw [← hLQ] at cb hLq
       have rL:=rnd_range (x:=4 * (LQ:Int)) (by omega)
       have hw4:IntKind.i64.wrap (4 * (LQ:Int))=4 * (LQ:Int):=wraps62 _ (by omega) (by omega)
       have hwq:IntKind.i64.wrap (FQ+rnd (4 * (LQ:Int)))=(FQ+rnd (4 * (LQ:Int))):=wraps62 _ (by omega) (by omega)
       have HFE:=hide (show (FQ+rnd (4 * (LQ:Int)))=Fl (pmS ms) m+rnd (4 * (P.tz.length:Int))+fsum P (q+1) by rw [HFQ.out,hLQ];show _=Fl (pmS ms) m+rnd (4 * (P.tz.length:Int))+(fsum P q+rnd (4 * ((P.bl.getD q []).length:Int)));omega)
       generalize M.bl.getD q zB=bq at cb
       obtain ⟨bq1,bq2,bq3,bq4⟩:=bq
       dsimp only at cb
       have H5:=hide (And.intro S5 (And.intro kM5 (And.intro TT5 (And.intro kp5 O5))))
       clear S4 kM4 TT4 kp4 O4 tp S5 kM5 TT5 kp5 O5 md5 hcb hba hc hLQ H4 c1 f1
       apply cut0
       ·intro REST0
        have REST:=hide REST0
        clear REST0
        go_region_law (first
         | (go_simp;go_at_call 136;refine (l5Round_any _ _ (by omega) (by omega)).mono ?_;rintro e wz ⟨rfl,rfl⟩))
        all_goals exact REST.out
       ·obtain ⟨S5,kM5,TT5,kp5,O5⟩:=H5.out
        have t6:=turn_d1 (turn_set (w4.setCell ⟨gp,1,none⟩ (.slice ar' (q+1) cr')) (w.heap.size+5) 3 (.int .i64 (FQ+rnd (4 * (LQ:Int)))))
        have S6:Lst w (((w4.setCell ⟨gp,1,none⟩ (.slice ar' (q+1) cr')).setCell ⟨w.heap.size+5,3,none⟩ (.int .i64 (FQ+rnd (4 * (LQ:Int))))).drew) s c k d #[.slice a0 m c0,.int .i64 0,.slice (some ⟨w.heap.size+3,0,none⟩) 0 0,.int .i64 (FQ+rnd (4 * (LQ:Int))),.int .i64 0,.slice a5 m c5]:=(S5.set 3 (.int .i64 (FQ+rnd (4 * (LQ:Int))))).drew
        have kM6:=turn_blk t6 kM5 (fun e=>by have e':wo.heap.size=w.heap.size+5:=e;omega)
        have TT6:=TT5.trans (t6.mono (S':=Lg w) (fun j hj=>hj))
        have kp6:=turn_blk t6 kp5 (fun e=>by have e':gp=w.heap.size+5:=e;omega)
        have O6:=O5.kept t6 (fun k hk e=>by have:=(O5.lt k hk).1;have e':k=w.heap.size+5:=e;omega)
        have H6:=hide (And.intro S6 (And.intro kM6 (And.intro TT6 (And.intro kp6 O6))))
        clear S5 kM5 TT5 kp5 O5 t6 S6 kM6 TT6 kp6 O6 H5 p3 f3 g2 cb
        go_wp2
        go_roundw
        case rel=>exact ⟨q+1,ar',cr',by omega,by go_num,(by rw [← HFE.out];exact H6.out.1),H6.out.2.1,H6.out.2.2.1,H6.out.2.2.2.1,H6.out.2.2.2.2⟩
        case measure=>simp [intOf];omega
      ·have hlt2':¬ (q:Int)<(P.bl.length:Int):=by omega
       have hqe:q=P.bl.length:=by omega
       have eF:Fl (pmS ms) m+rnd (4 * (P.tz.length:Int))+fsum P q=(Fl (pmS ms) (m+1)):=by
        show _=Fl (pmS ms) m+msz ((pmS ms).getD m zP)
        rw [← HPP.out,hqe]
        show _=Fl (pmS ms) m+(rnd (4 * (P.tz.length:Int))+fsum P P.bl.length)
        omega
       rw [eF] at S2
       have rF1:=Fl_range HVD.out (m+1) (by omega)
       have rR1:=Ra_range HVD.out (m+1) (by omega)
       have eR:Ra (pmS ms) m+rnd ((P.dz.length:Int)+P.bss)=Ra (pmS ms) (m+1):=by
        show _=Ra (pmS ms) m+dsz ((pmS ms).getD m zP)
        rw [← HPP.out];rfl
       have hwra:IntKind.i64.wrap (Ra (pmS ms) m+rnd ((P.dz.length:Int)+P.bss))=Ra (pmS ms) (m+1):=by rw [eR];exact wraps62 _ (by omega) (by omega)
       have HPL:=hide (show plc (pmS ms) m=⟨Fl (pmS ms) m,bks (pmS ms) m q,65536+Ra (pmS ms) m,rnd ((P.dz.length:Int)+P.bss)⟩ by unfold plc bks;rw [← HPP.out,hqe];rfl)
       have R1:=HSR.out.2.kept HSR.out.1 TT
       have L1:=R1.P.lt
       have hTs:=TT.size
       obtain ⟨iP,hiP,hzP0,hzP1,hzP2⟩:=info_parts infoP
       obtain ⟨iT,hiT,hzT0,hzT1,hzT2⟩:=info_parts infoTB
       have r0:wr.cell? ⟨gp,0,none⟩=some (.int .i64 (Fl (pmS ms) m)):=kp.cell 0
       have r1:wr.cell? ⟨gp,1,none⟩=some (.slice ar q cr):=kp.cell 1
       have r2:wr.cell? ⟨gp,2,none⟩=some (.int .i64 (65536+Ra (pmS ms) m)):=kp.cell 2
       have r3:wr.cell? ⟨gp,3,none⟩=some (.int .i64 (rnd ((P.dz.length:Int)+P.bss))):=kp.cell 3
       have p0:wr.cell? ⟨w.heap.size+5,0,none⟩=some (.slice a0 m c0):=S2.k5.cell 0
       have al:Below wr.heap.size wr (wr.alloc (.cells #[.int .i64 (Fl (pmS ms) m),.slice ar q cr,.int .i64 (65536+Ra (pmS ms) m),.int .i64 (rnd ((P.dz.length:Int)+P.bss))] 138)):=(Below.refl _ _).alloc (Nat.le_refl _) _
       have HOW:=hide (show (wr.alloc (.cells #[.int .i64 (Fl (pmS ms) m),.slice ar q cr,.int .i64 (65536+Ra (pmS ms) m),.int .i64 (rnd ((P.dz.length:Int)+P.bss))] 138)).ownsRow (w.heap.size+2) 138 4 (.slice a0 m c0) m (xs.flatMap clP) by have:=R1.P.head.below al;unfold OG at this;rw [R1.pl] at this;exact this)
       have HCL:=hide (show clP ((⟨Fl (pmS ms) m,bks (pmS ms) m q,65536+Ra (pmS ms) m,rnd ((P.dz.length:Int)+P.bss)⟩,ar,cr):PB)=[.int .i64 (Fl (pmS ms) m),.slice ar q cr,.int .i64 (65536+Ra (pmS ms) m),.int .i64 (rnd ((P.dz.length:Int)+P.bss))] by simp [clP,svP,bks_len])
       have HLO:=hide (show ∀ A ∈ xs,∀ j,(svP A).ownBlock=some j→j<wo.heap.size+1 from fun A hA j hj=>by have:=(HSR.out.2.P.lt.2 A hA j hj).2;omega)
       have HQ:=hide (And.intro (S2.below al) (And.intro (kM.below al) (And.intro (TT.trans (turn_below al)) (And.intro (R1.below al) (O.below al)))))
       clear S2 kM TT kp O al R1 L1 eF hqe eR
       go_wp2_with (at_builtin;refine wpList_append_own _ rfl _ _ 33 rfl (w.heap.size+2) 138 iP (.agg #[.int .i64 0,.slice none 0 0,.int .i64 0,.int .i64 0]) 4 48 Tryz.underlying33 hiP hzP0 hzP1 hzP2 rfl (by decide) (.slice a0 m c0) m (xs.flatMap clP) rfl HOW.out ⟨wr.heap.size,0,none⟩ 1 1 [.int .i64 (Fl (pmS ms) m),.slice ar q cr,.int .i64 (65536+Ra (pmS ms) m),.int .i64 (rnd ((P.dz.length:Int)+P.bss))] rfl rfl (cells_new wr _ _ [.int .i64 (Fl (pmS ms) m),.slice ar q cr,.int .i64 (65536+Ra (pmS ms) m),.int .i64 (rnd ((P.dz.length:Int)+P.bss))] rfl) (by intro u hu;simp at hu;rcases hu with rfl | rfl | rfl | rfl <;> rfl) (by unfold maxLen;omega) (by omega) (by simp;omega) ?_;intro v' w4 hown hgr _;obtain ⟨S2,kM,TT,R1,O⟩:=HQ.out;have hrow:∀ j,(Value.slice a0 m c0).ownBlock=some j→w.heap.size+2≤j∧j≠w.heap.size+5∧j≠wo.heap.size∧j<wo.heap.size:=(fun j hj=>⟨(R1.P.lt.1 j hj).1,fun e=>by subst e;exact kind_no R1.P.head hj S2.k5 (by decide),fun e=>by subst e;exact kind_no R1.P.head hj kM (by decide),(HSR.out.2.P.lt.1 j hj).2⟩);have P4:=R1.P.push (x:=((⟨Fl (pmS ms) m,bks (pmS ms) m q,65536+Ra (pmS ms) m,rnd ((P.dz.length:Int)+P.bss)⟩,ar,cr):PB)) R1.pl (by show OG _ _ _ _ _ (.slice ar (bks (pmS ms) m q).length cr) _;rw [bks_len];exact O) (by omega) HLO.out (by rw [HCL.out];exact hown) hgr (by decide);have S4:=S2.grown hgr (fun j hj=>⟨(hrow j hj).1,(hrow j hj).2.1⟩);have kM4:=blk_grown kM hgr (fun e=>(hrow _ e.symm).2.2.1 rfl);have T4:OTg w4 (w.heap.size+2) (w.heap.size+6) (.slice a5 m c5) ts:=⟨R1.T.head.kept' hgr (fun k hk e=>by obtain ⟨c1,k1⟩:=own_kind R1.P.head e;exact kind_no R1.T.head hk k1 (by decide)),fun x hx=>(R1.T.rows x hx).kept' hgr (fun k hk e=>by obtain ⟨c1,k1⟩:=own_kind R1.P.head e;exact kind_no (R1.T.rows x hx) hk k1 (by decide)),R1.T.apart⟩;have Sl4:=R1.S.kept' hgr (fun k hk e=>by obtain ⟨c1,k1⟩:=own_kind R1.P.head e;exact kind_no R1.S hk k1 (by decide));obtain ⟨a0',c0',rfl⟩:=og_shape P4.head;rw [show (xs++[((⟨Fl (pmS ms) m,bks (pmS ms) m q,65536+Ra (pmS ms) m,rnd ((P.dz.length:Int)+P.bss)⟩,ar,cr):PB)]).length=m+1 by rw [List.length_append,R1.pl];rfl] at P4 ⊢;have kMx:=turn_blk (turn_set w4 (w.heap.size+5) 0 (.slice a0' (m+1) c0')) kM4 (fun e=>by have e':wo.heap.size=w.heap.size+5:=e;omega);have g0:(w4.setCell ⟨w.heap.size+1+1+1+1+1,0,none⟩ (.slice a0' (m+1) c0')).cell? ⟨wo.heap.size,0,none⟩=some (.string M.nm):=kMx.cell 0;have y0:w4.cell? ⟨wo.heap.size,0,none⟩=some (.string M.nm):=kM4.cell 0;have g1:(w4.setCell ⟨w.heap.size+1+1+1+1+1,0,none⟩ (.slice a0' (m+1) c0')).cell? ⟨wo.heap.size,1,none⟩=some (.slice M.ta P.tz.length M.tc):=kMx.cell 1;have y1:w4.cell? ⟨wo.heap.size,1,none⟩=some (.slice M.ta P.tz.length M.tc):=kM4.cell 1;have g2:(w4.setCell ⟨w.heap.size+1+1+1+1+1,0,none⟩ (.slice a0' (m+1) c0')).cell? ⟨wo.heap.size,2,none⟩=some (.slice M.ba P.bl.length M.bc):=kMx.cell 2;have y2:w4.cell? ⟨wo.heap.size,2,none⟩=some (.slice M.ba P.bl.length M.bc):=kM4.cell 2;have g3:(w4.setCell ⟨w.heap.size+1+1+1+1+1,0,none⟩ (.slice a0' (m+1) c0')).cell? ⟨wo.heap.size,3,none⟩=some (.slice M.da P.dz.length M.dc):=kMx.cell 3;have y3:w4.cell? ⟨wo.heap.size,3,none⟩=some (.slice M.da P.dz.length M.dc):=kM4.cell 3;have g4:(w4.setCell ⟨w.heap.size+1+1+1+1+1,0,none⟩ (.slice a0' (m+1) c0')).cell? ⟨wo.heap.size,4,none⟩=some (.int .i64 P.bss):=kMx.cell 4;have y4:w4.cell? ⟨wo.heap.size,4,none⟩=some (.int .i64 P.bss):=kM4.cell 4;have g5:(w4.setCell ⟨w.heap.size+1+1+1+1+1,0,none⟩ (.slice a0' (m+1) c0')).cell? ⟨wo.heap.size,5,none⟩=some (.slice M.ra M.rn M.rc):=kMx.cell 5;have y5:w4.cell? ⟨wo.heap.size,5,none⟩=some (.slice M.ra M.rn M.rc):=kM4.cell 5;have g6:(w4.setCell ⟨w.heap.size+1+1+1+1+1,0,none⟩ (.slice a0' (m+1) c0')).cell? ⟨wo.heap.size,6,none⟩=some (.slice M.ia M.im M.ic):=kMx.cell 6;have y6:w4.cell? ⟨wo.heap.size,6,none⟩=some (.slice M.ia M.im M.ic):=kM4.cell 6;have g7:(w4.setCell ⟨w.heap.size+1+1+1+1+1,0,none⟩ (.slice a0' (m+1) c0')).cell? ⟨wo.heap.size,7,none⟩=some (.slice M.ea M.en M.ec):=kMx.cell 7;have y7:w4.cell? ⟨wo.heap.size,7,none⟩=some (.slice M.ea M.en M.ec):=kM4.cell 7;have hnA:¬ wo.heap.size=w.heap.size+1+1+1+1+1:=(by omega);have hnB:¬ w.heap.size+1+1+1+1+1=wo.heap.size:=(by omega);clear kMx;have p4:w4.cell? ⟨w.heap.size+5,0,none⟩=some (.slice a0 m c0):=S4.k5.cell 0;have f4:=S4.k5.frozen 0;have H4:=hide (And.intro S4 (And.intro kM4 (And.intro P4 (And.intro T4 Sl4))));have HPL2:=hide (And.intro R1.pl (And.intro R1.tl (And.intro R1.px R1.tx)));clear S2 kM TT R1 O hrow S4 kM4 P4 T4 Sl4 hown hgr HOW HQ p0 r0 r1 r2 r3)
       obtain ⟨S4,kM4,P4,T4,Sl4⟩:=H4.out
       have t6:Turn (fun j=>j=w.heap.size+5) w4 (w4.setCell ⟨w.heap.size+1+1+1+1+1,0,none⟩ (.slice a0' (m+1) c0')):=turn_set w4 (w.heap.size+5) 0 (.slice a0' (m+1) c0')
       have S6:Lst w (w4.setCell ⟨w.heap.size+1+1+1+1+1,0,none⟩ (.slice a0' (m+1) c0')) s c k d #[.slice a0' (m+1) c0',.int .i64 0,.slice (some ⟨w.heap.size+3,0,none⟩) 0 0,.int .i64 (Fl (pmS ms) (m+1)),.int .i64 0,.slice a5 m c5]:=S4.set 0 (.slice a0' (m+1) c0')
       have kM6:=turn_blk t6 kM4 (fun e=>by have e':wo.heap.size=w.heap.size+5:=e;omega)
       have P6:=P4.kept t6 (fun k hk e=>by have e':k=w.heap.size+5:=e;subst e';exact kind_no P4.head hk S4.k5 (by decide)) (fun x hx k hk e=>by have e':k=w.heap.size+5:=e;subst e';exact kind_no (P4.rows x hx) hk S4.k5 (by decide))
       have T6:=T4.kept t6 (fun k hk e=>by have e':k=w.heap.size+5:=e;subst e';exact kind_no T4.head hk S4.k5 (by decide)) (fun x hx k hk e=>by have e':k=w.heap.size+5:=e;subst e';exact kind_no (T4.rows x hx) hk S4.k5 (by decide))
       have Sl6:=Sl4.kept t6 (fun k hk e=>by have e':k=w.heap.size+5:=e;subst e';exact kind_no Sl4 hk S4.k5 (by decide))
       generalize w4.setCell ⟨w.heap.size+1+1+1+1+1,0,none⟩ (.slice a0' (m+1) c0')=W6 at *
       have HTA:=hide (l5Targets_any (some ⟨b,off,none⟩) n cap ms M W6 (HH.out.below S6.be) HVD.out hn (HMW.out _ S6.be) HOKM.out)
       rw [HE.out.1,HE.out.2.1,HE.out.2.2.1,HE.out.2.2.2] at HTA
       have HLT:=hide (show ∀ A ∈ ts,∀ j,(svT A).ownBlock=some j→j<W6.heap.size from fun A hA j hj=>(T6.lt.2 A hA j hj).2)
       have hs6:=S6.sz
       have H6:=hide (And.intro S6 (And.intro P6 (And.intro T6 Sl6)))
       clear S4 kM4 P4 T4 Sl4 t6 S6 kM6 P6 T6 Sl6 H4 p4 f4
       refine HTA.out.mono ?_
       rintro e w7 ⟨hb7,H7⟩
       rcases H7 with ⟨hno,_⟩ | ⟨_,at',ct',rfl,O7⟩
       ·exact absurd HTG.out.2 hno
       obtain ⟨S6,P6,T6,Sl6⟩:=H6.out
       have al:Below w7.heap.size w7 (w7.alloc (.cells #[.slice at' (tgs (pmS ms) M.pm).length ct'] 189)):=(Below.refl _ _).alloc (Nat.le_refl _) _
       have S7:=S6.below hb7
       have T7:=T6.below hb7
       have hs67:=hb7.size
       have p5:w7.cell? ⟨w.heap.size+5,5,none⟩=some (.slice a5 m c5):=S7.k5.cell 5
       have HOW:=hide (show (w7.alloc (.cells #[.slice at' (tgs (pmS ms) M.pm).length ct'] 189)).ownsRow (w.heap.size+2) 189 1 (.slice a5 m c5) m (ts.flatMap clTB) by have:=T7.head.below al;unfold OG at this;rw [HPL2.out.2.1] at this;exact this)
       have HQ:=hide (And.intro (S7.below al) (And.intro ((P6.below hb7).below al) (And.intro (T7.below al) (And.intro ((Sl6.below hb7).below al) (O7.below al)))))
       clear S6 P6 T6 Sl6 hb7 O7 al S7 T7 H6 HTA g0 g1 g2 g3 g4 g5 g6 g7 y0 y1 y2 y3 y4 y5 y6 y7
       go_wp2_with (at_builtin;refine wpList_append_own _ rfl _ _ 34 rfl (w.heap.size+2) 189 iT (.slice none 0 0) 1 24 Tryz.underlying34 hiT hzT0 hzT1 hzT2 rfl (by decide) (.slice a5 m c5) m (ts.flatMap clTB) rfl HOW.out ⟨w7.heap.size,0,none⟩ 1 1 (clTB ((tgs (pmS ms) M.pm,at',ct'):TB)) rfl rfl (cells_new w7 _ _ (clTB ((tgs (pmS ms) M.pm,at',ct'):TB)) rfl) (by intro u hu;simp [clTB,svT] at hu;subst hu;rfl) (by unfold maxLen;omega) (by omega) (by simp;omega) ?_;intro v' w8 hown hgr _;obtain ⟨S7,P7,T7,Sl7,O7⟩:=HQ.out;have hrow:∀ j,(Value.slice a5 m c5).ownBlock=some j→w.heap.size+2≤j∧j≠w.heap.size+5:=(fun j hj=>⟨(T7.lt.1 j hj).1,fun e=>by subst e;exact kind_no T7.head hj S7.k5 (by decide)⟩);have T8:=T7.push (x:=((tgs (pmS ms) M.pm,at',ct'):TB)) HPL2.out.2.1 O7 (by exact hs6) HLT.out hown hgr (by decide);have S8:=S7.grown hgr hrow;have P8:OPl w8 (w.heap.size+2) (w.heap.size+6) (.slice a0' (m+1) c0') (xs++[((⟨Fl (pmS ms) m,bks (pmS ms) m q,65536+Ra (pmS ms) m,rnd ((P.dz.length:Int)+P.bss)⟩,ar,cr):PB)]):=⟨P7.head.kept' hgr (fun k hk e=>by obtain ⟨c1,k1⟩:=own_kind T7.head e;exact kind_no P7.head hk k1 (by decide)),fun x hx=>(P7.rows x hx).kept' hgr (fun k hk e=>by obtain ⟨c1,k1⟩:=own_kind T7.head e;exact kind_no (P7.rows x hx) hk k1 (by decide)),P7.apart⟩;have Sl8:=Sl7.kept' hgr (fun k hk e=>by obtain ⟨c1,k1⟩:=own_kind T7.head e;exact kind_no Sl7 hk k1 (by decide));obtain ⟨a5',c5',rfl⟩:=og_shape T8.head;rw [show (ts++[((tgs (pmS ms) M.pm,at',ct'):TB)]).length=m+1 by rw [List.length_append,HPL2.out.2.1];rfl] at T8 ⊢;have p8:w8.cell? ⟨w.heap.size+5,5,none⟩=some (.slice a5 m c5):=S8.k5.cell 5;have f8:=S8.k5.frozen 5;have H8:=hide (And.intro S8 (And.intro P8 (And.intro T8 Sl8)));clear S7 P7 T7 Sl7 O7 hrow T8 S8 P8 Sl8 hown hgr HOW HQ p5)
       obtain ⟨S8,P8,T8,Sl8⟩:=H8.out
       have t9:=turn_set w8 (w.heap.size+5) 5 (.slice a5' (m+1) c5')
       have S9:Lst w (w8.setCell ⟨w.heap.size+5,5,none⟩ (.slice a5' (m+1) c5')) s c k d #[.slice a0' (m+1) c0',.int .i64 0,.slice (some ⟨w.heap.size+3,0,none⟩) 0 0,.int .i64 (Fl (pmS ms) (m+1)),.int .i64 0,.slice a5' (m+1) c5']:=S8.set 5 (.slice a5' (m+1) c5')
       have P9:=P8.kept t9 (fun k hk e=>by have e':k=w.heap.size+5:=e;subst e';exact kind_no P8.head hk S8.k5 (by decide)) (fun x hx k hk e=>by have e':k=w.heap.size+5:=e;subst e';exact kind_no (P8.rows x hx) hk S8.k5 (by decide))
       have T9:=T8.kept t9 (fun k hk e=>by have e':k=w.heap.size+5:=e;subst e';exact kind_no T8.head hk S8.k5 (by decide)) (fun x hx k hk e=>by have e':k=w.heap.size+5:=e;subst e';exact kind_no (T8.rows x hx) hk S8.k5 (by decide))
       have Sl9:=Sl8.kept t9 (fun k hk e=>by have e':k=w.heap.size+5:=e;subst e';exact kind_no Sl8 hk S8.k5 (by decide))
       have R9:Lrw w (w8.setCell ⟨w.heap.size+5,5,none⟩ (.slice a5' (m+1) c5')) (pmS ms) (m+1) a0' c0' (xs++[((⟨Fl (pmS ms) m,bks (pmS ms) m q,65536+Ra (pmS ms) m,rnd ((P.dz.length:Int)+P.bss)⟩,ar,cr):PB)]) a5' c5' (ts++[((tgs (pmS ms) M.pm,at',ct'):TB)]):=⟨P9,T9,Sl9,by rw [List.length_append,HPL2.out.1];rfl,by rw [List.length_append,HPL2.out.2.1];rfl,by rw [List.map_append,HPL2.out.2.2.1,List.range_succ,List.map_append];simp only [List.map_cons,List.map_nil];rw [HPL.out],by rw [List.map_append,HPL2.out.2.2.2,List.range_succ,List.map_append];simp only [List.map_cons,List.map_nil];rw [← HPP.out,HPM.out]⟩
       have H9:=hide (And.intro S9 R9)
       clear S8 P8 T8 Sl8 t9 S9 P9 T9 Sl9 R9 H8 p8 f8
       go_wp2
       go_roundw
       case rel=>exact ⟨m+1,a0',c0',_,a5',c5',_,by omega,by go_num,rfl,H9.out.1,H9.out.2⟩
       case measure=>simp [intOf];omega
  ·have hlt':¬ (m:Int)<(n:Int):=by omega
   have hmn:m=n:=by omega
   subst hmn
   have rF:=Fl_range HVD.out m (by omega)
   have rR:=Ra_range HVD.out m (by omega)
   obtain ⟨sn,rfl⟩:∃ sn:Nat,s=(sn:Int):=⟨s.toNat,by omega⟩
   obtain ⟨RW,hRW⟩:∃ RW,RW=rnd (4 * c):=⟨_,rfl⟩
   have rRW:0≤RW∧RW≤287:=by have:=rnd_range (x:=4 * c) (by omega);omega
   have HRW:=hide hRW
   have HRD:=hide (fun W=>l5Round_any (4 * c) W (by omega) (by omega))
   rw [← hRW] at HRD
   have hwr:IntKind.i64.wrap (65536+Ra (pmS ms) m)=(65536+Ra (pmS ms) m):=wraps62 _ (by omega) (by omega)
   have hwk:IntKind.i64.wrap (Ra (pmS ms) m+k)=Ra (pmS ms) m+k:=wraps62 _ (by omega) (by omega)
   have hwc:IntKind.i64.wrap (4 * c)=4 * c:=wraps62 _ (by omega) (by omega)
   have t18:Turn (fun j=>j=w.heap.size+5) wo (wo.setCell ⟨w.heap.size+1+1+1+1+1,1,none⟩ (.int .i64 (65536+Ra (pmS ms) m))):=turn_set wo (w.heap.size+5) 1 (.int .i64 (65536+Ra (pmS ms) m))
   have S18:Lst w (wo.setCell ⟨w.heap.size+1+1+1+1+1,1,none⟩ (.int .i64 (65536+Ra (pmS ms) m))) sn c k d #[.slice a0 m c0,.int .i64 (65536+Ra (pmS ms) m),.slice (some ⟨w.heap.size+3,0,none⟩) 0 0,.int .i64 (Fl (pmS ms) m),.int .i64 0,.slice a5 m c5]:=S.set 1 (.int .i64 (65536+Ra (pmS ms) m))
   have P18:=R.P.kept t18 (fun k hk e=>by have e':k=w.heap.size+5:=e;subst e';exact kind_no R.P.head hk S.k5 (by decide)) (fun x hx k hk e=>by have e':k=w.heap.size+5:=e;subst e';exact kind_no (R.P.rows x hx) hk S.k5 (by decide))
   have T18:=R.T.kept t18 (fun k hk e=>by have e':k=w.heap.size+5:=e;subst e';exact kind_no R.T.head hk S.k5 (by decide)) (fun x hx k hk e=>by have e':k=w.heap.size+5:=e;subst e';exact kind_no (R.T.rows x hx) hk S.k5 (by decide))
   have O18:=R.S.kept t18 (fun k hk e=>by have e':k=w.heap.size+5:=e;subst e';exact kind_no R.S hk S.k5 (by decide))
   have p1:wo.cell? ⟨w.heap.size+5,1,none⟩=some (.int .i64 0):=S.k5.cell 1
   have f1:=S.k5.frozen 1
   have y2:(wo.setCell ⟨w.heap.size+1+1+1+1+1,1,none⟩ (.int .i64 (65536+Ra (pmS ms) m))).cell? ⟨w.heap.size,2,none⟩=some (.int .i64 k):=S18.k0.cell 2
   have x2:wo.cell? ⟨w.heap.size,2,none⟩=some (.int .i64 k):=S.k0.cell 2
   have SP18:∀ j,(Value.slice (some ⟨w.heap.size+3,0,none⟩) 0 0).ownBlock=some j→∀ x ∈ xs,(svP x).ownBlock≠some j:=fun j hj x hx e=>by
    have h1:=(R.P.lt.2 x hx j e).1
    simp [Value.ownBlock] at hj
    omega
   have HR0:=hide (And.intro R.pl (And.intro R.tl (And.intro R.px R.tx)))
   have H18:=hide (And.intro S18 (And.intro O18 (And.intro P18 (And.intro T18 SP18))))
   have HZ:=hide (show Ra (pmS ms) m+k=Ra (pmS ms) m+k+((0:Nat):Int) * RW by simp)
   obtain ⟨iI,hiI,hz0,hz1,hz2⟩:=info_parts infoI
   clear S18 P18 T18 O18 SP18 S R t18 hRW
   go_wp2_with fail
   go_loopw [6,13] (fun x i wx=>∃ (q:Nat) (a2:Option Addr) (c2:Nat) (rq:Int),q≤sn∧i=.int .i64 q∧x=.int .i64 rq∧Hid (rq=Ra (pmS ms) m+k+(q:Int) * RW)∧Lst w wx sn c k d #[.slice a0 m c0,.int .i64 (65536+Ra (pmS ms) m),.slice a2 q c2,.int .i64 (Fl (pmS ms) m),.int .i64 0,.slice a5 m c5]∧OG 3 1 clI wx (w.heap.size+2) (.slice a2 q c2) ((List.range q).map (slt (pmS ms) c k))∧OPl wx (w.heap.size+2) (w.heap.size+6) (.slice a0 m c0) xs∧OTg wx (w.heap.size+2) (w.heap.size+6) (.slice a5 m c5) ts∧(∀ j,(Value.slice a2 q c2).ownBlock=some j→∀ x ∈ xs,(svP x).ownBlock≠some j)) (fun _ i _=>sn - (intOf i).toNat)
   case atStart=>exact ⟨0,_,_,_,Nat.zero_le _,rfl,rfl,HZ,H18.out.1,H18.out.2.1,H18.out.2.2.1,H18.out.2.2.2.1,H18.out.2.2.2.2⟩
   case round=>
    clear H18 p1 f1 y2 x2 HZ
    obtain ⟨q,a2,c2,rq,hq,rfl,rfl,hrq,S,O,P,T,SP⟩:=hrel
    have rrq:0≤rq∧rq≤100000:=by
     have:=hrq.out
     have h1:(q:Int) * RW≤4 * 287:=Int.mul_le_mul (by omega) (by omega) (by omega) (by omega)
     have h0:0≤(q:Int) * RW:=Int.mul_nonneg (by omega) (by omega)
     omega
    have z0:wr.cell? ⟨w.heap.size,0,none⟩=some (.int .i64 (sn:Int)):=S.k0.cell 0
    by_cases hlt2:q<sn
    ·have hlt2':(q:Int)<(sn:Int):=by omega
     have p2:wr.cell? ⟨w.heap.size+5,2,none⟩=some (.slice a2 q c2):=S.k5.cell 2
     have hwq:IntKind.i64.wrap (65536+rq)=65536+rq:=wraps62 _ (by omega) (by omega)
     have hwr2:IntKind.i64.wrap (rq+RW)=rq+RW:=wraps62 _ (by omega) (by omega)
     have al:Below wr.heap.size wr (wr.alloc (.cells #[.int .i64 (65536+rq)] 3)):=(Below.refl _ _).alloc (Nat.le_refl _) _
     have hs1:=S.sz
     have HSU:=hide (show (List.range (q+1)).map (slt (pmS ms) c k)=(List.range q).map (slt (pmS ms) c k)++[65536+rq] by
      rw [List.range_succ,List.map_append]
      simp only [List.map_cons,List.map_nil]
      congr 2
      unfold slt
      rw [hpl,hrq.out,HRW.out]
      omega)
     have HLN:=hide (show ((List.range q).map (slt (pmS ms) c k)).length=q by simp)
     have HOW:=hide (show (wr.alloc (.cells #[.int .i64 (65536+rq)] 3)).ownsRow (w.heap.size+2) 3 1 (.slice a2 q c2) q (((List.range q).map (slt (pmS ms) c k)).flatMap clI) by have:=O.below al;unfold OG at this;rw [HLN.out] at this;exact this)
     have HLO:=hide (show ∀ x ∈ xs,∀ j,(svP x).ownBlock=some j→j<wr.heap.size from fun x hx j hj=>(P.lt.2 x hx j hj).2)
     have HNQ:=hide (show rq+RW=Ra (pmS ms) m+k+((q+1:Nat):Int) * RW by rw [hrq.out];push_cast;rw [Int.add_mul];omega)
     have HSP:=hide SP
     have HQ:=hide (And.intro (S.below al) (And.intro (P.below al) (And.intro (T.below al) (O.below al))))
     clear S O P T SP al hrq
     go_wp2_with (at_builtin;refine wpList_append_lies _ rfl _ _ 24 rfl (w.heap.size+2) 3 iI (.int .i64 0) 1 8 Tryz.underlying24 hiI hz0 hz1 hz2 rfl (by decide) (.slice a2 q c2) q (((List.range q).map (slt (pmS ms) c k)).flatMap clI) rfl HOW.out ⟨wr.heap.size,0,none⟩ 1 1 (clI (65536+rq)) rfl rfl (cells_new wr _ _ (clI (65536+rq)) rfl) (by intro u hu;simp [clI] at hu;subst hu;rfl) (by decide) (by unfold maxLen;omega) (by omega) (by simp;omega) (wr.heap.size+1) (by simp) ?_;intro g4 c4 w4 hown hgr hat hlt4;obtain ⟨S,P,T,O⟩:=HQ.out;have hrow:∀ j,(Value.slice a2 q c2).ownBlock=some j→w.heap.size+2≤j∧j≠w.heap.size+5:=(fun j hj=>⟨(O.lt j hj).1,fun e=>by subst e;exact kind_no O hj S.k5 (by decide)⟩);have O4:OG 3 1 clI w4 (w.heap.size+2) (.slice (some ⟨g4,0,none⟩) (q+1) c4) ((List.range (q+1)).map (slt (pmS ms) c k)):=(by unfold OG;rw [HSU.out,List.length_append,HLN.out,List.flatMap_append,List.flatMap_singleton];exact hown);have S4:=S.grown hgr hrow;have P4:OPl w4 (w.heap.size+2) (w.heap.size+6) (.slice a0 m c0) xs:=⟨P.head.kept' hgr (fun k hk e=>by obtain ⟨c1,k1⟩:=own_kind O e;exact kind_no P.head hk k1 (by decide)),fun x hx=>(P.rows x hx).kept' hgr (fun k hk e=>HSP.out k e x hx hk),P.apart⟩;have T4:OTg w4 (w.heap.size+2) (w.heap.size+6) (.slice a5 m c5) ts:=⟨T.head.kept' hgr (fun k hk e=>by obtain ⟨c1,k1⟩:=own_kind O e;exact kind_no T.head hk k1 (by decide)),fun x hx=>(T.rows x hx).kept' hgr (fun k hk e=>by obtain ⟨c1,k1⟩:=own_kind O e;exact kind_no (T.rows x hx) hk k1 (by decide)),T.apart⟩;have SP4:∀ j,(Value.slice (some ⟨g4,0,none⟩) (q+1) c4).ownBlock=some j→∀ x ∈ xs,(svP x).ownBlock≠some j:=(fun j hj x hx e=>by have hj':g4=j:=(by simpa [Value.ownBlock] using hj);subst hj';exact hat.elim (fun h1=>HSP.out g4 h1 x hx e) (fun h1=>by have:=HLO.out x hx g4 e;omega));have p4:w4.cell? ⟨w.heap.size+5,2,none⟩=some (.slice a2 q c2):=S4.k5.cell 2;have f4:=S4.k5.frozen 2;have c14:w4.cell? ⟨w.heap.size,1,none⟩=some (.int .i64 c):=S4.k0.cell 1;have c15:(w4.setCell ⟨w.heap.size+1+1+1+1+1,2,none⟩ (.slice (some ⟨g4,0,none⟩) (q+1) c4)).cell? ⟨w.heap.size,1,none⟩=some (.int .i64 c):=(S4.set 2 (.slice (some ⟨g4,0,none⟩) (q+1) c4)).k0.cell 1;have H4:=hide (And.intro S4 (And.intro P4 (And.intro T4 (And.intro O4 SP4))));clear S P T O hrow O4 S4 P4 T4 SP4 hown hgr hat HOW HQ p2 z0)
     refine (HRD.out _).mono ?_
     rintro e wz ⟨rfl,rfl⟩
     obtain ⟨S4,P4,T4,O4,SP4⟩:=H4.out
     have t5:Turn (fun j=>j=w.heap.size+5) w4 (w4.setCell ⟨w.heap.size+1+1+1+1+1,2,none⟩ (.slice (some ⟨g4,0,none⟩) (q+1) c4)):=turn_set w4 (w.heap.size+5) 2 (.slice (some ⟨g4,0,none⟩) (q+1) c4)
     have S5:Lst w (w4.setCell ⟨w.heap.size+1+1+1+1+1,2,none⟩ (.slice (some ⟨g4,0,none⟩) (q+1) c4)) sn c k d #[.slice a0 m c0,.int .i64 (65536+Ra (pmS ms) m),.slice (some ⟨g4,0,none⟩) (q+1) c4,.int .i64 (Fl (pmS ms) m),.int .i64 0,.slice a5 m c5]:=S4.set 2 (.slice (some ⟨g4,0,none⟩) (q+1) c4)
     have P5:=P4.kept t5 (fun k hk e=>by have e':k=w.heap.size+5:=e;subst e';exact kind_no P4.head hk S4.k5 (by decide)) (fun x hx k hk e=>by have e':k=w.heap.size+5:=e;subst e';exact kind_no (P4.rows x hx) hk S4.k5 (by decide))
     have T5:=T4.kept t5 (fun k hk e=>by have e':k=w.heap.size+5:=e;subst e';exact kind_no T4.head hk S4.k5 (by decide)) (fun x hx k hk e=>by have e':k=w.heap.size+5:=e;subst e';exact kind_no (T4.rows x hx) hk S4.k5 (by decide))
     have O5:=O4.kept t5 (fun k hk e=>by have e':k=w.heap.size+5:=e;subst e';exact kind_no O4 hk S4.k5 (by decide))
     have H5:=hide (And.intro S5 (And.intro O5 (And.intro P5 (And.intro T5 SP4))))
     clear S4 P4 T4 O4 SP4 t5 S5 P5 T5 O5 H4 p4 f4 c14 c15
     go_wp2
     go_roundw
     case rel=>exact ⟨q+1,_,_,_,by omega,by go_num,rfl,HNQ,H5.out.1,H5.out.2.1,H5.out.2.2.1,H5.out.2.2.2.1,H5.out.2.2.2.2⟩
     case measure=>simp [intOf];omega
    ·have hlt2':¬ (q:Int)<(sn:Int):=by omega
     have hqs:q=sn:=by omega
     have t25:Turn (fun j=>j=w.heap.size+5) wr (wr.setCell ⟨w.heap.size+1+1+1+1+1,4,none⟩ (.int .i64 rq)):=turn_set wr (w.heap.size+5) 4 (.int .i64 rq)
     have S25:Lst w (wr.setCell ⟨w.heap.size+1+1+1+1+1,4,none⟩ (.int .i64 rq)) sn c k d #[.slice a0 m c0,.int .i64 (65536+Ra (pmS ms) m),.slice a2 q c2,.int .i64 (Fl (pmS ms) m),.int .i64 rq,.slice a5 m c5]:=S.set 4 (.int .i64 rq)
     have P25:=P.kept t25 (fun k hk e=>by have e':k=w.heap.size+5:=e;subst e';exact kind_no P.head hk S.k5 (by decide)) (fun x hx k hk e=>by have e':k=w.heap.size+5:=e;subst e';exact kind_no (P.rows x hx) hk S.k5 (by decide))
     have T25:=T.kept t25 (fun k hk e=>by have e':k=w.heap.size+5:=e;subst e';exact kind_no T.head hk S.k5 (by decide)) (fun x hx k hk e=>by have e':k=w.heap.size+5:=e;subst e';exact kind_no (T.rows x hx) hk S.k5 (by decide))
     have O25:=O.kept t25 (fun k hk e=>by have e':k=w.heap.size+5:=e;subst e';exact kind_no O hk S.k5 (by decide))
     have p4:wr.cell? ⟨w.heap.size+5,4,none⟩=some (.int .i64 0):=S.k5.cell 4
     have f4:=S.k5.frozen 4
     have v0:(wr.setCell ⟨w.heap.size+1+1+1+1+1,4,none⟩ (.int .i64 rq)).cell? ⟨w.heap.size+1+1+1+1+1,0,none⟩=some (.slice a0 m c0):=S25.k5.cell 0
     have v1:(wr.setCell ⟨w.heap.size+1+1+1+1+1,4,none⟩ (.int .i64 rq)).cell? ⟨w.heap.size+1+1+1+1+1,1,none⟩=some (.int .i64 (65536+Ra (pmS ms) m)):=S25.k5.cell 1
     have v2:(wr.setCell ⟨w.heap.size+1+1+1+1+1,4,none⟩ (.int .i64 rq)).cell? ⟨w.heap.size+1+1+1+1+1,2,none⟩=some (.slice a2 q c2):=S25.k5.cell 2
     have v3:(wr.setCell ⟨w.heap.size+1+1+1+1+1,4,none⟩ (.int .i64 rq)).cell? ⟨w.heap.size+1+1+1+1+1,3,none⟩=some (.int .i64 (Fl (pmS ms) m)):=S25.k5.cell 3
     have v4:(wr.setCell ⟨w.heap.size+1+1+1+1+1,4,none⟩ (.int .i64 rq)).cell? ⟨w.heap.size+1+1+1+1+1,4,none⟩=some (.int .i64 rq):=S25.k5.cell 4
     have v5:(wr.setCell ⟨w.heap.size+1+1+1+1+1,4,none⟩ (.int .i64 rq)).cell? ⟨w.heap.size+1+1+1+1+1,5,none⟩=some (.slice a5 m c5):=S25.k5.cell 5
     have u0:(wr.setCell ⟨w.heap.size+1+1+1+1+1,4,none⟩ (.int .i64 rq)).cell? ⟨w.heap.size+1,0,none⟩=some (.slice none 0 0):=S25.k1.cell 0
     have u1:(wr.setCell ⟨w.heap.size+1+1+1+1+1,4,none⟩ (.int .i64 rq)).cell? ⟨w.heap.size+1,1,none⟩=some (.int .i64 0):=S25.k1.cell 1
     have u2:(wr.setCell ⟨w.heap.size+1+1+1+1+1,4,none⟩ (.int .i64 rq)).cell? ⟨w.heap.size+1,2,none⟩=some (.slice none 0 0):=S25.k1.cell 2
     have u3:(wr.setCell ⟨w.heap.size+1+1+1+1+1,4,none⟩ (.int .i64 rq)).cell? ⟨w.heap.size+1,3,none⟩=some (.int .i64 0):=S25.k1.cell 3
     have u4:(wr.setCell ⟨w.heap.size+1+1+1+1+1,4,none⟩ (.int .i64 rq)).cell? ⟨w.heap.size+1,4,none⟩=some (.int .i64 0):=S25.k1.cell 4
     have u5:(wr.setCell ⟨w.heap.size+1+1+1+1+1,4,none⟩ (.int .i64 rq)).cell? ⟨w.heap.size+1,5,none⟩=some (.slice none 0 0):=S25.k1.cell 5
     have n0:(wr.setCell ⟨w.heap.size+1+1+1+1+1,4,none⟩ (.int .i64 rq)).frozen? ⟨w.heap.size+1,0,none⟩=false:=S25.k1.frozen 0
     have n1:(wr.setCell ⟨w.heap.size+1+1+1+1+1,4,none⟩ (.int .i64 rq)).frozen? ⟨w.heap.size+1,1,none⟩=false:=S25.k1.frozen 1
     have n2:(wr.setCell ⟨w.heap.size+1+1+1+1+1,4,none⟩ (.int .i64 rq)).frozen? ⟨w.heap.size+1,2,none⟩=false:=S25.k1.frozen 2
     have n3:(wr.setCell ⟨w.heap.size+1+1+1+1+1,4,none⟩ (.int .i64 rq)).frozen? ⟨w.heap.size+1,3,none⟩=false:=S25.k1.frozen 3
     have n4:(wr.setCell ⟨w.heap.size+1+1+1+1+1,4,none⟩ (.int .i64 rq)).frozen? ⟨w.heap.size+1,4,none⟩=false:=S25.k1.frozen 4
     have n5:(wr.setCell ⟨w.heap.size+1+1+1+1+1,4,none⟩ (.int .i64 rq)).frozen? ⟨w.heap.size+1,5,none⟩=false:=S25.k1.frozen 5
     have HLAY:=hide (show lay (pmS ms) sn c k=⟨(List.range m).map (plc (pmS ms)),(65536+Ra (pmS ms) m),(List.range q).map (slt (pmS ms) c k),Fl (pmS ms) m,rq,(List.range m).map fun i=>tgs (pmS ms) ((pmS ms).getD i zP)⟩ by
      unfold lay
      rw [hpl,hrq.out,HRW.out,Int.toNat_natCast,hqs])
     have t26:=turn_st6 (wr.setCell ⟨w.heap.size+1+1+1+1+1,4,none⟩ (.int .i64 rq)) (w.heap.size+1) (.slice a0 m c0) (.int .i64 (65536+Ra (pmS ms) m)) (.slice a2 q c2) (.int .i64 (Fl (pmS ms) m)) (.int .i64 rq) (.slice a5 m c5)
     have k6:=blk_st6 S25.k1 (.slice a0 m c0) (.int .i64 (65536+Ra (pmS ms) m)) (.slice a2 q c2) (.int .i64 (Fl (pmS ms) m)) (.int .i64 rq) (.slice a5 m c5)
     have P26:=P25.kept t26 (fun k hk e=>by have e':k=w.heap.size+1:=e;subst e';exact kind_no P25.head hk S25.k1 (by decide)) (fun x hx k hk e=>by have e':k=w.heap.size+1:=e;subst e';exact kind_no (P25.rows x hx) hk S25.k1 (by decide))
     have T26:=T25.kept t26 (fun k hk e=>by have e':k=w.heap.size+1:=e;subst e';exact kind_no T25.head hk S25.k1 (by decide)) (fun x hx k hk e=>by have e':k=w.heap.size+1:=e;subst e';exact kind_no (T25.rows x hx) hk S25.k1 (by decide))
     have O26:=O25.kept t26 (fun k hk e=>by have e':k=w.heap.size+1:=e;subst e';exact kind_no O25 hk S25.k1 (by decide))
     have B26:=below_turn S25.be t26 (fun j hj=>by have e':j=w.heap.size+1:=hj;omega) S25.be.size
     have HFIN:=hide (And.intro S25.k1 (And.intro P26 (And.intro T26 (And.intro O26 (And.intro B26 SP)))))
     clear S25 P25 T25 O25 t25 t26 k6 P26 T26 O26 B26 S O P T SP hqs hrq
     go_wp2
     refine lay_end HFIN.out.1 _ _ _ _ _ _ _ _ rfl ?_
     obtain ⟨_,P26,T26,O26,B26,SP⟩:=HFIN.out
     refine ⟨B26,a0,c0,xs,a2,c2,a5,c5,ts,?_,?_⟩
     ·unfold layV
      rw [HLAY.out,HR0.out.1,HR0.out.2.1]
      simp
     ·rw [HLAY.out]
      exact ⟨by rw [HR0.out.1];exact P26.mono (by omega) (by omega),HR0.out.2.2.1,by simpa using O26.mono (by omega),by rw [HR0.out.2.1];exact T26.mono (by omega) (by omega),HR0.out.2.2.2,by simpa using SP⟩
theorem eqCore_same (pc:Int)(a b:Option Addr)(n cap cap':Nat)(zs:List Int)(w:World)(h:IS w a n cap zs)(k:IS w b n cap' zs):
 Calls Tryz.prog 107 #[.agg #[.int .i64 pc,.slice a n cap],.agg #[.int .i64 pc,.slice b n cap']] w fun e w'=>e=.returned (.bool true)∧Below w.heap.size w w':=by
 have hB0:Below w.heap.size w ((w.alloc (.cells #[.int .i64 pc,.slice a n cap] 48)).alloc (.cells #[.int .i64 pc,.slice b n cap'] 48)):=((Below.refl _ _).alloc (Nat.le_refl _) _).alloc (by simp) _
 have hp:(pc != pc)=false:=by simp
 go_enter Tryz.func107,Tryz.ntmps107
 go_wp2_with fail
 refine (eqIntS_any a b n cap n cap' zs zs _ (h.below hB0) (k.below hB0)).mono ?_
 rw [decide_eq_true rfl]
 rintro e w1 ⟨rfl,hb1⟩
 go_wp2
 go_ret
 exact ⟨rfl,hB0.trans (hb1.mono (by simp;omega))⟩
theorem only_trans {g:Nat}{a b c:World}(h:Only g a b)(k:Only g b c):Only g a c:=⟨k.1.trans h.1,fun j hj=>(k.2.1 j hj).trans (h.2.1 j hj),k.2.2.1.trans h.2.2.1,k.2.2.2.1.trans h.2.2.2.1,k.2.2.2.2.trans h.2.2.2.2⟩
theorem only_turn' {g:Nat}{w w':World}(h:Only g w w'):Turn (fun j=>j=g) w w':=⟨h.2.2.1,h.2.2.2.1,h.2.2.2.2,by rw [h.1];exact Nat.le_refl _,fun k hk hn=>h.2.1 k hn⟩
def pour (zs:List Int)(k:Nat)(ws:List Int):Nat→List Int
 | 0=>zs
 | i+1=>put (pour zs k ws i) (k+4 * i) (ws.getD i 0) 4
theorem pour_len (zs:List Int)(k:Nat)(ws:List Int):∀ i,(pour zs k ws i).length=zs.length
 | 0=>rfl
 | i+1=>by rw [pour,put_len,pour_len zs k ws i]
theorem l5Pour_any (g n cap k:Nat)(a:Option Addr)(wn wc:Nat)(ws zs:List Int)(base:Nat)(w0 w:World)(h0:IS w0 a wn wc ws)(hb:Below w0.heap.size w0 w)(hg:w0.heap.size≤g)(ho:OB w base (.slice (some ⟨g,0,none⟩) n cap) zs)(hn:n≤16384)(hk:k+4 * wn≤n)(hw:∀ i,i<wn→0≤ws.getD i 0∧ws.getD i 0≤4294967295):
 Calls Tryz.prog 82 #[.slice (some ⟨g,0,none⟩) n cap,.int .i64 k,.slice a wn wc] w fun e w'=>e=.returned (.tuple #[])∧OB w' base (.slice (some ⟨g,0,none⟩) n cap) (pour zs k ws wn)∧Only g w w':=by
 have HO:=hide ho
 have HB:=hide hb
 clear ho hb
 go_enter Tryz.func82,Tryz.ntmps82
 go_wp2
 go_loopw [6] (fun i wr=>∃ m:Nat,m≤wn∧i=.int .i64 m∧OB wr base (.slice (some ⟨g,0,none⟩) n cap) (pour zs k ws m)∧Only g w wr) (fun i _=>wn - (intOf i).toNat)
 case atStart=>exact ⟨0,Nat.zero_le _,rfl,HO.out,only_refl _ _⟩
 case round=>
  obtain ⟨m,hm,rfl,O,T⟩:=hrel
  by_cases hlt:m<wn
  ·have hlt':(m:Int)<(wn:Int):=by omega
   obtain ⟨b,off,rfl,hc⟩:=(h0.below (only_below HB.out T hg)).2.2.2.1 (by omega)
   have q:=hc m hlt
   obtain ⟨v0,v1⟩:=hw m hlt
   have HP:=hide (l1Put_any g n cap (k+4 * m) 4 (ws.getD m 0) wr (ob_room O) hn (by omega) (by omega) (by omega) v0 v1)
   have HX:=hide (And.intro (ob_put O (k+4 * m) (ws.getD m 0) 4 (by omega)) (only_trans T (only_put g (k+4 * m) (ws.getD m 0) wr 4)))
   have HE:=hide (show pour zs k ws (m+1)=put (pour zs k ws m) (k+4 * m) (ws.getD m 0) 4 from rfl)
   have hkm:((k+4 * m:Nat):Int)=(k:Int)+4 * (m:Int):=by omega
   rw [hkm] at HP
   clear O T hc
   generalize ws.getD m 0=v at *
   go_wp2_with fail
   refine HP.out.mono ?_
   rintro e w1 ⟨rfl,rfl⟩
   go_wp2
   go_roundw
   case rel=>exact ⟨m+1,by omega,by go_num,by rw [HE.out];exact HX.out.1,HX.out.2⟩
   case measure=>simp [intOf];omega
  ·have e:Hid (m=wn):=by show m=wn;omega
   have HX:=hide (And.intro O T)
   clear O T
   go_wp2
   go_end0
   exact ⟨rfl,by have:=HX.out.1;rw [e.out] at this;exact this,HX.out.2⟩
theorem putWords_any (g n cap k m c:Nat)(a:Option Addr)(wn wc:Nat)(ws zs:List Int)(base:Nat)(w0 w:World)(h0:IS w0 a wn wc ws)(hb:Below w0.heap.size w0 w)(hg:w0.heap.size≤g)(ho:OB w base (.slice (some ⟨g,0,none⟩) n cap) zs)(hn:n≤16384)(hk:k+4 * wn≤n)(hm:4 * wn≤m)(hc:m≤c)(hc2:c≤16384):
 Calls Tryz.prog 178 #[.slice (some ⟨g,k,none⟩) m c,.slice a wn wc] w fun e w'=>e=.returned (.tuple #[])∧OB w' base (.slice (some ⟨g,0,none⟩) n cap) (pour zs k ws wn)∧Only g w w':=by
 have HO:=hide ho
 have HB:=hide hb
 clear ho hb
 go_enter Tryz.func178,Tryz.ntmps178
 go_wp2
 go_loopw [8] (fun i wr=>∃ j:Nat,j≤wn∧i=.int .i64 j∧OB wr base (.slice (some ⟨g,0,none⟩) n cap) (pour zs k ws j)∧Only g w wr) (fun i _=>wn - (intOf i).toNat)
 case atStart=>exact ⟨0,Nat.zero_le _,rfl,HO.out,only_refl _ _⟩
 case round=>
  obtain ⟨j,hj,rfl,O,T⟩:=hrel
  by_cases hlt:j<wn
  ·have hlt':(j:Int)<(wn:Int):=by omega
   obtain ⟨b,off,rfl,hcc⟩:=(h0.below (only_below HB.out T hg)).2.2.2.1 (by omega)
   have q:=hcc j hlt
   have wv:-9223372036854775808≤ws.getD j 0∧ws.getD j 0≤9223372036854775807:=h0.2.2.1 _ (by have:=h0.1;simp [List.getD_eq_getElem?_getD,show j<ws.length by omega])
   have HP:=hide (putBytes_4 g (m - 4 * j) (c - 4 * j) (k+4 * j) (ws.getD j 0) wr (ob_room2 O (by omega)) (by omega) wv)
   have HX:=hide (And.intro (ob_putD4 O (k+4 * j) (ws.getD j 0) (by omega)) (only_trans T (only_putD4 g (k+4 * j) (ws.getD j 0) wr)))
   have HE:=hide (show pour zs k ws (j+1)=put (pour zs k ws j) (k+4 * j) (ws.getD j 0) 4 from rfl)
   have t0:(0:Int)≤4 * (j:Int):=by omega
   have t1:4 * (j:Int)≤(m:Int):=by omega
   have t2:4 * (j:Int)<(c:Int):=by omega
   have t3:(4 * (j:Int)).toNat=4 * j:=by omega
   clear O T hcc wv
   generalize ws.getD j 0=v at *
   go_wp2_with fail
   refine HP.out.mono ?_
   rintro e w1 ⟨rfl,rfl⟩
   go_wp2
   go_roundw
   case rel=>exact ⟨j+1,by omega,by go_num,by rw [HE.out];exact HX.out.1,HX.out.2⟩
   case measure=>simp [intOf];omega
  ·have e:Hid (j=wn):=by show j=wn;omega
   have HX:=hide (And.intro O T)
   clear O T
   go_wp2
   go_end0
   exact ⟨rfl,by have:=HX.out.1;rw [e.out] at this;exact this,HX.out.2⟩
end Go.Proofs.YtngdgogjlpjjpaeGreat
