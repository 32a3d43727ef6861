import Derived.Test.YtngdgogjlpjjpadGreatP20
import Derived.Test.YtngdgogjlpjjpadGreatP21
namespace Go.Proofs.YtngdgogjlpjjpadGreat
open Go.RowKit Classical
set_option linter.unusedVariables false
set_option linter.unusedSimpArgs false
set_option maxRecDepth 100000
theorem cutW2 {S F:Value→World→Prop} {G:Prop} (main:(∀ v W,F v W→S v W)→G) (pf:∀ v W,F v W→S v W):G:=main pf
structure Pc (w0 w:World) (cm cp:Array Value) (g n base:Nat) (zs:List Int) (W:World):Prop where
 be:Below w0.heap.size w0 W
 km:Blk W w.heap.size cm 49
 kp:Blk W (w.heap.size+1) cp 43
 o:OB W base (.slice (some ⟨g,0,none⟩) n n) zs
 t:Turn (fun j=>j=g) w W
section
variable {w0 w:World} {cm cp:Array Value} {g n base:Nat} {zs:List Int} {W W':World}
theorem Pc.below (h:Pc w0 w cm cp g n base zs W) (hb:Below W.heap.size W W'):Pc w0 w cm cp g n base zs W':=⟨h.be.trans (hb.mono h.be.size),h.km.below hb,h.kp.below hb,h.o.below hb,h.t.trans (turn_below hb)⟩
theorem Pc.drew (h:Pc w0 w cm cp g n base zs W):Pc w0 w cm cp g n base zs W.drew:=h.below (Below.refl _ _).drew
theorem Pc.set (h:Pc w0 w cm cp g n base zs W) {zs':List Int} (hg:w0.heap.size≤g) (O:OB W' base (.slice (some ⟨g,0,none⟩) n n) zs') (T:Only g W W'):Pc w0 w cm cp g n base zs' W':=by
 obtain ⟨c1,k1⟩:=ob_blk h.o
 exact ⟨only_below h.be T hg,only_blk T h.km (fun e=>absurd (blk_kind (show Blk W g cm 49 from e ▸ h.km) k1) (by decide)),only_blk T h.kp (fun e=>absurd (blk_kind (show Blk W g cp 43 from e ▸ h.kp) k1) (by decide)),O,h.t.trans (only_turn' T)⟩
end
theorem pour_zero (zs:List Int) (k:Nat) (ws:List Int):pour zs k ws 0=zs:=rfl
set_option maxHeartbeats 8000000 in
theorem putCode_any (g F:Nat) (nm:ByteArray) (ta:Option Addr) (tn tc:Nat) (tz:List Int) (ba:Option Addr) (bn bc:Nat) (bl:List Bk) (da:Option Addr) (dn dc:Nat) (bss:Int) (ra:Option Addr) (rn rc:Nat) (ia:Option Addr) (im ic:Nat) (ea:Option Addr) (en ec:Nat) (P:PMod) (kt:Nat) (xa:Option Addr) (xb:List Int) (xc:Nat) (xd xz:Int) (fz:List Int) (base:Nat) (w w0:World) (hT:IS w0 ta tn tc tz) (hB:BKS w0 ba bn bc bl) (hP1:P.tz=tz) (hP2:P.bl=bl.map (fun B=>B.2.2.2)) (hx:IS w0 xa xb.length xc xb) (hb:Below w0.heap.size w0 w) (hg:w0.heap.size≤g) (ho:OB w base (.slice (some ⟨g,0,none⟩) F F) fz) (hF:F≤16384) (hbn4:bn≤4)
 (ht:kt+4 * tn≤F) (hxb:xb.length=bn) (hbk:∀ j,j<bn→0≤xb.getD j 0∧xb.getD j 0+4 * ((bl.getD j zB).2.1:Int)≤(F:Int)):
 Calls Tryz.prog 67 #[.slice (some ⟨g,0,none⟩) F F,.agg #[.string nm,.slice ta tn tc,.slice ba bn bc,.slice da dn dc,.int .i64 bss,.slice ra rn rc,.slice ia im ic,.slice ea en ec],.agg #[.int .i64 (kt:Int),.slice xa xb.length xc,.int .i64 xd,.int .i64 xz]] w fun e w'=>e=.returned (.tuple #[])∧OB w' base (.slice (some ⟨g,0,none⟩) F F) (pourB fz P ⟨(kt:Int),xb,xd,xz⟩ P.bl.length)∧Turn (fun j=>j=g) w w':=by
 have hbl:bl.length=bn:=hB.1
 have htl:tz.length=tn:=hT.1
 have HPL:=hide (show P.bl.length=bn by rw [hP2,List.length_map];exact hbl)
 have HP0:=hide (show pourB fz P ⟨(kt:Int),xb,xd,xz⟩ 0=pour fz kt tz tn by show pour fz ((kt:Int)).toNat P.tz P.tz.length=_;rw [hP1,Int.toNat_natCast,htl])
 have HPS:=hide (show ∀ j,j<bn→pourB fz P ⟨(kt:Int),xb,xd,xz⟩ (j+1)=pour (pourB fz P ⟨(kt:Int),xb,xd,xz⟩ j) (xb.getD j 0).toNat (bl.getD j zB).2.2.2 (bl.getD j zB).2.1 from fun j hj=>by
  have e:P.bl.getD j []=(bl.getD j zB).2.2.2:=by rw [hP2,getD_map _ _ _ zB _ (by omega)]
  show pour _ (xb.getD j 0).toNat (P.bl.getD j []) (P.bl.getD j []).length=_
  rw [e,(hB.2.2.2.1 j hj).1])
 have HPW:=hide (fun (cm cp:Array Value) (zs:List Int) (k:Nat) (a:Option Addr) (wn wc:Nat) (ws:List Int) (X:World) (hw:IS w0 a wn wc ws) (S:Pc w0 w cm cp g F base zs X) (hk:k+4 * wn≤F) (hlt:k<F)=>(putWords_any g F F k (F - k) (F - k) a wn wc ws zs base w0 X hw S.be hg S.o hF hk (by omega) (Nat.le_refl _) (by omega)).mono (fun e w' he=>show e=.returned (.tuple #[])∧Pc w0 w cm cp g F base (pour zs k ws wn) w' from ⟨he.1,S.set hg he.2.1 he.2.2⟩))
 have HPW0:=hide (fun (cm cp:Array Value) (zs:List Int) (k:Nat) (a:Option Addr) (wn wc:Nat) (ws:List Int) (X:World) (hw:IS w0 a wn wc ws) (S:Pc w0 w cm cp g F base zs X) (hk:k+4 * wn≤F) (hlt:¬ k<F)=>(putWords_any g F F 0 0 0 a wn wc ws zs base w0 X hw S.be hg S.o hF (by omega) (by omega) (Nat.le_refl _) (by omega)).mono (fun e w' he=>show e=.returned (.tuple #[])∧Pc w0 w cm cp g F base (pour zs k ws wn) w' from ⟨he.1,by
  have e0:wn=0:=by omega
  have:=S.set hg he.2.1 he.2.2
  rw [e0,pour_zero] at this ⊢
  exact this⟩))
 have HB:=hide hB
 have HX:=hide hx
 have HT:=hide hT
 have HBK:=hide hbk
 have S0:Pc w0 w #[.string nm,.slice ta tn tc,.slice ba bn bc,.slice da dn dc,.int .i64 bss,.slice ra rn rc,.slice ia im ic,.slice ea en ec] #[.int .i64 (kt:Int),.slice xa xb.length xc,.int .i64 xd,.int .i64 xz] g F base fz ((w.alloc (.cells #[.string nm,.slice ta tn tc,.slice ba bn bc,.slice da dn dc,.int .i64 bss,.slice ra rn rc,.slice ia im ic,.slice ea en ec] 49)).alloc (.cells #[.int .i64 (kt:Int),.slice xa xb.length xc,.int .i64 xd,.int .i64 xz] 43)):=by
  have bb:Below w.heap.size w ((w.alloc (.cells #[.string nm,.slice ta tn tc,.slice ba bn bc,.slice da dn dc,.int .i64 bss,.slice ra rn rc,.slice ia im ic,.slice ea en ec] 49)).alloc (.cells #[.int .i64 (kt:Int),.slice xa xb.length xc,.int .i64 xd,.int .i64 xz] 43)):=((Below.refl _ _).alloc (Nat.le_refl _) _).alloc (by simp) _
  exact ⟨hb.trans (bb.mono hb.size),(Blk.new _ _ _).alloc _,by have:=Blk.new (w.alloc (.cells #[.string nm,.slice ta tn tc,.slice ba bn bc,.slice da dn dc,.int .i64 bss,.slice ra rn rc,.slice ia im ic,.slice ea en ec] 49)) #[.int .i64 (kt:Int),.slice xa xb.length xc,.int .i64 xd,.int .i64 xz] 43;simpa using this,ho.below bb,turn_below bb⟩
 have HS0:=hide S0
 have HXB:=hide hxb
 have HBL:=hide hbl
 clear S0 hB hx hT hbk ho hb hP1 hP2 htl hxb hbl
 go_enter Tryz.func67,Tryz.ntmps67
 go_wp2_with fail
 generalize ((w.alloc (.cells #[.string nm,.slice ta tn tc,.slice ba bn bc,.slice da dn dc,.int .i64 bss,.slice ra rn rc,.slice ia im ic,.slice ea en ec] 49)).alloc (.cells #[.int .i64 (kt:Int),.slice xa xb.length xc,.int .i64 xd,.int .i64 xz] 43))=W0 at *
 generalize hcm:(#[.string nm,.slice ta tn tc,.slice ba bn bc,.slice da dn dc,.int .i64 bss,.slice ra rn rc,.slice ia im ic,.slice ea en ec]:Array Value)=cm at HS0
 generalize hcp:(#[.int .i64 (kt:Int),.slice xa xb.length xc,.int .i64 xd,.int .i64 xz]:Array Value)=cp at HS0
 have HCM:=hide (And.intro hcm hcp)
 clear hcm hcp
 have HCL:=hide (fun (zs:List Int) (X:World) (S:Pc w0 w cm cp g F base zs X)=>show X.cell? ⟨w.heap.size,1,none⟩=some (.slice ta tn tc)∧X.cell? ⟨w.heap.size,2,none⟩=some (.slice ba bn bc)∧X.cell? ⟨w.heap.size+1,0,none⟩=some (.int .i64 (kt:Int))∧X.cell? ⟨w.heap.size+1,1,none⟩=some (.slice xa xb.length xc) from by
  have h1:=S.km
  have h2:=S.kp
  rw [← HCM.out.1] at h1
  rw [← HCM.out.2] at h2
  exact ⟨h1.cell 1,h1.cell 2,h2.cell 0,h2.cell 1⟩)
 obtain ⟨x1,x2,y0,y1⟩:=HCL.out _ _ HS0.out
 have k0':(0:Int)≤(kt:Int):=by omega
 have k1':(kt:Int)≤(F:Int):=by omega
 apply cutW2 (F:=fun v W=>Pc w0 w cm cp g F base (pourB fz P ⟨(kt:Int),xb,xd,xz⟩ 0) W)
 ·intro REST0
  have REST:=hide REST0
  clear REST0
  rw [HP0.out] at REST
  by_cases hkF:kt<F
  ·have hkF':(kt:Int)<(F:Int):=by omega
   have hkn:¬ (F=kt):=by omega
   go_region_held3 (fun w'=>w'.cell? ⟨w.heap.size,1,none⟩=some (.slice ta tn tc)∧w'.cell? ⟨w.heap.size+1,0,none⟩=some (.int .i64 (kt:Int))) (go_keep)
    (first
      | (go_at_call 154;first
          | with_reducible refine (HPW.out cm cp fz kt ta tn tc tz _ HT.out HS0.out ht hkF).mono ?_
          | with_reducible refine (HPW.out cm cp fz kt ta tn tc tz _ HT.out HS0.out.drew ht hkF).mono ?_
         rintro e w2 ⟨rfl,hS2⟩
         have HS2:=hide hS2
         clear hS2
         obtain ⟨z1,z2,z3,z4⟩:=HCL.out _ _ HS2.out))
   generalize Value.slice (some ⟨g,kt,none⟩) (F - kt) (F - kt)=v11
   exact REST.out v11 w2 HS2.out
  ·obtain rfl:F=kt:=by omega
   go_region_held3 (fun w'=>w'.cell? ⟨w.heap.size,1,none⟩=some (.slice ta tn tc)∧w'.cell? ⟨w.heap.size+1,0,none⟩=some (.int .i64 (F:Int))) (go_keep)
    (first
      | (go_at_call 154;first
          | with_reducible refine (HPW0.out cm cp fz F ta tn tc tz _ HT.out HS0.out ht hkF).mono ?_
          | with_reducible refine (HPW0.out cm cp fz F ta tn tc tz _ HT.out HS0.out.drew ht hkF).mono ?_
         rintro e w2 ⟨rfl,hS2⟩
         have HS2:=hide hS2
         clear hS2
         obtain ⟨z1,z2,z3,z4⟩:=HCL.out _ _ HS2.out))
   exact REST.out _ w2 HS2.out
 ·rintro v11 W2 hS2
  show Exit.then _ _ _ _ _
  obtain ⟨z1,z2,z3,z4⟩:=HCL.out _ _ hS2
  have HS2:=hide hS2
  clear hS2 x1 x2 y0 y1 HS0 k0' k1'
  go_wp2
  clear z1 z2 z3 z4
  go_loopw [18] (fun i wr=>∃ j:Nat,j≤bn∧i=.int .i64 j∧Pc w0 w cm cp g F base (pourB fz P ⟨(kt:Int),xb,xd,xz⟩ j) wr) (fun i _=>bn - (intOf i).toNat)
  case atStart=>exact ⟨0,Nat.zero_le _,rfl,HS2.out⟩
  case round=>
   clear HS2
   obtain ⟨j,hj,rfl,hJ⟩:=hrel
   generalize wr=wj at *
   have HJ:=hide hJ
   obtain ⟨z1,z2,z3,z4⟩:=HCL.out _ _ hJ
   by_cases hjb:j<bn
   ·have hjb':(j:Int)<(bn:Int):=by omega
    have hjx':(j:Int)<(xb.length:Int):=by have:=HXB.out;omega
    obtain ⟨bb,bo,rfl,hbc⟩:=HB.out.2.2.1 (show bn≠0 by omega)
    obtain ⟨qb,qo,rfl,hqc⟩:=HX.out.2.2.2.1 (show xb.length≠0 by have:=HXB.out;omega)
    have s1:=cell_below hJ.be (hqc j (by have:=HXB.out;omega))
    have s2:=cell_below hJ.be (hbc j hjb)
    obtain ⟨kb,hkb⟩:∃ kb:Nat,xb.getD j 0=(kb:Int):=⟨(xb.getD j 0).toNat,by have:=(HBK.out j hjb).1;omega⟩
    have HK2:=hide (show kb+4 * (bl.getD j zB).2.1≤F by have:=(HBK.out j hjb).2;rw [hkb] at this;omega)
    have HIB:=hide (HB.out.2.2.2.1 j hjb)
    have HPJ:=HPS.out j hjb
    rw [hkb,Int.toNat_natCast] at HPJ
    rw [hkb] at s1
    have HPJ:=hide HPJ
    have hk2:=HK2.out
    generalize hPJ:pourB fz P ⟨(kt:Int),xb,xd,xz⟩ (j+1)=ZJ at HPJ
    have HZJ:=hide hPJ
    clear hJ hbc hqc hkb hPJ
    generalize (bl.getD j zB).2.2.2=kw at *
    generalize (bl.getD j zB).1=k1 at *
    generalize (bl.getD j zB).2.1=k2 at *
    generalize (bl.getD j zB).2.2.1=k3 at *
    have b0':(0:Int)≤(kb:Int):=by omega
    have b1':(kb:Int)≤(F:Int):=by omega
    by_cases hkF:kb<F
    ·have hkF':(kb:Int)<(F:Int):=by omega
     have hkn:¬ (F=kb):=by omega
     have HC:=hide (HPW.out cm cp _ kb k1 k2 k3 kw wj HIB.out HJ.out HK2.out hkF)
     go_wp2_with fail
     refine HC.out.mono ?_
     rintro e w3 ⟨rfl,hS3⟩
     have HS3:=hide (show Pc w0 w cm cp g F base ZJ w3 by rw [HPJ.out];exact hS3)
     clear hS3 s1 s2 z1 z2 z3 z4
     go_wp2
     go_roundw
     case rel=>exact ⟨j+1,by omega,by go_num,by rw [HZJ.out];exact HS3.out⟩
     case measure=>simp [intOf];omega
    ·have hkF':¬ (kb:Int)<(F:Int):=by omega
     have HC:=hide (HPW0.out cm cp _ kb k1 k2 k3 kw wj HIB.out HJ.out HK2.out hkF)
     obtain rfl:F=kb:=by omega
     go_wp2_with fail
     refine HC.out.mono ?_
     rintro e w3 ⟨rfl,hS3⟩
     have HS3:=hide (show Pc w0 w cm cp g F base ZJ w3 by rw [HPJ.out];exact hS3)
     clear hS3 s1 s2 z1 z2 z3 z4
     go_wp2
     go_roundw
     case rel=>exact ⟨j+1,by omega,by go_num,by rw [HZJ.out];exact HS3.out⟩
     case measure=>simp [intOf];omega
   ·have e:Hid (j=bn):=by show j=bn;omega
    clear hJ
    go_wp2
    go_end0
    exact ⟨rfl,by rw [HPL.out,← e.out];exact HJ.out.o,HJ.out.t⟩
structure Pd (w0 w:World) (cm:Array Value) (g n base:Nat) (zs:List Int) (W:World):Prop where
 be:Below w0.heap.size w0 W
 km:Blk W w.heap.size cm 49
 o:OB W base (.slice (some ⟨g,0,none⟩) n n) zs
 t:Turn (fun j=>j=g) w W
section
variable {w0 w:World} {cm:Array Value} {g n base:Nat} {zs:List Int} {W W':World}
theorem Pd.below (h:Pd w0 w cm g n base zs W) (hb:Below W.heap.size W W'):Pd w0 w cm g n base zs W':=⟨h.be.trans (hb.mono h.be.size),h.km.below hb,h.o.below hb,h.t.trans (turn_below hb)⟩
theorem Pd.drew (h:Pd w0 w cm g n base zs W):Pd w0 w cm g n base zs W.drew:=h.below (Below.refl _ _).drew
theorem Pd.set (h:Pd w0 w cm g n base zs W) {zs':List Int} (hg:w0.heap.size≤g) (O:OB W' base (.slice (some ⟨g,0,none⟩) n n) zs') (T:Only g W W'):Pd w0 w cm g n base zs' W':=by
 obtain ⟨c1,k1⟩:=ob_blk h.o
 exact ⟨only_below h.be T hg,only_blk T h.km (fun e=>absurd (blk_kind (show Blk W g cm 49 from e ▸ h.km) k1) (by decide)),O,h.t.trans (only_turn' T)⟩
end
theorem ob_sub {W:World} {base g n A:Nat} {zs:List Int} (h:OB W base (.slice (some ⟨g,0,none⟩) n n) zs) (hA:A≤n):BS W (some ⟨g,A,none⟩) (n - A) (n - A) (zs.drop A):=by
 have hl:=(ob_row8 h).2.1
 have hm:=(ob_row8 h).2.2.2
 have hb:=h.bs
 refine ⟨by simp;omega,by omega,fun z hz=>h.2 z (List.mem_of_mem_drop hz),fun _=>⟨g,A,rfl,fun i hi=>?_⟩,Nat.le_refl _⟩
 have h1:=hb.at (A+i) (by omega)
 rw [Nat.zero_add] at h1
 rw [h1]
 congr 2
 simp [List.getD_eq_getElem?_getD,List.getElem?_drop]
set_option maxHeartbeats 8000000 in
theorem putData_any (g R f:Nat) (bp:Option Addr) (bl':Nat) (nm:ByteArray) (ta:Option Addr) (tn tc:Nat) (ba:Option Addr) (bn bc:Nat) (da:Option Addr) (dn dc:Nat) (dz:List Int) (bss:Int) (ra:Option Addr) (rn rc:Nat) (rrz:List Int) (ia:Option Addr) (im ic:Nat) (ea:Option Addr) (en ec:Nat) (rz:List Int) (base:Nat) (w w0:World) (hD:BS w0 da dn dc dz) (hRl:IS w0 ra rn rc rrz) (hb:Below w0.heap.size w0 w) (hg:w0.heap.size≤g) (ho:OB w base (.slice (some ⟨g,0,none⟩) R R) rz) (hR:R≤16384) (hrn:rn≤16) (hfd:f+dn≤R) (hrl:∀ q,q<rn→0≤rrz.getD q 0∧rrz.getD q 0+4≤(dn:Int))
 (hbp:(f<R∧bp=some ⟨g,f,none⟩∧bl'=R - f)∨(f=R∧bp=some ⟨g,0,none⟩∧bl'=0)):
 Calls Tryz.prog 68 #[.slice bp bl' bl',.agg #[.string nm,.slice ta tn tc,.slice ba bn bc,.slice da dn dc,.int .i64 bss,.slice ra rn rc,.slice ia im ic,.slice ea en ec],.int .i64 (65536+(f:Int))] w fun e w'=>e=.returned (.tuple #[])∧OB w' base (.slice (some ⟨g,0,none⟩) R R) (relB (ovr rz f dz) f rrz (65536+(f:Int)) rn)∧Turn (fun j=>j=g) w w':=by
 have bb:Below w.heap.size w (w.alloc (.cells #[.string nm,.slice ta tn tc,.slice ba bn bc,.slice da dn dc,.int .i64 bss,.slice ra rn rc,.slice ia im ic,.slice ea en ec] 49)):=(Below.refl _ _).alloc (Nat.le_refl _) _
 have S0:Pd w0 w #[.string nm,.slice ta tn tc,.slice ba bn bc,.slice da dn dc,.int .i64 bss,.slice ra rn rc,.slice ia im ic,.slice ea en ec] g R base rz (w.alloc (.cells #[.string nm,.slice ta tn tc,.slice ba bn bc,.slice da dn dc,.int .i64 bss,.slice ra rn rc,.slice ia im ic,.slice ea en ec] 49)):=⟨hb.trans (bb.mono hb.size),Blk.new _ _ _,ho.below bb,turn_below bb⟩
 have HBR:=hide (And.intro hbp (And.intro hD (And.intro hRl hrl)))
 obtain ⟨w1,hrun,O1,T1⟩:=copy_run (f:=f) S0.o 3 bp da bl' bl' dn dc (hD.below S0.be) (by rcases hbp with h | h <;> omega) (by omega) (fun h0=>by rcases hbp with h | h;exact h.2.1;omega)
 have HS1:=hide (S0.set hg O1 T1)
 have x3:=S0.km.cell 3
 simp only [List.getElem?_toArray,List.getElem?_cons_zero,List.getElem?_cons_succ] at x3
 clear O1 T1 S0 bb ho hb hD hRl hrl hbp
 obtain ⟨cm,hcm⟩:∃ cm:Array Value,cm=#[.string nm,.slice ta tn tc,.slice ba bn bc,.slice da dn dc,.int .i64 bss,.slice ra rn rc,.slice ia im ic,.slice ea en ec]:=⟨_,rfl⟩
 rw [← hcm] at HS1
 have HCL:=hide (fun (zs:List Int) (X:World) (S:Pd w0 w cm g R base zs X)=>show X.cell? ⟨w.heap.size,5,none⟩=some (.slice ra rn rc) from by
  have h1:=S.km
  rw [hcm] at h1
  exact h1.cell 5)
 clear hcm
 go_enter Tryz.func68,Tryz.ntmps68
 have z5:=HCL.out _ _ HS1.out
 go_wp2
 clear hrun x3 z5
 go_loopw [15] (fun i wr=>∃ q:Nat,q≤rn∧i=.int .i64 q∧Pd w0 w cm g R base (relB (ovr rz f dz) f rrz (65536+(f:Int)) q) wr) (fun i _=>rn - (intOf i).toNat)
 case atStart=>exact ⟨0,Nat.zero_le _,rfl,HS1.out⟩
 case round=>
  clear HS1
  obtain ⟨q,hq,rfl,hQ⟩:=hrel
  generalize wr=wq at *
  have HQ:=hide hQ
  by_cases hqr:q<rn
  ·have hqr':(q:Int)<(rn:Int):=by omega
   obtain ⟨hbp,hD,hRl,hrl⟩:=HBR.out
   obtain ⟨rb,ro,rfl,hrc⟩:=hRl.2.2.2.1 (show rn≠0 by omega)
   obtain ⟨h1,h2⟩:=hrl q hqr
   have hfR:f<R:=by omega
   obtain ⟨_,hb1,hb2⟩:f<R∧bp=some ⟨g,f,none⟩∧bl'=R - f:=by rcases hbp with h | h;exact h;omega
   subst hb1 hb2
   have s6:=cell_below hQ.be (hrc q hqr)
   have HRE:=hide (show relB (ovr rz f dz) f rrz (65536+(f:Int)) (q+1)=put (relB (ovr rz f dz) f rrz (65536+(f:Int)) q) (f+(rrz.getD q 0).toNat) (low (((relB (ovr rz f dz) f rrz (65536+(f:Int)) q).drop (f+(rrz.getD q 0).toNat)).take 4)+(65536+(f:Int))) 4 from rfl)
   clear hrc hQ hD hRl hrl hbp
   generalize hRQ1:relB (ovr rz f dz) f rrz (65536+(f:Int)) (q+1)=RQ1 at HRE
   have HRQ1:=hide hRQ1
   clear hRQ1
   generalize relB (ovr rz f dz) f rrz (65536+(f:Int)) q=RQ at *
   obtain ⟨x,hx⟩:∃ x:Nat,rrz.getD q 0=(x:Int):=⟨(rrz.getD q 0).toNat,by omega⟩
   rw [hx] at s6 HRE h1 h2
   rw [Int.toNat_natCast] at HRE
   clear hx
   have HLR:=hide (low_small ((RQ.drop (f+x)).take 4) (fun z hz=>HQ.out.o.2 z (List.mem_of_mem_drop (List.mem_of_mem_take hz))) (by simp;omega))
   obtain ⟨lw,hlw⟩:∃ lw,lw=low ((RQ.drop (f+x)).take 4):=⟨_,rfl⟩
   rw [← hlw] at HLR HRE
   obtain ⟨VV,hVV⟩:∃ VV,VV=lw+(65536+(f:Int)):=⟨_,rfl⟩
   rw [← hVV] at HRE
   have hwV:IntKind.i64.wrap (lw+(65536+(f:Int)))=VV:=by rw [hVV,IntWalk.i64_left,IntWalk.wrap64_in _ (by have:=HLR.out;omega)]
   have HVR:=hide (show -9223372036854775808≤VV∧VV≤9223372036854775807 by have:=HLR.out;omega)
   have HGB:=hide (fun (X:World) (S:Pd w0 w cm g R base RQ X)=>show Calls Tryz.prog 156 #[.slice (some ⟨g,f+x,none⟩) (R - f - x) (R - f - x),.int .i64 4] X fun e w'=>e=.returned (.int .i64 lw)∧Pd w0 w cm g R base RQ w' from by
    have hbs:=ob_sub S.o (show f+x≤R by omega)
    rw [show R - (f+x)=R - f - x by omega] at hbs
    have:=getBytes_4 g (f+x) (R - f - x) (R - f - x) _ X hbs (by omega)
    rw [← hlw] at this
    exact this.mono (fun e w' he=>⟨he.1,S.below he.2⟩))
   have HPB:=hide (fun (X:World) (S:Pd w0 w cm g R base RQ X)=>show Calls Tryz.prog 155 #[.slice (some ⟨g,f+x,none⟩) (R - f - x) (R - f - x),.int .i64 4,.int .i64 VV] X fun e w'=>e=.returned (.tuple #[])∧Pd w0 w cm g R base RQ1 w' from
    (putBytes_4 g (R - f - x) (R - f - x) (f+x) VV X (ob_room2 S.o (by omega)) (by omega) HVR.out).mono (fun e w' he=>⟨he.1,by
      rw [he.2,HRE.out]
      exact S.set hg (ob_putD4 S.o (f+x) VV (by omega)) (only_putD4 g (f+x) VV X)⟩))
   have t0:(0:Int)≤(x:Int):=by omega
   have t1:(x:Int)≤((R - f:Nat):Int):=by omega
   have t2:(x:Int)<((R - f:Nat):Int):=by omega
   have t3:¬ (R - f=x):=by omega
   have t4:x≤R - f:=by omega
   have t5:x<R - f:=by omega
   clear hlw hVV h1 h2
   go_wp2_with fail
   go_region_held3 (fun w'=>True) (exact True.intro)
    (first
      | (go_at_call 156;first
          | with_reducible refine (HGB.out _ HQ.out).mono ?_
          | with_reducible refine (HGB.out _ HQ.out.drew).mono ?_
         rintro e w5 ⟨rfl,hS5⟩
         have HS5:=hide hS5
         clear hS5)
      | (go_at_call 155;first
          | with_reducible refine (HPB.out _ HS5.out).mono ?_
          | (rw [hwV];with_reducible refine (HPB.out _ HS5.out).mono ?_)
         rintro e w6 ⟨rfl,hS6⟩
         have HS6:=hide hS6
         clear hS6))
   clear hwV s6
   go_wp2
   go_roundw
   case rel=>exact ⟨q+1,by omega,by go_num,by rw [HRQ1.out];exact HS6.out⟩
   case measure=>simp [intOf];omega
  ·have e:Hid (q=rn):=by show q=rn;omega
   clear hQ
   go_wp2
   go_end0
   exact ⟨rfl,by rw [← e.out];exact HQ.out.o,HQ.out.t⟩
end Go.Proofs.YtngdgogjlpjjpadGreat
