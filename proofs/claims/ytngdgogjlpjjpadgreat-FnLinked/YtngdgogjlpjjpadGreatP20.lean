import Derived.Deep.OwnRows
import Derived.ChangeOld
import Derived.OpenShut
import Derived.ProofKit
import Derived.ShutString
import Derived.Test.YtngdgogjlpjjpadGreatP00
import Derived.Test.YtngdgogjlpjjpadGreatP02
import Derived.Test.YtngdgogjlpjjpadGreatP03
import Derived.Test.YtngdgogjlpjjpadGreatP06
import Derived.Test.YtngdgogjlpjjpadGreatP09
import Derived.Test.YtngdgogjlpjjpadGreatP19
namespace Go.Proofs.YtngdgogjlpjjpadGreat
open Go.RowKit Classical
set_option linter.unusedVariables false
set_option linter.unusedSimpArgs false
set_option maxRecDepth 100000
set_option maxHeartbeats 2000000 in
theorem samePlace_any (t d z:Int) (a:Option Addr) (n c:Nat) (bs:List Int) (t' d' z':Int) (a':Option Addr) (n' c':Nat) (bs':List Int) (w:World) (h:IS w a n c bs) (h':IS w a' n' c' bs'):
 Calls Tryz.prog 216 #[.agg #[.int .i64 t,.slice a n c,.int .i64 d,.int .i64 z],.agg #[.int .i64 t',.slice a' n' c',.int .i64 d',.int .i64 z']] w fun e w'=>e=.returned (.bool (decide ((⟨t,bs,d,z⟩:Pl)=⟨t',bs',d',z'⟩)))∧Below w.heap.size w w':=by
 have B0:Below w.heap.size w ((w.alloc (.cells #[.int .i64 t,.slice a n c,.int .i64 d,.int .i64 z] 43)).alloc (.cells #[.int .i64 t',.slice a' n' c',.int .i64 d',.int .i64 z'] 43)):=((Below.refl _ _).alloc (Nat.le_refl _) _).alloc (by simp) _
 have HB0:=hide B0
 have HEQ:=hide (sliceEqI_any a a' n c n' c' bs bs' _ (h.below B0) (h'.below B0))
 clear B0 h h'
 obtain ⟨r,hr⟩:∃ r,r=decide ((⟨t,bs,d,z⟩:Pl)=⟨t',bs',d',z'⟩):=⟨_,rfl⟩
 rw [← hr]
 simp only [Pl.mk.injEq] at hr
 have HR:=hide hr
 clear hr
 by_cases c1:t=t'
 ·by_cases c2:d=d'
  ·by_cases c3:z=z'
   ·have g1:(t == t')=true:=by simpa using c1
    have g2:(d == d')=true:=by simpa using c2
    have g3:(z == z')=true:=by simpa using c3
    have HV:=hide (show decide (bs=bs')=r by rw [HR.out];simp [c1,c2,c3])
    rw [HV.out] at HEQ
    clear c1 c2 c3 HR
    go_enter Tryz.func216,Tryz.ntmps216
    go_wp2_with fail
    refine HEQ.out.mono ?_
    rintro e w1 ⟨rfl,hb1⟩
    cases r
    all_goals
     go_wp2
     go_ret
     exact ⟨rfl,HB0.out.trans (hb1.mono HB0.out.size)⟩
   ·have g1:(t == t')=true:=by simpa using c1
    have g2:(d == d')=true:=by simpa using c2
    have g3:(z == z')=false:=by simpa using c3
    have HV:=hide (show r=false by rw [HR.out];simp [c3])
    clear c1 c2 c3 HR HEQ
    go_enter Tryz.func216,Tryz.ntmps216
    go_wp2
    go_ret
    exact ⟨ret_bool HV.out.symm,HB0.out⟩
  ·have g1:(t == t')=true:=by simpa using c1
   have g2:(d == d')=false:=by simpa using c2
   have HV:=hide (show r=false by rw [HR.out];simp [c2])
   clear c1 c2 HR HEQ
   go_enter Tryz.func216,Tryz.ntmps216
   go_wp2
   go_ret
   exact ⟨ret_bool HV.out.symm,HB0.out⟩
 ·have g1:(t == t')=false:=by simpa using c1
  have HV:=hide (show r=false by rw [HR.out];simp [c1])
  clear c1 HR HEQ
  go_enter Tryz.func216,Tryz.ntmps216
  go_wp2
  go_ret
  exact ⟨ret_bool HV.out.symm,HB0.out⟩
theorem map_getD {α β:Type} (f:α→β) (xs:List α) (i:Nat) (a:α) (b:β) (h:i<xs.length):(xs.map f).getD i b=f (xs.getD i a):=by
 simp [List.getD_eq_getElem?_getD,h]
set_option maxHeartbeats 2000000 in
theorem equalFuncP_any (a a':Option Addr) (n cap n' cap':Nat) (xs ys:List PB) (w:World) (h:PlS w a n cap xs) (h':PlS w a' n' cap' ys):
 Calls Tryz.prog 215 #[.slice a n cap,.slice a' n' cap',.func (.func 216) #[] #[]] w fun e w'=>e=.returned (.bool (decide (xs.map (fun x=>x.1)=ys.map (fun x=>x.1))))∧Below w.heap.size w w':=by
 have hl:=h.1
 have hl':=h'.1
 have hmx:=h.2.1
 have hmx':=h'.2.1
 unfold maxLen at hmx hmx'
 obtain ⟨r,hr⟩:∃ r,r=decide (xs.map (fun x=>x.1)=ys.map (fun x=>x.1)):=⟨_,rfl⟩
 rw [← hr]
 have HR:=hide hr
 clear hr
 by_cases hn:n=n'
 ·subst hn
  have hne:((n:Int) != (n:Int))=false:=by simp
  go_enter Tryz.func215,Tryz.ntmps215
  go_wp2
  go_loopw [17] (fun i wr=>∃ k:Nat,k≤n∧i=.int .i64 k∧(xs.map (fun x=>x.1)).take k=(ys.map (fun x=>x.1)).take k∧Below w.heap.size w wr) (fun i _=>n - (intOf i).toNat)
  case atStart=>exact ⟨0,Nat.zero_le _,rfl,by simp,Below.refl _ _⟩
  case round=>
   obtain ⟨k,hk,rfl,hT,hB⟩:=hrel
   by_cases hlt:k<n
   ·have hlt':(k:Int)<(n:Int):=by omega
    obtain ⟨b,off,rfl,q0,q1,q2,q3⟩:=(h.below hB).at k hlt
    obtain ⟨b',off',rfl,p0,p1,p2,p3⟩:=(h'.below hB).at k hlt
    have i1:=(h.below hB).2.2.2.1 k hlt
    have i2:=(h'.below hB).2.2.2.1 k hlt
    have HGO:=hide (show (xs.getD k zPB).1=(ys.getD k zPB).1→(xs.map (fun x=>x.1)).take (k+1)=(ys.map (fun x=>x.1)).take (k+1) from fun he=>take_succ_eq zPB.1 _ _ k hT (by simp;omega) (by simp;omega) (by rw [map_getD _ _ _ zPB _ (by omega),map_getD _ _ _ zPB _ (by omega),he]))
    have HNO:=hide (show (xs.getD k zPB).1≠(ys.getD k zPB).1→r=false from fun he=>by
     rw [HR.out,decide_eq_false_iff_not]
     intro e
     have e2:=congrArg (fun l=>l.getD k zPB.1) e
     try simp only at e2
     rw [map_getD _ _ _ zPB _ (by omega),map_getD _ _ _ zPB _ (by omega)] at e2
     exact he e2)
    clear hT
    unfold svP at q1 p1
    generalize xs.getD k zPB=x at *
    generalize ys.getD k zPB=y at *
    obtain ⟨⟨xt,xb,xd,xz⟩,xa,xc⟩:=x
    obtain ⟨⟨yt,yb,yd,yz⟩,ya,yc⟩:=y
    dsimp only at q0 q1 q2 q3 p0 p1 p2 p3 i1 i2 HGO HNO
    have hlb:=World.block_lt_of_cell? _ _ q0
    have hlb':=World.block_lt_of_cell? _ _ p0
    have HB2:Below wr.heap.size wr ((wr.alloc (.cells #[.int .i64 xt,.slice xa xb.length xc,.int .i64 xd,.int .i64 xz] 43)).alloc (.cells #[.int .i64 yt,.slice ya yb.length yc,.int .i64 yd,.int .i64 yz] 43)):=((Below.refl _ _).alloc (Nat.le_refl _) _).alloc (by simp) _
    have HSP:=hide (samePlace_any xt xd xz xa xb.length xc xb yt yd yz ya yb.length yc yb _ (i1.below HB2) (i2.below HB2))
    have HB3:=hide (hB.trans (HB2.mono hB.size))
    clear i1 i2 HB2 hB
    by_cases he:(⟨xt,xb,xd,xz⟩:Pl)=⟨yt,yb,yd,yz⟩
    ·rw [decide_eq_true he] at HSP
     have HG:=hide (HGO.out he)
     clear he HGO HNO
     go_wp2_with fail
     refine HSP.out.mono ?_
     rintro e w1 ⟨rfl,hb1⟩
     have HB4:=hide (HB3.out.trans (hb1.mono HB3.out.size))
     clear q0 q1 q2 q3 p0 p1 p2 p3 hb1 HSP
     go_wp2
     go_roundw
     case rel=>exact ⟨k+1,by omega,by go_num,HG.out,HB4.out⟩
     case measure=>simp [intOf];omega
    ·rw [decide_eq_false he] at HSP
     have HG:=hide (HNO.out he)
     clear he HGO HNO
     go_wp2_with fail
     refine HSP.out.mono ?_
     rintro e w1 ⟨rfl,hb1⟩
     have HB4:=hide (HB3.out.trans (hb1.mono HB3.out.size))
     clear q0 q1 q2 q3 p0 p1 p2 p3 hb1 HSP
     go_wp2
     go_ret
     exact ⟨ret_bool HG.out.symm,HB4.out⟩
   ·have hf:Hid (r=true):=by
     show _=_
     rw [HR.out]
     simp
     rw [List.take_of_length_le (by simp;omega),List.take_of_length_le (by simp;omega)] at hT
     exact hT
    clear hT
    go_wp2
    go_ret
    exact ⟨ret_bool hf.out.symm,hB⟩
 ·have hf:Hid (r=false):=by
   show _=_
   rw [HR.out,decide_eq_false_iff_not]
   intro e
   have:=congrArg List.length e
   simp at this
   omega
  have hne:((n:Int) != (n':Int))=true:=by simp;omega
  go_enter Tryz.func215,Tryz.ntmps215
  go_wp2
  go_ret
  exact ⟨ret_bool hf.out.symm,Below.refl _ _⟩
set_option maxHeartbeats 2000000 in
theorem equalFuncT_any (a a':Option Addr) (n cap n' cap':Nat) (xs ys:List TB) (w:World) (h:TsS w a n cap xs) (h':TsS w a' n' cap' ys):
 Calls Tryz.prog 217 #[.slice a n cap,.slice a' n' cap',.func (.func 218) #[] #[]] w fun e w'=>e=.returned (.bool (decide (xs.map (fun x=>x.1)=ys.map (fun x=>x.1))))∧Below w.heap.size w w':=by
 have hl:=h.1
 have hl':=h'.1
 have hmx:=h.2.1
 have hmx':=h'.2.1
 unfold maxLen at hmx hmx'
 obtain ⟨r,hr⟩:∃ r,r=decide (xs.map (fun x=>x.1)=ys.map (fun x=>x.1)):=⟨_,rfl⟩
 rw [← hr]
 have HR:=hide hr
 clear hr
 by_cases hn:n=n'
 ·subst hn
  have hne:((n:Int) != (n:Int))=false:=by simp
  go_enter Tryz.func217,Tryz.ntmps217
  go_wp2
  go_loopw [17] (fun i wr=>∃ k:Nat,k≤n∧i=.int .i64 k∧(xs.map (fun x=>x.1)).take k=(ys.map (fun x=>x.1)).take k∧Below w.heap.size w wr) (fun i _=>n - (intOf i).toNat)
  case atStart=>exact ⟨0,Nat.zero_le _,rfl,by simp,Below.refl _ _⟩
  case round=>
   obtain ⟨k,hk,rfl,hT,hB⟩:=hrel
   by_cases hlt:k<n
   ·have hlt':(k:Int)<(n:Int):=by omega
    obtain ⟨b,off,rfl,q0⟩:=(h.below hB).at k hlt
    obtain ⟨b',off',rfl,p0⟩:=(h'.below hB).at k hlt
    have i1:=(h.below hB).2.2.2.1 k hlt
    have i2:=(h'.below hB).2.2.2.1 k hlt
    have HGO:=hide (show (xs.getD k zTB).1=(ys.getD k zTB).1→(xs.map (fun x=>x.1)).take (k+1)=(ys.map (fun x=>x.1)).take (k+1) from fun he=>take_succ_eq zTB.1 _ _ k hT (by simp;omega) (by simp;omega) (by rw [map_getD _ _ _ zTB _ (by omega),map_getD _ _ _ zTB _ (by omega),he]))
    have HNO:=hide (show (xs.getD k zTB).1≠(ys.getD k zTB).1→r=false from fun he=>by
     rw [HR.out,decide_eq_false_iff_not]
     intro e
     have e2:=congrArg (fun l=>l.getD k zTB.1) e
     try simp only at e2
     rw [map_getD _ _ _ zTB _ (by omega),map_getD _ _ _ zTB _ (by omega)] at e2
     exact he e2)
    clear hT
    unfold svT at q0 p0
    generalize xs.getD k zTB=x at *
    generalize ys.getD k zTB=y at *
    obtain ⟨xl,xa,xc⟩:=x
    obtain ⟨yl,ya,yc⟩:=y
    dsimp only at q0 p0 i1 i2 HGO HNO
    have HSP:=hide (sliceEqT_any xa ya xl.length xc yl.length yc xl yl _ i1 i2)
    have HB3:=hide hB
    clear i1 i2 hB
    by_cases he:xl=yl
    ·rw [decide_eq_true he] at HSP
     have HG:=hide (HGO.out he)
     clear he HGO HNO
     go_wp2_with fail
     refine HSP.out.mono ?_
     rintro e w1 ⟨rfl,hb1⟩
     have HB4:=hide (HB3.out.trans (hb1.mono HB3.out.size))
     clear q0 p0 hb1 HSP
     go_wp2
     go_roundw
     case rel=>exact ⟨k+1,by omega,by go_num,HG.out,HB4.out⟩
     case measure=>simp [intOf];omega
    ·rw [decide_eq_false he] at HSP
     have HG:=hide (HNO.out he)
     clear he HGO HNO
     go_wp2_with fail
     refine HSP.out.mono ?_
     rintro e w1 ⟨rfl,hb1⟩
     have HB4:=hide (HB3.out.trans (hb1.mono HB3.out.size))
     clear q0 p0 hb1 HSP
     go_wp2
     go_ret
     exact ⟨ret_bool HG.out.symm,HB4.out⟩
   ·have hf:Hid (r=true):=by
     show _=_
     rw [HR.out]
     simp
     rw [List.take_of_length_le (by simp;omega),List.take_of_length_le (by simp;omega)] at hT
     exact hT
    clear hT
    go_wp2
    go_ret
    exact ⟨ret_bool hf.out.symm,hB⟩
 ·have hf:Hid (r=false):=by
   show _=_
   rw [HR.out,decide_eq_false_iff_not]
   intro e
   have:=congrArg List.length e
   simp at this
   omega
  have hne:((n:Int) != (n':Int))=true:=by simp;omega
  go_enter Tryz.func217,Tryz.ntmps217
  go_wp2
  go_ret
  exact ⟨ret_bool hf.out.symm,Below.refl _ _⟩
theorem Blk.ly6 {w:World} {b:Nat} {t:TypeId} {v0 v1 v2 v3 v4 v5:Value} (h:Blk w b #[v0,v1,v2,v3,v4,v5] t):w.cell? ⟨b,0,none⟩=some v0∧w.cell? ⟨b,1,none⟩=some v1∧w.cell? ⟨b,2,none⟩=some v2∧w.cell? ⟨b,3,none⟩=some v3∧w.cell? ⟨b,4,none⟩=some v4∧w.cell? ⟨b,5,none⟩=some v5:=⟨h.cell 0,h.cell 1,h.cell 2,h.cell 3,h.cell 4,h.cell 5⟩
set_option maxHeartbeats 4000000 in
theorem sameLayout_any (L:Lay) (a0:Option Addr) (c0:Nat) (xs:List PB) (a2:Option Addr) (c2:Nat) (a5:Option Addr) (c5:Nat) (ts:List TB) (L':Lay) (a0':Option Addr) (c0':Nat) (xs':List PB) (a2':Option Addr) (c2':Nat) (a5':Option Addr) (c5':Nat) (ts':List TB) (w:World) (h:LyT w L a0 c0 xs a2 c2 a5 c5 ts) (h':LyT w L' a0' c0' xs' a2' c2' a5' c5' ts'):
 Calls Tryz.prog 153 #[.agg #[.slice a0 xs.length c0,.int .i64 L.stack,.slice a2 L.slots.length c2,.int .i64 L.flash,.int .i64 L.ram,.slice a5 ts.length c5],.agg #[.slice a0' xs'.length c0',.int .i64 L'.stack,.slice a2' L'.slots.length c2',.int .i64 L'.flash,.int .i64 L'.ram,.slice a5' ts'.length c5']] w fun e w'=>e=.returned (.bool (decide (L=L')))∧Below w.heap.size w w':=by
 have hps:=h.ps
 have hps':=h'.ps
 have htt:=h.tt
 have htt':=h'.tt
 have HE1:=hide (fun (W:World) (hb:Below w.heap.size w W)=>sliceEqI_any a2 a2' L.slots.length c2 L'.slots.length c2' L.slots L'.slots W (h.s.below hb) (h'.s.below hb))
 have HE2:=hide (fun (W:World) (hb:Below w.heap.size w W)=>equalFuncP_any a0 a0' xs.length c0 xs'.length c0' xs xs' W (h.p.below hb) (h'.p.below hb))
 have HE3:=hide (fun (W:World) (hb:Below w.heap.size w W)=>equalFuncT_any a5 a5' ts.length c5 ts'.length c5' ts ts' W (h.t.below hb) (h'.t.below hb))
 rw [hps,hps'] at HE2
 rw [htt,htt'] at HE3
 clear h h' hps hps' htt htt'
 obtain ⟨pl,st,sl,fl,rm,tg⟩:=L
 obtain ⟨pl',st',sl',fl',rm',tg'⟩:=L'
 dsimp only at HE1 HE2 HE3 ⊢
 obtain ⟨r,hr⟩:∃ r,r=decide ((⟨pl,st,sl,fl,rm,tg⟩:Lay)=⟨pl',st',sl',fl',rm',tg'⟩):=⟨_,rfl⟩
 rw [← hr]
 simp only [Lay.mk.injEq] at hr
 have HR:=hide hr
 clear hr
 have B0:Below w.heap.size w ((w.alloc (.cells #[.slice a0 xs.length c0,.int .i64 st,.slice a2 sl.length c2,.int .i64 fl,.int .i64 rm,.slice a5 ts.length c5] 32)).alloc (.cells #[.slice a0' xs'.length c0',.int .i64 st',.slice a2' sl'.length c2',.int .i64 fl',.int .i64 rm',.slice a5' ts'.length c5'] 32)):=((Below.refl _ _).alloc (Nat.le_refl _) _).alloc (by simp) _
 have u:=(Blk.new w #[.slice a0 xs.length c0,.int .i64 st,.slice a2 sl.length c2,.int .i64 fl,.int .i64 rm,.slice a5 ts.length c5] 32).alloc (.cells #[.slice a0' xs'.length c0',.int .i64 st',.slice a2' sl'.length c2',.int .i64 fl',.int .i64 rm',.slice a5' ts'.length c5'] 32)
 have v:=Blk.new (w.alloc (.cells #[.slice a0 xs.length c0,.int .i64 st,.slice a2 sl.length c2,.int .i64 fl,.int .i64 rm,.slice a5 ts.length c5] 32)) #[.slice a0' xs'.length c0',.int .i64 st',.slice a2' sl'.length c2',.int .i64 fl',.int .i64 rm',.slice a5' ts'.length c5'] 32
 simp only [World.size_alloc] at v
 have HK:=hide (And.intro B0 (And.intro u v))
 clear u v
 by_cases k1:st=st'
 rotate_left
 ·have g1:(st == st')=false:=by simpa using k1
  have HV:=hide (show r=false by rw [HR.out];simp [k1])
  clear HR HE1 HE2 HE3
  go_enter Tryz.func153,Tryz.ntmps153
  go_wp2
  go_ret
  exact ⟨ret_bool HV.out.symm,HK.out.1⟩
 have g1:(st == st')=true:=by simpa using k1
 have HC1:=hide k1
 clear k1
 by_cases k2:fl=fl'
 rotate_left
 ·have g2:(fl == fl')=false:=by simpa using k2
  have HV:=hide (show r=false by rw [HR.out];simp [k2])
  clear HR HE1 HE2 HE3
  go_enter Tryz.func153,Tryz.ntmps153
  go_wp2
  go_ret
  exact ⟨ret_bool HV.out.symm,HK.out.1⟩
 have g2:(fl == fl')=true:=by simpa using k2
 have HC2:=hide k2
 clear k2
 by_cases k3:rm=rm'
 rotate_left
 ·have g3:(rm == rm')=false:=by simpa using k3
  have HV:=hide (show r=false by rw [HR.out];simp [k3])
  clear HR HE1 HE2 HE3
  go_enter Tryz.func153,Tryz.ntmps153
  go_wp2
  go_ret
  exact ⟨ret_bool HV.out.symm,HK.out.1⟩
 have g3:(rm == rm')=true:=by simpa using k3
 have HC3:=hide k3
 clear k3
 go_enter Tryz.func153,Tryz.ntmps153
 go_wp2_with fail
 refine (HE1.out _ HK.out.1).mono ?_
 rintro e w1 ⟨rfl,hb1⟩
 have HK1:=hide (And.intro (HK.out.1.trans (hb1.mono HK.out.1.size)) (And.intro (HK.out.2.1.below hb1) (HK.out.2.2.below hb1)))
 clear hb1 HK B0
 by_cases k4:sl=sl'
 rotate_left
 ·rw [decide_eq_false k4]
  have HV:=hide (show r=false by rw [HR.out];simp [k4])
  go_wp2
  go_ret
  exact ⟨ret_bool HV.out.symm,HK1.out.1⟩
 rw [decide_eq_true k4]
 have HC4:=hide k4
 clear k4
 obtain ⟨p0,p1,p2,p3,p4,p5⟩:=(HK1.out.2.1).ly6
 obtain ⟨q0,q1,q2,q3,q4,q5⟩:=(HK1.out.2.2).ly6
 go_wp2_with fail
 refine (HE2.out _ HK1.out.1).mono ?_
 rintro e w2 ⟨rfl,hb2⟩
 have HK2:=hide (And.intro (HK1.out.1.trans (hb2.mono HK1.out.1.size)) (And.intro (HK1.out.2.1.below hb2) (HK1.out.2.2.below hb2)))
 clear hb2 p0 p1 p2 p3 p4 p5 q0 q1 q2 q3 q4 q5
 by_cases k5:pl=pl'
 rotate_left
 ·rw [decide_eq_false k5]
  have HV:=hide (show r=false by rw [HR.out];simp [k5])
  go_wp2
  go_ret
  exact ⟨ret_bool HV.out.symm,HK2.out.1⟩
 rw [decide_eq_true k5]
 have HC5:=hide k5
 clear k5
 obtain ⟨p0,p1,p2,p3,p4,p5⟩:=(HK2.out.2.1).ly6
 obtain ⟨q0,q1,q2,q3,q4,q5⟩:=(HK2.out.2.2).ly6
 go_wp2_with fail
 refine (HE3.out _ HK2.out.1).mono ?_
 rintro e w3 ⟨rfl,hb3⟩
 have HB3:=hide (HK2.out.1.trans (hb3.mono HK2.out.1.size))
 have HV:=hide (show decide (tg=tg')=r by rw [HR.out];simp [HC1.out,HC2.out,HC3.out,HC4.out,HC5.out])
 rw [HV.out]
 clear hb3 p0 p1 p2 p3 p4 p5 q0 q1 q2 q3 q4 q5 HR
 cases r
 all_goals
  go_wp2
  go_ret
  exact ⟨rfl,HB3.out⟩
set_option maxHeartbeats 8000000 in
theorem l5SamePlaces_any (a0:Option Addr) (n c0:Nat) (xs:List PB) (st:Int) (a2:Option Addr) (sn c2:Nat) (fl rm:Int) (a5:Option Addr) (m0 c5:Nat) (ts:List TB) (a0':Option Addr) (n' c0':Nat) (xs':List PB) (st':Int) (a2':Option Addr) (sn' c2':Nat) (fl' rm':Int) (a5':Option Addr) (m0' c5':Nat) (ts':List TB) (w:World) (h0:PlS w a0 n c0 xs) (h1:TsS w a5 m0 c5 ts) (h0':PlS w a0' n' c0' xs') (h1':TsS w a5' m0' c5' ts'):
 Calls Tryz.prog 64 #[.agg #[.slice a0 n c0,.int .i64 st,.slice a2 sn c2,.int .i64 fl,.int .i64 rm,.slice a5 m0 c5],.agg #[.slice a0' n' c0',.int .i64 st',.slice a2' sn' c2',.int .i64 fl',.int .i64 rm',.slice a5' m0' c5']] w fun e w'=>e=.returned (.bool (decide (xs.map (fun x=>x.1)=xs'.map (fun x=>x.1)∧ts.map (fun x=>x.1)=ts'.map (fun x=>x.1))))∧Below w.heap.size w w':=by
 obtain ⟨r,hr⟩:∃ r,r=decide (xs.map (fun x=>x.1)=xs'.map (fun x=>x.1)∧ts.map (fun x=>x.1)=ts'.map (fun x=>x.1)):=⟨_,rfl⟩
 rw [← hr]
 have HR:=hide hr
 clear hr
 have hm0:=h0.2.1
 have hm1:=h1.2.1
 have hm0':=h0'.2.1
 have hm1':=h1'.2.1
 unfold maxLen at hm0 hm1 hm0' hm1'
 have hl0:=h0.1
 have hl1:=h1.1
 have hl0':=h0'.1
 have hl1':=h1'.1
 have B0:Below w.heap.size w ((w.alloc (.cells #[.slice a0 n c0,.int .i64 st,.slice a2 sn c2,.int .i64 fl,.int .i64 rm,.slice a5 m0 c5] 32)).alloc (.cells #[.slice a0' n' c0',.int .i64 st',.slice a2' sn' c2',.int .i64 fl',.int .i64 rm',.slice a5' m0' c5'] 32)):=((Below.refl _ _).alloc (Nat.le_refl _) _).alloc (by simp) _
 have u:=(Blk.new w #[.slice a0 n c0,.int .i64 st,.slice a2 sn c2,.int .i64 fl,.int .i64 rm,.slice a5 m0 c5] 32).alloc (.cells #[.slice a0' n' c0',.int .i64 st',.slice a2' sn' c2',.int .i64 fl',.int .i64 rm',.slice a5' m0' c5'] 32)
 have v:=Blk.new (w.alloc (.cells #[.slice a0 n c0,.int .i64 st,.slice a2 sn c2,.int .i64 fl,.int .i64 rm,.slice a5 m0 c5] 32)) #[.slice a0' n' c0',.int .i64 st',.slice a2' sn' c2',.int .i64 fl',.int .i64 rm',.slice a5' m0' c5'] 32
 simp only [World.size_alloc] at v
 have HK:=hide (And.intro B0 (And.intro u v))
 clear u v
 by_cases n1:n=n'
 rotate_left
 ·have g1:((n:Int) != (n':Int))=true:=by simp;omega
  have HV:=hide (show r=false by
   rw [HR.out,decide_eq_false_iff_not]
   intro e
   have:=congrArg List.length e.1
   simp at this
   omega)
  clear HR
  go_enter Tryz.func64,Tryz.ntmps64
  go_wp2
  go_ret
  exact ⟨ret_bool HV.out.symm,HK.out.1⟩
 subst n1
 have g1:((n:Int) != (n:Int))=false:=by simp
 by_cases n2:m0=m0'
 rotate_left
 ·have g2:((m0:Int) != (m0':Int))=true:=by simp;omega
  have HV:=hide (show r=false by
   rw [HR.out,decide_eq_false_iff_not]
   intro e
   have:=congrArg List.length e.2
   simp at this
   omega)
  clear HR
  go_enter Tryz.func64,Tryz.ntmps64
  go_wp2
  go_ret
  exact ⟨ret_bool HV.out.symm,HK.out.1⟩
 subst n2
 have g2:((m0:Int) != (m0:Int))=false:=by simp
 have HP:=hide (And.intro h0 (And.intro h0' (And.intro h1 h1')))
 clear h0 h0' h1 h1' B0
 go_enter Tryz.func64,Tryz.ntmps64
 go_wp2
 go_loopw [5] (fun i wr=>∃ k:Nat,k≤n∧i=.int .i64 k∧(xs.map (fun x=>x.1)).take k=(xs'.map (fun x=>x.1)).take k∧Below w.heap.size w wr∧Blk wr w.heap.size #[.slice a0 n c0,.int .i64 st,.slice a2 sn c2,.int .i64 fl,.int .i64 rm,.slice a5 m0 c5] 32∧Blk wr (w.heap.size+1) #[.slice a0' n c0',.int .i64 st',.slice a2' sn' c2',.int .i64 fl',.int .i64 rm',.slice a5' m0 c5'] 32) (fun i _=>n - (intOf i).toNat)
 case atStart=>exact ⟨0,Nat.zero_le _,rfl,by simp,HK.out⟩
 case round=>
  obtain ⟨k,hk,rfl,hT,HB⟩:=hrel
  clear HK
  have HB:=hide HB
  generalize wr=wo at *
  obtain ⟨p0,p1,p2,p3,p4,p5⟩:=(HB.out.2.1).ly6
  obtain ⟨q0,q1,q2,q3,q4,q5⟩:=(HB.out.2.2).ly6
  by_cases hlt:k<n
  ·have hlt':(k:Int)<(n:Int):=by omega
   obtain ⟨b,off,rfl,s0,s1,s2,s3⟩:=(HP.out.1.below HB.out.1).at k hlt
   obtain ⟨b',off',rfl,t0,t1,t2,t3⟩:=(HP.out.2.1.below HB.out.1).at k (by omega)
   have i1:=(HP.out.1.below HB.out.1).2.2.2.1 k hlt
   have i2:=(HP.out.2.1.below HB.out.1).2.2.2.1 k (by omega)
   have HGO:=hide (show (xs.getD k zPB).1=(xs'.getD k zPB).1→(xs.map (fun x=>x.1)).take (k+1)=(xs'.map (fun x=>x.1)).take (k+1) from fun he=>take_succ_eq zPB.1 _ _ k hT (by simp;omega) (by simp;omega) (by rw [map_getD _ _ _ zPB _ (by omega),map_getD _ _ _ zPB _ (by omega),he]))
   have HNO:=hide (show (xs.getD k zPB).1≠(xs'.getD k zPB).1→r=false from fun he=>by
    rw [HR.out,decide_eq_false_iff_not]
    intro e
    have e2:=congrArg (fun l=>l.getD k zPB.1) e.1
    try simp only at e2
    rw [map_getD _ _ _ zPB _ (by omega),map_getD _ _ _ zPB _ (by omega)] at e2
    exact he e2)
   clear hT
   unfold svP at s1 t1
   generalize xs.getD k zPB=x at *
   generalize xs'.getD k zPB=y at *
   obtain ⟨⟨xt,xb,xd,xz⟩,xa,xc⟩:=x
   obtain ⟨⟨yt,yb,yd,yz⟩,ya,yc⟩:=y
   dsimp only at s0 s1 s2 s3 t0 t1 t2 t3 i1 i2 HGO HNO
   have hlw:=HB.out.2.1.lt
   have hlw':=HB.out.2.2.lt
   have hlb:=World.block_lt_of_cell? _ _ s0
   have hlb':=World.block_lt_of_cell? _ _ t0
   have HB2:Below wo.heap.size wo ((wo.alloc (.cells #[.int .i64 xt,.slice xa xb.length xc,.int .i64 xd,.int .i64 xz] 43)).alloc (.cells #[.int .i64 yt,.slice ya yb.length yc,.int .i64 yd,.int .i64 yz] 43)):=((Below.refl _ _).alloc (Nat.le_refl _) _).alloc (by simp) _
   have HEQ:=hide (l5SameNums_any xa ya xb.length xc yb.length yc xb yb _ (i1.below HB2) (i2.below HB2))
   have HB4:=hide (And.intro (HB.out.1.trans (HB2.mono HB.out.1.size)) (And.intro (HB.out.2.1.below HB2) (HB.out.2.2.below HB2)))
   have kp:=(Blk.new wo #[.int .i64 xt,.slice xa xb.length xc,.int .i64 xd,.int .i64 xz] 43).alloc (.cells #[.int .i64 yt,.slice ya yb.length yc,.int .i64 yd,.int .i64 yz] 43)
   have kq:=Blk.new (wo.alloc (.cells #[.int .i64 xt,.slice xa xb.length xc,.int .i64 xd,.int .i64 xz] 43)) #[.int .i64 yt,.slice ya yb.length yc,.int .i64 yd,.int .i64 yz] 43
   simp only [World.size_alloc] at kq
   have HKP:=hide (And.intro kp kq)
   clear i1 i2 HB2 HB kp kq
   by_cases e1:xt=yt
   rotate_left
   ·have g3:(xt != yt)=true:=by simpa using e1
    have HV:=hide (show r=false from HNO.out (fun e=>e1 (by injection e)))
    clear HNO HGO HEQ
    go_wp2
    go_ret
    exact ⟨ret_bool HV.out.symm,HB4.out.1⟩
   have g3:(xt != yt)=false:=by simpa using e1
   have HE1:=hide e1
   clear e1
   go_wp2_with fail
   refine HEQ.out.mono ?_
   rintro e w1 ⟨rfl,hb1⟩
   have HB5:=hide (And.intro (HB4.out.1.trans (hb1.mono HB4.out.1.size)) (And.intro (HB4.out.2.1.below hb1) (HB4.out.2.2.below hb1)))
   have kp:=HKP.out.1.below hb1
   have kq:=HKP.out.2.below hb1
   have x0:w1.cell? ⟨wo.heap.size,2,none⟩=some (.int .i64 xd):=kp.cell 2
   have x1:w1.cell? ⟨wo.heap.size,3,none⟩=some (.int .i64 xz):=kp.cell 3
   have y0:w1.cell? ⟨wo.heap.size+1,2,none⟩=some (.int .i64 yd):=kq.cell 2
   have y1:w1.cell? ⟨wo.heap.size+1,3,none⟩=some (.int .i64 yz):=kq.cell 3
   clear hb1 kp kq HKP HB4 p0 p1 p2 p3 p4 p5 q0 q1 q2 q3 q4 q5 s0 s1 s2 s3 t0 t1 t2 t3
   by_cases e2:xb=yb
   rotate_left
   ·rw [decide_eq_false e2]
    have HV:=hide (show r=false from HNO.out (fun e=>e2 (by injection e)))
    clear HNO HGO HEQ
    go_wp2
    go_ret
    exact ⟨ret_bool HV.out.symm,HB5.out.1⟩
   rw [decide_eq_true e2]
   have HE2:=hide e2
   clear e2
   by_cases e3:xd=yd
   rotate_left
   ·have g4:(xd != yd)=true:=by simpa using e3
    have HV:=hide (show r=false from HNO.out (fun e=>e3 (by injection e)))
    clear HNO HGO HEQ
    go_wp2
    go_ret
    exact ⟨ret_bool HV.out.symm,HB5.out.1⟩
   have g4:(xd != yd)=false:=by simpa using e3
   have HE3:=hide e3
   clear e3
   by_cases e4:xz=yz
   rotate_left
   ·have g5:(xz != yz)=true:=by simpa using e4
    have HV:=hide (show r=false from HNO.out (fun e=>e4 (by injection e)))
    clear HNO HGO HEQ
    go_wp2
    go_ret
    exact ⟨ret_bool HV.out.symm,HB5.out.1⟩
   have g5:(xz != yz)=false:=by simpa using e4
   have HE4:=hide e4
   clear e4
   have HG:=hide (HGO.out (by rw [HE1.out,HE2.out,HE3.out,HE4.out]))
   clear HGO HNO HEQ
   go_wp2
   go_roundw
   case rel=>exact ⟨k+1,by omega,by go_num,HG.out,HB5.out⟩
   case measure=>simp [intOf];omega
  ·have HPE:=hide (show xs.map (fun x=>x.1)=xs'.map (fun x=>x.1) from by
    rw [List.take_of_length_le (by simp;omega),List.take_of_length_le (by simp;omega)] at hT
    exact hT)
   clear hT
   go_wp2
   clear p0 p1 p2 p3 p4 p5 q0 q1 q2 q3 q4 q5
   go_loopw [8] (fun i wr=>∃ m:Nat,m≤m0∧i=.int .i64 m∧(ts.map (fun x=>x.1)).take m=(ts'.map (fun x=>x.1)).take m∧Below w.heap.size w wr∧Blk wr w.heap.size #[.slice a0 n c0,.int .i64 st,.slice a2 sn c2,.int .i64 fl,.int .i64 rm,.slice a5 m0 c5] 32∧Blk wr (w.heap.size+1) #[.slice a0' n c0',.int .i64 st',.slice a2' sn' c2',.int .i64 fl',.int .i64 rm',.slice a5' m0 c5'] 32) (fun i _=>m0 - (intOf i).toNat)
   case atStart=>exact ⟨0,Nat.zero_le _,rfl,by simp,HB.out⟩
   case round=>
    clear HB
    obtain ⟨m,hm,rfl,hT,HC⟩:=hrel
    have HC:=hide HC
    generalize wr=wn at *
    obtain ⟨p0,p1,p2,p3,p4,p5⟩:=(HC.out.2.1).ly6
    obtain ⟨q0,q1,q2,q3,q4,q5⟩:=(HC.out.2.2).ly6
    by_cases hmt:m<m0
    ·have hmt':(m:Int)<(m0:Int):=by omega
     obtain ⟨b,off,rfl,s0⟩:=(HP.out.2.2.1.below HC.out.1).at m hmt
     obtain ⟨b',off',rfl,t0⟩:=(HP.out.2.2.2.below HC.out.1).at m (by omega)
     have I1:=hide (HP.out.2.2.1.2.2.2.1 m hmt)
     have I2:=hide (HP.out.2.2.2.2.2.2.1 m (by omega))
     have HGO:=hide (show (ts.getD m zTB).1=(ts'.getD m zTB).1→(ts.map (fun x=>x.1)).take (m+1)=(ts'.map (fun x=>x.1)).take (m+1) from fun he=>take_succ_eq zTB.1 _ _ m hT (by simp;omega) (by simp;omega) (by rw [map_getD _ _ _ zTB _ (by omega),map_getD _ _ _ zTB _ (by omega),he]))
     have HNO:=hide (show (ts.getD m zTB).1≠(ts'.getD m zTB).1→r=false from fun he=>by
      rw [HR.out,decide_eq_false_iff_not]
      intro e
      have e2:=congrArg (fun l=>l.getD m zTB.1) e.2
      try simp only at e2
      rw [map_getD _ _ _ zTB _ (by omega),map_getD _ _ _ zTB _ (by omega)] at e2
      exact he e2)
     have HHD:=hide (fun (W:World) (hb:Below wn.heap.size wn W)=>And.intro (cell_below hb s0) (cell_below hb t0))
     clear hT
     unfold svT at s0 t0 HHD
     generalize ts.getD m zTB=x at *
     generalize ts'.getD m zTB=y at *
     obtain ⟨xl,xa,xc⟩:=x
     obtain ⟨yl,ya,yc⟩:=y
     dsimp only at s0 t0 I1 I2 HGO HNO HHD
     have hx1:=I1.out.2.1
     have hy1:=I2.out.2.1
     unfold maxLen at hx1 hy1
     by_cases e1:xl.length=yl.length
     rotate_left
     ·have g3:((xl.length:Int) != (yl.length:Int))=true:=by simp;omega
      have HV:=hide (show r=false from HNO.out (fun e=>e1 (by rw [e])))
      clear HNO HGO
      go_wp2
      go_quiet (fail)
      go_wp2
      go_ret
      exact ⟨ret_bool HV.out.symm,below_drewN HC.out.1 _⟩
     have g3:((xl.length:Int) != (yl.length:Int))=false:=by simp;omega
     go_wp2
     go_quiet (fail)
     go_wp2
     clear p0 p1 p2 p3 p4 p5 q0 q1 q2 q3 q4 q5 s0 t0
     go_loopw [9] (fun i wr=>∃ j:Nat,j≤xl.length∧i=.int .i64 j∧xl.take j=yl.take j∧Below wn.heap.size wn wr) (fun i _=>xl.length - (intOf i).toNat)
     case atStart=>exact ⟨0,Nat.zero_le _,rfl,by simp,below_drewN (Below.refl _ _) _⟩
     case round=>
      obtain ⟨j,hj,rfl,hT,HD⟩:=hrel
      have HD:=hide HD
      generalize wr=wm at *
      obtain ⟨s0,t0⟩:=HHD.out wm HD.out
      obtain ⟨p0,p1,p2,p3,p4,p5⟩:=(HC.out.2.1.below HD.out).ly6
      obtain ⟨q0,q1,q2,q3,q4,q5⟩:=(HC.out.2.2.below HD.out).ly6
      have HCD:=hide (HC.out.1.trans (HD.out.mono HC.out.1.size))
      by_cases hjl:j<xl.length
      ·have hjl':(j:Int)<(xl.length:Int):=by omega
       have hjlb':(j:Int)<(yl.length:Int):=by omega
       obtain ⟨bx,ox,rfl,u0,u1,u2⟩:=((I1.out.below HCD.out)).at j hjl
       obtain ⟨by',oy,rfl,v0,v1,v2⟩:=((I2.out.below HCD.out)).at j (by omega)
       have HS:=hide (show xl.getD j zT=yl.getD j zT→xl.take (j+1)=yl.take (j+1) from fun he=>take_succ_eq zT _ _ j hT (by omega) (by omega) he)
       have HF:=hide (show xl.getD j zT≠yl.getD j zT→r=false from fun he=>HNO.out (fun e=>he (by rw [e])))
       clear hT
       generalize xl.getD j zT=z at *
       generalize yl.getD j zT=z' at *
       obtain ⟨z0,z1,z2⟩:=z
       obtain ⟨z0',z1',z2'⟩:=z'
       dsimp only at u0 u1 u2 v0 v1 v2
       by_cases he:(z0,z1,z2)=((z0',z1',z2'):Tg)
       ·have HS2:=hide (HS.out he)
        simp only [Prod.mk.injEq] at he
        obtain ⟨rfl,rfl,rfl⟩:=he
        clear HS HF
        go_wp2
        go_quiet (fail)
        go_wp2
        go_roundw
        case rel=>exact ⟨j+1,by omega,by go_num,HS2.out,below_drewN HD.out _⟩
        case measure=>simp [intOf];omega
       ·have HV:=hide (HF.out he)
        have hne3:¬ (z0=z0'∧z1=z1'∧z2=z2'):=fun e=>he (by rw [e.1,e.2.1,e.2.2])
        clear HS HF he
        by_cases f0:z0=z0'
        ·by_cases f1:z1=z1'
         ·have f2:¬ z2=z2':=fun e=>hne3 ⟨f0,f1,e⟩
          subst f0 f1
          have f2':(z2 == z2')=false:=by simpa using f2
          go_wp2
          go_quiet (fail)
          go_wp2
          go_ret
          exact ⟨ret_bool HV.out.symm,below_drewN HCD.out _⟩
         ·subst f0
          have f1':(z1 == z1')=false:=by simpa using f1
          go_wp2
          go_quiet (fail)
          go_wp2
          go_ret
          exact ⟨ret_bool HV.out.symm,below_drewN HCD.out _⟩
        ·have f0':(z0 == z0')=false:=by simpa using f0
         go_wp2
         go_quiet (fail)
         go_wp2
         go_ret
         exact ⟨ret_bool HV.out.symm,below_drewN HCD.out _⟩
      ·have HG:=hide (HGO.out (by
        rw [List.take_of_length_le (by omega),List.take_of_length_le (by omega)] at hT
        exact hT))
       have HCE:=hide (And.intro HCD.out (And.intro (HC.out.2.1.below HD.out) (HC.out.2.2.below HD.out)))
       clear hT HGO HNO
       go_wp2
       go_roundw
       case rel=>exact ⟨m+1,by omega,by go_num,HG.out,HCE.out⟩
       case measure=>simp [intOf];omega
    ·have HV:=hide (show r=true from by
      rw [HR.out]
      simp only [decide_eq_true_eq]
      rw [List.take_of_length_le (by simp;omega),List.take_of_length_le (by simp;omega)] at hT
      exact ⟨HPE.out,hT⟩)
     clear hT
     go_wp2
     go_ret
     exact ⟨ret_bool HV.out.symm,HC.out.1⟩
set_option maxHeartbeats 4000000 in
theorem SameLayout_any (L:Lay) (a0:Option Addr) (c0:Nat) (xs:List PB) (a2:Option Addr) (c2:Nat) (a5:Option Addr) (c5:Nat) (ts:List TB) (L':Lay) (a0':Option Addr) (c0':Nat) (xs':List PB) (a2':Option Addr) (c2':Nat) (a5':Option Addr) (c5':Nat) (ts':List TB) (w:World) (h:LyT w L a0 c0 xs a2 c2 a5 c5 ts) (h':LyT w L' a0' c0' xs' a2' c2' a5' c5' ts'):
 Calls Tryz.prog 12 #[.agg #[.slice a0 xs.length c0,.int .i64 L.stack,.slice a2 L.slots.length c2,.int .i64 L.flash,.int .i64 L.ram,.slice a5 ts.length c5],.agg #[.slice a0' xs'.length c0',.int .i64 L'.stack,.slice a2' L'.slots.length c2',.int .i64 L'.flash,.int .i64 L'.ram,.slice a5' ts'.length c5']] w fun e w'=>e=.returned (.bool (decide (L=L')))∧Below w.heap.size w w':=by
 have hps:=h.ps
 have hps':=h'.ps
 have htt:=h.tt
 have htt':=h'.tt
 have HE1:=hide (fun (W:World) (hb:Below w.heap.size w W)=>l5SameNums_any a2 a2' L.slots.length c2 L'.slots.length c2' L.slots L'.slots W (h.s.below hb) (h'.s.below hb))
 have HE2:=hide (fun (W:World) (hb:Below w.heap.size w W)=>l5SamePlaces_any a0 xs.length c0 xs L.stack a2 L.slots.length c2 L.flash L.ram a5 ts.length c5 ts a0' xs'.length c0' xs' L'.stack a2' L'.slots.length c2' L'.flash L'.ram a5' ts'.length c5' ts' W (h.p.below hb) (h.t.below hb) (h'.p.below hb) (h'.t.below hb))
 rw [hps,hps',htt,htt'] at HE2
 clear h h' hps hps' htt htt'
 obtain ⟨pl,st,sl,fl,rm,tg⟩:=L
 obtain ⟨pl',st',sl',fl',rm',tg'⟩:=L'
 dsimp only at HE1 HE2 ⊢
 obtain ⟨r,hr⟩:∃ r,r=decide ((⟨pl,st,sl,fl,rm,tg⟩:Lay)=⟨pl',st',sl',fl',rm',tg'⟩):=⟨_,rfl⟩
 rw [← hr]
 simp only [Lay.mk.injEq] at hr
 have HR:=hide hr
 clear hr
 have B0:Below w.heap.size w ((w.alloc (.cells #[.slice a0 xs.length c0,.int .i64 st,.slice a2 sl.length c2,.int .i64 fl,.int .i64 rm,.slice a5 ts.length c5] 32)).alloc (.cells #[.slice a0' xs'.length c0',.int .i64 st',.slice a2' sl'.length c2',.int .i64 fl',.int .i64 rm',.slice a5' ts'.length c5'] 32)):=((Below.refl _ _).alloc (Nat.le_refl _) _).alloc (by simp) _
 have u:=(Blk.new w #[.slice a0 xs.length c0,.int .i64 st,.slice a2 sl.length c2,.int .i64 fl,.int .i64 rm,.slice a5 ts.length c5] 32).alloc (.cells #[.slice a0' xs'.length c0',.int .i64 st',.slice a2' sl'.length c2',.int .i64 fl',.int .i64 rm',.slice a5' ts'.length c5'] 32)
 have v:=Blk.new (w.alloc (.cells #[.slice a0 xs.length c0,.int .i64 st,.slice a2 sl.length c2,.int .i64 fl,.int .i64 rm,.slice a5 ts.length c5] 32)) #[.slice a0' xs'.length c0',.int .i64 st',.slice a2' sl'.length c2',.int .i64 fl',.int .i64 rm',.slice a5' ts'.length c5'] 32
 simp only [World.size_alloc] at v
 have HK:=hide (And.intro B0 (And.intro u v))
 clear u v B0
 go_enter Tryz.func12,Tryz.ntmps12
 go_wp2_with fail
 refine (HE2.out _ HK.out.1).mono ?_
 rintro e w1 ⟨rfl,hb1⟩
 have HK1:=hide (And.intro (HK.out.1.trans (hb1.mono HK.out.1.size)) (And.intro (HK.out.2.1.below hb1) (HK.out.2.2.below hb1)))
 clear hb1 HK
 by_cases k0:pl=pl'∧tg=tg'
 rotate_left
 ·rw [decide_eq_false k0]
  have HV:=hide (show r=false by rw [HR.out,decide_eq_false_iff_not];exact fun e=>k0 ⟨e.1,e.2.2.2.2.2⟩)
  clear HR HE1 HE2
  go_wp2
  go_ret
  exact ⟨ret_bool HV.out.symm,HK1.out.1⟩
 rw [decide_eq_true k0]
 have HC0:=hide k0
 clear k0
 obtain ⟨p0,p1,p2,p3,p4,p5⟩:=(HK1.out.2.1).ly6
 obtain ⟨q0,q1,q2,q3,q4,q5⟩:=(HK1.out.2.2).ly6
 by_cases k1:st=st'
 rotate_left
 ·have g1:(st == st')=false:=by simpa using k1
  have HV:=hide (show r=false by rw [HR.out];simp [k1])
  clear HR HE1 HE2
  go_wp2
  go_ret
  exact ⟨ret_bool HV.out.symm,HK1.out.1⟩
 have g1:(st == st')=true:=by simpa using k1
 have HC1:=hide k1
 clear k1
 go_wp2_with fail
 refine (HE1.out _ HK1.out.1).mono ?_
 rintro e w2 ⟨rfl,hb2⟩
 have HK2:=hide (And.intro (HK1.out.1.trans (hb2.mono HK1.out.1.size)) (And.intro (HK1.out.2.1.below hb2) (HK1.out.2.2.below hb2)))
 clear hb2 p0 p1 p2 p3 p4 p5 q0 q1 q2 q3 q4 q5
 by_cases k4:sl=sl'
 rotate_left
 ·rw [decide_eq_false k4]
  have HV:=hide (show r=false by rw [HR.out];simp [k4])
  clear HR HE1 HE2
  go_wp2
  go_ret
  exact ⟨ret_bool HV.out.symm,HK2.out.1⟩
 rw [decide_eq_true k4]
 have HC4:=hide k4
 clear k4
 obtain ⟨p0,p1,p2,p3,p4,p5⟩:=(HK2.out.2.1).ly6
 obtain ⟨q0,q1,q2,q3,q4,q5⟩:=(HK2.out.2.2).ly6
 by_cases k2:fl=fl'
 rotate_left
 ·have g2:(fl == fl')=false:=by simpa using k2
  have HV:=hide (show r=false by rw [HR.out];simp [k2])
  clear HR HE1 HE2
  go_wp2
  go_ret
  exact ⟨ret_bool HV.out.symm,HK2.out.1⟩
 have g2:(fl == fl')=true:=by simpa using k2
 have HC2:=hide k2
 clear k2
 by_cases k3:rm=rm'
 rotate_left
 ·have g3:(rm == rm')=false:=by simpa using k3
  have HV:=hide (show r=false by rw [HR.out];simp [k3])
  clear HR HE1 HE2
  go_wp2
  go_ret
  exact ⟨ret_bool HV.out.symm,HK2.out.1⟩
 have g3:(rm == rm')=true:=by simpa using k3
 have HV:=hide (show r=true by rw [HR.out];simp [HC0.out.1,HC0.out.2,HC1.out,HC2.out,k3,HC4.out])
 clear HR HE1 HE2 k3
 go_wp2
 go_ret
 exact ⟨ret_bool HV.out.symm,HK2.out.1⟩
theorem SlB.congr {S:Nat→Prop} {w:World} {a:Option Addr} {n:Nat} {f f':Nat→Rw3} (h:SlB S w a n f) (e:∀ i,i<n→f' i=f i):SlB S w a n f':=
 ⟨fun hn=>by obtain ⟨g,o,cs,t,ha,hs,hb,hl⟩:=h.head hn;exact ⟨g,o,cs,t,ha,hs,hb,fun i hi=>by rw [e i hi];exact hl i hi⟩,fun i hi=>by rw [e i hi];exact h.rows i hi⟩
theorem LayO.kept {W W':World} {base:Nat} {L:Lay} {a0:Option Addr} {c0:Nat} {xs:List PB} {a2:Option Addr} {c2:Nat} {a5:Option Addr} {c5:Nat} {ts:List TB} {S:Nat→Prop} (h:LayO W base L a0 c0 xs a2 c2 a5 c5 ts) (t:Turn S W W') (hs:∀ j,base≤j→j<W.heap.size→¬ S j):LayO W' base L a0 c0 xs a2 c2 a5 c5 ts where
 p:=h.p.kept t (fun k hk=>hs k (h.p.lt.1 k hk).1 (h.p.lt.1 k hk).2) (fun x hx k hk=>hs k (h.p.lt.2 x hx k hk).1 (h.p.lt.2 x hx k hk).2)
 ps:=h.ps
 s:=h.s.kept t (fun k hk=>hs k (h.s.lt k hk).1 (h.s.lt k hk).2)
 t:=h.t.kept t (fun k hk=>hs k (h.t.lt.1 k hk).1 (h.t.lt.1 k hk).2) (fun x hx k hk=>hs k (h.t.lt.2 x hx k hk).1 (h.t.lt.2 x hx k hk).2)
 tt:=h.tt
 sp:=h.sp
theorem LayO.below' {W W':World} {base:Nat} {L:Lay} {a0:Option Addr} {c0:Nat} {xs:List PB} {a2:Option Addr} {c2:Nat} {a5:Option Addr} {c5:Nat} {ts:List TB} (h:LayO W base L a0 c0 xs a2 c2 a5 c5 ts) (hb:Below W.heap.size W W'):LayO W' base L a0 c0 xs a2 c2 a5 c5 ts:=h.kept (S:=fun _=>False) (turn_below hb) (fun _ _ _ s=>s)
theorem LayO.mono {W:World} {base base':Nat} {L:Lay} {a0:Option Addr} {c0:Nat} {xs:List PB} {a2:Option Addr} {c2:Nat} {a5:Option Addr} {c5:Nat} {ts:List TB} (h:LayO W base L a0 c0 xs a2 c2 a5 c5 ts) (hb:base'≤base):LayO W base' L a0 c0 xs a2 c2 a5 c5 ts:=⟨h.p.mono hb hb,h.ps,h.s.mono hb,h.t.mono hb hb,h.tt,h.sp⟩
def Zb (zc:Array Value) (t:TypeId) (W0 X:World) (o:Option Nat):Prop:=Below W0.heap.size W0 X∧∀ g,o=some g→W0.heap.size≤g∧Blk X g zc t
section
variable {zc:Array Value} {t:TypeId} {W0 X Y:World} {o:Option Nat}
theorem zb_new (zc:Array Value) (t:TypeId) (W0:World):Zb zc t W0 W0 none:=⟨Below.refl _ _,fun g e=>by cases e⟩
theorem Zb.below (h:Zb zc t W0 X o) (hb:Below X.heap.size X Y):Zb zc t W0 Y o:=⟨h.1.trans (hb.mono h.1.size),fun g e=>⟨(h.2 g e).1,(h.2 g e).2.below hb⟩⟩
theorem Zb.drew (h:Zb zc t W0 X o):Zb zc t W0 X.drew o:=⟨h.1.drew,fun g e=>⟨(h.2 g e).1,(h.2 g e).2⟩⟩
theorem Zb.box (h:Zb zc t W0 X none):Zb zc t W0 (X.alloc (.cells zc t)) (some X.heap.size):=⟨h.1.alloc h.1.size _,fun g e=>by cases e;exact ⟨h.1.size,Blk.new X zc t⟩⟩
end
structure Z2 (zc:Array Value) (t:TypeId) (n:Nat) (ms:List Md) (W0 X:World) (o:Option Nat) (g:Nat) (m:List Md):Prop where
 z:Zb zc t W0 X o
 r:RowM X g n ms m
 l:m.length=n
section
variable {zc:Array Value} {t:TypeId} {n g:Nat} {ms m:List Md} {W0 X Y:World} {o:Option Nat}
theorem Z2.below (h:Z2 zc t n ms W0 X o g m) (hb:Below X.heap.size X Y):Z2 zc t n ms W0 Y o g m:=⟨h.z.below hb,h.r.below hb,h.l⟩
theorem Z2.drew (h:Z2 zc t n ms W0 X o g m):Z2 zc t n ms W0 X.drew o g m:=⟨h.z.drew,h.r.below (Below.refl _ _).drew,h.l⟩
theorem Z2.box (h:Z2 zc t n ms W0 X none g m):Z2 zc t n ms W0 (X.alloc (.cells zc t)) (some X.heap.size) g m:=⟨h.z.box,h.r.below ((Below.refl _ _).alloc (Nat.le_refl _) _),h.l⟩
end
structure Z3 (zc:Array Value) (t:TypeId) (base:Nat) (L:Lay) (W0 X:World) (o:Option Nat) (a0:Option Addr) (c0:Nat) (xs:List PB) (a2:Option Addr) (c2:Nat) (a5:Option Addr) (c5:Nat) (ts:List TB):Prop where
 z:Zb zc t W0 X o
 l:∃ b,base≤b∧LayO X b L a0 c0 xs a2 c2 a5 c5 ts∧∀ g,o=some g→g<b
structure Fin5 (base:Nat) (L:Lay) (W0:World) (gb:Nat) (a0:Option Addr) (c0:Nat) (xs:List PB) (a2:Option Addr) (c2:Nat) (a5:Option Addr) (c5:Nat) (ts:List TB) (W:World):Prop where
 b:Below W0.heap.size W0 W
 g:W0.heap.size≤gb
 k:Blk W gb #[.slice a0 xs.length c0,.int .i64 L.stack,.slice a2 L.slots.length c2,.int .i64 L.flash,.int .i64 L.ram,.slice a5 ts.length c5] 32
 l:LayO W base L a0 c0 xs a2 c2 a5 c5 ts
section
variable {base:Nat} {L:Lay} {W0 X:World} {gb:Nat} {a0:Option Addr} {c0:Nat} {xs:List PB} {a2:Option Addr} {c2:Nat} {a5:Option Addr} {c5:Nat} {ts:List TB}
theorem Z3.fin {zc:Array Value} {t:TypeId} (h:Z3 zc t base L W0 X none a0 c0 xs a2 c2 a5 c5 ts):Fin5 base L W0 X.heap.size a0 c0 xs a2 c2 a5 c5 ts (X.alloc (.cells #[.slice a0 xs.length c0,.int .i64 L.stack,.slice a2 L.slots.length c2,.int .i64 L.flash,.int .i64 L.ram,.slice a5 ts.length c5] 32)):=by
 have hb:Below X.heap.size X (X.alloc (.cells #[.slice a0 xs.length c0,.int .i64 L.stack,.slice a2 L.slots.length c2,.int .i64 L.flash,.int .i64 L.ram,.slice a5 ts.length c5] 32)):=(Below.refl _ _).alloc (Nat.le_refl _) _
 obtain ⟨b,hb1,hl,_⟩:=h.l
 exact ⟨h.z.1.trans (hb.mono h.z.1.size),h.z.1.size,Blk.new X _ _,(hl.mono hb1).below' hb⟩
end
structure Kp (cf:Array Value) (tc:TypeId) (base:Nat) (L:Lay) (w W5:World) (gb:Nat) (a0:Option Addr) (c0:Nat) (xs:List PB) (a2:Option Addr) (c2:Nat) (a5:Option Addr) (c5:Nat) (ts:List TB) (W:World):Prop where
 be:Below w.heap.size w W
 kc:Blk W w.heap.size cf tc
 kw:Blk W gb #[.slice a0 xs.length c0,.int .i64 L.stack,.slice a2 L.slots.length c2,.int .i64 L.flash,.int .i64 L.ram,.slice a5 ts.length c5] 32
 lw:LayO W base L a0 c0 xs a2 c2 a5 c5 ts
 l5:LayO W5 base L a0 c0 xs a2 c2 a5 c5 ts
 n5:w.heap.size<W5.heap.size∧gb<W5.heap.size
 w5:W5.heap.size≤W.heap.size
section
variable {cf:Array Value} {tc:TypeId} {base:Nat} {L:Lay} {w W5 W W':World} {gb:Nat} {a0:Option Addr} {c0:Nat} {xs:List PB} {a2:Option Addr} {c2:Nat} {a5:Option Addr} {c5:Nat} {ts:List TB}
theorem Kp.turn {S:Nat→Prop} (h:Kp cf tc base L w W5 gb a0 c0 xs a2 c2 a5 c5 ts W) (t:Turn S W W') (hS:∀ j,S j→W5.heap.size≤j):Kp cf tc base L w W5 gb a0 c0 xs a2 c2 a5 c5 ts W' where
 be:=below_turn h.be t (fun k s=>by have:=hS k s;have:=h.n5.1;omega) h.be.size
 kc:=turn_blk t h.kc (fun s=>by have:=hS _ s;have:=h.n5.1;omega)
 kw:=turn_blk t h.kw (fun s=>by have:=hS _ s;have:=h.n5.2;omega)
 lw:=by
  refine ⟨h.lw.p.kept t (fun k hk s=>?_) (fun x hx k hk s=>?_),h.lw.ps,h.lw.s.kept t (fun k hk s=>?_),h.lw.t.kept t (fun k hk s=>?_) (fun x hx k hk s=>?_),h.lw.tt,h.lw.sp⟩
  ·have:=(h.l5.p.lt.1 k hk).2;have:=hS k s;omega
  ·have:=(h.l5.p.lt.2 x hx k hk).2;have:=hS k s;omega
  ·have:=(h.l5.s.lt k hk).2;have:=hS k s;omega
  ·have:=(h.l5.t.lt.1 k hk).2;have:=hS k s;omega
  ·have:=(h.l5.t.lt.2 x hx k hk).2;have:=hS k s;omega
 l5:=h.l5
 n5:=h.n5
 w5:=Nat.le_trans h.w5 t.size
theorem Kp.below (h:Kp cf tc base L w W5 gb a0 c0 xs a2 c2 a5 c5 ts W) (hb:Below W.heap.size W W'):Kp cf tc base L w W5 gb a0 c0 xs a2 c2 a5 c5 ts W':=h.turn (S:=fun _=>False) (turn_below hb) (fun _ s=>absurd s id)
end
def st4 (W:World) (k:Nat) (v0 v1 v2 v3:Value):World:=(((W.setCell ⟨k,0,none⟩ v0).setCell ⟨k,1,none⟩ v1).setCell ⟨k,2,none⟩ v2).setCell ⟨k,3,none⟩ v3
theorem turn_st4 (W:World) (k:Nat) (v0 v1 v2 v3:Value):Turn (fun j=>j=k) W (st4 W k v0 v1 v2 v3):=(((turn_set W k 0 v0).trans (turn_set _ k 1 v1)).trans (turn_set _ k 2 v2)).trans (turn_set _ k 3 v3)
theorem blk_st4 {W:World} {k:Nat} {t:TypeId} {z0 z1 z2 z3:Value} (h:Blk W k #[z0,z1,z2,z3] t) (v0 v1 v2 v3:Value):Blk (st4 W k v0 v1 v2 v3) k #[v0,v1,v2,v3] t:=by
 have k:=(((h.set 0 v0).set 1 v1).set 2 v2).set 3 v3
 have e:(((#[z0,z1,z2,z3].setIfInBounds 0 v0).setIfInBounds 1 v1).setIfInBounds 2 v2).setIfInBounds 3 v3=#[v0,v1,v2,v3]:=by simp
 rw [e] at k
 exact k
theorem Blk.cfr {W:World} {g:Nat} {v0 v1 v2 v3:Value} {t:TypeId} (h:Blk W g #[v0,v1,v2,v3] t):(W.cell? ⟨g,0,none⟩=some v0∧W.cell? ⟨g,1,none⟩=some v1∧W.cell? ⟨g,2,none⟩=some v2∧W.cell? ⟨g,3,none⟩=some v3)∧W.frozen? ⟨g,0,none⟩=false∧W.frozen? ⟨g,1,none⟩=false∧W.frozen? ⟨g,2,none⟩=false∧W.frozen? ⟨g,3,none⟩=false:=
 ⟨⟨h.cell 0,h.cell 1,h.cell 2,h.cell 3⟩,h.frozen 0,h.frozen 1,h.frozen 2,h.frozen 3⟩
def CfP (w:World) (r:Nat) (a:Option Addr) (n c:Nat) (zs:List Int) (e:Ending) (w':World):Prop:=∃ (x1 x2 x3 x4:Int) (k':Nat),((-2000≤x1∧x1≤2000)∧(-2000≤x2∧x2≤2000)∧(-2000≤x3∧x3≤2000)∧-2000≤x4∧x4≤2000)∧e=.returned (.agg #[.int .i64 x1,.int .i64 x2,.int .i64 x3,.int .i64 x4])∧Dst w w' r a n c zs k'
theorem cf_end {W:World} {q:Nat} {z0 z1 z2 z3:Value} (k1:Blk W q #[z0,z1,z2,z3] 25) (v0 v1 v2 v3:Value) (Q:Ending→World→Prop) (tmps:Array Value) (h4:tmps[2]?=some (.pointer (some ⟨q,0,none⟩))) (hQ:Q (.returned (.agg #[v0,v1,v2,v3])) (st4 W q v0 v1 v2 v3)):
 bodyPost Tryz.prog Tryz.f138 Q Exit.ret ⟨tmps,[]⟩ (st4 W q v0 v1 v2 v3):=by
 obtain ⟨⟨t0,t1,t2,t3⟩,_⟩:=(blk_st4 k1 v0 v1 v2 v3).cfr
 refine bodyPost_ret_by (v:=.agg #[v0,v1,v2,v3]) ?_ rfl hQ
 simp [results,Tryz.results138,go_sem,h4,t0,t1,t2,t3]
theorem ca_end {W:World} {q:Nat} {z0 z1 z2 z3:Value} (k1:Blk W q #[z0,z1,z2,z3] 25) (v0 v1 v2 v3:Value) (Q:Ending→World→Prop) (tmps:Array Value) (h4:tmps[2]?=some (.pointer (some ⟨q,0,none⟩))) (hQ:Q (.returned (.agg #[v0,v1,v2,v3])) (st4 W q v0 v1 v2 v3)):
 bodyPost Tryz.prog Tryz.f53 Q Exit.ret ⟨tmps,[]⟩ (st4 W q v0 v1 v2 v3):=by
 obtain ⟨⟨t0,t1,t2,t3⟩,_⟩:=(blk_st4 k1 v0 v1 v2 v3).cfr
 refine bodyPost_ret_by (v:=.agg #[v0,v1,v2,v3]) ?_ rfl hQ
 simp [results,Tryz.results53,go_sem,h4,t0,t1,t2,t3]
theorem cs_end {W:World} {q:Nat} {z0 z1 z2 z3:Value} (k1:Blk W q #[z0,z1,z2,z3] 25) (v0 v1 v2 v3:Value) (Q:Ending→World→Prop) (tmps:Array Value) (h4:tmps[4]?=some (.pointer (some ⟨q,0,none⟩))) (hQ:Q (.returned (.agg #[v0,v1,v2,v3])) (st4 W q v0 v1 v2 v3)):
 bodyPost Tryz.prog Tryz.f139 Q Exit.ret ⟨tmps,[]⟩ (st4 W q v0 v1 v2 v3):=by
 obtain ⟨⟨t0,t1,t2,t3⟩,_⟩:=(blk_st4 k1 v0 v1 v2 v3).cfr
 refine bodyPost_ret_by (v:=.agg #[v0,v1,v2,v3]) ?_ rfl hQ
 simp [results,Tryz.results139,go_sem,h4,t0,t1,t2,t3]
theorem Dst.st4 {w W:World} {r:Nat} {a:Option Addr} {n c:Nat} {zs:List Int} {k:Nat} (h:Dst w W r a n c zs k) {g:Nat} (hg:w.heap.size≤g) (v0 v1 v2 v3:Value):Dst w (st4 W g v0 v1 v2 v3) r a n c zs k:=h.grow ((turn_st4 W g v0 v1 v2 v3).mono (fun j hj=>by subst hj;exact hg))
theorem wr62 (x:Int) (h0:-4611686018427387904≤x) (h1:x≤4611686018427387903):IntKind.i64.wrap x=x:=by
 unfold IntKind.wrap
 simp [IntKind.bits,IntKind.signed]
 omega
set_option maxHeartbeats 1000000 in
theorem l5Config_fn (zs:List Int) (hz:∀ j,0≤zs.getD j 0∧zs.getD j 0≤255) (k:Nat) (w:World) (r:Nat) (a:Option Addr) (n c:Nat) (h:Dst w w r a n c zs k):
 Calls Tryz.prog 138 #[.pointer (some ⟨r,0,none⟩)] w (CfP w r a n c zs):=by
 obtain ⟨K,E1,z0,z1⟩:=draw_of hz k
 have D0:=h.below (al_below w (.cells #[.int .i64 0,.int .i64 0,.int .i64 0,.int .i64 0] 25))
 have R0:Blk _ w.heap.size #[.int .i64 0,.int .i64 0,.int .i64 0,.int .i64 0] 25:=Blk.new w #[.int .i64 0,.int .i64 0,.int .i64 0,.int .i64 0] 25
 have hlt:=h.lt
 have d3:IntKind.i64.wrap (K.tdiv 3)=K / 3:=by rw [Int.tdiv_eq_ediv_of_nonneg z0,wr62 _ (by omega) (by omega)]
 have d8:IntKind.i64.wrap (K.tdiv 8)=K / 8:=by rw [Int.tdiv_eq_ediv_of_nonneg z0,wr62 _ (by omega) (by omega)]
 have d32:IntKind.i64.wrap (K.tdiv 32)=K / 32:=by rw [Int.tdiv_eq_ediv_of_nonneg z0,wr62 _ (by omega) (by omega)]
 have m3:K.tmod 3=K % 3:=Int.tmod_eq_emod_of_nonneg z0
 have m2:(K / 3).tmod 2=K / 3 % 2:=Int.tmod_eq_emod_of_nonneg (by omega)
 have m4:(K / 8).tmod 4=K / 8 % 4:=Int.tmod_eq_emod_of_nonneg (by omega)
 have y1:IntKind.i64.wrap (K / 3 % 2 * 24)=K / 3 % 2 * 24:=wr62 _ (by omega) (by omega)
 have y2:IntKind.i64.wrap (64 - K / 3 % 2 * 24)=64 - K / 3 % 2 * 24:=wr62 _ (by omega) (by omega)
 have y3:IntKind.i64.wrap (1+K / 8 % 4)=1+K / 8 % 4:=wr62 _ (by omega) (by omega)
 have y4:IntKind.i64.wrap (32 * (1+K / 8 % 4))=32 * (1+K / 8 % 4):=wr62 _ (by omega) (by omega)
 have y5:IntKind.i64.wrap (K / 32 * 3)=K / 32 * 3:=wr62 _ (by omega) (by omega)
 have y6:IntKind.i64.wrap (3+K / 32 * 3)=3+K / 32 * 3:=wr62 _ (by omega) (by omega)
 clear h
 go_enter Tryz.func138,Tryz.ntmps138
 go_wp2_with fail
 refine (D0.next K E1).mono ?_
 rintro e w1 ⟨rfl,D1,t1⟩
 have R1:=turn_blk t1 R0 (by omega)
 obtain ⟨⟨r0,r1,r2,r3⟩,s0,s1,s2,s3⟩:=R1.cfr
 have HD:=hide (And.intro D1 R1)
 clear D0 R0 t1 E1 D1 R1
 go_wp2
 refine cf_end HD.out.2 _ _ _ _ _ _ rfl ?_
 exact ⟨_,_,_,_,_,by omega,rfl,HD.out.1.st4 (Nat.le_refl _) _ _ _ _⟩
set_option maxHeartbeats 4000000 in
theorem l5SpoilConfig_fn (zs:List Int) (hz:∀ j,0≤zs.getD j 0∧zs.getD j 0≤255) (k:Nat) (w:World) (r:Nat) (a:Option Addr) (n c:Nat) (h:Dst w w r a n c zs k) (x1 x2 x3 x4:Int) (hx:(-2000≤x1∧x1≤2000)∧(-2000≤x2∧x2≤2000)∧(-2000≤x3∧x3≤2000)∧-2000≤x4∧x4≤2000):
 Calls Tryz.prog 139 #[.pointer (some ⟨r,0,none⟩),.agg #[.int .i64 x1,.int .i64 x2,.int .i64 x3,.int .i64 x4]] w (CfP w r a n c zs):=by
 obtain ⟨K,E1,z0,z1⟩:=draw_of hz k
 have hlt:=h.lt
 have b1:=al_below w (.cells #[.int .i64 x1,.int .i64 x2,.int .i64 x3,.int .i64 x4] 25)
 have b2:=al_below (w.alloc (.cells #[.int .i64 x1,.int .i64 x2,.int .i64 x3,.int .i64 x4] 25)) (.cells #[.int .i64 0,.int .i64 0,.int .i64 0,.int .i64 0] 25)
 have D0:=(h.below b1).below b2
 have B0:=(Blk.new w #[.int .i64 x1,.int .i64 x2,.int .i64 x3,.int .i64 x4] 25).below b2
 have R0:=Blk.new (w.alloc (.cells #[.int .i64 x1,.int .i64 x2,.int .i64 x3,.int .i64 x4] 25)) #[.int .i64 0,.int .i64 0,.int .i64 0,.int .i64 0] 25
 simp only [World.size_alloc] at R0
 have d4:IntKind.i64.wrap (K.tdiv 4)=K / 4:=by rw [Int.tdiv_eq_ediv_of_nonneg z0,wr62 _ (by omega) (by omega)]
 have m4:K.tmod 4=K % 4:=Int.tmod_eq_emod_of_nonneg z0
 obtain ⟨J,hJ⟩:∃ J,J=K % 4:=⟨_,rfl⟩
 obtain ⟨V,hV⟩:∃ V,V=K / 4:=⟨_,rfl⟩
 rw [← hJ] at m4
 rw [← hV] at d4
 have v0:0≤V:=by omega
 have m3:V.tmod 3=V % 3:=Int.tmod_eq_emod_of_nonneg v0
 have m5:V.tmod 5=V % 5:=Int.tmod_eq_emod_of_nonneg v0
 have m4':V.tmod 4=V % 4:=Int.tmod_eq_emod_of_nonneg v0
 clear h b1 b2
 go_enter Tryz.func139,Tryz.ntmps139
 go_wp2_with fail
 refine (D0.next K E1).mono ?_
 rintro e w1 ⟨rfl,D1,t1⟩
 have B1:=turn_blk t1 B0 (by omega)
 have R1:=turn_blk t1 R0 (by omega)
 clear D0 R0 B0 t1 E1
 have hJ4:J=0∨J=1∨J=2∨J=3:=by omega
 have hs1:=D1.sz
 clear hJ hV z0 z1
 rcases hJ4 with rfl | rfl | rfl | rfl
 ·have hv:V % 3=0∨V % 3=1∨V % 3=2:=by omega
  have b3:=al_below w1 (.cells #[.int .i64 (-1),.int .i64 4,.int .i64 5] 3)
  have D2:=D1.below b3
  have B2:=B1.below b3
  have R2:=R1.below b3
  obtain ⟨⟨r0,r1,r2,r3⟩,s0,s1,s2,s3⟩:=R2.cfr
  obtain ⟨⟨p0,p1,p2,p3⟩,q0,q1,q2,q3⟩:=B2.cfr
  have HD:=hide (And.intro D2 R2)
  clear D1 D2 B1 B2 R1 R2 b3
  rcases hv with hv | hv | hv <;> rw [hv] at m3 <;> (
   go_wp2
   refine cs_end (turn_blk (turn_set _ w.heap.size 0 _) HD.out.2 (by omega)) _ _ _ _ _ _ rfl ?_
   exact ⟨_,_,_,_,_,by omega,rfl,(HD.out.1.set (Nat.le_refl _) _ _).st4 (by omega) _ _ _ _⟩)
 ·have hv:V % 5=0∨V % 5=1∨V % 5=2∨V % 5=3∨V % 5=4:=by omega
  have b3:=al_below w1 (.cells #[.int .i64 0,.int .i64 1,.int .i64 64,.int .i64 65,.int .i64 7] 3)
  have D2:=D1.below b3
  have B2:=B1.below b3
  have R2:=R1.below b3
  obtain ⟨⟨r0,r1,r2,r3⟩,s0,s1,s2,s3⟩:=R2.cfr
  obtain ⟨⟨p0,p1,p2,p3⟩,q0,q1,q2,q3⟩:=B2.cfr
  have HD:=hide (And.intro D2 R2)
  clear D1 D2 B1 B2 R1 R2 b3
  rcases hv with hv | hv | hv | hv | hv <;> rw [hv] at m5 <;> (
   go_wp2
   refine cs_end (turn_blk (turn_set _ w.heap.size 1 _) HD.out.2 (by omega)) _ _ _ _ _ _ rfl ?_
   exact ⟨_,_,_,_,_,by omega,rfl,(HD.out.1.set (Nat.le_refl _) _ _).st4 (by omega) _ _ _ _⟩)
 ·have hv:V % 5=0∨V % 5=1∨V % 5=2∨V % 5=3∨V % 5=4:=by omega
  have b3:=al_below w1 (.cells #[.int .i64 (-32),.int .i64 0,.int .i64 1024,.int .i64 1056,.int .i64 31] 3)
  have D2:=D1.below b3
  have B2:=B1.below b3
  have R2:=R1.below b3
  obtain ⟨⟨r0,r1,r2,r3⟩,s0,s1,s2,s3⟩:=R2.cfr
  obtain ⟨⟨p0,p1,p2,p3⟩,q0,q1,q2,q3⟩:=B2.cfr
  have HD:=hide (And.intro D2 R2)
  clear D1 D2 B1 B2 R1 R2 b3
  rcases hv with hv | hv | hv | hv | hv <;> rw [hv] at m5 <;> (
   go_wp2
   refine cs_end (turn_blk (turn_set _ w.heap.size 2 _) HD.out.2 (by omega)) _ _ _ _ _ _ rfl ?_
   exact ⟨_,_,_,_,_,by omega,rfl,(HD.out.1.set (Nat.le_refl _) _ _).st4 (by omega) _ _ _ _⟩)
 ·have hv:V % 4=0∨V % 4=1∨V % 4=2∨V % 4=3:=by omega
  have b3:=al_below w1 (.cells #[.int .i64 (-1),.int .i64 0,.int .i64 100,.int .i64 101] 3)
  have D2:=D1.below b3
  have B2:=B1.below b3
  have R2:=R1.below b3
  obtain ⟨⟨r0,r1,r2,r3⟩,s0,s1,s2,s3⟩:=R2.cfr
  obtain ⟨⟨p0,p1,p2,p3⟩,q0,q1,q2,q3⟩:=B2.cfr
  have HD:=hide (And.intro D2 R2)
  clear D1 D2 B1 B2 R1 R2 b3
  rcases hv with hv | hv | hv | hv <;> rw [hv] at m4' <;> (
   go_wp2
   refine cs_end (turn_blk (turn_set _ w.heap.size 3 _) HD.out.2 (by omega)) _ _ _ _ _ _ rfl ?_
   exact ⟨_,_,_,_,_,by omega,rfl,(HD.out.1.set (Nat.le_refl _) _ _).st4 (by omega) _ _ _ _⟩)
set_option maxHeartbeats 1000000 in
theorem l5AnyConfig_fn (zs:List Int) (hz:∀ j,0≤zs.getD j 0∧zs.getD j 0≤255) (k:Nat) (w:World) (r:Nat) (a:Option Addr) (n c:Nat) (h:Dst w w r a n c zs k):
 Calls Tryz.prog 53 #[.pointer (some ⟨r,0,none⟩)] w (CfP w r a n c zs):=by
 obtain ⟨K,E1,z0,z1⟩:=draw_of hz k
 have D0:=h.below (al_below w (.cells #[.int .i64 0,.int .i64 0,.int .i64 0,.int .i64 0] 25))
 have R0:Blk _ w.heap.size #[.int .i64 0,.int .i64 0,.int .i64 0,.int .i64 0] 25:=Blk.new w #[.int .i64 0,.int .i64 0,.int .i64 0,.int .i64 0] 25
 have hlt:=h.lt
 have m4:K.tmod 4=K % 4:=Int.tmod_eq_emod_of_nonneg z0
 have HZ:=hide hz
 clear h hz
 go_enter Tryz.func53,Tryz.ntmps53
 go_wp2_with fail
 refine (D0.next K E1).mono ?_
 rintro e w1 ⟨rfl,D1,t1⟩
 have R1:=turn_blk t1 R0 (by omega)
 clear D0 R0 t1 E1
 go_wp2_with fail
 refine (l5Config_fn zs HZ.out _ w1 r a n c D1.fresh).mono ?_
 rintro e w2 ⟨x1,x2,x3,x4,k2,hx,rfl,D2⟩
 have hr1:=R1.lt
 have hl1:=D1.lt
 have hs1:=D1.sz
 have b3:=al_below w2 (.cells #[.int .i64 x1,.int .i64 x2,.int .i64 x3,.int .i64 x4] 25)
 have D3:=(D1.trans D2).below b3
 have R3:=(turn_blk D2.t R1 (by omega)).below b3
 have B3:=Blk.new w2 #[.int .i64 x1,.int .i64 x2,.int .i64 x3,.int .i64 x4] 25
 obtain ⟨⟨r0,r1,r2,r3⟩,s0,s1,s2,s3⟩:=R3.cfr
 obtain ⟨⟨p0,p1,p2,p3⟩,q0,q1,q2,q3⟩:=B3.cfr
 have HD:=hide (And.intro D3 (And.intro R3 D2.sz))
 clear D1 D2 D3 R1 R3 B3 b3
 by_cases h3:K % 4=3
 ·rw [h3] at m4
  have CC:=hide (l5SpoilConfig_fn zs HZ.out _ _ r a n c HD.out.1.fresh x1 x2 x3 x4 hx)
  go_wp2_with fail
  refine CC.out.mono ?_
  rintro e w4 ⟨y1,y2,y3,y4,k4,hy,rfl,D4⟩
  have D5:=HD.out.1.trans D4
  have R5:=turn_blk D4.t HD.out.2.1 (by omega)
  obtain ⟨⟨r0,r1,r2,r3⟩,s0,s1,s2,s3⟩:=R5.cfr
  have HD5:=hide (And.intro D5 R5)
  clear D4 D5 R5 CC HD
  go_wp2
  refine ca_end HD5.out.2 _ _ _ _ _ _ rfl ?_
  exact ⟨_,_,_,_,_,hy,rfl,HD5.out.1.st4 (Nat.le_refl _) _ _ _ _⟩
 ·go_wp2
  refine ca_end HD.out.2.1 _ _ _ _ _ _ rfl ?_
  exact ⟨_,_,_,_,_,hx,rfl,HD.out.1.st4 (Nat.le_refl _) _ _ _ _⟩
theorem cut5 {S F:Nat→Nat→Nat→Nat→World→Prop} {G:Prop} (main:(∀ a b c d W,F a b c d W→S a b c d W)→G) (pf:∀ a b c d W,F a b c d W→S a b c d W):G:=main pf
theorem cell_alloc' {W:World} {b o:Nat} {v:Value} {x:Obj} (h:W.cell? ⟨b,o,none⟩=some v):(W.alloc x).cell? ⟨b,o,none⟩=some v:=cell_below ((Below.refl _ _).alloc (Nat.le_refl _) _) h
theorem cell_drew' {W:World} {b o:Nat} {v:Value} (h:W.cell? ⟨b,o,none⟩=some v):W.drew.cell? ⟨b,o,none⟩=some v:=h
theorem cell_set' {W:World} {b o g i:Nat} {v u:Value} (hb:b<g) (h:W.cell? ⟨b,o,none⟩=some v):(W.setCell ⟨g,i,none⟩ u).cell? ⟨b,o,none⟩=some v:=(cellO (.inl (by omega))).trans h
structure Mk4 (N:Nat) (w1 W:World) (ZF ZR:Array Value) (F R gf gr go gm:Nat):Prop where
 be:Below N w1 W
 f:Blk W gf ZF 5
 r:Blk W gr ZR 5
 o:Blk W go #[] 5
 m:Blk W gm #[.slice (some ⟨gf,0,none⟩) F F,.slice (some ⟨gr,0,none⟩) R R,.slice (some ⟨go,0,none⟩) 0 0] 38
 lo:N≤gf∧N≤gr∧N≤go∧N≤gm
 ne:gf≠gr∧gf≠go∧gr≠go
theorem drew_sz' (w:World):w.drew.heap.size=w.heap.size:=rfl
theorem blk_drew {W:World} {g:Nat} {cs:Array Value} {t:TypeId} (h:Blk W g cs t):Blk W.drew g cs t:=h
theorem blk_new' {W:World} {g:Nat} {cs:Array Value} {t:TypeId} (h:g=W.heap.size):Blk (W.alloc (.cells cs t)) g cs t:=by subst h;exact Blk.new W cs t
theorem blk_other' {W:World} {g b i:Nat} {cs:Array Value} {t:TypeId} {v:Value} (hn:g≠b) (h:Blk W g cs t):Blk (W.setCell ⟨b,i,none⟩ v) g cs t:=h.other _ _ hn
theorem blk_set3 {W:World} {g:Nat} {t:TypeId} {v0 v1 v2:Value} (h:Blk W g #[.slice none 0 0,.slice none 0 0,.slice none 0 0] t):Blk (((W.setCell ⟨g,0,none⟩ v0).setCell ⟨g,1,none⟩ v1).setCell ⟨g,2,none⟩ v2) g #[v0,v1,v2] t:=by
 have:=((h.set 0 v0).set 1 v1).set 2 v2
 simpa only [List.setIfInBounds_toArray,List.set_cons_zero,List.set_cons_succ] using this
theorem bel_alloc {N:Nat} {a W:World} {x:Obj} (hN:N≤a.heap.size) (h:Below N a W):Below N a (W.alloc x):=h.alloc (Nat.le_trans hN h.size) _
theorem bel_set {N:Nat} {a W:World} {g i:Nat} {v:Value} (hg:N≤g) (h:Below N a W):Below N a (W.setCell ⟨g,i,none⟩ v):=h.setCell (p:=⟨g,i,none⟩) hg v
theorem bel_drew {N:Nat} {a W:World} (h:Below N a W):Below N a W.drew:=h.drew
structure ImS (w:World) (V:Array Value) (F R gf gr go gm:Nat) (fz rz:List Int) (W:World):Prop where
 be:Below w.heap.size w W
 kl:Blk W w.heap.size V 32
 kr:Blk W (w.heap.size+1) #[.slice none 0 0,.slice none 0 0,.slice none 0 0] 38
 km:Blk W gm #[.slice (some ⟨gf,0,none⟩) F F,.slice (some ⟨gr,0,none⟩) R R,.slice (some ⟨go,0,none⟩) 0 0] 38
 f:OB W w.heap.size (.slice (some ⟨gf,0,none⟩) F F) fz
 r:OB W w.heap.size (.slice (some ⟨gr,0,none⟩) R R) rz
 o:Blk W go #[] 5
 lo:w.heap.size+1<gf∧w.heap.size+1<gr∧w.heap.size+1<go∧w.heap.size+1<gm
 ne:gf≠gr∧gf≠go∧gr≠go
section
variable {w:World} {V:Array Value} {F R gf gr go gm:Nat} {fz rz:List Int} {W W':World}
theorem ImS.below (h:ImS w V F R gf gr go gm fz rz W) (hb:Below W.heap.size W W'):ImS w V F R gf gr go gm fz rz W':=⟨h.be.trans (hb.mono h.be.size),h.kl.below hb,h.kr.below hb,h.km.below hb,h.f.below hb,h.r.below hb,h.o.below hb,h.lo,h.ne⟩
theorem ob_blk {base g n c:Nat} {zs:List Int} (h:OB W base (.slice (some ⟨g,0,none⟩) n c) zs):∃ cs,Blk W g cs 5:=own_kind h.1 rfl
theorem ImS.mf (h:ImS w V F R gf gr go gm fz rz W):gm≠gf∧gm≠gr:=by
 obtain ⟨c1,k1⟩:=ob_blk h.f
 obtain ⟨c2,k2⟩:=ob_blk h.r
 exact ⟨fun e=>by subst e;exact absurd (blk_kind h.km k1) (by decide),fun e=>by subst e;exact absurd (blk_kind h.km k2) (by decide)⟩
theorem ImS.setf (h:ImS w V F R gf gr go gm fz rz W) {fz':List Int} (O:OB W' w.heap.size (.slice (some ⟨gf,0,none⟩) F F) fz') (T:Only gf W W'):ImS w V F R gf gr go gm fz' rz W':=
 ⟨only_below h.be T (by have:=h.lo;omega),only_blk T h.kl (by have:=h.lo;omega),only_blk T h.kr (by have:=h.lo;omega),only_blk T h.km h.mf.1,O,only_ob T h.r (by have:=h.ne.1;simp [Value.ownBlock];omega),only_blk T h.o (by have:=h.ne;omega),h.lo,h.ne⟩
theorem ImS.setr (h:ImS w V F R gf gr go gm fz rz W) {rz':List Int} (O:OB W' w.heap.size (.slice (some ⟨gr,0,none⟩) R R) rz') (T:Only gr W W'):ImS w V F R gf gr go gm fz rz' W':=
 ⟨only_below h.be T (by have:=h.lo;omega),only_blk T h.kl (by have:=h.lo;omega),only_blk T h.kr (by have:=h.lo;omega),only_blk T h.km h.mf.2,only_ob T h.f (by have:=h.ne.1;simp [Value.ownBlock];omega),O,only_blk T h.o (by have:=h.ne;omega),h.lo,h.ne⟩
structure Im5 (w:World) (V:Array Value) (F R gf gr go gm gp:Nat) (PV:Array Value) (fz rz:List Int) (W:World):Prop where
 s:ImS w V F R gf gr go gm fz rz W
 p:Blk W gp PV 43
variable {gp:Nat} {PV:Array Value}
theorem Im5.below (h:Im5 w V F R gf gr go gm gp PV fz rz W) (hb:Below W.heap.size W W'):Im5 w V F R gf gr go gm gp PV fz rz W':=⟨h.s.below hb,h.p.below hb⟩
theorem Im5.drew (h:Im5 w V F R gf gr go gm gp PV fz rz W):Im5 w V F R gf gr go gm gp PV fz rz W.drew:=h.below (Below.refl _ _).drew
theorem Im5.pf (h:Im5 w V F R gf gr go gm gp PV fz rz W):gp≠gf∧gp≠gr:=by
 obtain ⟨c1,k1⟩:=ob_blk h.s.f
 obtain ⟨c2,k2⟩:=ob_blk h.s.r
 exact ⟨fun e=>by subst e;exact absurd (blk_kind h.p k1) (by decide),fun e=>by subst e;exact absurd (blk_kind h.p k2) (by decide)⟩
theorem Im5.setf (h:Im5 w V F R gf gr go gm gp PV fz rz W) {fz':List Int} (O:OB W' w.heap.size (.slice (some ⟨gf,0,none⟩) F F) fz') (T:Only gf W W'):Im5 w V F R gf gr go gm gp PV fz' rz W':=⟨h.s.setf O T,only_blk T h.p h.pf.1⟩
theorem Im5.setr (h:Im5 w V F R gf gr go gm gp PV fz rz W) {rz':List Int} (O:OB W' w.heap.size (.slice (some ⟨gr,0,none⟩) R R) rz') (T:Only gr W W'):Im5 w V F R gf gr go gm gp PV fz rz' W':=⟨h.s.setr O T,only_blk T h.p h.pf.2⟩
end
end Go.Proofs.YtngdgogjlpjjpadGreat
namespace Go.Proofs.YtngdgogjlpjjpadGreat
open Go.ChangeShapes Go.WideShapes Go.ChangeAt Go.RowKit Classical
set_option linter.unusedVariables false
theorem own:ownKnob Tryz.prog.godebug=none:=by kernel_rfl
theorem laidOut:laidOutB Tryz.prog=true:=by kernel_rfl
theorem wf_u8 {z:Int} (h:(Lit.int .u8 z).wf=true):0≤z∧z≤255:=by
 simp [Lit.wf,IntKind.min,IntKind.max,IntKind.signed,IntKind.bits] at h
 omega
theorem wf_i64 {z:Int} (h:(Lit.int .i64 z).wf=true):-9223372036854775808≤z∧z≤9223372036854775807:=by
 simp [Lit.wf,IntKind.min,IntKind.max,IntKind.signed,IntKind.bits] at h
 omega
set_option maxRecDepth 100000 in
theorem bs_of_trod {H:Type} {enc:TypeId × Value→H} {w:World} {base:Nat} {held:Bool} {fuel:Nat} {cs:List Value} {x:DataW H × List MemPlace}
 (h:DataW.trod enc Tryz.prog w base (fun _=>true) held fuel 22 cs=some x):∃ a n cap zs,cs=[.slice a n cap]∧BS w a n cap zs:=by
 rcases open_ints Tryz.underlying22 Tryz.underlying5 (by kernel_rfl) h with ⟨hcs,_⟩ | ⟨x,l,c,zs,hcs,_,hl,hm,hz,_,hcell,hwz⟩
 ·exact ⟨none,0,0,[],hcs,rfl,Nat.zero_le _,by simp,fun h=>absurd rfl h,Nat.le_refl _⟩
 ·simp at hz
  refine ⟨some x,l,c,zs.take l,hcs,by simp;omega,by omega,fun z hz'=>wf_u8 (hwz z (List.mem_of_mem_take hz')),fun hl0=>?_,hl⟩
  obtain ⟨b,off,spot⟩:=x
  have hspot:spot=none:=by simpa [Addr.add] using World.cell?_spot (hcell 0 (by omega))
  subst hspot
  refine ⟨b,off,rfl,fun i hi=>?_⟩
  have:=hcell i (by omega)
  have ea:(Addr.add ⟨b,off,none⟩ i)=⟨b,off+i,none⟩:=by
   simp only [Addr.add]
   split
   ·next h=>subst h;rfl
   ·rfl
  rw [ea] at this
  rw [this]
  simp [List.getD_eq_getElem?_getD,hi]
set_option maxRecDepth 100000 in
theorem open_bytes {H:Type} {enc:TypeId × Value→H} {w:World} {base b0:Nat} {held:Bool} {r:Reach} {v:Value} {d:DataW H} {p:List MemPlace}
 (hv:Value.okWide Tryz.prog w r b0 22 v) (h:DataW.Trod enc Tryz.prog w base (fun _=>true) held 22 v d p):
 ∃ a n cap zs,v=.slice a n cap∧BS w a n cap zs:=by
 obtain ⟨a0,len0,cap0,rfl⟩:=okWide_slice Tryz.underlying22 hv
 obtain ⟨fuel,hf⟩:=h
 obtain ⟨a,n,cap,zs,hcs,hb⟩:=bs_of_trod hf
 simp [Value.cells] at hcs
 obtain ⟨rfl,rfl,rfl⟩:=hcs
 exact ⟨_,_,_,zs,rfl,hb⟩
end Go.Proofs.YtngdgogjlpjjpadGreat
