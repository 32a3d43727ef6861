import Derived.Laws.AppendOwnNone
import Derived.Test.YtngdgogjlpjjpadGreatP00
import Derived.Test.YtngdgogjlpjjpadGreatP01
import Derived.Test.YtngdgogjlpjjpadGreatP03
import Derived.Test.YtngdgogjlpjjpadGreatP05
import Derived.Test.YtngdgogjlpjjpadGreatP11
import Derived.Test.YtngdgogjlpjjpadGreatP13
import Derived.Test.YtngdgogjlpjjpadGreatP19
import Derived.Test.YtngdgogjlpjjpadGreatP22
import Derived.Test.YtngdgogjlpjjpadGreatP24
namespace Go.Proofs.YtngdgogjlpjjpadGreat
open Go.RowKit Classical
set_option linter.unusedVariables false
set_option linter.unusedSimpArgs false
set_option maxRecDepth 100000
set_option maxHeartbeats 8000000 in
theorem l5SamePlaces_any (a0:Option Addr) (n c0:Nat) (xs:List PB) (st:Int) (a2:Option Addr) (sn c2:Nat) (fl rm:Int) (a5:Option Addr) (m0 c5:Nat) (ts:List TB) (a0':Option Addr) (n' c0':Nat) (xs':List PB) (st':Int) (a2':Option Addr) (sn' c2':Nat) (fl' rm':Int) (a5':Option Addr) (m0' c5':Nat) (ts':List TB) (w:World) (h0:PlS w a0 n c0 xs) (h1:TsS w a5 m0 c5 ts) (h0':PlS w a0' n' c0' xs') (h1':TsS w a5' m0' c5' ts'):
 Calls Tryz.prog 64 #[.agg #[.slice a0 n c0,.int .i64 st,.slice a2 sn c2,.int .i64 fl,.int .i64 rm,.slice a5 m0 c5],.agg #[.slice a0' n' c0',.int .i64 st',.slice a2' sn' c2',.int .i64 fl',.int .i64 rm',.slice a5' m0' c5']] w fun e w'=>e=.returned (.bool (decide (xs.map (fun x=>x.1)=xs'.map (fun x=>x.1)∧ts.map (fun x=>x.1)=ts'.map (fun x=>x.1))))∧Below w.heap.size w w':=by
 obtain ⟨r,hr⟩:∃ r,r=decide (xs.map (fun x=>x.1)=xs'.map (fun x=>x.1)∧ts.map (fun x=>x.1)=ts'.map (fun x=>x.1)):=⟨_,rfl⟩
 rw [← hr]
 have HR:=hide hr
 clear hr
 have hm0:=h0.2.1
 have hm1:=h1.2.1
 have hm0':=h0'.2.1
 have hm1':=h1'.2.1
 unfold maxLen at hm0 hm1 hm0' hm1'
 have hl0:=h0.1
 have hl1:=h1.1
 have hl0':=h0'.1
 have hl1':=h1'.1
 have B0:Below w.heap.size w ((w.alloc (.cells #[.slice a0 n c0,.int .i64 st,.slice a2 sn c2,.int .i64 fl,.int .i64 rm,.slice a5 m0 c5] 32)).alloc (.cells #[.slice a0' n' c0',.int .i64 st',.slice a2' sn' c2',.int .i64 fl',.int .i64 rm',.slice a5' m0' c5'] 32)):=((Below.refl _ _).alloc (Nat.le_refl _) _).alloc (by simp) _
 have u:=(Blk.new w #[.slice a0 n c0,.int .i64 st,.slice a2 sn c2,.int .i64 fl,.int .i64 rm,.slice a5 m0 c5] 32).alloc (.cells #[.slice a0' n' c0',.int .i64 st',.slice a2' sn' c2',.int .i64 fl',.int .i64 rm',.slice a5' m0' c5'] 32)
 have v:=Blk.new (w.alloc (.cells #[.slice a0 n c0,.int .i64 st,.slice a2 sn c2,.int .i64 fl,.int .i64 rm,.slice a5 m0 c5] 32)) #[.slice a0' n' c0',.int .i64 st',.slice a2' sn' c2',.int .i64 fl',.int .i64 rm',.slice a5' m0' c5'] 32
 simp only [World.size_alloc] at v
 have HK:=hide (And.intro B0 (And.intro u v))
 clear u v
 by_cases n1:n=n'
 rotate_left
 ·have g1:((n:Int) != (n':Int))=true:=by simp;omega
  have HV:=hide (show r=false by
   rw [HR.out,decide_eq_false_iff_not]
   intro e
   have:=congrArg List.length e.1
   simp at this
   omega)
  clear HR
  go_enter Tryz.func64,Tryz.ntmps64
  go_wp2
  go_ret
  exact ⟨ret_bool HV.out.symm,HK.out.1⟩
 subst n1
 have g1:((n:Int) != (n:Int))=false:=by simp
 by_cases n2:m0=m0'
 rotate_left
 ·have g2:((m0:Int) != (m0':Int))=true:=by simp;omega
  have HV:=hide (show r=false by
   rw [HR.out,decide_eq_false_iff_not]
   intro e
   have:=congrArg List.length e.2
   simp at this
   omega)
  clear HR
  go_enter Tryz.func64,Tryz.ntmps64
  go_wp2
  go_ret
  exact ⟨ret_bool HV.out.symm,HK.out.1⟩
 subst n2
 have g2:((m0:Int) != (m0:Int))=false:=by simp
 have HP:=hide (And.intro h0 (And.intro h0' (And.intro h1 h1')))
 clear h0 h0' h1 h1' B0
 go_enter Tryz.func64,Tryz.ntmps64
 go_wp2
 go_loopw [5] (fun i wr=>∃ k:Nat,k≤n∧i=.int .i64 k∧(xs.map (fun x=>x.1)).take k=(xs'.map (fun x=>x.1)).take k∧Below w.heap.size w wr∧Blk wr w.heap.size #[.slice a0 n c0,.int .i64 st,.slice a2 sn c2,.int .i64 fl,.int .i64 rm,.slice a5 m0 c5] 32∧Blk wr (w.heap.size+1) #[.slice a0' n c0',.int .i64 st',.slice a2' sn' c2',.int .i64 fl',.int .i64 rm',.slice a5' m0 c5'] 32) (fun i _=>n - (intOf i).toNat)
 case atStart=>exact ⟨0,Nat.zero_le _,rfl,by simp,HK.out⟩
 case round=>
  obtain ⟨k,hk,rfl,hT,HB⟩:=hrel
  clear HK
  have HB:=hide HB
  generalize wr=wo at *
  obtain ⟨p0,p1,p2,p3,p4,p5⟩:=(HB.out.2.1).ly6
  obtain ⟨q0,q1,q2,q3,q4,q5⟩:=(HB.out.2.2).ly6
  by_cases hlt:k<n
  ·have hlt':(k:Int)<(n:Int):=by omega
   obtain ⟨b,off,rfl,s0,s1,s2,s3⟩:=(HP.out.1.below HB.out.1).at k hlt
   obtain ⟨b',off',rfl,t0,t1,t2,t3⟩:=(HP.out.2.1.below HB.out.1).at k (by omega)
   have i1:=(HP.out.1.below HB.out.1).2.2.2.1 k hlt
   have i2:=(HP.out.2.1.below HB.out.1).2.2.2.1 k (by omega)
   have HGO:=hide (show (xs.getD k zPB).1=(xs'.getD k zPB).1→(xs.map (fun x=>x.1)).take (k+1)=(xs'.map (fun x=>x.1)).take (k+1) from fun he=>take_succ_eq zPB.1 _ _ k hT (by simp;omega) (by simp;omega) (by rw [map_getD _ _ _ zPB _ (by omega),map_getD _ _ _ zPB _ (by omega),he]))
   have HNO:=hide (show (xs.getD k zPB).1≠(xs'.getD k zPB).1→r=false from fun he=>by
    rw [HR.out,decide_eq_false_iff_not]
    intro e
    have e2:=congrArg (fun l=>l.getD k zPB.1) e.1
    try simp only at e2
    rw [map_getD _ _ _ zPB _ (by omega),map_getD _ _ _ zPB _ (by omega)] at e2
    exact he e2)
   clear hT
   unfold svP at s1 t1
   generalize xs.getD k zPB=x at *
   generalize xs'.getD k zPB=y at *
   obtain ⟨⟨xt,xb,xd,xz⟩,xa,xc⟩:=x
   obtain ⟨⟨yt,yb,yd,yz⟩,ya,yc⟩:=y
   dsimp only at s0 s1 s2 s3 t0 t1 t2 t3 i1 i2 HGO HNO
   have hlw:=HB.out.2.1.lt
   have hlw':=HB.out.2.2.lt
   have hlb:=World.block_lt_of_cell? _ _ s0
   have hlb':=World.block_lt_of_cell? _ _ t0
   have HB2:Below wo.heap.size wo ((wo.alloc (.cells #[.int .i64 xt,.slice xa xb.length xc,.int .i64 xd,.int .i64 xz] 43)).alloc (.cells #[.int .i64 yt,.slice ya yb.length yc,.int .i64 yd,.int .i64 yz] 43)):=((Below.refl _ _).alloc (Nat.le_refl _) _).alloc (by simp) _
   have HEQ:=hide (l5SameNums_any xa ya xb.length xc yb.length yc xb yb _ (i1.below HB2) (i2.below HB2))
   have HB4:=hide (And.intro (HB.out.1.trans (HB2.mono HB.out.1.size)) (And.intro (HB.out.2.1.below HB2) (HB.out.2.2.below HB2)))
   have kp:=(Blk.new wo #[.int .i64 xt,.slice xa xb.length xc,.int .i64 xd,.int .i64 xz] 43).alloc (.cells #[.int .i64 yt,.slice ya yb.length yc,.int .i64 yd,.int .i64 yz] 43)
   have kq:=Blk.new (wo.alloc (.cells #[.int .i64 xt,.slice xa xb.length xc,.int .i64 xd,.int .i64 xz] 43)) #[.int .i64 yt,.slice ya yb.length yc,.int .i64 yd,.int .i64 yz] 43
   simp only [World.size_alloc] at kq
   have HKP:=hide (And.intro kp kq)
   clear i1 i2 HB2 HB kp kq
   by_cases e1:xt=yt
   rotate_left
   ·have g3:(xt != yt)=true:=by simpa using e1
    have HV:=hide (show r=false from HNO.out (fun e=>e1 (by injection e)))
    clear HNO HGO HEQ
    go_wp2
    go_ret
    exact ⟨ret_bool HV.out.symm,HB4.out.1⟩
   have g3:(xt != yt)=false:=by simpa using e1
   have HE1:=hide e1
   clear e1
   go_wp2_with fail
   refine HEQ.out.mono ?_
   rintro e w1 ⟨rfl,hb1⟩
   have HB5:=hide (And.intro (HB4.out.1.trans (hb1.mono HB4.out.1.size)) (And.intro (HB4.out.2.1.below hb1) (HB4.out.2.2.below hb1)))
   have kp:=HKP.out.1.below hb1
   have kq:=HKP.out.2.below hb1
   have x0:w1.cell? ⟨wo.heap.size,2,none⟩=some (.int .i64 xd):=kp.cell 2
   have x1:w1.cell? ⟨wo.heap.size,3,none⟩=some (.int .i64 xz):=kp.cell 3
   have y0:w1.cell? ⟨wo.heap.size+1,2,none⟩=some (.int .i64 yd):=kq.cell 2
   have y1:w1.cell? ⟨wo.heap.size+1,3,none⟩=some (.int .i64 yz):=kq.cell 3
   clear hb1 kp kq HKP HB4 p0 p1 p2 p3 p4 p5 q0 q1 q2 q3 q4 q5 s0 s1 s2 s3 t0 t1 t2 t3
   by_cases e2:xb=yb
   rotate_left
   ·rw [decide_eq_false e2]
    have HV:=hide (show r=false from HNO.out (fun e=>e2 (by injection e)))
    clear HNO HGO HEQ
    go_wp2
    go_ret
    exact ⟨ret_bool HV.out.symm,HB5.out.1⟩
   rw [decide_eq_true e2]
   have HE2:=hide e2
   clear e2
   by_cases e3:xd=yd
   rotate_left
   ·have g4:(xd != yd)=true:=by simpa using e3
    have HV:=hide (show r=false from HNO.out (fun e=>e3 (by injection e)))
    clear HNO HGO HEQ
    go_wp2
    go_ret
    exact ⟨ret_bool HV.out.symm,HB5.out.1⟩
   have g4:(xd != yd)=false:=by simpa using e3
   have HE3:=hide e3
   clear e3
   by_cases e4:xz=yz
   rotate_left
   ·have g5:(xz != yz)=true:=by simpa using e4
    have HV:=hide (show r=false from HNO.out (fun e=>e4 (by injection e)))
    clear HNO HGO HEQ
    go_wp2
    go_ret
    exact ⟨ret_bool HV.out.symm,HB5.out.1⟩
   have g5:(xz != yz)=false:=by simpa using e4
   have HE4:=hide e4
   clear e4
   have HG:=hide (HGO.out (by rw [HE1.out,HE2.out,HE3.out,HE4.out]))
   clear HGO HNO HEQ
   go_wp2
   go_roundw
   case rel=>exact ⟨k+1,by omega,by go_num,HG.out,HB5.out⟩
   case measure=>simp [intOf];omega
  ·have HPE:=hide (show xs.map (fun x=>x.1)=xs'.map (fun x=>x.1) from by
    rw [List.take_of_length_le (by simp;omega),List.take_of_length_le (by simp;omega)] at hT
    exact hT)
   clear hT
   go_wp2
   clear p0 p1 p2 p3 p4 p5 q0 q1 q2 q3 q4 q5
   go_loopw [8] (fun i wr=>∃ m:Nat,m≤m0∧i=.int .i64 m∧(ts.map (fun x=>x.1)).take m=(ts'.map (fun x=>x.1)).take m∧Below w.heap.size w wr∧Blk wr w.heap.size #[.slice a0 n c0,.int .i64 st,.slice a2 sn c2,.int .i64 fl,.int .i64 rm,.slice a5 m0 c5] 32∧Blk wr (w.heap.size+1) #[.slice a0' n c0',.int .i64 st',.slice a2' sn' c2',.int .i64 fl',.int .i64 rm',.slice a5' m0 c5'] 32) (fun i _=>m0 - (intOf i).toNat)
   case atStart=>exact ⟨0,Nat.zero_le _,rfl,by simp,HB.out⟩
   case round=>
    clear HB
    obtain ⟨m,hm,rfl,hT,HC⟩:=hrel
    have HC:=hide HC
    generalize wr=wn at *
    obtain ⟨p0,p1,p2,p3,p4,p5⟩:=(HC.out.2.1).ly6
    obtain ⟨q0,q1,q2,q3,q4,q5⟩:=(HC.out.2.2).ly6
    by_cases hmt:m<m0
    ·have hmt':(m:Int)<(m0:Int):=by omega
     obtain ⟨b,off,rfl,s0⟩:=(HP.out.2.2.1.below HC.out.1).at m hmt
     obtain ⟨b',off',rfl,t0⟩:=(HP.out.2.2.2.below HC.out.1).at m (by omega)
     have I1:=hide (HP.out.2.2.1.2.2.2.1 m hmt)
     have I2:=hide (HP.out.2.2.2.2.2.2.1 m (by omega))
     have HGO:=hide (show (ts.getD m zTB).1=(ts'.getD m zTB).1→(ts.map (fun x=>x.1)).take (m+1)=(ts'.map (fun x=>x.1)).take (m+1) from fun he=>take_succ_eq zTB.1 _ _ m hT (by simp;omega) (by simp;omega) (by rw [map_getD _ _ _ zTB _ (by omega),map_getD _ _ _ zTB _ (by omega),he]))
     have HNO:=hide (show (ts.getD m zTB).1≠(ts'.getD m zTB).1→r=false from fun he=>by
      rw [HR.out,decide_eq_false_iff_not]
      intro e
      have e2:=congrArg (fun l=>l.getD m zTB.1) e.2
      try simp only at e2
      rw [map_getD _ _ _ zTB _ (by omega),map_getD _ _ _ zTB _ (by omega)] at e2
      exact he e2)
     have HHD:=hide (fun (W:World) (hb:Below wn.heap.size wn W)=>And.intro (cell_below hb s0) (cell_below hb t0))
     clear hT
     unfold svT at s0 t0 HHD
     generalize ts.getD m zTB=x at *
     generalize ts'.getD m zTB=y at *
     obtain ⟨xl,xa,xc⟩:=x
     obtain ⟨yl,ya,yc⟩:=y
     dsimp only at s0 t0 I1 I2 HGO HNO HHD
     have hx1:=I1.out.2.1
     have hy1:=I2.out.2.1
     unfold maxLen at hx1 hy1
     by_cases e1:xl.length=yl.length
     rotate_left
     ·have g3:((xl.length:Int) != (yl.length:Int))=true:=by simp;omega
      have HV:=hide (show r=false from HNO.out (fun e=>e1 (by rw [e])))
      clear HNO HGO
      go_wp2
      go_quiet (fail)
      go_wp2
      go_ret
      exact ⟨ret_bool HV.out.symm,below_drewN HC.out.1 _⟩
     have g3:((xl.length:Int) != (yl.length:Int))=false:=by simp;omega
     go_wp2
     go_quiet (fail)
     go_wp2
     clear p0 p1 p2 p3 p4 p5 q0 q1 q2 q3 q4 q5 s0 t0
     go_loopw [9] (fun i wr=>∃ j:Nat,j≤xl.length∧i=.int .i64 j∧xl.take j=yl.take j∧Below wn.heap.size wn wr) (fun i _=>xl.length - (intOf i).toNat)
     case atStart=>exact ⟨0,Nat.zero_le _,rfl,by simp,below_drewN (Below.refl _ _) _⟩
     case round=>
      obtain ⟨j,hj,rfl,hT,HD⟩:=hrel
      have HD:=hide HD
      generalize wr=wm at *
      obtain ⟨s0,t0⟩:=HHD.out wm HD.out
      obtain ⟨p0,p1,p2,p3,p4,p5⟩:=(HC.out.2.1.below HD.out).ly6
      obtain ⟨q0,q1,q2,q3,q4,q5⟩:=(HC.out.2.2.below HD.out).ly6
      have HCD:=hide (HC.out.1.trans (HD.out.mono HC.out.1.size))
      by_cases hjl:j<xl.length
      ·have hjl':(j:Int)<(xl.length:Int):=by omega
       have hjlb':(j:Int)<(yl.length:Int):=by omega
       obtain ⟨bx,ox,rfl,u0,u1,u2⟩:=((I1.out.below HCD.out)).at j hjl
       obtain ⟨by',oy,rfl,v0,v1,v2⟩:=((I2.out.below HCD.out)).at j (by omega)
       have HS:=hide (show xl.getD j zT=yl.getD j zT→xl.take (j+1)=yl.take (j+1) from fun he=>take_succ_eq zT _ _ j hT (by omega) (by omega) he)
       have HF:=hide (show xl.getD j zT≠yl.getD j zT→r=false from fun he=>HNO.out (fun e=>he (by rw [e])))
       clear hT
       generalize xl.getD j zT=z at *
       generalize yl.getD j zT=z' at *
       obtain ⟨z0,z1,z2⟩:=z
       obtain ⟨z0',z1',z2'⟩:=z'
       dsimp only at u0 u1 u2 v0 v1 v2
       by_cases he:(z0,z1,z2)=((z0',z1',z2'):Tg)
       ·have HS2:=hide (HS.out he)
        simp only [Prod.mk.injEq] at he
        obtain ⟨rfl,rfl,rfl⟩:=he
        clear HS HF
        go_wp2
        go_quiet (fail)
        go_wp2
        go_roundw
        case rel=>exact ⟨j+1,by omega,by go_num,HS2.out,below_drewN HD.out _⟩
        case measure=>simp [intOf];omega
       ·have HV:=hide (HF.out he)
        have hne3:¬ (z0=z0'∧z1=z1'∧z2=z2'):=fun e=>he (by rw [e.1,e.2.1,e.2.2])
        clear HS HF he
        by_cases f0:z0=z0'
        ·by_cases f1:z1=z1'
         ·have f2:¬ z2=z2':=fun e=>hne3 ⟨f0,f1,e⟩
          subst f0 f1
          have f2':(z2 == z2')=false:=by simpa using f2
          go_wp2
          go_quiet (fail)
          go_wp2
          go_ret
          exact ⟨ret_bool HV.out.symm,below_drewN HCD.out _⟩
         ·subst f0
          have f1':(z1 == z1')=false:=by simpa using f1
          go_wp2
          go_quiet (fail)
          go_wp2
          go_ret
          exact ⟨ret_bool HV.out.symm,below_drewN HCD.out _⟩
        ·have f0':(z0 == z0')=false:=by simpa using f0
         go_wp2
         go_quiet (fail)
         go_wp2
         go_ret
         exact ⟨ret_bool HV.out.symm,below_drewN HCD.out _⟩
      ·have HG:=hide (HGO.out (by
        rw [List.take_of_length_le (by omega),List.take_of_length_le (by omega)] at hT
        exact hT))
       have HCE:=hide (And.intro HCD.out (And.intro (HC.out.2.1.below HD.out) (HC.out.2.2.below HD.out)))
       clear hT HGO HNO
       go_wp2
       go_roundw
       case rel=>exact ⟨m+1,by omega,by go_num,HG.out,HCE.out⟩
       case measure=>simp [intOf];omega
    ·have HV:=hide (show r=true from by
      rw [HR.out]
      simp only [decide_eq_true_eq]
      rw [List.take_of_length_le (by simp;omega),List.take_of_length_le (by simp;omega)] at hT
      exact ⟨HPE.out,hT⟩)
     clear hT
     go_wp2
     go_ret
     exact ⟨ret_bool HV.out.symm,HC.out.1⟩
set_option maxHeartbeats 4000000 in
theorem SameLayout_any (L:Lay) (a0:Option Addr) (c0:Nat) (xs:List PB) (a2:Option Addr) (c2:Nat) (a5:Option Addr) (c5:Nat) (ts:List TB) (L':Lay) (a0':Option Addr) (c0':Nat) (xs':List PB) (a2':Option Addr) (c2':Nat) (a5':Option Addr) (c5':Nat) (ts':List TB) (w:World) (h:LyT w L a0 c0 xs a2 c2 a5 c5 ts) (h':LyT w L' a0' c0' xs' a2' c2' a5' c5' ts'):
 Calls Tryz.prog 12 #[.agg #[.slice a0 xs.length c0,.int .i64 L.stack,.slice a2 L.slots.length c2,.int .i64 L.flash,.int .i64 L.ram,.slice a5 ts.length c5],.agg #[.slice a0' xs'.length c0',.int .i64 L'.stack,.slice a2' L'.slots.length c2',.int .i64 L'.flash,.int .i64 L'.ram,.slice a5' ts'.length c5']] w fun e w'=>e=.returned (.bool (decide (L=L')))∧Below w.heap.size w w':=by
 have hps:=h.ps
 have hps':=h'.ps
 have htt:=h.tt
 have htt':=h'.tt
 have HE1:=hide (fun (W:World) (hb:Below w.heap.size w W)=>l5SameNums_any a2 a2' L.slots.length c2 L'.slots.length c2' L.slots L'.slots W (h.s.below hb) (h'.s.below hb))
 have HE2:=hide (fun (W:World) (hb:Below w.heap.size w W)=>l5SamePlaces_any a0 xs.length c0 xs L.stack a2 L.slots.length c2 L.flash L.ram a5 ts.length c5 ts a0' xs'.length c0' xs' L'.stack a2' L'.slots.length c2' L'.flash L'.ram a5' ts'.length c5' ts' W (h.p.below hb) (h.t.below hb) (h'.p.below hb) (h'.t.below hb))
 rw [hps,hps',htt,htt'] at HE2
 clear h h' hps hps' htt htt'
 obtain ⟨pl,st,sl,fl,rm,tg⟩:=L
 obtain ⟨pl',st',sl',fl',rm',tg'⟩:=L'
 dsimp only at HE1 HE2 ⊢
 obtain ⟨r,hr⟩:∃ r,r=decide ((⟨pl,st,sl,fl,rm,tg⟩:Lay)=⟨pl',st',sl',fl',rm',tg'⟩):=⟨_,rfl⟩
 rw [← hr]
 simp only [Lay.mk.injEq] at hr
 have HR:=hide hr
 clear hr
 have B0:Below w.heap.size w ((w.alloc (.cells #[.slice a0 xs.length c0,.int .i64 st,.slice a2 sl.length c2,.int .i64 fl,.int .i64 rm,.slice a5 ts.length c5] 32)).alloc (.cells #[.slice a0' xs'.length c0',.int .i64 st',.slice a2' sl'.length c2',.int .i64 fl',.int .i64 rm',.slice a5' ts'.length c5'] 32)):=((Below.refl _ _).alloc (Nat.le_refl _) _).alloc (by simp) _
 have u:=(Blk.new w #[.slice a0 xs.length c0,.int .i64 st,.slice a2 sl.length c2,.int .i64 fl,.int .i64 rm,.slice a5 ts.length c5] 32).alloc (.cells #[.slice a0' xs'.length c0',.int .i64 st',.slice a2' sl'.length c2',.int .i64 fl',.int .i64 rm',.slice a5' ts'.length c5'] 32)
 have v:=Blk.new (w.alloc (.cells #[.slice a0 xs.length c0,.int .i64 st,.slice a2 sl.length c2,.int .i64 fl,.int .i64 rm,.slice a5 ts.length c5] 32)) #[.slice a0' xs'.length c0',.int .i64 st',.slice a2' sl'.length c2',.int .i64 fl',.int .i64 rm',.slice a5' ts'.length c5'] 32
 simp only [World.size_alloc] at v
 have HK:=hide (And.intro B0 (And.intro u v))
 clear u v B0
 go_enter Tryz.func12,Tryz.ntmps12
 go_wp2_with fail
 refine (HE2.out _ HK.out.1).mono ?_
 rintro e w1 ⟨rfl,hb1⟩
 have HK1:=hide (And.intro (HK.out.1.trans (hb1.mono HK.out.1.size)) (And.intro (HK.out.2.1.below hb1) (HK.out.2.2.below hb1)))
 clear hb1 HK
 by_cases k0:pl=pl'∧tg=tg'
 rotate_left
 ·rw [decide_eq_false k0]
  have HV:=hide (show r=false by rw [HR.out,decide_eq_false_iff_not];exact fun e=>k0 ⟨e.1,e.2.2.2.2.2⟩)
  clear HR HE1 HE2
  go_wp2
  go_ret
  exact ⟨ret_bool HV.out.symm,HK1.out.1⟩
 rw [decide_eq_true k0]
 have HC0:=hide k0
 clear k0
 obtain ⟨p0,p1,p2,p3,p4,p5⟩:=(HK1.out.2.1).ly6
 obtain ⟨q0,q1,q2,q3,q4,q5⟩:=(HK1.out.2.2).ly6
 by_cases k1:st=st'
 rotate_left
 ·have g1:(st == st')=false:=by simpa using k1
  have HV:=hide (show r=false by rw [HR.out];simp [k1])
  clear HR HE1 HE2
  go_wp2
  go_ret
  exact ⟨ret_bool HV.out.symm,HK1.out.1⟩
 have g1:(st == st')=true:=by simpa using k1
 have HC1:=hide k1
 clear k1
 go_wp2_with fail
 refine (HE1.out _ HK1.out.1).mono ?_
 rintro e w2 ⟨rfl,hb2⟩
 have HK2:=hide (And.intro (HK1.out.1.trans (hb2.mono HK1.out.1.size)) (And.intro (HK1.out.2.1.below hb2) (HK1.out.2.2.below hb2)))
 clear hb2 p0 p1 p2 p3 p4 p5 q0 q1 q2 q3 q4 q5
 by_cases k4:sl=sl'
 rotate_left
 ·rw [decide_eq_false k4]
  have HV:=hide (show r=false by rw [HR.out];simp [k4])
  clear HR HE1 HE2
  go_wp2
  go_ret
  exact ⟨ret_bool HV.out.symm,HK2.out.1⟩
 rw [decide_eq_true k4]
 have HC4:=hide k4
 clear k4
 obtain ⟨p0,p1,p2,p3,p4,p5⟩:=(HK2.out.2.1).ly6
 obtain ⟨q0,q1,q2,q3,q4,q5⟩:=(HK2.out.2.2).ly6
 by_cases k2:fl=fl'
 rotate_left
 ·have g2:(fl == fl')=false:=by simpa using k2
  have HV:=hide (show r=false by rw [HR.out];simp [k2])
  clear HR HE1 HE2
  go_wp2
  go_ret
  exact ⟨ret_bool HV.out.symm,HK2.out.1⟩
 have g2:(fl == fl')=true:=by simpa using k2
 have HC2:=hide k2
 clear k2
 by_cases k3:rm=rm'
 rotate_left
 ·have g3:(rm == rm')=false:=by simpa using k3
  have HV:=hide (show r=false by rw [HR.out];simp [k3])
  clear HR HE1 HE2
  go_wp2
  go_ret
  exact ⟨ret_bool HV.out.symm,HK2.out.1⟩
 have g3:(rm == rm')=true:=by simpa using k3
 have HV:=hide (show r=true by rw [HR.out];simp [HC0.out.1,HC0.out.2,HC1.out,HC2.out,k3,HC4.out])
 clear HR HE1 HE2 k3
 go_wp2
 go_ret
 exact ⟨ret_bool HV.out.symm,HK2.out.1⟩
theorem SlB.congr {S:Nat→Prop} {w:World} {a:Option Addr} {n:Nat} {f f':Nat→Rw3} (h:SlB S w a n f) (e:∀ i,i<n→f' i=f i):SlB S w a n f':=
 ⟨fun hn=>by obtain ⟨g,o,cs,t,ha,hs,hb,hl⟩:=h.head hn;exact ⟨g,o,cs,t,ha,hs,hb,fun i hi=>by rw [e i hi];exact hl i hi⟩,fun i hi=>by rw [e i hi];exact h.rows i hi⟩
theorem LayO.kept {W W':World} {base:Nat} {L:Lay} {a0:Option Addr} {c0:Nat} {xs:List PB} {a2:Option Addr} {c2:Nat} {a5:Option Addr} {c5:Nat} {ts:List TB} {S:Nat→Prop} (h:LayO W base L a0 c0 xs a2 c2 a5 c5 ts) (t:Turn S W W') (hs:∀ j,base≤j→j<W.heap.size→¬ S j):LayO W' base L a0 c0 xs a2 c2 a5 c5 ts where
 p:=h.p.kept t (fun k hk=>hs k (h.p.lt.1 k hk).1 (h.p.lt.1 k hk).2) (fun x hx k hk=>hs k (h.p.lt.2 x hx k hk).1 (h.p.lt.2 x hx k hk).2)
 ps:=h.ps
 s:=h.s.kept t (fun k hk=>hs k (h.s.lt k hk).1 (h.s.lt k hk).2)
 t:=h.t.kept t (fun k hk=>hs k (h.t.lt.1 k hk).1 (h.t.lt.1 k hk).2) (fun x hx k hk=>hs k (h.t.lt.2 x hx k hk).1 (h.t.lt.2 x hx k hk).2)
 tt:=h.tt
 sp:=h.sp
theorem LayO.below' {W W':World} {base:Nat} {L:Lay} {a0:Option Addr} {c0:Nat} {xs:List PB} {a2:Option Addr} {c2:Nat} {a5:Option Addr} {c5:Nat} {ts:List TB} (h:LayO W base L a0 c0 xs a2 c2 a5 c5 ts) (hb:Below W.heap.size W W'):LayO W' base L a0 c0 xs a2 c2 a5 c5 ts:=h.kept (S:=fun _=>False) (turn_below hb) (fun _ _ _ s=>s)
theorem LayO.mono {W:World} {base base':Nat} {L:Lay} {a0:Option Addr} {c0:Nat} {xs:List PB} {a2:Option Addr} {c2:Nat} {a5:Option Addr} {c5:Nat} {ts:List TB} (h:LayO W base L a0 c0 xs a2 c2 a5 c5 ts) (hb:base'≤base):LayO W base' L a0 c0 xs a2 c2 a5 c5 ts:=⟨h.p.mono hb hb,h.ps,h.s.mono hb,h.t.mono hb hb,h.tt,h.sp⟩
def Zb (zc:Array Value) (t:TypeId) (W0 X:World) (o:Option Nat):Prop:=Below W0.heap.size W0 X∧∀ g,o=some g→W0.heap.size≤g∧Blk X g zc t
section
variable {zc:Array Value} {t:TypeId} {W0 X Y:World} {o:Option Nat}
theorem zb_new (zc:Array Value) (t:TypeId) (W0:World):Zb zc t W0 W0 none:=⟨Below.refl _ _,fun g e=>by cases e⟩
theorem Zb.below (h:Zb zc t W0 X o) (hb:Below X.heap.size X Y):Zb zc t W0 Y o:=⟨h.1.trans (hb.mono h.1.size),fun g e=>⟨(h.2 g e).1,(h.2 g e).2.below hb⟩⟩
theorem Zb.drew (h:Zb zc t W0 X o):Zb zc t W0 X.drew o:=⟨h.1.drew,fun g e=>⟨(h.2 g e).1,(h.2 g e).2⟩⟩
theorem Zb.box (h:Zb zc t W0 X none):Zb zc t W0 (X.alloc (.cells zc t)) (some X.heap.size):=⟨h.1.alloc h.1.size _,fun g e=>by cases e;exact ⟨h.1.size,Blk.new X zc t⟩⟩
end
structure Z2 (zc:Array Value) (t:TypeId) (n:Nat) (ms:List Md) (W0 X:World) (o:Option Nat) (g:Nat) (m:List Md):Prop where
 z:Zb zc t W0 X o
 r:RowM X g n ms m
 l:m.length=n
section
variable {zc:Array Value} {t:TypeId} {n g:Nat} {ms m:List Md} {W0 X Y:World} {o:Option Nat}
theorem Z2.below (h:Z2 zc t n ms W0 X o g m) (hb:Below X.heap.size X Y):Z2 zc t n ms W0 Y o g m:=⟨h.z.below hb,h.r.below hb,h.l⟩
theorem Z2.drew (h:Z2 zc t n ms W0 X o g m):Z2 zc t n ms W0 X.drew o g m:=⟨h.z.drew,h.r.below (Below.refl _ _).drew,h.l⟩
theorem Z2.box (h:Z2 zc t n ms W0 X none g m):Z2 zc t n ms W0 (X.alloc (.cells zc t)) (some X.heap.size) g m:=⟨h.z.box,h.r.below ((Below.refl _ _).alloc (Nat.le_refl _) _),h.l⟩
end
structure Z3 (zc:Array Value) (t:TypeId) (base:Nat) (L:Lay) (W0 X:World) (o:Option Nat) (a0:Option Addr) (c0:Nat) (xs:List PB) (a2:Option Addr) (c2:Nat) (a5:Option Addr) (c5:Nat) (ts:List TB):Prop where
 z:Zb zc t W0 X o
 l:∃ b,base≤b∧LayO X b L a0 c0 xs a2 c2 a5 c5 ts∧∀ g,o=some g→g<b
structure Fin5 (base:Nat) (L:Lay) (W0:World) (gb:Nat) (a0:Option Addr) (c0:Nat) (xs:List PB) (a2:Option Addr) (c2:Nat) (a5:Option Addr) (c5:Nat) (ts:List TB) (W:World):Prop where
 b:Below W0.heap.size W0 W
 g:W0.heap.size≤gb
 k:Blk W gb #[.slice a0 xs.length c0,.int .i64 L.stack,.slice a2 L.slots.length c2,.int .i64 L.flash,.int .i64 L.ram,.slice a5 ts.length c5] 32
 l:LayO W base L a0 c0 xs a2 c2 a5 c5 ts
section
variable {base:Nat} {L:Lay} {W0 X:World} {gb:Nat} {a0:Option Addr} {c0:Nat} {xs:List PB} {a2:Option Addr} {c2:Nat} {a5:Option Addr} {c5:Nat} {ts:List TB}
theorem Z3.fin {zc:Array Value} {t:TypeId} (h:Z3 zc t base L W0 X none a0 c0 xs a2 c2 a5 c5 ts):Fin5 base L W0 X.heap.size a0 c0 xs a2 c2 a5 c5 ts (X.alloc (.cells #[.slice a0 xs.length c0,.int .i64 L.stack,.slice a2 L.slots.length c2,.int .i64 L.flash,.int .i64 L.ram,.slice a5 ts.length c5] 32)):=by
 have hb:Below X.heap.size X (X.alloc (.cells #[.slice a0 xs.length c0,.int .i64 L.stack,.slice a2 L.slots.length c2,.int .i64 L.flash,.int .i64 L.ram,.slice a5 ts.length c5] 32)):=(Below.refl _ _).alloc (Nat.le_refl _) _
 obtain ⟨b,hb1,hl,_⟩:=h.l
 exact ⟨h.z.1.trans (hb.mono h.z.1.size),h.z.1.size,Blk.new X _ _,(hl.mono hb1).below' hb⟩
end
structure Kp (cf:Array Value) (tc:TypeId) (base:Nat) (L:Lay) (w W5:World) (gb:Nat) (a0:Option Addr) (c0:Nat) (xs:List PB) (a2:Option Addr) (c2:Nat) (a5:Option Addr) (c5:Nat) (ts:List TB) (W:World):Prop where
 be:Below w.heap.size w W
 kc:Blk W w.heap.size cf tc
 kw:Blk W gb #[.slice a0 xs.length c0,.int .i64 L.stack,.slice a2 L.slots.length c2,.int .i64 L.flash,.int .i64 L.ram,.slice a5 ts.length c5] 32
 lw:LayO W base L a0 c0 xs a2 c2 a5 c5 ts
 l5:LayO W5 base L a0 c0 xs a2 c2 a5 c5 ts
 n5:w.heap.size<W5.heap.size∧gb<W5.heap.size
 w5:W5.heap.size≤W.heap.size
section
variable {cf:Array Value} {tc:TypeId} {base:Nat} {L:Lay} {w W5 W W':World} {gb:Nat} {a0:Option Addr} {c0:Nat} {xs:List PB} {a2:Option Addr} {c2:Nat} {a5:Option Addr} {c5:Nat} {ts:List TB}
theorem Kp.turn {S:Nat→Prop} (h:Kp cf tc base L w W5 gb a0 c0 xs a2 c2 a5 c5 ts W) (t:Turn S W W') (hS:∀ j,S j→W5.heap.size≤j):Kp cf tc base L w W5 gb a0 c0 xs a2 c2 a5 c5 ts W' where
 be:=below_turn h.be t (fun k s=>by have:=hS k s;have:=h.n5.1;omega) h.be.size
 kc:=turn_blk t h.kc (fun s=>by have:=hS _ s;have:=h.n5.1;omega)
 kw:=turn_blk t h.kw (fun s=>by have:=hS _ s;have:=h.n5.2;omega)
 lw:=by
  refine ⟨h.lw.p.kept t (fun k hk s=>?_) (fun x hx k hk s=>?_),h.lw.ps,h.lw.s.kept t (fun k hk s=>?_),h.lw.t.kept t (fun k hk s=>?_) (fun x hx k hk s=>?_),h.lw.tt,h.lw.sp⟩
  ·have:=(h.l5.p.lt.1 k hk).2;have:=hS k s;omega
  ·have:=(h.l5.p.lt.2 x hx k hk).2;have:=hS k s;omega
  ·have:=(h.l5.s.lt k hk).2;have:=hS k s;omega
  ·have:=(h.l5.t.lt.1 k hk).2;have:=hS k s;omega
  ·have:=(h.l5.t.lt.2 x hx k hk).2;have:=hS k s;omega
 l5:=h.l5
 n5:=h.n5
 w5:=Nat.le_trans h.w5 t.size
theorem Kp.below (h:Kp cf tc base L w W5 gb a0 c0 xs a2 c2 a5 c5 ts W) (hb:Below W.heap.size W W'):Kp cf tc base L w W5 gb a0 c0 xs a2 c2 a5 c5 ts W':=h.turn (S:=fun _=>False) (turn_below hb) (fun _ s=>absurd s id)
end
set_option maxHeartbeats 1000000 in
theorem stackEnd_any (L:Lay) (a0:Option Addr) (c0:Nat) (xs:List PB) (a2:Option Addr) (c2:Nat) (a5:Option Addr) (c5:Nat) (ts:List TB) (w:World) (h:LyT w L a0 c0 xs a2 c2 a5 c5 ts):
 Calls Tryz.prog 178 #[.agg #[.slice a0 xs.length c0,.int .i64 L.stack,.slice a2 L.slots.length c2,.int .i64 L.flash,.int .i64 L.ram,.slice a5 ts.length c5]] w fun e w'=>e=.returned (.int .i64 (endOf L))∧Below w.heap.size w w':=by
 have HB:=hide (show Below w.heap.size w (w.alloc (.cells #[.slice a0 xs.length c0,.int .i64 L.stack,.slice a2 L.slots.length c2,.int .i64 L.flash,.int .i64 L.ram,.slice a5 ts.length c5] 32)) from (Below.refl _ _).alloc (Nat.le_refl _) _)
 have hs:=h.s.below HB.out
 have hmx:=h.s.2.1
 unfold maxLen at hmx
 unfold endOf
 by_cases c:L.slots=[]
 ·rw [if_pos c]
  have hl:L.slots.length=0:=by rw [c];rfl
  rw [hl]
  rw [hl] at HB
  go_enter Tryz.func178,Tryz.ntmps178
  go_wp2
  go_ret
  exact ⟨rfl,HB.out⟩
 ·rw [if_neg c]
  have hl:0<L.slots.length:=List.length_pos_iff.2 c
  have hl':(0:Int)<(L.slots.length:Int):=by omega
  obtain ⟨b,off,rfl,hc⟩:=hs.2.2.2.1 (by omega)
  have q:=hc 0 hl
  rw [Nat.add_zero] at q
  generalize L.slots.length=n at *
  generalize L.slots.getD 0 0=z at *
  clear hs hc c
  go_enter Tryz.func178,Tryz.ntmps178
  go_wp2
  go_ret
  exact ⟨rfl,HB.out⟩
def pcm (ms:List Md) (m b:Int):Int:=if 0≤m∧m<(ms.length:Int) then pcn (ms.getD m.toNat zMd).tn (ms.getD m.toNat zMd).bn (ms.getD m.toNat zMd).bl b else -1
set_option maxHeartbeats 1000000 in
theorem l6There_any (a:Option Addr) (n cap:Nat) (ms:List Md) (m b:Int) (w:World) (h:MS w a n cap ms):
 Calls Tryz.prog 109 #[.slice a n cap,.int .i64 m,.int .i64 b] w fun e w'=>e=.returned (.bool (decide (0≤pcm ms m b)))∧Below w.heap.size w w':=by
 have hn:=h.1
 have hm:=h.2.1
 unfold maxLen at hm
 have HB:=hide (Below.refl w.heap.size w)
 by_cases c1:m<0
 ·have HP:=hide (show decide (0≤pcm ms m b)=false by unfold pcm;rw [if_neg (by omega)];rfl)
  rw [HP.out]
  clear hn
  go_enter Tryz.func109,Tryz.ntmps109
  go_wp2
  go_ret
  exact ⟨rfl,HB.out⟩
 ·by_cases c2:(n:Int)≤m
  ·have HP:=hide (show decide (0≤pcm ms m b)=false by unfold pcm;rw [if_neg (by omega)];rfl)
   rw [HP.out]
   clear hn
   go_enter Tryz.func109,Tryz.ntmps109
   go_wp2
   go_ret
   exact ⟨rfl,HB.out⟩
  ·have HP:=hide (show pcm ms m b=pcn (ms.getD m.toNat zMd).tn (ms.getD m.toNat zMd).bn (ms.getD m.toNat zMd).bl b by unfold pcm;rw [if_pos (by omega)])
   rw [HP.out]
   clear HP
   obtain ⟨g,off,rfl,q0,q1,q2,q3,q4,q5,q6,q7⟩:=h.at m.toNat (by omega)
   have hmt:=h.2.2.2.1 m.toNat (by omega)
   generalize ms.getD m.toNat zMd=M at *
   have HC:=hide (l4Piece_any M.nm M.ta M.tn M.tc M.ba M.bn M.bc M.bl (.slice M.da M.dn M.dc) (.slice M.ra M.rn M.rc) (.slice M.ia M.im M.ic) (.slice M.ea M.en M.ec) M.bss b w hmt.t.2.1 hmt.b)
   have c1':0≤m:=by omega
   have c2':m<(n:Int):=by omega
   clear hn hmt h
   go_enter Tryz.func109,Tryz.ntmps109
   go_wp2_with fail
   refine HC.out.mono ?_
   rintro e w' ⟨xa,xn,xc,ok,rfl,ho,_,_,hB⟩
   have HO:=hide ho
   clear ho
   go_wp2
   go_ret
   exact ⟨ret_bool HO.out,hB⟩
set_option maxHeartbeats 1000000 in
theorem isPiece_any (a:Option Addr) (n cap:Nat) (ms:List Md) (m b:Int) (w:World) (h:MS w a n cap ms):
 Calls Tryz.prog 111 #[.slice a n cap,.int .i64 m,.int .i64 b] w fun e w'=>e=.returned (.bool (decide (0≤pcm ms m b)))∧Below w.heap.size w w':=by
 have hn:=h.1
 have hm:=h.2.1
 unfold maxLen at hm
 have HB:=hide (Below.refl w.heap.size w)
 by_cases c1:m<0
 ·have HP:=hide (show decide (0≤pcm ms m b)=false by unfold pcm;rw [if_neg (by omega)];rfl)
  rw [HP.out]
  clear hn
  have HU:=hide (isUpTo_any m ((n:Int) - 1))
  go_enter Tryz.func111,Tryz.ntmps111
  go_wp2_with (go_at_call 63;refine (HU.out _).mono ?_;rintro e w2 ⟨rfl,rfl⟩;rw [decide_eq_false (by omega)])
  go_ret
  exact ⟨rfl,HB.out⟩
 ·by_cases c2:(n:Int)≤m
  ·have HP:=hide (show decide (0≤pcm ms m b)=false by unfold pcm;rw [if_neg (by omega)];rfl)
   rw [HP.out]
   clear hn
   have HU:=hide (isUpTo_any m ((n:Int) - 1))
   go_enter Tryz.func111,Tryz.ntmps111
   go_wp2_with (go_at_call 63;refine (HU.out _).mono ?_;rintro e w2 ⟨rfl,rfl⟩;rw [decide_eq_false (by omega)])
   go_ret
   exact ⟨rfl,HB.out⟩
  ·have HP:=hide (show pcm ms m b=pcn (ms.getD m.toNat zMd).tn (ms.getD m.toNat zMd).bn (ms.getD m.toNat zMd).bl b by unfold pcm;rw [if_pos (by omega)])
   rw [HP.out]
   clear HP
   obtain ⟨g,off,rfl,q0,q1,q2,q3,q4,q5,q6,q7⟩:=h.at m.toNat (by omega)
   have hmt:=h.2.2.2.1 m.toNat (by omega)
   generalize ms.getD m.toNat zMd=M at *
   have HC:=hide (pieceOf_any M.nm M.ta M.tn M.tc M.ba M.bn M.bc M.bl (.slice M.da M.dn M.dc) (.slice M.ra M.rn M.rc) (.slice M.ia M.im M.ic) (.slice M.ea M.en M.ec) M.bss b w hmt.t.2.1 hmt.b)
   have c1':0≤m:=by omega
   have c2':m<(n:Int):=by omega
   clear hn hmt h
   have HU:=hide (isUpTo_any m ((n:Int) - 1))
   go_enter Tryz.func111,Tryz.ntmps111
   go_wp2_with (go_at_call 63;refine (HU.out _).mono ?_;rintro e w2 ⟨rfl,rfl⟩;rw [decide_eq_true (by omega)])
   refine HC.out.mono ?_
   rintro e w' ⟨xa,xn,xc,ok,rfl,ho,_,_,hB⟩
   have HO:=hide ho
   clear ho
   go_wp2
   go_ret
   exact ⟨ret_bool HO.out,hB⟩
def orgn (L:Lay) (P:PB) (b s:Int):Int:=if b=-1 then P.1.text else if s=-1 then P.1.banks.getD b.toNat 0 else L.slots.getD s.toNat 0
set_option maxHeartbeats 2000000 in
theorem originOf_any (L:Lay) (a0:Option Addr) (c0:Nat) (xs:List PB) (a2:Option Addr) (c2:Nat) (a5:Option Addr) (c5:Nat) (ts:List TB) (m b at' s:Int) (w:World) (h:LyT w L a0 c0 xs a2 c2 a5 c5 ts)
 (hm0:0≤m) (hm1:m<(xs.length:Int)) (hb:b=-1∨(0≤b∧b<((xs.getD m.toNat zPB).1.banks.length:Int))) (hs:s=-1∨(b≠-1∧0≤s∧s<(L.slots.length:Int))):
 Calls Tryz.prog 179 #[.agg #[.slice a0 xs.length c0,.int .i64 L.stack,.slice a2 L.slots.length c2,.int .i64 L.flash,.int .i64 L.ram,.slice a5 ts.length c5],.agg #[.int .i64 m,.int .i64 b,.int .i64 at'],.int .i64 s] w fun e w'=>e=.returned (.int .i64 (orgn L (xs.getD m.toNat zPB) b s))∧Below w.heap.size w w':=by
 obtain ⟨W,hW⟩:∃ W,W=(w.alloc (.cells #[.slice a0 xs.length c0,.int .i64 L.stack,.slice a2 L.slots.length c2,.int .i64 L.flash,.int .i64 L.ram,.slice a5 ts.length c5] 32)).alloc (.cells #[.int .i64 m,.int .i64 b,.int .i64 at'] 72):=⟨_,rfl⟩
 have hB:Below w.heap.size w W:=by rw [hW];exact ((Below.refl _ _).alloc (Nat.le_refl _) _).alloc (by simp) _
 have HB:=hide hB
 have h1:=h.below hB
 have k0:Blk W w.heap.size #[.slice a0 xs.length c0,.int .i64 L.stack,.slice a2 L.slots.length c2,.int .i64 L.flash,.int .i64 L.ram,.slice a5 ts.length c5] 32:=by rw [hW];exact (Blk.new w _ _).alloc _
 have k1:Blk W (w.heap.size+1) #[.int .i64 m,.int .i64 b,.int .i64 at'] 72:=by rw [hW];have:=Blk.new (w.alloc (.cells #[.slice a0 xs.length c0,.int .i64 L.stack,.slice a2 L.slots.length c2,.int .i64 L.flash,.int .i64 L.ram,.slice a5 ts.length c5] 32)) #[.int .i64 m,.int .i64 b,.int .i64 at'] 72;simpa using this
 have hz:W.heap.size=w.heap.size+1+1:=by rw [hW];simp
 have HZ:=hide hz
 clear hz
 have d0:W.cell? ⟨w.heap.size,0,none⟩=some (.slice a0 xs.length c0):=k0.cell 0
 have d2:W.cell? ⟨w.heap.size,2,none⟩=some (.slice a2 L.slots.length c2):=k0.cell 2
 have t0:W.cell? ⟨w.heap.size+1,0,none⟩=some (.int .i64 m):=k1.cell 0
 have t1:W.cell? ⟨w.heap.size+1,1,none⟩=some (.int .i64 b):=k1.cell 1
 obtain ⟨g,off,rfl,q0,q1,q2,q3⟩:=h1.p.at m.toNat (by omega)
 have hbk:=h1.p.2.2.2.1 m.toNat (by omega)
 have hsl:=h1.s
 have hmx:=h1.p.2.1
 have hmy:=hsl.2.1
 have hmz:=hbk.2.1
 unfold maxLen at hmx hmy hmz
 unfold svP at q1
 generalize xs.getD m.toNat zPB=P at *
 have HW:=hide hW
 clear hW hB k0 k1 h1 h
 rcases hb with rfl | ⟨hb0,hb1⟩
 ·obtain rfl:s=-1:=by rcases hs with h | h;exact h;exact absurd rfl h.1
  have HO:=hide (show orgn L P (-1) (-1)=P.1.text from rfl)
  rw [HO.out]
  clear hs hbk hsl
  generalize P.1.text=x at *
  generalize xs.length=n at *
  generalize L.slots.length=l at *
  go_enter Tryz.func179,Tryz.ntmps179
  go_wp2_with (rw [← HW.out])
  go_ret
  exact ⟨rfl,(by first | exact HB.out | exact HB.out.drew)⟩
 ·have hb2:¬ b=-1:=by omega
  have hb3:(b == -1)=false:=by simpa using hb2
  rcases hs with rfl | ⟨_,hs0,hs1⟩
  ·have HO:=hide (show orgn L P b (-1)=P.1.banks.getD b.toNat 0 by unfold orgn;rw [if_neg hb2,if_pos rfl])
   rw [HO.out]
   obtain ⟨u,v,e,hc⟩:=hbk.2.2.2.1 (by omega)
   have qq:=hc b.toNat (by omega)
   rw [e] at q1
   clear hbk hsl e hc HO
   generalize P.1.banks.getD b.toNat 0=x at *
   generalize P.1.banks.length=y at *
   generalize xs.length=n at *
   generalize L.slots.length=l at *
   go_enter Tryz.func179,Tryz.ntmps179
   go_wp2_with (rw [← HW.out])
   go_region_held3 (fun w'=>w'.cell? ⟨w.heap.size,0,none⟩=some (.slice (some ⟨g,off,none⟩) n c0)∧w'.cell? ⟨w.heap.size+1,0,none⟩=some (.int .i64 m)∧w'.cell? ⟨w.heap.size+1,1,none⟩=some (.int .i64 b)∧w'.cell? ⟨g,off+m.toNat * 4+1,none⟩=some (.slice (some ⟨u,v,none⟩) y P.2.2)∧w'.cell? ⟨u,v+b.toNat,none⟩=some (.int .i64 x)) (go_keep) (fail)
   go_wp2
   go_ret
   exact ⟨rfl,(by first | exact HB.out | exact HB.out.drew)⟩
  ·have hs2:¬ s=-1:=by omega
   have hs3:(s == -1)=false:=by simpa using hs2
   have HO:=hide (show orgn L P b s=L.slots.getD s.toNat 0 by unfold orgn;rw [if_neg hb2,if_neg hs2])
   rw [HO.out]
   obtain ⟨u,v,e,hc⟩:=hsl.2.2.2.1 (by omega)
   have qq:=hc s.toNat (by omega)
   rw [e] at d2
   clear hbk hsl e hc HO
   generalize L.slots.getD s.toNat 0=x at *
   generalize P.1.banks.length=y at *
   generalize xs.length=n at *
   generalize L.slots.length=l at *
   go_enter Tryz.func179,Tryz.ntmps179
   go_wp2_with (rw [← HW.out])
   go_ret
   exact ⟨rfl,(by first | exact HB.out | exact HB.out.drew)⟩
set_option maxHeartbeats 2000000 in
theorem l6Origin_any (L:Lay) (a0:Option Addr) (c0:Nat) (xs:List PB) (a2:Option Addr) (c2:Nat) (a5:Option Addr) (c5:Nat) (ts:List TB) (m b at' s:Int) (w:World) (h:LyT w L a0 c0 xs a2 c2 a5 c5 ts)
 (hm0:0≤m) (hm1:m<(xs.length:Int)) (hb:b=-1∨(0≤b∧b<((xs.getD m.toNat zPB).1.banks.length:Int))) (hs:s=-1∨(b≠-1∧0≤s∧s<(L.slots.length:Int))):
 Calls Tryz.prog 116 #[.agg #[.slice a0 xs.length c0,.int .i64 L.stack,.slice a2 L.slots.length c2,.int .i64 L.flash,.int .i64 L.ram,.slice a5 ts.length c5],.agg #[.int .i64 m,.int .i64 b,.int .i64 at'],.int .i64 s] w fun e w'=>e=.returned (.int .i64 (orgn L (xs.getD m.toNat zPB) b s))∧Below w.heap.size w w':=by
 obtain ⟨W,hW⟩:∃ W,W=(w.alloc (.cells #[.slice a0 xs.length c0,.int .i64 L.stack,.slice a2 L.slots.length c2,.int .i64 L.flash,.int .i64 L.ram,.slice a5 ts.length c5] 32)).alloc (.cells #[.int .i64 m,.int .i64 b,.int .i64 at'] 72):=⟨_,rfl⟩
 have hB:Below w.heap.size w W:=by rw [hW];exact ((Below.refl _ _).alloc (Nat.le_refl _) _).alloc (by simp) _
 have HB:=hide hB
 have h1:=h.below hB
 have k0:Blk W w.heap.size #[.slice a0 xs.length c0,.int .i64 L.stack,.slice a2 L.slots.length c2,.int .i64 L.flash,.int .i64 L.ram,.slice a5 ts.length c5] 32:=by rw [hW];exact (Blk.new w _ _).alloc _
 have k1:Blk W (w.heap.size+1) #[.int .i64 m,.int .i64 b,.int .i64 at'] 72:=by rw [hW];have:=Blk.new (w.alloc (.cells #[.slice a0 xs.length c0,.int .i64 L.stack,.slice a2 L.slots.length c2,.int .i64 L.flash,.int .i64 L.ram,.slice a5 ts.length c5] 32)) #[.int .i64 m,.int .i64 b,.int .i64 at'] 72;simpa using this
 have hz:W.heap.size=w.heap.size+1+1:=by rw [hW];simp
 have HZ:=hide hz
 clear hz
 have d0:W.cell? ⟨w.heap.size,0,none⟩=some (.slice a0 xs.length c0):=k0.cell 0
 have d2:W.cell? ⟨w.heap.size,2,none⟩=some (.slice a2 L.slots.length c2):=k0.cell 2
 have t0:W.cell? ⟨w.heap.size+1,0,none⟩=some (.int .i64 m):=k1.cell 0
 have t1:W.cell? ⟨w.heap.size+1,1,none⟩=some (.int .i64 b):=k1.cell 1
 obtain ⟨g,off,rfl,q0,q1,q2,q3⟩:=h1.p.at m.toNat (by omega)
 have hbk:=h1.p.2.2.2.1 m.toNat (by omega)
 have hsl:=h1.s
 have hmx:=h1.p.2.1
 have hmy:=hsl.2.1
 have hmz:=hbk.2.1
 unfold maxLen at hmx hmy hmz
 unfold svP at q1
 generalize xs.getD m.toNat zPB=P at *
 have kA:=k0.alloc (.cells #[.int .i64 P.1.text,.slice P.2.1 P.1.banks.length P.2.2,.int .i64 P.1.data,.int .i64 P.1.size] 43)
 have kB:=k1.alloc (.cells #[.int .i64 P.1.text,.slice P.2.1 P.1.banks.length P.2.2,.int .i64 P.1.data,.int .i64 P.1.size] 43)
 have kC:=Blk.new W #[.int .i64 P.1.text,.slice P.2.1 P.1.banks.length P.2.2,.int .i64 P.1.data,.int .i64 P.1.size] 43
 have v2:(W.alloc (.cells #[.int .i64 P.1.text,.slice P.2.1 P.1.banks.length P.2.2,.int .i64 P.1.data,.int .i64 P.1.size] 43)).cell? ⟨w.heap.size,2,none⟩=some (.slice a2 L.slots.length c2):=kA.cell 2
 have v1:(W.alloc (.cells #[.int .i64 P.1.text,.slice P.2.1 P.1.banks.length P.2.2,.int .i64 P.1.data,.int .i64 P.1.size] 43)).cell? ⟨w.heap.size+1,1,none⟩=some (.int .i64 b):=kB.cell 1
 have u0:(W.alloc (.cells #[.int .i64 P.1.text,.slice P.2.1 P.1.banks.length P.2.2,.int .i64 P.1.data,.int .i64 P.1.size] 43)).cell? ⟨W.heap.size,0,none⟩=some (.int .i64 P.1.text):=kC.cell 0
 have u1:(W.alloc (.cells #[.int .i64 P.1.text,.slice P.2.1 P.1.banks.length P.2.2,.int .i64 P.1.data,.int .i64 P.1.size] 43)).cell? ⟨W.heap.size,1,none⟩=some (.slice P.2.1 P.1.banks.length P.2.2):=kC.cell 1
 have HBV:=hide (show Below W.heap.size W (W.alloc (.cells #[.int .i64 P.1.text,.slice P.2.1 P.1.banks.length P.2.2,.int .i64 P.1.data,.int .i64 P.1.size] 43)) from (Below.refl _ _).alloc (Nat.le_refl _) _)
 have HBW:=hide (show Below w.heap.size w (W.alloc (.cells #[.int .i64 P.1.text,.slice P.2.1 P.1.banks.length P.2.2,.int .i64 P.1.data,.int .i64 P.1.size] 43)) from hB.alloc hB.size _)
 have HW:=hide hW
 clear hW hB k0 k1 h1 h kA kB kC
 rcases hb with rfl | ⟨hb0,hb1⟩
 ·obtain rfl:s=-1:=by rcases hs with h | h;exact h;exact absurd rfl h.1
  have HO:=hide (show orgn L P (-1) (-1)=P.1.text from rfl)
  rw [HO.out]
  clear hs hbk hsl
  generalize P.1.text=x at *
  generalize xs.length=n at *
  generalize L.slots.length=l at *
  go_enter Tryz.func116,Tryz.ntmps116
  go_wp2_with (rw [← HW.out])
  all_goals go_ret
  all_goals exact ⟨rfl,(by first | exact HBW.out | exact HBW.out.drew | exact HB.out | exact (HB.out.alloc HB.out.size _) | exact ((HB.out.alloc HB.out.size _).setCells (by omega) _))⟩
 ·have hb2:¬ b=-1:=by omega
  have hb3:(b == -1)=false:=by simpa using hb2
  rcases hs with rfl | ⟨_,hs0,hs1⟩
  ·have HO:=hide (show orgn L P b (-1)=P.1.banks.getD b.toNat 0 by unfold orgn;rw [if_neg hb2,if_pos rfl])
   rw [HO.out]
   obtain ⟨u,v,e,hc⟩:=hbk.2.2.2.1 (by omega)
   have qq:=hc b.toNat (by omega)
   have qv:=cell_below HBV.out qq
   rw [e] at q1
   rw [e] at u1 u0 v1 v2 qv HBW
   clear HBV
   clear hbk hsl e hc HO
   generalize P.1.banks.getD b.toNat 0=x at *
   generalize P.1.banks.length=y at *
   generalize xs.length=n at *
   generalize L.slots.length=l at *
   go_enter Tryz.func116,Tryz.ntmps116
   go_wp2_with (rw [← HW.out])
   all_goals go_ret
   all_goals exact ⟨rfl,(by first | exact HBW.out | exact HBW.out.drew | exact HB.out | exact (HB.out.alloc HB.out.size _) | exact ((HB.out.alloc HB.out.size _).setCells (by omega) _))⟩
  ·have hs2:¬ s=-1:=by omega
   have hs3:(s == -1)=false:=by simpa using hs2
   have HO:=hide (show orgn L P b s=L.slots.getD s.toNat 0 by unfold orgn;rw [if_neg hb2,if_neg hs2])
   rw [HO.out]
   obtain ⟨u,v,e,hc⟩:=hsl.2.2.2.1 (by omega)
   have qq:=hc s.toNat (by omega)
   have qv:=cell_below HBV.out qq
   rw [e] at d2 v2
   clear HBV
   clear hbk hsl e hc HO
   generalize L.slots.getD s.toNat 0=x at *
   generalize P.1.banks.length=y at *
   generalize xs.length=n at *
   generalize L.slots.length=l at *
   go_enter Tryz.func116,Tryz.ntmps116
   go_wp2_with (rw [← HW.out])
   all_goals go_ret
   all_goals exact ⟨rfl,(by first | exact HBW.out | exact HBW.out.drew | exact HB.out | exact (HB.out.alloc HB.out.size _) | exact ((HB.out.alloc HB.out.size _).setCells (by omega) _))⟩
theorem low_put4 (x:List Int) (k:Nat) (v:Int) (hk:k+4≤x.length):low (((put x k v 4).drop k).take 4)=v % 4294967296:=by
 have e:((put x k v 4).drop k).take 4=[bt v 0,bt v 1,bt v 2,bt v 3]:=by
  apply List.ext_getElem
  ·simp [put_len];omega
  ·intro i h1 h2
   simp at h2
   rw [List.getElem_take,List.getElem_drop]
   have hi:i=0∨i=1∨i=2∨i=3:=by omega
   rcases hi with rfl | rfl | rfl | rfl
   all_goals simp [put,List.getElem_set]
 rw [e]
 simp only [low]
 rw [bt0,bt1,bt2,bt3]
 omega
theorem or_rowle {base n cap:Nat} {a:Option Addr} {w:World} {rs:List Rg} (h:ORg w base (.slice a n cap) rs) (k:Nat) (hk:(Value.slice a n cap).ownBlock=some k):base≤k:=by
 obtain ⟨hl,⟨h0,_⟩ | ⟨g',cap',cur,hv,hg,hh,h1,h2,h3,h4⟩⟩:=h.1
 ·rw [h0] at hk;cases hk
 ·rw [hv] at hk
  have e:some g'=some k:=hk
  injection e with e
  omega
set_option maxHeartbeats 2000000 in
theorem l6With_any (A:Option Addr) (m cap:Nat) (rs:List Rg) (f s:Int) (r x y:Bool) (base:Nat) (w:World) (hb:base≤w.heap.size) (h:ORg w base (.slice A m cap) rs) (hf:wfi f) (hs:wfi s) (hm:m≤1000000):
 Calls Tryz.prog 174 #[.slice A m cap,.int .i64 f,.int .i64 s,.bool r,.bool x,.bool y] w fun e w'=>∃ A' m' cap',e=.returned (.slice A' m' cap')∧m'=m+(cvL f s).length∧ORg w' base (.slice A' m' cap') (rs++rts r x y (cvL f s))∧Below base w w':=by
 obtain ⟨i0,hi,hz0,hz1,hz2⟩:=info_parts infoR
 have HC:=hide (sCover_any f s w (by unfold wfi at hf;omega) (by unfold wfi at hs;omega))
 have HL:=hide (cvL_len f s)
 have HO0:=hide h
 have HLEN0:=hide (or_rs h).1
 generalize cvL f s=C at *
 clear h
 go_enter Tryz.func174,Tryz.ntmps174
 go_wp2_with fail
 refine HC.out.mono ?_
 rintro e w2 ⟨c,n,cc,rfl,hC,hB2⟩
 have HN:=hide (or_rs hC).1
 have hn:n≤8192:=by have:=HN.out;have:=HL.out;omega
 have HX:=hide (And.intro hC hB2)
 have HO2:=hide (turn_or' (turn_below hB2) HO0.out (fun k hk h=>by exact h))
 clear hC hB2
 go_wp2_with fail
 go_loopw [0,15] (fun o i wr=>∃ (A':Option Addr) (m' cap' k:Nat),k≤n∧m'=m+k∧o=.slice A' m' cap'∧i=.int .i64 k∧ORg wr base (.slice A' m' cap') (rs++(rts r x y C).take k)∧ORg wr w.heap.size (.slice c n cc) C∧(∀ j,(Value.slice A' m' cap').ownBlock=some j→¬ (Value.slice c n cc).ownBlock=some j)∧Below base w wr) (fun _ i _=>n - (intOf i).toNat)
 case atStart=>exact ⟨A,m,cap,0,Nat.zero_le _,rfl,rfl,rfl,by simpa using HO2.out,HX.out.1,fun j h1 h2=>by have:=or_lt HO0.out j h1;have:=or_rowle HX.out.1 j h2;omega,HX.out.2.mono hb⟩
 case round=>
  obtain ⟨A',m',cap',k,hk,hm',rfl,rfl,hO,hC,hd,hB⟩:=hrel
  by_cases hlt:k<n
  ·have hlt':(k:Int)<(n:Int):=by omega
   obtain ⟨b,off,rfl⟩:=(or_rs hC).some (by omega)
   have hat:=(or_rs hC).at k hlt
   have hC2:=hC.2 (C.getD k z6) (by
    have:k<C.length:=by rw [HN.out];exact hlt
    simp [List.getD_eq_getElem?_getD,this])
   have HT:=hide (rts_step r x y C k (by rw [HN.out];exact hlt))
   generalize hG:C.getD k z6=G at *
   obtain ⟨g1,g2,g3,g4,g5,g6⟩:=G
   have HG:=hide hG
   obtain ⟨p0,p1,p2,p3,p4,p5⟩:=hat
   obtain ⟨W1,hW1⟩:∃ W1,W1=wr.alloc (.cells #[.int .i64 g1,.int .i64 g2,.int .i64 g3,.bool g4,.bool g5,.bool g6] 135):=⟨_,rfl⟩
   have K1:Blk W1 wr.heap.size #[.int .i64 g1,.int .i64 g2,.int .i64 g3,.bool g4,.bool g5,.bool g6] 135:=by rw [hW1];exact Blk.new _ _ _
   have B1:Below wr.heap.size wr W1:=by rw [hW1];exact (Below.refl _ _).alloc (Nat.le_refl _) _
   have s1:W1.heap.size=wr.heap.size+1:=by rw [hW1];simp
   obtain ⟨W2,hW2⟩:∃ W2,W2=((W1.setCell ⟨wr.heap.size,3,none⟩ (.bool r)).setCell ⟨wr.heap.size,4,none⟩ (.bool x)).setCell ⟨wr.heap.size,5,none⟩ (.bool y):=⟨_,rfl⟩
   have K2:Blk W2 wr.heap.size #[.int .i64 g1,.int .i64 g2,.int .i64 g3,.bool r,.bool x,.bool y] 135:=by
    rw [hW2];exact ((K1.set 3 (.bool r)).set 4 (.bool x)).set 5 (.bool y)
   have B2:Below wr.heap.size wr W2:=by rw [hW2];exact ((B1.setCell (Nat.le_refl _) _).setCell (Nat.le_refl _) _).setCell (Nat.le_refl _) _
   have s2:W2.heap.size=wr.heap.size+1:=by rw [hW2];simp [s1]
   have BB:Below wr.heap.size wr (W2.alloc (.cells #[.int .i64 g1,.int .i64 g2,.int .i64 g3,.bool r,.bool x,.bool y] 135)):=B2.alloc (by rw [s2];omega) _
   have HOW:=hide (show (W2.alloc (.cells #[.int .i64 g1,.int .i64 g2,.int .i64 g3,.bool r,.bool x,.bool y] 135)).ownsRow base 135 6 (.slice A' m' cap') m' (flat (rs++(rts r x y C).take k)) from by
    have:=(turn_or' (turn_below BB) hO (fun _ _ h=>h)).1
    rwa [(or_rs hO).1] at this)
   have HNEWS:=hide (by have:=news6 W2 (g1,g2,g3,r,x,y);rw [s2] at this;exact this)
   have HMM:=hide hm'
   have HONE:=hide (one6 (g1,g2,g3,r,x,y))
   have HRS:=hide hO.2
   have HLB:=hide (or_lt hO)
   have HGE:=hide (or_rowle hO)
   have HCW:=hide (turn_or' (turn_below BB) hC (fun _ _ h=>h))
   have HCL:=hide (or_lt hC)
   have HD:=hide hd
   have HML:=hide (or_rs hO).1
   have HSZ:=hide (show base≤(W2.alloc (.cells #[.int .i64 g1,.int .i64 g2,.int .i64 g3,.bool r,.bool x,.bool y] 135)).heap.size from by have:=hB.size;simp;omega)
   have HSY:=hide (show (W2.alloc (.cells #[.int .i64 g1,.int .i64 g2,.int .i64 g3,.bool r,.bool x,.bool y] 135)).heap.size=wr.heap.size+2 from by simp [s2])
   have HB3:=hide (show Below base w (W2.alloc (.cells #[.int .i64 g1,.int .i64 g2,.int .i64 g3,.bool r,.bool x,.bool y] 135)) from hB.trans (BB.mono (by have:=hB.size;omega)))
   have HG2:=hide hC2
   obtain ⟨q1,q2,q3,q4,q5,q6,q7⟩:=K1.six'
   obtain ⟨u1,u2,u3,u4,u5,u6,u7⟩:=K2.six'
   have HW1:=hide hW1
   have HW2:=hide hW2
   clear hW1 hW2 K1 K2 B1 B2 BB hO hC hd hB hC2 hG hm'
   generalize hW3:W2.alloc (.cells #[.int .i64 g1,.int .i64 g2,.int .i64 g3,.bool r,.bool x,.bool y] 135)=W3 at *
   have HW3:=hide hW3
   clear hW3
   go_wp2_with (first | rw [← HW1.out] | rw [← HW2.out] | rw [HW3.out] | (at_builtin;refine wpList_append_own_at _ rfl _ _ 63 rfl base 135 i0 (.agg #[.int .i64 0,.int .i64 0,.int .i64 0,.bool false,.bool false,.bool false]) 6 32 Tryz.underlying63 hi hz0 hz1 hz2 rfl (by decide) (.slice A' m' cap') m' (flat (rs++(rts r x y C).take k)) rfl HOW.out ⟨wr.heap.size+1,0,none⟩ 1 1 (cells6 (g1,g2,g3,r,x,y)) rfl rfl HNEWS.out HONE.out (by have:=HMM.out;unfold maxLen;omega) (by have:=HMM.out;omega) HSZ.out ?_;intro v' w3 hown3 hgr3 _ hat3;have HP:=hide (And.intro hown3 (And.intro hgr3 hat3));clear hown3 hgr3 hat3;obtain ⟨A2,cap2,he⟩:=or_shape HP.out.1;subst he))
   have t3:=grown_turn HP.out.2.1
   refine ⟨⟨A2,m'+1,cap2,k+1,by omega,by have:=HMM.out;omega,rfl,by go_num,?_,?_,?_,?_⟩,by simp [intOf];omega⟩
   ·rw [HT.out,← List.append_assoc]
    refine or_more (W:=W3) (v:=.slice A' m' cap') HRS.out HG2.out ?_
    rw [HML.out]
    exact HP.out.1
   ·exact turn_or' t3 HCW.out (fun j hj h=>HD.out j h hj)
   ·intro j h1 h2
    rcases HP.out.2.2 with h | h
    ·exact HD.out j (h ▸ h1) h2
    ·rw [h1] at h
     injection h with h
     have:=HCL.out j h2
     have:=HSY.out
     omega
   ·exact below_turn HB3.out t3 (fun j hj=>HGE.out j hj) HSZ.out
  ·have HE:=hide (show k=n by omega)
   have HF:=hide (And.intro hO hB)
   clear hO hC hd hB
   go_wp2
   go_ret
   refine ⟨A',m',cap',rfl,by rw [hm',HE.out,HN.out],?_,HF.out.2⟩
   have:=HF.out.1
   rwa [List.take_of_length_le (by rw [rts_len,HE.out,HN.out];exact Nat.le_refl _)] at this
theorem rs_news {w:World} {b off n cap:Nat} {rs:List Rg} (h:RS w (some ⟨b,off,none⟩) n cap rs):∀ j u,(flat rs)[j]?=some u→w.cell? ((⟨b,off,none⟩:Addr).add j)=some u:=by
 intro j u hj
 have hl:=h.1
 have hj2:j<(flat rs).length:=by
  rcases Nat.lt_or_ge j (flat rs).length with h' | h'
  ·exact h'
  ·rw [List.getElem?_eq_none h'] at hj;cases hj
 rw [flat6_len] at hj2
 have hq:j / 6<rs.length:=by omega
 have hr:j % 6<6:=Nat.mod_lt _ (by omega)
 have e:=flat6_get rs (j / 6) (j % 6) hq hr
 rw [show j / 6 * 6+j % 6=j by omega,hj] at e
 obtain ⟨h1,h2,h3,h4,h5,h6⟩:=h.at (j / 6) (by omega)
 rw [addr_add,show off+j=off+j / 6 * 6+j % 6 by omega]
 rw [e]
 generalize rs.getD (j / 6) z6=G at *
 generalize j / 6=q at *
 have c:j % 6=0∨j % 6=1∨j % 6=2∨j % 6=3∨j % 6=4∨j % 6=5:=by omega
 rcases c with c | c | c | c | c | c <;> rw [c]
 ·exact h1
 ·exact h2
 ·exact h3
 ·exact h4
 ·exact h5
 ·exact h6
theorem flat6_one (rs:List Rg):∀ u ∈ flat rs,u.oneCell'=true:=by
 intro u hu
 simp only [flat,List.mem_flatMap] at hu
 obtain ⟨g,_,hg⟩:=hu
 exact one6 g u hg
theorem flat_app (xs ys:List Rg):flat (xs++ys)=flat xs++flat ys:=by simp [flat]
abbrev Spn:=Int × Int × Bool × Bool × Bool
def spR (p:Spn):List Rg:=rts p.2.2.1 p.2.2.2.1 p.2.2.2.2 (cvL p.1 p.2.1)
def zSp:Spn:=(0,0,false,false,false)
def At5 (w:World) (b o:Nat) (p:Spn):Prop:=
 w.cell? ⟨b,o,none⟩=some (.int .i64 p.1)∧w.cell? ⟨b,o+1,none⟩=some (.int .i64 p.2.1)∧w.cell? ⟨b,o+2,none⟩=some (.bool p.2.2.1) ∧
 w.cell? ⟨b,o+3,none⟩=some (.bool p.2.2.2.1)∧w.cell? ⟨b,o+4,none⟩=some (.bool p.2.2.2.2)
theorem At5.below {w w':World} {b o:Nat} {p:Spn} (h:At5 w b o p) (hb:Below w.heap.size w w'):At5 w' b o p:=by
 obtain ⟨h1,h2,h3,h4,h5⟩:=h
 have hl:b<w.heap.size:=World.block_lt_of_cell? w _ h1
 unfold At5
 rw [hb.cell (p:=⟨b,o,none⟩) hl,hb.cell (p:=⟨b,o+1,none⟩) hl,hb.cell (p:=⟨b,o+2,none⟩) hl,hb.cell (p:=⟨b,o+3,none⟩) hl,hb.cell (p:=⟨b,o+4,none⟩) hl]
 exact ⟨h1,h2,h3,h4,h5⟩
theorem spR_len (p:Spn):(spR p).length≤8192:=by unfold spR;rw [rts_len];exact cvL_len _ _
theorem sps_len (ss:List Spn):(ss.flatMap spR).length≤8192 * ss.length:=by
 induction ss with
 | nil=>simp
 | cons p ss ih=>have:=spR_len p;simp only [List.flatMap_cons,List.length_append,List.length_cons];omega
theorem sps_step (ss:List Spn) (k:Nat) (h:k<ss.length):(ss.take (k+1)).flatMap spR=(ss.take k).flatMap spR++spR (ss.getD k zSp):=by
 rw [List.take_add_one,List.flatMap_append]
 congr 1
 simp [List.getD_eq_getElem?_getD,h]
set_option maxHeartbeats 2000000 in
theorem joined_any (b off n cap:Nat) (ss:List Spn) (w:World) (hn:ss.length=n) (hn4:n≤4) (hw:∀ i,i<n→wfi (ss.getD i zSp).1∧wfi (ss.getD i zSp).2.1) (h:∀ i,i<n→At5 w b (off+i * 5) (ss.getD i zSp)):
 Calls Tryz.prog 177 #[.slice (some ⟨b,off,none⟩) n cap] w fun e w'=>∃ A m cap',e=.returned (.slice A m cap')∧m=(ss.flatMap spR).length∧ORg w' w.heap.size (.slice A m cap') (ss.flatMap spR)∧Below w.heap.size w w':=by
 obtain ⟨i0,hi,hz0,hz1,hz2⟩:=info_parts infoR
 have HA:=hide h
 have HW:=hide hw
 have HN:=hide hn
 clear h hw hn
 go_enter Tryz.func177,Tryz.ntmps177
 go_wp2_with fail
 go_loopw [3,8] (fun o i wr=>∃ (A:Option Addr) (m cap' k:Nat),k≤n∧o=.slice A m cap'∧i=.int .i64 k∧ORg wr w.heap.size (.slice A m cap') ((ss.take k).flatMap spR)∧Below w.heap.size w wr) (fun _ i _=>n - (intOf i).toNat)
 case atStart=>exact ⟨none,0,0,0,Nat.zero_le _,rfl,rfl,org_nil _ _,Below.refl _ _⟩
 case round=>
  obtain ⟨A,m,cap',k,hk,rfl,rfl,hO,hB⟩:=hrel
  by_cases hlt:k<n
  ·have hlt':(k:Int)<(n:Int):=by omega
   obtain ⟨p0,p1,p2,p3,p4⟩:=(HA.out k hlt).below hB
   have HT:=hide (sps_step ss k (by rw [HN.out];exact hlt))
   have hww:=HW.out k hlt
   generalize ss.getD k zSp=G at *
   obtain ⟨f,s,r,x,y⟩:=G
   obtain ⟨V,hV⟩:∃ V,V=wr.alloc (.cells #[.int .i64 f,.int .i64 s,.bool r,.bool x,.bool y] 216):=⟨_,rfl⟩
   have KV:Blk V wr.heap.size #[.int .i64 f,.int .i64 s,.bool r,.bool x,.bool y] 216:=by rw [hV];exact Blk.new _ _ _
   have BV:Below wr.heap.size wr V:=by rw [hV];exact (Below.refl _ _).alloc (Nat.le_refl _) _
   have e0:V.cell? ⟨wr.heap.size,0,none⟩=some (.int .i64 f):=KV.cell 0
   have e1:V.cell? ⟨wr.heap.size,1,none⟩=some (.int .i64 s):=KV.cell 1
   have e2:V.cell? ⟨wr.heap.size,2,none⟩=some (.bool r):=KV.cell 2
   have e3:V.cell? ⟨wr.heap.size,3,none⟩=some (.bool x):=KV.cell 3
   have e4:V.cell? ⟨wr.heap.size,4,none⟩=some (.bool y):=KV.cell 4
   have HR:=hide (regions_any f s r x y V hww.1 hww.2)
   have HO:=hide (turn_or' (turn_below BV) hO (fun _ _ h=>h))
   have HML:=hide (or_rs hO).1
   have HMX:=hide (show m≤32768 by have h1:=sps_len (ss.take k);rw [(or_rs hO).1,List.length_take,HN.out] at h1;omega)
   have HLE:=hide (or_lt hO)
   have HBV:=hide (hB.trans (BV.mono hB.size))
   have HSV:=hide (show w.heap.size≤V.heap.size from Nat.le_trans hB.size BV.size)
   have HV:=hide hV
   have HGE:=hide (fun j hj=>or_rowle hO j hj)
   clear hV KV BV hO hB hww
   go_wp2_with (rw [← HV.out])
   refine HR.out.mono ?_
   rintro e w3 ⟨X,q,qc,rfl,hX,hnil,hB3⟩
   have HL3:=hide (show q≤8192 by have h1:=spR_len (f,s,r,x,y);have h2:=hX.1;unfold spR at h1;simp only at h1;omega)
   have HO3:=hide (turn_or' (turn_below hB3) HO.out (fun _ _ h=>h))
   have HB4:=hide (HBV.out.trans (hB3.mono HSV.out))
   have HSZ:=hide (show w.heap.size≤w3.heap.size from Nat.le_trans HSV.out hB3.size)
   have HX:=hide hX
   have HNIL:=hide hnil
   clear hX hnil hB3
   have HOW:=hide (show w3.ownsRow w.heap.size 135 6 (.slice A m cap') m (flat ((ss.take k).flatMap spR)) from by have:=HO3.out.1;rwa [HML.out] at this)
   have HSP:=hide (show spR (f,s,r,x,y)=rts r x y (cvL f s) from rfl)
   have HWF:=hide HX.out.2.2.1
   obtain ⟨M,hM⟩:∃ M,M=rts r x y (cvL f s):=⟨_,rfl⟩
   rw [← hM] at HX HSP HWF
   have HLEN:=hide (show (flat M).length=q * 6 by rw [flat6_len,HX.out.1])
   have HONE:=hide (flat6_one M)
   clear hM
   match X with
   | none=>
     obtain ⟨rfl,rfl⟩:=HNIL.out rfl
     go_wp2_with (at_builtin;refine wpList_append_own_none rfl _ _ 63 rfl w.heap.size 135 i0 6 Tryz.underlying63 hi (.slice A m cap') m (flat ((ss.take k).flatMap spR)) rfl HOW.out rfl ?_)
     refine ⟨⟨A,m,cap',k+1,by omega,rfl,by go_num,?_,HB4.out⟩,by simp [intOf];omega⟩
     rw [HT.out,HSP.out,List.eq_nil_of_length_eq_zero HX.out.1,List.append_nil]
     exact HO3.out
   | some ad=>
     have HNEWS:=hide (show ∀ j u,(flat M)[j]?=some u→w3.cell? (ad.add j)=some u from by
      by_cases hq:q=0
      ·have e:M=[]:=List.eq_nil_of_length_eq_zero (by rw [HX.out.1];exact hq)
       rw [e];intro j u hj;simp [flat] at hj
      ·obtain ⟨b',off',he⟩:=HX.out.some hq
       injection he with he
       subst he
       exact rs_news HX.out)
     go_wp2_with (at_builtin;refine wpList_append_own _ rfl _ _ 63 rfl w.heap.size 135 i0 (.agg #[.int .i64 0,.int .i64 0,.int .i64 0,.bool false,.bool false,.bool false]) 6 32 Tryz.underlying63 hi hz0 hz1 hz2 rfl (by decide) (.slice A m cap') m (flat ((ss.take k).flatMap spR)) rfl HOW.out ad q qc (flat M) rfl HLEN.out HNEWS.out HONE.out (by have:=HMX.out;have:=HL3.out;unfold maxLen;omega) (by have:=HMX.out;have:=HL3.out;omega) HSZ.out ?_;intro v' w4 hown4 hgr4 _;have HP:=hide (And.intro hown4 hgr4);clear hown4 hgr4;obtain ⟨A2,cap2,he⟩:=or_shape HP.out.1;subst he)
     refine ⟨⟨A2,m+q,cap2,k+1,by omega,rfl,by go_num,?_,below_turn HB4.out (grown_turn HP.out.2) (fun j hj=>HGE.out j hj) HSZ.out⟩,by simp [intOf];omega⟩
     rw [HT.out,HSP.out]
     refine ⟨?_,fun y hy=>?_⟩
     ·rw [List.length_append,HML.out,HX.out.1,flat_app]
      exact HP.out.1
     ·rcases List.mem_append.1 hy with hy | hy
      ·exact HO3.out.2 y hy
      ·exact HWF.out y hy
  ·have HE:=hide (show k=n by omega)
   have HF:=hide (And.intro hO hB)
   clear hO hB
   go_wp2
   go_ret
   have h1:=HF.out.1
   rw [List.take_of_length_le (by rw [HN.out,HE.out];exact Nat.le_refl _)] at h1
   exact ⟨A,m,cap',rfl,(or_rs h1).1.symm,h1,HF.out.2⟩
end Go.Proofs.YtngdgogjlpjjpadGreat
