import Derived.Test.YtngdgogjlpjjpaeGreatP02
import Derived.Test.YtngdgogjlpjjpaeGreatP07
import Derived.Test.YtngdgogjlpjjpaeGreatP20
set_option maxHeartbeats 8000000
namespace Go.Proofs.YtngdgogjlpjjpaeGreat
open Go.RowKit Classical
set_option linter.unusedVariables false
set_option linter.unusedSimpArgs false
set_option maxRecDepth 100000
theorem l5SamePlaces_any (a0:Option Addr)(n c0:Nat)(xs:List PB)(st:Int)(a2:Option Addr)(sn c2:Nat)(fl rm:Int)(a5:Option Addr)(m0 c5:Nat)(ts:List TB)(a0':Option Addr)(n' c0':Nat)(xs':List PB)(st':Int)(a2':Option Addr)(sn' c2':Nat)(fl' rm':Int)(a5':Option Addr)(m0' c5':Nat)(ts':List TB)(w:World)(h0:PlS w a0 n c0 xs)(h1:TsS w a5 m0 c5 ts)(h0':PlS w a0' n' c0' xs')(h1':TsS w a5' m0' c5' ts'):
 Calls Tryz.prog 201 #[.agg #[.slice a0 n c0,.int .i64 st,.slice a2 sn c2,.int .i64 fl,.int .i64 rm,.slice a5 m0 c5],.agg #[.slice a0' n' c0',.int .i64 st',.slice a2' sn' c2',.int .i64 fl',.int .i64 rm',.slice a5' m0' c5']] w fun e w'=>e=.returned (.bool (decide (xs.map (fun x=>x.1)=xs'.map (fun x=>x.1)∧ts.map (fun x=>x.1)=ts'.map (fun x=>x.1))))∧Below w.heap.size w w':=by
 obtain ⟨r,hr⟩:∃ r,r=decide (xs.map (fun x=>x.1)=xs'.map (fun x=>x.1)∧ts.map (fun x=>x.1)=ts'.map (fun x=>x.1)):=⟨_,rfl⟩
 rw [← hr]
 have HR:=hide hr
 clear hr
 have hm0:=h0.2.1
 have hm1:=h1.2.1
 have hm0':=h0'.2.1
 have hm1':=h1'.2.1
 unfold maxLen at hm0 hm1 hm0' hm1'
 have hl0:=h0.1
 have hl1:=h1.1
 have hl0':=h0'.1
 have hl1':=h1'.1
 have B0:Below w.heap.size w ((w.alloc (.cells #[.slice a0 n c0,.int .i64 st,.slice a2 sn c2,.int .i64 fl,.int .i64 rm,.slice a5 m0 c5] 36)).alloc (.cells #[.slice a0' n' c0',.int .i64 st',.slice a2' sn' c2',.int .i64 fl',.int .i64 rm',.slice a5' m0' c5'] 36)):=((Below.refl _ _).alloc (Nat.le_refl _) _).alloc (by simp) _
 have u:=(Blk.new w #[.slice a0 n c0,.int .i64 st,.slice a2 sn c2,.int .i64 fl,.int .i64 rm,.slice a5 m0 c5] 36).alloc (.cells #[.slice a0' n' c0',.int .i64 st',.slice a2' sn' c2',.int .i64 fl',.int .i64 rm',.slice a5' m0' c5'] 36)
 have v:=Blk.new (w.alloc (.cells #[.slice a0 n c0,.int .i64 st,.slice a2 sn c2,.int .i64 fl,.int .i64 rm,.slice a5 m0 c5] 36)) #[.slice a0' n' c0',.int .i64 st',.slice a2' sn' c2',.int .i64 fl',.int .i64 rm',.slice a5' m0' c5'] 36
 simp only [World.size_alloc] at v
 have HK:=hide (And.intro B0 (And.intro u v))
 clear u v
 by_cases n1:n=n'
 rotate_left
 ·have g1:((n:Int) != (n':Int))=true:=by simp;omega
  have HV:=hide (show r=false by
   rw [HR.out,decide_eq_false_iff_not]
   intro e
   have:=congrArg List.length e.1
   simp at this
   omega)
  clear HR
  go_enter Tryz.func201,Tryz.ntmps201
  go_wp2
  go_ret
  exact ⟨ret_bool HV.out.symm,HK.out.1⟩
 subst n1
 have g1:((n:Int) != (n:Int))=false:=by simp
 by_cases n2:m0=m0'
 rotate_left
 ·have g2:((m0:Int) != (m0':Int))=true:=by simp;omega
  have HV:=hide (show r=false by
   rw [HR.out,decide_eq_false_iff_not]
   intro e
   have:=congrArg List.length e.2
   simp at this
   omega)
  clear HR
  go_enter Tryz.func201,Tryz.ntmps201
  go_wp2
  go_ret
  exact ⟨ret_bool HV.out.symm,HK.out.1⟩
 subst n2
 have g2:((m0:Int) != (m0:Int))=false:=by simp
 have HP:=hide (And.intro h0 (And.intro h0' (And.intro h1 h1')))
 clear h0 h0' h1 h1' B0
 go_enter Tryz.func201,Tryz.ntmps201
 go_wp2
 go_loopw [5] (fun i wr=>∃ k:Nat,k≤n∧i=.int .i64 k∧(xs.map (fun x=>x.1)).take k=(xs'.map (fun x=>x.1)).take k∧Below w.heap.size w wr∧Blk wr w.heap.size #[.slice a0 n c0,.int .i64 st,.slice a2 sn c2,.int .i64 fl,.int .i64 rm,.slice a5 m0 c5] 36∧Blk wr (w.heap.size+1) #[.slice a0' n c0',.int .i64 st',.slice a2' sn' c2',.int .i64 fl',.int .i64 rm',.slice a5' m0 c5'] 36) (fun i _=>n - (intOf i).toNat)
 case atStart=>exact ⟨0,Nat.zero_le _,rfl,by simp,HK.out⟩
 case round=>
  obtain ⟨k,hk,rfl,hT,HB⟩:=hrel
  clear HK
  have HB:=hide HB
  generalize wr=wo at *
  obtain ⟨p0,p1,p2,p3,p4,p5⟩:=(HB.out.2.1).ly6
  obtain ⟨q0,q1,q2,q3,q4,q5⟩:=(HB.out.2.2).ly6
  by_cases hlt:k<n
  ·have hlt':(k:Int)<(n:Int):=by omega
   obtain ⟨b,off,rfl,s0,s1,s2,s3⟩:=(HP.out.1.below HB.out.1).at k hlt
   obtain ⟨b',off',rfl,t0,t1,t2,t3⟩:=(HP.out.2.1.below HB.out.1).at k (by omega)
   have i1:=(HP.out.1.below HB.out.1).2.2.2.1 k hlt
   have i2:=(HP.out.2.1.below HB.out.1).2.2.2.1 k (by omega)
   have HGO:=hide (show (xs.getD k zPB).1=(xs'.getD k zPB).1→(xs.map (fun x=>x.1)).take (k+1)=(xs'.map (fun x=>x.1)).take (k+1) from fun he=>take_succ_eq zPB.1 _ _ k hT (by simp;omega) (by simp;omega) (by rw [map_getD _ _ _ zPB _ (by omega),map_getD _ _ _ zPB _ (by omega),he]))
   have HNO:=hide (show (xs.getD k zPB).1≠(xs'.getD k zPB).1→r=false from fun he=>by
    rw [HR.out,decide_eq_false_iff_not]
    intro e
    have e2:=congrArg (fun l=>l.getD k zPB.1) e.1
    try simp only at e2
    rw [map_getD _ _ _ zPB _ (by omega),map_getD _ _ _ zPB _ (by omega)] at e2
    exact he e2)
   clear hT
   unfold svP at s1 t1
   generalize xs.getD k zPB=x at *
   generalize xs'.getD k zPB=y at *
   obtain ⟨⟨xt,xb,xd,xz⟩,xa,xc⟩:=x
   obtain ⟨⟨yt,yb,yd,yz⟩,ya,yc⟩:=y
   dsimp only at s0 s1 s2 s3 t0 t1 t2 t3 i1 i2 HGO HNO
   have hlw:=HB.out.2.1.lt
   have hlw':=HB.out.2.2.lt
   have hlb:=World.block_lt_of_cell? _ _ s0
   have hlb':=World.block_lt_of_cell? _ _ t0
   have HB2:Below wo.heap.size wo ((wo.alloc (.cells #[.int .i64 xt,.slice xa xb.length xc,.int .i64 xd,.int .i64 xz] 138)).alloc (.cells #[.int .i64 yt,.slice ya yb.length yc,.int .i64 yd,.int .i64 yz] 138)):=((Below.refl _ _).alloc (Nat.le_refl _) _).alloc (by simp) _
   have HEQ:=hide (l5SameNums_any xa ya xb.length xc yb.length yc xb yb _ (i1.below HB2) (i2.below HB2))
   have HB4:=hide (And.intro (HB.out.1.trans (HB2.mono HB.out.1.size)) (And.intro (HB.out.2.1.below HB2) (HB.out.2.2.below HB2)))
   have kp:=(Blk.new wo #[.int .i64 xt,.slice xa xb.length xc,.int .i64 xd,.int .i64 xz] 138).alloc (.cells #[.int .i64 yt,.slice ya yb.length yc,.int .i64 yd,.int .i64 yz] 138)
   have kq:=Blk.new (wo.alloc (.cells #[.int .i64 xt,.slice xa xb.length xc,.int .i64 xd,.int .i64 xz] 138)) #[.int .i64 yt,.slice ya yb.length yc,.int .i64 yd,.int .i64 yz] 138
   simp only [World.size_alloc] at kq
   have HKP:=hide (And.intro kp kq)
   clear i1 i2 HB2 HB kp kq
   by_cases e1:xt=yt
   rotate_left
   ·have g3:(xt != yt)=true:=by simpa using e1
    have HV:=hide (show r=false from HNO.out (fun e=>e1 (by injection e)))
    clear HNO HGO HEQ
    go_wp2
    go_ret
    exact ⟨ret_bool HV.out.symm,HB4.out.1⟩
   have g3:(xt != yt)=false:=by simpa using e1
   have HE1:=hide e1
   clear e1
   go_wp2_with fail
   refine HEQ.out.mono ?_
   rintro e w1 ⟨rfl,hb1⟩
   have HB5:=hide (And.intro (HB4.out.1.trans (hb1.mono HB4.out.1.size)) (And.intro (HB4.out.2.1.below hb1) (HB4.out.2.2.below hb1)))
   have kp:=HKP.out.1.below hb1
   have kq:=HKP.out.2.below hb1
   have x0:w1.cell? ⟨wo.heap.size,2,none⟩=some (.int .i64 xd):=kp.cell 2
   have x1:w1.cell? ⟨wo.heap.size,3,none⟩=some (.int .i64 xz):=kp.cell 3
   have y0:w1.cell? ⟨wo.heap.size+1,2,none⟩=some (.int .i64 yd):=kq.cell 2
   have y1:w1.cell? ⟨wo.heap.size+1,3,none⟩=some (.int .i64 yz):=kq.cell 3
   clear hb1 kp kq HKP HB4 p0 p1 p2 p3 p4 p5 q0 q1 q2 q3 q4 q5 s0 s1 s2 s3 t0 t1 t2 t3
   by_cases e2:xb=yb
   rotate_left
   ·rw [decide_eq_false e2]
    have HV:=hide (show r=false from HNO.out (fun e=>e2 (by injection e)))
    clear HNO HGO HEQ
    go_wp2
    go_ret
    exact ⟨ret_bool HV.out.symm,HB5.out.1⟩
   rw [decide_eq_true e2]
   have HE2:=hide e2
   clear e2
   by_cases e3:xd=yd
   rotate_left
   ·have g4:(xd != yd)=true:=by simpa using e3
    have HV:=hide (show r=false from HNO.out (fun e=>e3 (by injection e)))
    clear HNO HGO HEQ
    go_wp2
    go_ret
    exact ⟨ret_bool HV.out.symm,HB5.out.1⟩
   have g4:(xd != yd)=false:=by simpa using e3
   have HE3:=hide e3
   clear e3
   by_cases e4:xz=yz
   rotate_left
   ·have g5:(xz != yz)=true:=by simpa using e4
    have HV:=hide (show r=false from HNO.out (fun e=>e4 (by injection e)))
    clear HNO HGO HEQ
    go_wp2
    go_ret
    exact ⟨ret_bool HV.out.symm,HB5.out.1⟩
   have g5:(xz != yz)=false:=by simpa using e4
   have HE4:=hide e4
   clear e4
   have HG:=hide (HGO.out (by rw [HE1.out,HE2.out,HE3.out,HE4.out]))
   clear HGO HNO HEQ
   go_wp2
   go_roundw
   case rel=>exact ⟨k+1,by omega,by go_num,HG.out,HB5.out⟩
   case measure=>simp [intOf];omega
  ·have HPE:=hide (show xs.map (fun x=>x.1)=xs'.map (fun x=>x.1) from by
    rw [List.take_of_length_le (by simp;omega),List.take_of_length_le (by simp;omega)] at hT
    exact hT)
   clear hT
   go_wp2
   clear p0 p1 p2 p3 p4 p5 q0 q1 q2 q3 q4 q5
   go_loopw [8] (fun i wr=>∃ m:Nat,m≤m0∧i=.int .i64 m∧(ts.map (fun x=>x.1)).take m=(ts'.map (fun x=>x.1)).take m∧Below w.heap.size w wr∧Blk wr w.heap.size #[.slice a0 n c0,.int .i64 st,.slice a2 sn c2,.int .i64 fl,.int .i64 rm,.slice a5 m0 c5] 36∧Blk wr (w.heap.size+1) #[.slice a0' n c0',.int .i64 st',.slice a2' sn' c2',.int .i64 fl',.int .i64 rm',.slice a5' m0 c5'] 36) (fun i _=>m0 - (intOf i).toNat)
   case atStart=>exact ⟨0,Nat.zero_le _,rfl,by simp,HB.out⟩
   case round=>
    clear HB
    obtain ⟨m,hm,rfl,hT,HC⟩:=hrel
    have HC:=hide HC
    generalize wr=wn at *
    obtain ⟨p0,p1,p2,p3,p4,p5⟩:=(HC.out.2.1).ly6
    obtain ⟨q0,q1,q2,q3,q4,q5⟩:=(HC.out.2.2).ly6
    by_cases hmt:m<m0
    ·have hmt':(m:Int)<(m0:Int):=by omega
     obtain ⟨b,off,rfl,s0⟩:=(HP.out.2.2.1.below HC.out.1).at m hmt
     obtain ⟨b',off',rfl,t0⟩:=(HP.out.2.2.2.below HC.out.1).at m (by omega)
     have I1:=hide (HP.out.2.2.1.2.2.2.1 m hmt)
     have I2:=hide (HP.out.2.2.2.2.2.2.1 m (by omega))
     have HGO:=hide (show (ts.getD m zTB).1=(ts'.getD m zTB).1→(ts.map (fun x=>x.1)).take (m+1)=(ts'.map (fun x=>x.1)).take (m+1) from fun he=>take_succ_eq zTB.1 _ _ m hT (by simp;omega) (by simp;omega) (by rw [map_getD _ _ _ zTB _ (by omega),map_getD _ _ _ zTB _ (by omega),he]))
     have HNO:=hide (show (ts.getD m zTB).1≠(ts'.getD m zTB).1→r=false from fun he=>by
      rw [HR.out,decide_eq_false_iff_not]
      intro e
      have e2:=congrArg (fun l=>l.getD m zTB.1) e.2
      try simp only at e2
      rw [map_getD _ _ _ zTB _ (by omega),map_getD _ _ _ zTB _ (by omega)] at e2
      exact he e2)
     have HHD:=hide (fun (W:World) (hb:Below wn.heap.size wn W)=>And.intro (cell_below hb s0) (cell_below hb t0))
     clear hT
     unfold svT at s0 t0 HHD
     generalize ts.getD m zTB=x at *
     generalize ts'.getD m zTB=y at *
     obtain ⟨xl,xa,xc⟩:=x
     obtain ⟨yl,ya,yc⟩:=y
     dsimp only at s0 t0 I1 I2 HGO HNO HHD
     have hx1:=I1.out.2.1
     have hy1:=I2.out.2.1
     unfold maxLen at hx1 hy1
     by_cases e1:xl.length=yl.length
     rotate_left
     ·have g3:((xl.length:Int) != (yl.length:Int))=true:=by simp;omega
      have HV:=hide (show r=false from HNO.out (fun e=>e1 (by rw [e])))
      clear HNO HGO
      go_wp2
      go_quiet (fail)
      go_wp2
      go_ret
      exact ⟨ret_bool HV.out.symm,below_drewN HC.out.1 _⟩
     have g3:((xl.length:Int) != (yl.length:Int))=false:=by simp;omega
     go_wp2
     go_quiet (fail)
     go_wp2
     clear p0 p1 p2 p3 p4 p5 q0 q1 q2 q3 q4 q5 s0 t0
     go_loopw [9] (fun i wr=>∃ j:Nat,j≤xl.length∧i=.int .i64 j∧xl.take j=yl.take j∧Below wn.heap.size wn wr) (fun i _=>xl.length - (intOf i).toNat)
     case atStart=>exact ⟨0,Nat.zero_le _,rfl,by simp,below_drewN (Below.refl _ _) _⟩
     case round=>
      obtain ⟨j,hj,rfl,hT,HD⟩:=hrel
      have HD:=hide HD
      generalize wr=wm at *
      obtain ⟨s0,t0⟩:=HHD.out wm HD.out
      obtain ⟨p0,p1,p2,p3,p4,p5⟩:=(HC.out.2.1.below HD.out).ly6
      obtain ⟨q0,q1,q2,q3,q4,q5⟩:=(HC.out.2.2.below HD.out).ly6
      have HCD:=hide (HC.out.1.trans (HD.out.mono HC.out.1.size))
      by_cases hjl:j<xl.length
      ·have hjl':(j:Int)<(xl.length:Int):=by omega
       have hjlb':(j:Int)<(yl.length:Int):=by omega
       obtain ⟨bx,ox,rfl,u0,u1,u2⟩:=((I1.out.below HCD.out)).at j hjl
       obtain ⟨by',oy,rfl,v0,v1,v2⟩:=((I2.out.below HCD.out)).at j (by omega)
       have HS:=hide (show xl.getD j zT=yl.getD j zT→xl.take (j+1)=yl.take (j+1) from fun he=>take_succ_eq zT _ _ j hT (by omega) (by omega) he)
       have HF:=hide (show xl.getD j zT≠yl.getD j zT→r=false from fun he=>HNO.out (fun e=>he (by rw [e])))
       clear hT
       generalize xl.getD j zT=z at *
       generalize yl.getD j zT=z' at *
       obtain ⟨z0,z1,z2⟩:=z
       obtain ⟨z0',z1',z2'⟩:=z'
       dsimp only at u0 u1 u2 v0 v1 v2
       by_cases he:(z0,z1,z2)=((z0',z1',z2'):Tg)
       ·have HS2:=hide (HS.out he)
        simp only [Prod.mk.injEq] at he
        obtain ⟨rfl,rfl,rfl⟩:=he
        clear HS HF
        go_wp2
        go_quiet (fail)
        go_wp2
        go_roundw
        case rel=>exact ⟨j+1,by omega,by go_num,HS2.out,below_drewN HD.out _⟩
        case measure=>simp [intOf];omega
       ·have HV:=hide (HF.out he)
        have hne3:¬ (z0=z0'∧z1=z1'∧z2=z2'):=fun e=>he (by rw [e.1,e.2.1,e.2.2])
        clear HS HF he
        by_cases f0:z0=z0'
        ·by_cases f1:z1=z1'
         ·have f2:¬ z2=z2':=fun e=>hne3 ⟨f0,f1,e⟩
          subst f0 f1
          have f2':(z2 == z2')=false:=by simpa using f2
          go_wp2
          go_quiet (fail)
          go_wp2
          go_ret
          exact ⟨ret_bool HV.out.symm,below_drewN HCD.out _⟩
         ·subst f0
          have f1':(z1 == z1')=false:=by simpa using f1
          go_wp2
          go_quiet (fail)
          go_wp2
          go_ret
          exact ⟨ret_bool HV.out.symm,below_drewN HCD.out _⟩
        ·have f0':(z0 == z0')=false:=by simpa using f0
         go_wp2
         go_quiet (fail)
         go_wp2
         go_ret
         exact ⟨ret_bool HV.out.symm,below_drewN HCD.out _⟩
      ·have HG:=hide (HGO.out (by
        rw [List.take_of_length_le (by omega),List.take_of_length_le (by omega)] at hT
        exact hT))
       have HCE:=hide (And.intro HCD.out (And.intro (HC.out.2.1.below HD.out) (HC.out.2.2.below HD.out)))
       clear hT HGO HNO
       go_wp2
       go_roundw
       case rel=>exact ⟨m+1,by omega,by go_num,HG.out,HCE.out⟩
       case measure=>simp [intOf];omega
    ·have HV:=hide (show r=true from by
      rw [HR.out]
      simp only [decide_eq_true_eq]
      rw [List.take_of_length_le (by simp;omega),List.take_of_length_le (by simp;omega)] at hT
      exact ⟨HPE.out,hT⟩)
     clear hT
     go_wp2
     go_ret
     exact ⟨ret_bool HV.out.symm,HC.out.1⟩
theorem SameLayout_any (L:Lay)(a0:Option Addr)(c0:Nat)(xs:List PB)(a2:Option Addr)(c2:Nat)(a5:Option Addr)(c5:Nat)(ts:List TB)(L':Lay)(a0':Option Addr)(c0':Nat)(xs':List PB)(a2':Option Addr)(c2':Nat)(a5':Option Addr)(c5':Nat)(ts':List TB)(w:World)(h:LyT w L a0 c0 xs a2 c2 a5 c5 ts)(h':LyT w L' a0' c0' xs' a2' c2' a5' c5' ts'):
 Calls Tryz.prog 132 #[.agg #[.slice a0 xs.length c0,.int .i64 L.stack,.slice a2 L.slots.length c2,.int .i64 L.flash,.int .i64 L.ram,.slice a5 ts.length c5],.agg #[.slice a0' xs'.length c0',.int .i64 L'.stack,.slice a2' L'.slots.length c2',.int .i64 L'.flash,.int .i64 L'.ram,.slice a5' ts'.length c5']] w fun e w'=>e=.returned (.bool (decide (L=L')))∧Below w.heap.size w w':=by
 have hps:=h.ps
 have hps':=h'.ps
 have htt:=h.tt
 have htt':=h'.tt
 have HE1:=hide (fun (W:World) (hb:Below w.heap.size w W)=>l5SameNums_any a2 a2' L.slots.length c2 L'.slots.length c2' L.slots L'.slots W (h.s.below hb) (h'.s.below hb))
 have HE2:=hide (fun (W:World) (hb:Below w.heap.size w W)=>l5SamePlaces_any a0 xs.length c0 xs L.stack a2 L.slots.length c2 L.flash L.ram a5 ts.length c5 ts a0' xs'.length c0' xs' L'.stack a2' L'.slots.length c2' L'.flash L'.ram a5' ts'.length c5' ts' W (h.p.below hb) (h.t.below hb) (h'.p.below hb) (h'.t.below hb))
 rw [hps,hps',htt,htt'] at HE2
 clear h h' hps hps' htt htt'
 obtain ⟨pl,st,sl,fl,rm,tg⟩:=L
 obtain ⟨pl',st',sl',fl',rm',tg'⟩:=L'
 dsimp only at HE1 HE2 ⊢
 obtain ⟨r,hr⟩:∃ r,r=decide ((⟨pl,st,sl,fl,rm,tg⟩:Lay)=⟨pl',st',sl',fl',rm',tg'⟩):=⟨_,rfl⟩
 rw [← hr]
 simp only [Lay.mk.injEq] at hr
 have HR:=hide hr
 clear hr
 have B0:Below w.heap.size w ((w.alloc (.cells #[.slice a0 xs.length c0,.int .i64 st,.slice a2 sl.length c2,.int .i64 fl,.int .i64 rm,.slice a5 ts.length c5] 36)).alloc (.cells #[.slice a0' xs'.length c0',.int .i64 st',.slice a2' sl'.length c2',.int .i64 fl',.int .i64 rm',.slice a5' ts'.length c5'] 36)):=((Below.refl _ _).alloc (Nat.le_refl _) _).alloc (by simp) _
 have u:=(Blk.new w #[.slice a0 xs.length c0,.int .i64 st,.slice a2 sl.length c2,.int .i64 fl,.int .i64 rm,.slice a5 ts.length c5] 36).alloc (.cells #[.slice a0' xs'.length c0',.int .i64 st',.slice a2' sl'.length c2',.int .i64 fl',.int .i64 rm',.slice a5' ts'.length c5'] 36)
 have v:=Blk.new (w.alloc (.cells #[.slice a0 xs.length c0,.int .i64 st,.slice a2 sl.length c2,.int .i64 fl,.int .i64 rm,.slice a5 ts.length c5] 36)) #[.slice a0' xs'.length c0',.int .i64 st',.slice a2' sl'.length c2',.int .i64 fl',.int .i64 rm',.slice a5' ts'.length c5'] 36
 simp only [World.size_alloc] at v
 have HK:=hide (And.intro B0 (And.intro u v))
 clear u v B0
 go_enter Tryz.func132,Tryz.ntmps132
 go_wp2_with fail
 refine (HE2.out _ HK.out.1).mono ?_
 rintro e w1 ⟨rfl,hb1⟩
 have HK1:=hide (And.intro (HK.out.1.trans (hb1.mono HK.out.1.size)) (And.intro (HK.out.2.1.below hb1) (HK.out.2.2.below hb1)))
 clear hb1 HK
 by_cases k0:pl=pl'∧tg=tg'
 rotate_left
 ·rw [decide_eq_false k0]
  have HV:=hide (show r=false by rw [HR.out,decide_eq_false_iff_not];exact fun e=>k0 ⟨e.1,e.2.2.2.2.2⟩)
  clear HR HE1 HE2
  go_wp2
  go_ret
  exact ⟨ret_bool HV.out.symm,HK1.out.1⟩
 rw [decide_eq_true k0]
 have HC0:=hide k0
 clear k0
 obtain ⟨p0,p1,p2,p3,p4,p5⟩:=(HK1.out.2.1).ly6
 obtain ⟨q0,q1,q2,q3,q4,q5⟩:=(HK1.out.2.2).ly6
 by_cases k1:st=st'
 rotate_left
 ·have g1:(st == st')=false:=by simpa using k1
  have HV:=hide (show r=false by rw [HR.out];simp [k1])
  clear HR HE1 HE2
  go_wp2
  go_ret
  exact ⟨ret_bool HV.out.symm,HK1.out.1⟩
 have g1:(st == st')=true:=by simpa using k1
 have HC1:=hide k1
 clear k1
 go_wp2_with fail
 refine (HE1.out _ HK1.out.1).mono ?_
 rintro e w2 ⟨rfl,hb2⟩
 have HK2:=hide (And.intro (HK1.out.1.trans (hb2.mono HK1.out.1.size)) (And.intro (HK1.out.2.1.below hb2) (HK1.out.2.2.below hb2)))
 clear hb2 p0 p1 p2 p3 p4 p5 q0 q1 q2 q3 q4 q5
 by_cases k4:sl=sl'
 rotate_left
 ·rw [decide_eq_false k4]
  have HV:=hide (show r=false by rw [HR.out];simp [k4])
  clear HR HE1 HE2
  go_wp2
  go_ret
  exact ⟨ret_bool HV.out.symm,HK2.out.1⟩
 rw [decide_eq_true k4]
 have HC4:=hide k4
 clear k4
 obtain ⟨p0,p1,p2,p3,p4,p5⟩:=(HK2.out.2.1).ly6
 obtain ⟨q0,q1,q2,q3,q4,q5⟩:=(HK2.out.2.2).ly6
 by_cases k2:fl=fl'
 rotate_left
 ·have g2:(fl == fl')=false:=by simpa using k2
  have HV:=hide (show r=false by rw [HR.out];simp [k2])
  clear HR HE1 HE2
  go_wp2
  go_ret
  exact ⟨ret_bool HV.out.symm,HK2.out.1⟩
 have g2:(fl == fl')=true:=by simpa using k2
 have HC2:=hide k2
 clear k2
 by_cases k3:rm=rm'
 rotate_left
 ·have g3:(rm == rm')=false:=by simpa using k3
  have HV:=hide (show r=false by rw [HR.out];simp [k3])
  clear HR HE1 HE2
  go_wp2
  go_ret
  exact ⟨ret_bool HV.out.symm,HK2.out.1⟩
 have g3:(rm == rm')=true:=by simpa using k3
 have HV:=hide (show r=true by rw [HR.out];simp [HC0.out.1,HC0.out.2,HC1.out,HC2.out,k3,HC4.out])
 clear HR HE1 HE2 k3
 go_wp2
 go_ret
 exact ⟨ret_bool HV.out.symm,HK2.out.1⟩
end Go.Proofs.YtngdgogjlpjjpaeGreat
namespace Go.Proofs.YtngdgogjlpjjpaeGreat
open Go.RowKit Classical
set_option linter.unusedVariables false
theorem eqMem_any (a1 a2 a3 b1 b2 b3:Option Addr)(n1 c1 n2 c2 n3 c3 m1 d1 m2 d2 m3 d3:Nat)(x1 x2 x3 y1 y2 y3:List Int)(w:World)(h1:BS w a1 n1 c1 x1)(h2:BS w a2 n2 c2 x2)(h3:BS w a3 n3 c3 x3)
 (k1:BS w b1 m1 d1 y1) (k2:BS w b2 m2 d2 y2) (k3:BS w b3 m3 d3 y3):
 Calls Tryz.prog 24 #[.agg #[.slice a1 n1 c1,.slice a2 n2 c2,.slice a3 n3 c3],.agg #[.slice b1 m1 d1,.slice b2 m2 d2,.slice b3 m3 d3]] w fun e w'=>e=.returned (.bool (decide (x1=y1) && (decide (x2=y2) && decide (x3=y3))))∧Below w.heap.size w w':=by
 have hB0:Below w.heap.size w ((w.alloc (.cells #[.slice a1 n1 c1,.slice a2 n2 c2,.slice a3 n3 c3] 50)).alloc (.cells #[.slice b1 m1 d1,.slice b2 m2 d2,.slice b3 m3 d3] 50)):=
  ((Below.refl _ _).alloc (Nat.le_refl _) _).alloc (by simp) _
 go_enter Tryz.func24,Tryz.ntmps24
 go_wp2_with fail
 refine (eqByteS_any a1 b1 n1 c1 m1 d1 x1 y1 _ (h1.below hB0) (k1.below hB0)).mono ?_
 rintro e w1 ⟨rfl,hb1⟩
 have hB1:=hB0.trans (hb1.mono (by simp;omega))
 have u1:=((Blk.new w #[.slice a1 n1 c1,.slice a2 n2 c2,.slice a3 n3 c3] 50).alloc (.cells #[.slice b1 m1 d1,.slice b2 m2 d2,.slice b3 m3 d3] 50)).below hb1
 have v1:=(Blk.new (w.alloc (.cells #[.slice a1 n1 c1,.slice a2 n2 c2,.slice a3 n3 c3] 50)) #[.slice b1 m1 d1,.slice b2 m2 d2,.slice b3 m3 d3] 50).below hb1
 simp only [World.size_alloc] at v1
 clear hb1
 by_cases e1:x1=y1
 ·simp only [decide_eq_true e1]
  obtain ⟨q1,q2,q3,q4⟩:=u1.three
  obtain ⟨q5,q6,q7,q8⟩:=v1.three
  have E1:=hide e1
  clear e1
  go_wp2_with fail
  refine (eqByteS_any a2 b2 n2 c2 m2 d2 x2 y2 _ (h2.below hB1) (k2.below hB1)).mono ?_
  rintro e w2 ⟨rfl,hb2⟩
  have hB2:=hB1.trans (hb2.mono hB1.size)
  have u2:=u1.below hb2
  have v2:=v1.below hb2
  clear hb2 q1 q2 q3 q4 q5 q6 q7 q8 u1 v1
  by_cases e2:x2=y2
  ·simp only [decide_eq_true e2]
   obtain ⟨q1,q2,q3,q4⟩:=u2.three
   obtain ⟨q5,q6,q7,q8⟩:=v2.three
   have E2:=hide e2
   clear e2
   go_wp2_with fail
   refine (eqByteS_any a3 b3 n3 c3 m3 d3 x3 y3 _ (h3.below hB2) (k3.below hB2)).mono ?_
   rintro e w3 ⟨rfl,hb3⟩
   have hB3:=hB2.trans (hb3.mono hB2.size)
   clear hb3 q1 q2 q3 q4 q5 q6 q7 q8 u2 v2
   by_cases e3:x3=y3
   ·simp only [decide_eq_true e3]
    have E3:=hide e3
    clear e3
    go_wp2
    go_ret
    exact ⟨ret_bool (by simp [unhide E1,unhide E2,unhide E3]),hB3⟩
   ·simp only [decide_eq_false e3]
    have E3:=hide e3
    clear e3
    go_wp2
    go_ret
    exact ⟨ret_bool (by simp [unhide E3]),hB3⟩
  ·simp only [decide_eq_false e2]
   have E2:=hide e2
   clear e2
   go_wp2
   go_ret
   exact ⟨ret_bool (by simp [unhide E2]),hB2⟩
 ·simp only [decide_eq_false e1]
  have E1:=hide e1
  clear e1
  go_wp2
  go_ret
  exact ⟨ret_bool (by simp [unhide E1]),hB1⟩
theorem eqMem_same (a1 a2 a3 b1 b2 b3:Option Addr)(n1 c1 n2 c2 n3 c3 m1 d1 m2 d2 m3 d3:Nat)(x1 x2 x3:List Int)(w:World)(h1:BS w a1 n1 c1 x1)(h2:BS w a2 n2 c2 x2)(h3:BS w a3 n3 c3 x3)
 (k1:BS w b1 m1 d1 x1) (k2:BS w b2 m2 d2 x2) (k3:BS w b3 m3 d3 x3):
 Calls Tryz.prog 24 #[.agg #[.slice a1 n1 c1,.slice a2 n2 c2,.slice a3 n3 c3],.agg #[.slice b1 m1 d1,.slice b2 m2 d2,.slice b3 m3 d3]] w fun e w'=>e=.returned (.bool true)∧Below w.heap.size w w':=
 (eqMem_any a1 a2 a3 b1 b2 b3 n1 c1 n2 c2 n3 c3 m1 d1 m2 d2 m3 d3 x1 x2 x3 x1 x2 x3 w h1 h2 h3 k1 k2 k3).mono fun e w' h=>⟨by rw [h.1];simp,h.2⟩
def rok (b l o:Int):Bool:=
 decide (5≤l∧l≤14∧0≤o∧o≤255∧(8≤l∨o=0)∧0≤b∧b≤262144 - (2:Int)^l.toNat∧b % (2:Int)^l.toNat=0)
theorem sRegionOk_any (b l o:Int)(r x y:Bool)(w:World)(hb:(Lit.int .i64 b).wf=true):
 Calls Tryz.prog 276 #[.agg #[.int .i64 b,.int .i64 l,.int .i64 o,.bool r,.bool x,.bool y]] w fun e w'=>e=.returned (.bool (rok b l o))∧Below w.heap.size w w':=by
 by_cases h1:l<5
 ·have hf:Hid (rok b l o=false):=by show _=_;unfold rok;simp;omega
  go_enter Tryz.func276,Tryz.ntmps276
  go_wp2
  go_ret
  exact ⟨ret_bool hf.out.symm,(Below.refl _ _).alloc (Nat.le_refl _) _⟩
 ·by_cases h2:14<l
  ·have hf:Hid (rok b l o=false):=by show _=_;unfold rok;simp;omega
   go_enter Tryz.func276,Tryz.ntmps276
   go_wp2
   go_ret
   exact ⟨ret_bool hf.out.symm,(Below.refl _ _).alloc (Nat.le_refl _) _⟩
  ·by_cases h3:o<0
   ·have hf:Hid (rok b l o=false):=by show _=_;unfold rok;simp;omega
    go_enter Tryz.func276,Tryz.ntmps276
    go_wp2
    go_ret
    exact ⟨ret_bool hf.out.symm,(Below.refl _ _).alloc (Nat.le_refl _) _⟩
   ·by_cases h4:255<o
    ·have hf:Hid (rok b l o=false):=by show _=_;unfold rok;simp;omega
     go_enter Tryz.func276,Tryz.ntmps276
     go_wp2
     go_ret
     exact ⟨ret_bool hf.out.symm,(Below.refl _ _).alloc (Nat.le_refl _) _⟩
    ·by_cases h5:l<8∧o≠0
     ·obtain ⟨h5a,h5b⟩:=h5
      have hf:Hid (rok b l o=false):=by show _=_;unfold rok;simp;omega
      have h5c:(o != 0)=true:=by simpa using h5b
      clear h5b
      go_enter Tryz.func276,Tryz.ntmps276
      go_wp2
      go_ret
      exact ⟨ret_bool hf.out.symm,(Below.refl _ _).alloc (Nat.le_refl _) _⟩
     ·have hp:=pow_lt l.toNat (by omega)
      have hp0:=pow_pos l.toNat
      have hf:Hid (rok b l o=decide (0≤b∧b≤262144 - (2:Int)^l.toNat∧b % (2:Int)^l.toNat=0)):=by
       show _=_;unfold rok;congr 1;apply propext;constructor
       ·rintro ⟨_,_,_,_,_,h⟩;exact h
       ·intro h;exact ⟨by omega,by omega,by omega,by omega,by omega,h⟩
      by_cases h8:l<8
      ·have h0:o=0:=by omega
       subst h0
       clear h5 h3 h4
       go_enter Tryz.func276,Tryz.ntmps276
       go_wp2_with (go_at_call 275;refine (l2Power_any _ (by omega) (by omega) _).mono ?_;rintro e w' ⟨rfl,rfl⟩)
       all_goals
        go_ret
        refine ⟨ret_bool ?_,(Below.refl _ _).alloc (Nat.le_refl _) _⟩
        rw [hf.out,Bool.eq_iff_iff]
        simp
        try omega
      ·clear h5
       go_enter Tryz.func276,Tryz.ntmps276
       go_wp2_with (go_at_call 275;refine (l2Power_any _ (by omega) (by omega) _).mono ?_;rintro e w' ⟨rfl,rfl⟩)
       all_goals
        go_ret
        refine ⟨ret_bool ?_,(Below.refl _ _).alloc (Nat.le_refl _) _⟩
        rw [hf.out,Bool.eq_iff_iff]
        simp
        try omega
theorem iRegionOk_any (b l o:Int)(r x y:Bool)(w:World)(hb:(Lit.int .i64 b).wf=true):
 Calls Tryz.prog 293 #[.agg #[.int .i64 b,.int .i64 l,.int .i64 o,.bool r,.bool x,.bool y]] w fun e w'=>e=.returned (.bool (rok b l o))∧Below w.heap.size w w':=by
 by_cases h1:l<5
 ·have hf:Hid (rok b l o=false):=by show _=_;unfold rok;simp;omega
  go_enter Tryz.func293,Tryz.ntmps293
  go_wp2
  go_ret
  exact ⟨ret_bool hf.out.symm,(Below.refl _ _).alloc (Nat.le_refl _) _⟩
 ·by_cases h2:14<l
  ·have hf:Hid (rok b l o=false):=by show _=_;unfold rok;simp;omega
   go_enter Tryz.func293,Tryz.ntmps293
   go_wp2
   go_ret
   exact ⟨ret_bool hf.out.symm,(Below.refl _ _).alloc (Nat.le_refl _) _⟩
  ·by_cases h3:o<0
   ·have hf:Hid (rok b l o=false):=by show _=_;unfold rok;simp;omega
    go_enter Tryz.func293,Tryz.ntmps293
    go_wp2
    go_ret
    exact ⟨ret_bool hf.out.symm,(Below.refl _ _).alloc (Nat.le_refl _) _⟩
   ·by_cases h4:255<o
    ·have hf:Hid (rok b l o=false):=by show _=_;unfold rok;simp;omega
     go_enter Tryz.func293,Tryz.ntmps293
     go_wp2
     go_ret
     exact ⟨ret_bool hf.out.symm,(Below.refl _ _).alloc (Nat.le_refl _) _⟩
    ·by_cases h5:l<8∧o≠0
     ·obtain ⟨h5a,h5b⟩:=h5
      have hf:Hid (rok b l o=false):=by show _=_;unfold rok;simp;omega
      have h5c:(o != 0)=true:=by simpa using h5b
      clear h5b
      go_enter Tryz.func293,Tryz.ntmps293
      go_wp2
      go_ret
      exact ⟨ret_bool hf.out.symm,(Below.refl _ _).alloc (Nat.le_refl _) _⟩
     ·have hp:=pow_lt l.toNat (by omega)
      have hp0:=pow_pos l.toNat
      have hf:Hid (rok b l o=decide (0≤b∧b≤262144 - (2:Int)^l.toNat∧b % (2:Int)^l.toNat=0)):=by
       show _=_;unfold rok;congr 1;apply propext;constructor
       ·rintro ⟨_,_,_,_,_,h⟩;exact h
       ·intro h;exact ⟨by omega,by omega,by omega,by omega,by omega,h⟩
      by_cases h8:l<8
      ·have h0:o=0:=by omega
       subst h0
       clear h5 h3 h4
       go_enter Tryz.func293,Tryz.ntmps293
       go_wp2
       all_goals
        go_ret
        refine ⟨ret_bool ?_,(Below.refl _ _).alloc (Nat.le_refl _) _⟩
        rw [hf.out,Bool.eq_iff_iff]
        simp [*]
        try omega
      ·clear h5
       by_cases ho:o=0
       ·subst ho
        clear h3 h4
        go_enter Tryz.func293,Tryz.ntmps293
        go_wp2
        all_goals
         go_ret
         refine ⟨ret_bool ?_,(Below.refl _ _).alloc (Nat.le_refl _) _⟩
         rw [hf.out,Bool.eq_iff_iff]
         simp [*]
         try omega
       ·have ho':(o != 0)=true:=by simpa using ho
        clear ho
        go_enter Tryz.func293,Tryz.ntmps293
        go_wp2
        all_goals
         go_ret
         refine ⟨ret_bool ?_,(Below.refl _ _).alloc (Nat.le_refl _) _⟩
         rw [hf.out,Bool.eq_iff_iff]
         simp [*]
         try omega
end Go.Proofs.YtngdgogjlpjjpaeGreat
