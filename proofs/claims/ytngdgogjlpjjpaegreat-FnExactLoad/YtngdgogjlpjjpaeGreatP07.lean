import Derived.Test.YtngdgogjlpjjpaeGreatP00
import Derived.Test.YtngdgogjlpjjpaeGreatP03
import Derived.Test.YtngdgogjlpjjpaeGreatP06
set_option maxHeartbeats 2000000
namespace Go.Proofs.YtngdgogjlpjjpaeGreat
open Go.RowKit
set_option linter.unusedVariables false
set_option linter.unusedSimpArgs false
set_option maxRecDepth 100000
def pcn (tn bn:Nat)(bl:List Bk)(b:Int):Int:=if b=-1 then (tn:Int) else if 0≤b∧b<(bn:Int) then ((bl.getD b.toNat zB).2.1:Int) else -1
def PiPost (w:World)(ta:Option Addr)(tn tc bn:Nat)(bl:List Bk)(b:Int)(e:Ending)(w':World):Prop:=
 ∃ a n c ok,e=.returned (.tuple #[.slice a n c,.bool ok])∧ok=decide (0≤pcn tn bn bl b)∧(ok=true→(n:Int)=pcn tn bn bl b)∧n≤maxLen∧Below w.heap.size w w'
theorem l4Piece_any (nm:ByteArray)(ta:Option Addr)(tn tc:Nat)(ba:Option Addr)(bn bc:Nat)(bl:List Bk)(v3 v5 v6 v7:Value)(bss b:Int)(w:World)(htn:tn≤maxLen)(hb:BKS w ba bn bc bl):
 Calls Tryz.prog 133 #[.agg #[.string nm,.slice ta tn tc,.slice ba bn bc,v3,.int .i64 bss,v5,v6,v7],.int .i64 b] w (PiPost w ta tn tc bn bl b):=by
 obtain ⟨W,hW⟩:∃ W,W=w.alloc (.cells #[.string nm,.slice ta tn tc,.slice ba bn bc,v3,.int .i64 bss,v5,v6,v7] 104):=⟨_,rfl⟩
 have hB0:Below w.heap.size w W:=by rw [hW];exact (Below.refl _ _).alloc (Nat.le_refl _) _
 have kb:Blk W w.heap.size #[.string nm,.slice ta tn tc,.slice ba bn bc,v3,.int .i64 bss,v5,v6,v7] 104:=by rw [hW];exact Blk.new _ _ _
 obtain ⟨q0,q1,q2,q3,q4,q5,q6,q7⟩:=kb.eight
 have hb0:=hb.below hB0
 have hm2:=hb.2.1
 unfold maxLen at hm2
 have HW:=hide hW
 clear hW
 by_cases c1:b=-1
 ·subst c1
  have HP:=hide (show pcn tn bn bl (-1)=(tn:Int) from rfl)
  go_enter Tryz.func133,Tryz.ntmps133
  go_wp2_with (rw [← HW.out])
  go_ret2
  exact ⟨ta,tn,tc,true,rfl,by rw [HP.out];simp,fun _=>HP.out.symm,htn,hB0⟩
 ·have c1':(b == -1)=false:=by simpa using c1
  by_cases c2:b<0
  ·have HP:=hide (show pcn tn bn bl b=-1 by unfold pcn;rw [if_neg c1,if_neg (by omega)])
   go_enter Tryz.func133,Tryz.ntmps133
   go_wp2_with (rw [← HW.out])
   go_ret2
   exact ⟨_,0,0,false,rfl,by rw [HP.out];rfl,(by intro h;cases h),Nat.zero_le _,by first | exact hB0.alloc hB0.size _ | exact hB0⟩
  ·by_cases c3:(bn:Int)≤b
   ·have HP:=hide (show pcn tn bn bl b=-1 by unfold pcn;rw [if_neg c1,if_neg (by omega)])
    go_enter Tryz.func133,Tryz.ntmps133
    go_wp2_with (rw [← HW.out])
    go_ret2
    exact ⟨_,0,0,false,rfl,by rw [HP.out];rfl,(by intro h;cases h),Nat.zero_le _,by first | exact hB0.alloc hB0.size _ | exact hB0⟩
   ·have c3':b<(bn:Int):=by omega
    have HP:=hide (show pcn tn bn bl b=((bl.getD b.toNat zB).2.1:Int) by unfold pcn;rw [if_neg c1,if_pos (by omega)])
    obtain ⟨bb,off,rfl⟩:=hb0.addr (by omega)
    have hck:=hb0.at b.toNat (by omega)
    have hik:=hb0.2.2.2.1 b.toNat (by omega)
    generalize bl.getD b.toNat zB=B at *
    obtain ⟨xa,xn,xc,xz⟩:=B
    dsimp only at hck hik HP
    have HM:=hide hik.2.1
    clear hik
    have c2':0≤b:=by omega
    go_enter Tryz.func133,Tryz.ntmps133
    go_wp2_with (rw [← HW.out])
    go_ret2
    exact ⟨xa,xn,xc,true,rfl,by rw [HP.out];simp,fun _=>HP.out.symm,HM.out,hB0⟩
theorem pieceOf_any (nm:ByteArray)(ta:Option Addr)(tn tc:Nat)(ba:Option Addr)(bn bc:Nat)(bl:List Bk)(v3 v5 v6 v7:Value)(bss b:Int)(w:World)(htn:tn≤maxLen)(hb:BKS w ba bn bc bl):
 Calls Tryz.prog 182 #[.agg #[.string nm,.slice ta tn tc,.slice ba bn bc,v3,.int .i64 bss,v5,v6,v7],.int .i64 b] w (PiPost w ta tn tc bn bl b):=by
 obtain ⟨W,hW⟩:∃ W,W=w.alloc (.cells #[.string nm,.slice ta tn tc,.slice ba bn bc,v3,.int .i64 bss,v5,v6,v7] 104):=⟨_,rfl⟩
 have hB0:Below w.heap.size w W:=by rw [hW];exact (Below.refl _ _).alloc (Nat.le_refl _) _
 have kb:Blk W w.heap.size #[.string nm,.slice ta tn tc,.slice ba bn bc,v3,.int .i64 bss,v5,v6,v7] 104:=by rw [hW];exact Blk.new _ _ _
 obtain ⟨q0,q1,q2,q3,q4,q5,q6,q7⟩:=kb.eight
 have hb0:=hb.below hB0
 have hm2:=hb.2.1
 unfold maxLen at hm2
 have HW:=hide hW
 clear hW
 by_cases c1:b=-1
 ·subst c1
  have HP:=hide (show pcn tn bn bl (-1)=(tn:Int) from rfl)
  go_enter Tryz.func182,Tryz.ntmps182
  go_wp2_with (rw [← HW.out])
  go_ret2
  exact ⟨ta,tn,tc,true,rfl,by rw [HP.out];simp,fun _=>HP.out.symm,htn,hB0⟩
 ·have c1':(b == -1)=false:=by simpa using c1
  by_cases c2:b<0
  ·have HP:=hide (show pcn tn bn bl b=-1 by unfold pcn;rw [if_neg c1,if_neg (by omega)])
   go_enter Tryz.func182,Tryz.ntmps182
   go_wp2_with (rw [← HW.out])
   go_ret2
   exact ⟨_,0,0,false,rfl,by rw [HP.out];rfl,(by intro h;cases h),Nat.zero_le _,by first | exact hB0.alloc hB0.size _ | exact hB0⟩
  ·by_cases c3:(bn:Int)≤b
   ·have HP:=hide (show pcn tn bn bl b=-1 by unfold pcn;rw [if_neg c1,if_neg (by omega)])
    go_enter Tryz.func182,Tryz.ntmps182
    go_wp2_with (rw [← HW.out])
    go_ret2
    exact ⟨_,0,0,false,rfl,by rw [HP.out];rfl,(by intro h;cases h),Nat.zero_le _,by first | exact hB0.alloc hB0.size _ | exact hB0⟩
   ·have c3':b<(bn:Int):=by omega
    have HP:=hide (show pcn tn bn bl b=((bl.getD b.toNat zB).2.1:Int) by unfold pcn;rw [if_neg c1,if_pos (by omega)])
    obtain ⟨bb,off,rfl⟩:=hb0.addr (by omega)
    have hck:=hb0.at b.toNat (by omega)
    have hik:=hb0.2.2.2.1 b.toNat (by omega)
    generalize bl.getD b.toNat zB=B at *
    obtain ⟨xa,xn,xc,xz⟩:=B
    dsimp only at hck hik HP
    have HM:=hide hik.2.1
    clear hik
    have c2':0≤b:=by omega
    go_enter Tryz.func182,Tryz.ntmps182
    go_wp2_with (rw [← HW.out])
    go_ret2
    exact ⟨xa,xn,xc,true,rfl,by rw [HP.out];simp,fun _=>HP.out.symm,HM.out,hB0⟩
def upS (f:Nat→Nat):Nat→Nat
 | 0=>0
 | k+1=>upS f k+f k
theorem upS_mono (f:Nat→Nat)(k:Nat):∀ m,k≤m→upS f k≤upS f m
 | 0,h=>by
    obtain rfl:k=0:=by omega
    exact Nat.le_refl _
 | m+1,h=>by
   by_cases e:k=m+1
   ·subst e;exact Nat.le_refl _
   ·have:=upS_mono f k m (by omega)
    show _≤upS f m+f m
    omega
def szR (l:Int)(t:Nat):Int:=if l<(t:Int) then -1 else l - t
theorem eqExport_same (s:ByteArray)(b i:Int)(w:World):
 Calls Tryz.prog 209 #[.agg #[.string s,.int .i64 b,.int .i64 i],.agg #[.string s,.int .i64 b,.int .i64 i]] w fun e w'=>e=.returned (.bool true)∧Below w.heap.size w w':=by
 have h1:(s.toList != s.toList)=false:=by simp
 have h2:(b != b)=false:=by simp
 have h3:(i != i)=false:=by simp
 have hB0:Below w.heap.size w ((w.alloc (.cells #[.string s,.int .i64 b,.int .i64 i] 207)).alloc (.cells #[.string s,.int .i64 b,.int .i64 i] 207)):=((Below.refl _ _).alloc (Nat.le_refl _) _).alloc (by simp) _
 have HB:=hide hB0
 clear hB0
 go_enter Tryz.func209,Tryz.ntmps209
 go_wp2
 go_ret
 exact ⟨rfl,by first | exact HB.out | exact below_drewN HB.out _⟩
end Go.Proofs.YtngdgogjlpjjpaeGreat
namespace Go.Proofs.YtngdgogjlpjjpaeGreat
open Go.RowKit
set_option linter.unusedVariables false
def cfo (s w k d:Int):Bool:=decide (0≤s∧s≤4∧1≤w∧w≤64∧0≤k∧k≤1024∧k % 32=0∧0≤d∧d≤100)
theorem grained_any (x:Int)(w:World):
 Calls Tryz.prog 164 #[.int .i64 x] w fun e w'=>e=.returned (.bool (decide (0≤x∧x % 32=0)))∧w=w':=by
 go_enter Tryz.func164,Tryz.ntmps164
 go_wp2
 all_goals
  go_ret
  refine ⟨ret_bool ?_,rfl⟩
  rw [Bool.eq_iff_iff]
  simp
  try omega
theorem upTo_any (v m:Int)(w:World):
 Calls Tryz.prog 165 #[.int .i64 v,.int .i64 m] w fun e w'=>e=.returned (.bool (decide (0≤v∧v≤m)))∧w=w':=by
 go_enter Tryz.func165,Tryz.ntmps165
 go_wp2
 all_goals
  go_ret
  refine ⟨ret_bool ?_,rfl⟩
  rw [Bool.eq_iff_iff]
  simp
  try omega
theorem sConfigOk_any (s c k d:Int)(w:World):
 Calls Tryz.prog 71 #[.agg #[.int .i64 s,.int .i64 c,.int .i64 k,.int .i64 d]] w fun e w'=>e=.returned (.bool (cfo s c k d))∧Below w.heap.size w w':=by
 have HB:=hide ((Below.refl w.heap.size w).alloc (Nat.le_refl _) (.cells #[.int .i64 s,.int .i64 c,.int .i64 k,.int .i64 d] 44))
 go_enter Tryz.func71,Tryz.ntmps71
 go_wp2
 all_goals
  go_ret
  refine ⟨ret_bool ?_,HB.out⟩
  unfold cfo
  rw [Bool.eq_iff_iff]
  simp
  try omega
theorem iConfigOk_any (s c k d:Int)(w:World):
 Calls Tryz.prog 74 #[.agg #[.int .i64 s,.int .i64 c,.int .i64 k,.int .i64 d]] w fun e w'=>e=.returned (.bool (cfo s c k d))∧Below w.heap.size w w':=by
 have HB:=hide ((Below.refl w.heap.size w).alloc (Nat.le_refl _) (.cells #[.int .i64 s,.int .i64 c,.int .i64 k,.int .i64 d] 44))
 have HF:∀ b:Bool,b=cfo s c k d ↔ (b=true ↔ (0≤s∧s≤4∧1≤c∧c≤64∧0≤k∧k≤1024∧k % 32=0∧0≤d∧d≤100)):=fun b=>by unfold cfo;rw [Bool.eq_iff_iff];simp
 have HF:=hide HF
 go_enter Tryz.func74,Tryz.ntmps74
 go_wp2_with (first
  | (go_at_call 164;refine (grained_any _ _).mono ?_;rintro e w1 ⟨rfl,rfl⟩)
  | (go_at_call 165;refine (upTo_any _ _ _).mono ?_;rintro e w1 ⟨rfl,rfl⟩))
 all_goals
  go_ret
  refine ⟨ret_bool ?_,HB.out⟩
  rw [HF.out]
  simp_all
  try omega
theorem toConfig_any (s c k d:Int)(w:World):
 Calls Tryz.prog 37 #[.agg #[.int .i64 s,.int .i64 c,.int .i64 k,.int .i64 d]] w fun e w'=>e=.returned (.agg #[.int .i64 s,.int .i64 c,.int .i64 k,.int .i64 d])∧Below w.heap.size w w':=by
 go_enter Tryz.func37,Tryz.ntmps37
 go_wp2
 refine bodyPost_ret (v:=.agg #[.int .i64 s,.int .i64 c,.int .i64 k,.int .i64 d]) (by simp [results,Tryz.results37,go_sem]) rfl ⟨rfl,?_⟩
 exact ((((Below.refl _ _).alloc (Nat.le_refl _) _).alloc (by simp) _).alloc (by simp;omega) _)
theorem l2Power_any (n:Int)(h0:0≤n)(h:n≤20)(w:World):
 Calls Tryz.prog 275 #[.int .i64 n] w fun e w'=>e=.returned (.int .i64 ((2:Int)^n.toNat))∧w'=w:=by
 go_enter Tryz.func275,Tryz.ntmps275
 go_wp2
 go_loop [3,4] (fun v i=>∃ k:Nat,(k:Int)≤n∧i=.int .i64 k∧v=.int .i64 ((2:Int)^k)) (fun _ i=>n.toNat - (intOf i).toNat)
 case atStart=>exact ⟨0,by omega,rfl,rfl⟩
 case round=>
  obtain ⟨k,hk,rfl,rfl⟩:=hrel
  by_cases hlt:(k:Int)<n
  ·have hp:=pow_lt k (by omega)
   have hp0:=pow_pos k
   have hs:Hid ((2:Int)^(k+1)=(2:Int)^k * 2):=Int.pow_succ 2 k
   generalize (2:Int)^k=P at *
   go_wp2
   go_round
   case rel=>exact ⟨k+1,by omega,by go_num,by rw [hs.out]⟩
   case measure=>simp [intOf];omega
  ·have e:Hid (n.toNat=k):=by show n.toNat=k;omega
   go_wp2
   go_ret
   exact ⟨ret_int (by rw [e.out]),rfl⟩
def runq (i0 j:Nat):Nat:=2 ^ (i0+j) - 2 ^ i0
theorem runq_zero (i0:Nat):runq i0 0=0:=by simp [runq]
theorem runq_step:∀ i0,i0<8→∀ j,j<8→i0+j<8→(runq i0 j ||| 2 ^ (i0+j))=runq i0 (j+1):=by decide +kernel
theorem runq_lt:∀ i0,i0<8→∀ j,j<9→i0+j≤8→runq i0 j<256:=by decide +kernel
theorem runq_pop:∀ i0,i0<8→∀ j,j<9→i0+j≤8→popc (runq i0 j)=j:=by decide +kernel
theorem runq_full:∀ i0,i0<8→∀ j,j<9→i0+j≤8→(runq i0 j=255 ↔ j=8):=by decide +kernel
abbrev CSt:=Option (Int × Int × Nat)
def sCnt:CSt→Int
 | none=>0
 | some (b,l,q)=>cnt l q
def StOk (s:CSt)(L:Int):Prop:=∀ b l q,s=some (b,l,q)→5≤l∧l<L∧q<256∧0<cnt l q
def Holds (w:World)(B:Nat):CSt→Prop
 | none=>Bst w B false 0 0 0
 | some (b,l,q)=>Bst w B true b l (255 - (q:Int))
def keep (s:CSt)(b L:Int)(q:Nat):CSt:=if sCnt s<cnt L q then some (b,L,q) else s
theorem cnt_run (l:Int)(P:Int)(hP:(2:Int)^(l - 3).toNat=P)(i0 j:Nat)(h0:i0<8)(h:i0+j≤8):cnt l (runq i0 j)=j * P:=by
 unfold cnt
 rw [hP,runq_pop i0 h0 j (by omega) h]
theorem offer_none (B:Nat)(b l:Int)(q:Nat)(w:World)(h:Holds w B none):
 Calls Tryz.prog 294 #[.pointer (some ⟨B,0,none⟩),.agg #[.int .i64 b,.int .i64 l,.int .i64 (255 - (q:Int)),.bool false,.bool false,.bool false]] w fun e w'=>e=.returned (.tuple #[])∧Holds w' B (some (b,l,q))∧Turn (fun j=>j=B) w w':=
 offer_new B b l (255 - (q:Int)) 0 0 0 w h
theorem offer_some (B:Nat)(b l b' l':Int)(q q':Nat)(w:World)(h:Holds w B (some (b',l',q')))(hq:q<256)(hq':q'<256)(hl:5≤l)(hl2:l≤14)(hl':5≤l')(hl2':l'≤14):
 Calls Tryz.prog 294 #[.pointer (some ⟨B,0,none⟩),.agg #[.int .i64 b,.int .i64 l,.int .i64 (255 - (q:Int)),.bool false,.bool false,.bool false]] w fun e w'=>e=.returned (.tuple #[])∧Holds w' B (if cm l q l' q' then some (b,l,q) else some (b',l',q'))∧Turn (fun j=>j=B) w w':=
 (offer_cmp B b l b' l' q q' w h hq hq' hl hl2 hl' hl2').mono fun e w' he=>⟨he.1,by
   have:=he.2.1
   cases hc:cm l q l' q'
   ·rw [hc] at this;exact this
   ·rw [hc] at this;exact this,he.2.2⟩
def stJ (s:CSt)(b l:Int)(i0 j:Nat):CSt:=if 8≤l∨j=8 then keep s b l (runq i0 j) else s
theorem stJ_zero (s:CSt)(b l P:Int)(hP:(2:Int)^(l - 3).toNat=P)(i0:Nat)(h0:i0<8)(hs:0≤sCnt s):stJ s b l i0 0=s:=by
 unfold stJ keep
 rw [cnt_run l P hP i0 0 h0 (by omega)]
 simp
 omega
theorem offer_step (B:Nat)(s:CSt)(b l P:Int)(hP:(2:Int)^(l - 3).toNat=P)(hP0:0<P)(i0 j:Nat)(w:World)(h0:i0<8)(hj:i0+j<8)(hl:5≤l)(hl2:l≤14)(hs:StOk s l)(hs0:0≤sCnt s)(h8:8≤l∨j+1=8)(h:Holds w B (stJ s b l i0 j)):
 Calls Tryz.prog 294 #[.pointer (some ⟨B,0,none⟩),.agg #[.int .i64 b,.int .i64 l,.int .i64 (255 - (runq i0 (j+1):Int)),.bool false,.bool false,.bool false]] w fun e w'=>e=.returned (.tuple #[])∧Holds w' B (stJ s b l i0 (j+1))∧Turn (fun j=>j=B) w w':=by
 have hq1:=runq_lt i0 h0 (j+1) (by omega) (by omega)
 have hc1:=cnt_run l P hP i0 (j+1) h0 (by omega)
 have hc0:=cnt_run l P hP i0 j h0 (by omega)
 have hmul:((j+1:Nat):Int) * P=(j:Int) * P+P:=by rw [Int.natCast_add,Int.add_mul];simp
 have hjP:0≤(j:Int) * P:=Int.mul_nonneg (by omega) (by omega)
 have e1:stJ s b l i0 (j+1)=keep s b l (runq i0 (j+1)):=by unfold stJ;rw [if_pos h8]
 rw [e1]
 by_cases hk:8≤l∧sCnt s<cnt l (runq i0 j)
 ·have e0:stJ s b l i0 j=some (b,l,runq i0 j):=by unfold stJ keep;rw [if_pos (Or.inl hk.1),if_pos hk.2]
  rw [e0] at h
  refine (offer_some B b l b l (runq i0 (j+1)) (runq i0 j) w h hq1 (runq_lt i0 h0 j (by omega) (by omega)) hl hl2 hl hl2).mono fun e w' he=>?_
  have hcm:cm l (runq i0 (j+1)) l (runq i0 j)=true:=by unfold cm;rw [hc1,hc0,hmul];simp;omega
  have ek:keep s b l (runq i0 (j+1))=some (b,l,runq i0 (j+1)):=by unfold keep;rw [if_pos (by rw [hc1,hmul];rw [hc0] at hk;omega)]
  rw [hcm] at he
  rw [ek]
  exact he
 ·have e0:stJ s b l i0 j=s:=by
   unfold stJ
   by_cases h8':8≤l
   ·rw [if_pos (Or.inl h8')]
    unfold keep
    rw [if_neg (fun e=>hk ⟨h8',e⟩)]
   ·rw [if_neg (by omega)]
  rw [e0] at h
  match s,h,hs,hs0,hk with
  | none,h,_,_,_=>
    have ek:keep none b l (runq i0 (j+1))=some (b,l,runq i0 (j+1)):=by unfold keep;rw [if_pos (by rw [hc1,hmul];simp [sCnt];omega)]
    rw [ek]
    exact offer_none B b l (runq i0 (j+1)) w h
  | some (b',l',q'),h,hs,hs0,hk=>
    obtain ⟨g1,g2,g3,g4⟩:=hs b' l' q' rfl
    refine (offer_some B b l b' l' (runq i0 (j+1)) q' w h hq1 g3 hl hl2 g1 (by omega)).mono fun e w' he=>?_
    have hcm:cm l (runq i0 (j+1)) l' q'=decide (cnt l' q'<cnt l (runq i0 (j+1))):=by
     unfold cm
     rw [Bool.eq_iff_iff]
     simp
     intro _ h
     omega
    rw [hcm] at he
    by_cases hlt:cnt l' q'<cnt l (runq i0 (j+1))
    ·have ek:keep (some (b',l',q')) b l (runq i0 (j+1))=some (b,l,runq i0 (j+1)):=by
      show (if cnt l' q'<cnt l (runq i0 (j+1)) then some (b,l,runq i0 (j+1)) else some (b',l',q'))=_
      rw [if_pos hlt]
     rw [ek]
     simp only [decide_eq_true hlt,if_true] at he
     exact he
    ·have ek:keep (some (b',l',q')) b l (runq i0 (j+1))=some (b',l',q'):=by
      show (if cnt l' q'<cnt l (runq i0 (j+1)) then some (b,l,runq i0 (j+1)) else some (b',l',q'))=_
      rw [if_neg hlt]
     rw [ek]
     simp only [decide_eq_false hlt] at he
     exact he
end Go.Proofs.YtngdgogjlpjjpaeGreat
