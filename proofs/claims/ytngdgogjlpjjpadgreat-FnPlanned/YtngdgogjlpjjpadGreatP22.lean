import Derived.Test.YtngdgogjlpjjpadGreatP18
import Derived.Test.YtngdgogjlpjjpadGreatP19
namespace Go.Proofs.YtngdgogjlpjjpadGreat
open Go.RowKit Classical
set_option linter.unusedVariables false
set_option linter.unusedSimpArgs false
set_option maxRecDepth 100000
theorem take_succ_eq {α:Type} (z:α) (xs ys:List α) (k:Nat) (h:xs.take k=ys.take k) (hx:k<xs.length) (hy:k<ys.length) (he:xs.getD k z=ys.getD k z):xs.take (k+1)=ys.take (k+1):=by
 rw [List.take_succ_eq_append_getElem hx,List.take_succ_eq_append_getElem hy,h]
 simp [List.getD_eq_getElem?_getD,hx,hy] at he
 rw [he]
set_option maxHeartbeats 1000000 in
theorem l5SameNums_any (a a':Option Addr) (n cap n' cap':Nat) (xs ys:List Int) (w:World) (h:IS w a n cap xs) (h':IS w a' n' cap' ys):
 Calls Tryz.prog 65 #[.slice a n cap,.slice a' n' cap'] w fun e w'=>e=.returned (.bool (decide (xs=ys)))∧Below w.heap.size w w':=by
 obtain ⟨hl,hmx,hr,hc,_⟩:=h
 obtain ⟨hl',hmx',hr',hc',_⟩:=h'
 unfold maxLen at hmx hmx'
 by_cases hn:n=n'
 ·subst hn
  have hne:((n:Int) != (n:Int))=false:=by simp
  by_cases hn0:n=0
  ·subst hn0
   obtain rfl:xs=[]:=List.eq_nil_of_length_eq_zero hl
   obtain rfl:ys=[]:=List.eq_nil_of_length_eq_zero hl'
   clear hc hc'
   go_enter Tryz.func65,Tryz.ntmps65
   go_wp2
   go_loop [5] (fun i=>i=.int .i64 0) (fun _=>0)
   case atStart=>rfl
   case round=>
    obtain rfl:=hrel
    go_wp2
    go_ret
    exact ⟨rfl,Below.refl _ _⟩
  ·obtain ⟨b,off,rfl,hd⟩:=hc hn0
   obtain ⟨b',off',rfl,hd'⟩:=hc' hn0
   clear hc hc'
   go_enter Tryz.func65,Tryz.ntmps65
   go_wp2
   go_loopw [5] (fun i wr=>∃ k:Nat,k≤n∧i=.int .i64 k∧xs.take k=ys.take k∧Below w.heap.size w wr) (fun i _=>n - (intOf i).toNat)
   case atStart=>exact ⟨0,Nat.zero_le _,rfl,by simp,Below.refl _ _⟩
   case round=>
    obtain ⟨k,hk,rfl,hT,hB⟩:=hrel
    by_cases hlt:k<n
    ·have hlt':(k:Int)<(n:Int):=by omega
     have hck:wr.cell? ⟨b,off+k,none⟩=some (.int .i64 (xs.getD k 0)):=(hB.cell (World.block_lt_of_cell? w _ (hd k hlt))).trans (hd k hlt)
     have hck':wr.cell? ⟨b',off'+k,none⟩=some (.int .i64 (ys.getD k 0)):=(hB.cell (World.block_lt_of_cell? w _ (hd' k hlt))).trans (hd' k hlt)
     by_cases he:xs.getD k 0=ys.getD k 0
     ·have hS:=take_eq_succI xs ys k hT (by omega) (by omega) he
      have HS:Hid (xs.take (k+1)=ys.take (k+1)):=hS
      rw [he] at hck
      clear hS hT hd hd' he
      generalize ys.getD k 0=z at *
      have hz:(z != z)=false:=by simp
      go_wp2
      go_quiet (fail)
      go_wp2
      go_roundw
      case rel=>exact ⟨k+1,by omega,by go_num,HS.out,below_drewN hB _⟩
      case measure=>simp [intOf];omega
     ·have hf:Hid (decide (xs=ys)=false):=by
       show _=_
       simp
       intro e
       exact he (by rw [e])
      have hz:(xs.getD k 0 != ys.getD k 0)=true:=by simpa using he
      clear hT hd hd' he
      generalize ys.getD k 0=z at *
      generalize xs.getD k 0=z' at *
      go_wp2
      go_quiet (fail)
      go_wp2
      go_ret
      exact ⟨ret_bool hf.out.symm,below_drewN hB _⟩
    ·have hf:Hid (decide (xs=ys)=true):=by
      show _=_
      simp
      rw [List.take_of_length_le (by omega),List.take_of_length_le (by omega)] at hT
      exact hT
     clear hT hd hd'
     go_wp2
     go_ret
     exact ⟨ret_bool hf.out.symm,hB⟩
 ·have hf:Hid (decide (xs=ys)=false):=by
   show _=_
   simp
   intro e
   rw [e] at hl
   omega
  have hne:((n:Int) != (n':Int))=true:=by simp;omega
  clear hc hc'
  go_enter Tryz.func65,Tryz.ntmps65
  go_wp2
  go_ret
  exact ⟨ret_bool hf.out.symm,Below.refl _ _⟩
set_option maxHeartbeats 1000000 in
theorem sliceEqI_any (a a':Option Addr) (n cap n' cap':Nat) (xs ys:List Int) (w:World) (h:IS w a n cap xs) (h':IS w a' n' cap' ys):
 Calls Tryz.prog 214 #[.slice a n cap,.slice a' n' cap'] w fun e w'=>e=.returned (.bool (decide (xs=ys)))∧Below w.heap.size w w':=by
 obtain ⟨hl,hmx,hr,hc,_⟩:=h
 obtain ⟨hl',hmx',hr',hc',_⟩:=h'
 unfold maxLen at hmx hmx'
 by_cases hn:n=n'
 ·subst hn
  have hne:((n:Int) != (n:Int))=false:=by simp
  by_cases hn0:n=0
  ·subst hn0
   obtain rfl:xs=[]:=List.eq_nil_of_length_eq_zero hl
   obtain rfl:ys=[]:=List.eq_nil_of_length_eq_zero hl'
   clear hc hc'
   go_enter Tryz.func214,Tryz.ntmps214
   go_wp2
   go_loop [13] (fun i=>i=.int .i64 0) (fun _=>0)
   case atStart=>rfl
   case round=>
    obtain rfl:=hrel
    go_wp2
    go_ret
    exact ⟨rfl,Below.refl _ _⟩
  ·obtain ⟨b,off,rfl,hd⟩:=hc hn0
   obtain ⟨b',off',rfl,hd'⟩:=hc' hn0
   clear hc hc'
   go_enter Tryz.func214,Tryz.ntmps214
   go_wp2
   go_loopw [13] (fun i wr=>∃ k:Nat,k≤n∧i=.int .i64 k∧xs.take k=ys.take k∧Below w.heap.size w wr) (fun i _=>n - (intOf i).toNat)
   case atStart=>exact ⟨0,Nat.zero_le _,rfl,by simp,Below.refl _ _⟩
   case round=>
    obtain ⟨k,hk,rfl,hT,hB⟩:=hrel
    by_cases hlt:k<n
    ·have hlt':(k:Int)<(n:Int):=by omega
     have hck:wr.cell? ⟨b,off+k,none⟩=some (.int .i64 (xs.getD k 0)):=(hB.cell (World.block_lt_of_cell? w _ (hd k hlt))).trans (hd k hlt)
     have hck':wr.cell? ⟨b',off'+k,none⟩=some (.int .i64 (ys.getD k 0)):=(hB.cell (World.block_lt_of_cell? w _ (hd' k hlt))).trans (hd' k hlt)
     by_cases he:xs.getD k 0=ys.getD k 0
     ·have hS:=take_eq_succI xs ys k hT (by omega) (by omega) he
      have HS:Hid (xs.take (k+1)=ys.take (k+1)):=hS
      rw [he] at hck
      clear hS hT hd hd' he
      generalize ys.getD k 0=z at *
      have hz:(z != z)=false:=by simp
      go_wp2
      go_quiet (fail)
      go_wp2
      go_roundw
      case rel=>exact ⟨k+1,by omega,by go_num,HS.out,below_drewN hB _⟩
      case measure=>simp [intOf];omega
     ·have hf:Hid (decide (xs=ys)=false):=by
       show _=_
       simp
       intro e
       exact he (by rw [e])
      have hz:(xs.getD k 0 != ys.getD k 0)=true:=by simpa using he
      clear hT hd hd' he
      generalize ys.getD k 0=z at *
      generalize xs.getD k 0=z' at *
      go_wp2
      go_quiet (fail)
      go_wp2
      go_ret
      exact ⟨ret_bool hf.out.symm,below_drewN hB _⟩
    ·have hf:Hid (decide (xs=ys)=true):=by
      show _=_
      simp
      rw [List.take_of_length_le (by omega),List.take_of_length_le (by omega)] at hT
      exact hT
     clear hT hd hd'
     go_wp2
     go_ret
     exact ⟨ret_bool hf.out.symm,hB⟩
 ·have hf:Hid (decide (xs=ys)=false):=by
   show _=_
   simp
   intro e
   rw [e] at hl
   omega
  have hne:((n:Int) != (n':Int))=true:=by simp;omega
  clear hc hc'
  go_enter Tryz.func214,Tryz.ntmps214
  go_wp2
  go_ret
  exact ⟨ret_bool hf.out.symm,Below.refl _ _⟩
def endOf (L:Lay):Int:=if L.slots=[] then wrap64 (65536+L.ram) else L.slots.getD 0 0
set_option maxHeartbeats 1000000 in
theorem l5Ends_any (L:Lay) (a0:Option Addr) (c0:Nat) (xs:List PB) (a2:Option Addr) (c2:Nat) (a5:Option Addr) (c5:Nat) (ts:List TB) (w:World) (h:LyT w L a0 c0 xs a2 c2 a5 c5 ts):
 Calls Tryz.prog 117 #[.agg #[.slice a0 xs.length c0,.int .i64 L.stack,.slice a2 L.slots.length c2,.int .i64 L.flash,.int .i64 L.ram,.slice a5 ts.length c5]] w fun e w'=>e=.returned (.int .i64 (endOf L))∧Below w.heap.size w w':=by
 have HB:=hide (show Below w.heap.size w (w.alloc (.cells #[.slice a0 xs.length c0,.int .i64 L.stack,.slice a2 L.slots.length c2,.int .i64 L.flash,.int .i64 L.ram,.slice a5 ts.length c5] 32)) from (Below.refl _ _).alloc (Nat.le_refl _) _)
 have hs:=h.s.below HB.out
 have hmx:=h.s.2.1
 unfold maxLen at hmx
 unfold endOf
 by_cases c:L.slots=[]
 ·rw [if_pos c]
  have hl:L.slots.length=0:=by rw [c];rfl
  rw [hl]
  rw [hl] at HB
  go_enter Tryz.func117,Tryz.ntmps117
  go_wp2
  go_ret
  exact ⟨rfl,HB.out⟩
 ·rw [if_neg c]
  have hl:0<L.slots.length:=List.length_pos_iff.2 c
  have hl':(0:Int)<(L.slots.length:Int):=by omega
  obtain ⟨b,off,rfl,hc⟩:=hs.2.2.2.1 (by omega)
  have q:=hc 0 hl
  rw [Nat.add_zero] at q
  generalize L.slots.length=n at *
  generalize L.slots.getD 0 0=z at *
  clear hs hc c
  go_enter Tryz.func117,Tryz.ntmps117
  go_wp2
  go_ret
  exact ⟨rfl,HB.out⟩
def cfQ (L:Lay):Int:=wrap64 ((wrap64 (wrap64 (65536+L.ram) - L.slots.getD 0 0)).tdiv (L.slots.length:Int))
def cfW (L:Lay):Int:=if L.slots=[] then 1 else wrap64 ((cfQ L).tdiv 4)
def cfK (L:Lay):Int:=wrap64 (endOf L - L.stack)
set_option maxHeartbeats 4000000 in
theorem configOf_any (L:Lay) (a0:Option Addr) (c0:Nat) (xs:List PB) (a2:Option Addr) (c2:Nat) (a5:Option Addr) (c5:Nat) (ts:List TB) (w:World) (h:LyT w L a0 c0 xs a2 c2 a5 c5 ts):
 Calls Tryz.prog 152 #[.agg #[.slice a0 xs.length c0,.int .i64 L.stack,.slice a2 L.slots.length c2,.int .i64 L.flash,.int .i64 L.ram,.slice a5 ts.length c5]] w fun e w'=>e=.returned (.agg #[.int .i64 L.slots.length,.int .i64 (cfW L),.int .i64 (cfK L),.int .i64 0])∧Below w.heap.size w w':=by
 have hmx:=h.s.2.1
 unfold maxLen at hmx
 by_cases c:L.slots=[]
 ·have hl:L.slots.length=0:=by rw [c];rfl
  have hW:=hide (show cfW L=1 by unfold cfW;rw [if_pos c])
  have hK:=hide (show cfK L=wrap64 (wrap64 (65536+L.ram) - L.stack) by unfold cfK endOf;rw [if_pos c])
  rw [hW.out,hK.out,hl]
  go_enter Tryz.func152,Tryz.ntmps152
  go_wp2
  refine bodyPost_ret (v:=.agg #[.int .i64 0,.int .i64 1,.int .i64 (wrap64 (wrap64 (65536+L.ram) - L.stack)),.int .i64 0]) (by simp [results,Tryz.results152,go_sem]) rfl ⟨rfl,?_⟩
  exact ((Below.refl _ _).alloc (Nat.le_refl _) _).alloc (by simp) _
 ·have hl:0<L.slots.length:=List.length_pos_iff.2 c
  have hl':(0:Int)<(L.slots.length:Int):=by omega
  have he:((L.slots.length:Int) == 0)=false:=by simp;omega
  have hW:=hide (show cfW L=wrap64 ((cfQ L).tdiv 4) by unfold cfW;rw [if_neg c])
  have hK:=hide (show cfK L=wrap64 (L.slots.getD 0 0 - L.stack) by unfold cfK endOf;rw [if_neg c])
  rw [hW.out,hK.out]
  have hQ:=hide (show cfQ L=wrap64 ((wrap64 (wrap64 (65536+L.ram) - L.slots.getD 0 0)).tdiv (L.slots.length:Int)) from rfl)
  clear hW hK
  obtain ⟨b,off,rfl,hc⟩:=h.s.2.2.2.1 (by omega)
  have q:=hc 0 hl
  have qlt:=World.block_lt_of_cell? _ _ q
  rw [Nat.add_zero] at q
  generalize L.slots.length=n at *
  generalize L.slots.getD 0 0=z at *
  generalize cfQ L=Q at *
  clear hc c h
  have B0:Below w.heap.size w ((w.alloc (.cells #[.slice a0 xs.length c0,.int .i64 L.stack,.slice (some ⟨b,off,none⟩) n c2,.int .i64 L.flash,.int .i64 L.ram,.slice a5 ts.length c5] 32)).alloc (.cells #[.int .i64 0,.int .i64 0,.int .i64 0,.int .i64 0] 25)):=((Below.refl _ _).alloc (Nat.le_refl _) _).alloc (by simp) _
  have u:=(Blk.new w #[.slice a0 xs.length c0,.int .i64 L.stack,.slice (some ⟨b,off,none⟩) n c2,.int .i64 L.flash,.int .i64 L.ram,.slice a5 ts.length c5] 32).alloc (.cells #[.int .i64 0,.int .i64 0,.int .i64 0,.int .i64 0] 25)
  have v:=Blk.new (w.alloc (.cells #[.slice a0 xs.length c0,.int .i64 L.stack,.slice (some ⟨b,off,none⟩) n c2,.int .i64 L.flash,.int .i64 L.ram,.slice a5 ts.length c5] 32)) #[.int .i64 0,.int .i64 0,.int .i64 0,.int .i64 0] 25
  simp only [World.size_alloc] at v
  have HF:=hide (fun (nq:Nat)=>And.intro (below_drewN B0 nq) (And.intro (u.below (below_drewN (Below.refl _ _) nq)) (v.below (below_drewN (Below.refl _ _) nq))))
  clear B0 u v
  go_enter Tryz.func152,Tryz.ntmps152
  go_wp2
  go_quiet (fail)
  rw [← hQ.out]
  go_wp2
  obtain ⟨B1,u,v⟩:=HF.out nq
  clear HF
  generalize (((w.alloc (.cells #[.slice a0 xs.length c0,.int .i64 L.stack,.slice (some ⟨b,off,none⟩) n c2,.int .i64 L.flash,.int .i64 L.ram,.slice a5 ts.length c5] 32)).alloc (.cells #[.int .i64 0,.int .i64 0,.int .i64 0,.int .i64 0] 25)).drewN nq)=W at *
  have q':=cell_below B1 q
  have p1:W.cell? ⟨w.heap.size,1,none⟩=some (.int .i64 L.stack):=u.cell 1
  have p2:W.cell? ⟨w.heap.size,2,none⟩=some (.slice (some ⟨b,off,none⟩) n c2):=u.cell 2
  have v0:W.cell? ⟨w.heap.size+1,0,none⟩=some (.int .i64 0):=v.cell 0
  have v1:W.cell? ⟨w.heap.size+1,1,none⟩=some (.int .i64 0):=v.cell 1
  have v2:W.cell? ⟨w.heap.size+1,2,none⟩=some (.int .i64 0):=v.cell 2
  have v3:W.cell? ⟨w.heap.size+1,3,none⟩=some (.int .i64 0):=v.cell 3
  have vf:=v.frozen
  have nb:b≠w.heap.size+1:=by omega
  have nb':w.heap.size+1≠b:=by omega
  have HB1:=hide (And.intro B1 v)
  clear u v B1
  go_region_held3 (fun w'=>w'.cell? ⟨w.heap.size,1,none⟩=some (.int .i64 L.stack)∧w'.cell? ⟨w.heap.size,2,none⟩=some (.slice (some ⟨b,off,none⟩) n c2)∧w'.cell? ⟨b,off,none⟩=some (.int .i64 z)) (go_keep) (fail)
  simp only [IntWalk.i64_left]
  have kz:=(((HB1.out.2.set 0 (.int .i64 n)).set 1 (.int .i64 (wrap64 (Q.tdiv 4)))).set 2 (.int .i64 (wrap64 (z - L.stack)))).set 3 (.int .i64 0)
  have T:Turn (fun j=>j=w.heap.size+1) W ((((W.setCell ⟨w.heap.size+1,0,none⟩ (.int .i64 n)).setCell ⟨w.heap.size+1,1,none⟩ (.int .i64 (wrap64 (Q.tdiv 4)))).setCell ⟨w.heap.size+1,2,none⟩ (.int .i64 (wrap64 (z - L.stack)))).setCell ⟨w.heap.size+1,3,none⟩ (.int .i64 0)):=(((turn_set _ _ _ _).trans (turn_set _ _ _ _)).trans (turn_set _ _ _ _)).trans (turn_set _ _ _ _)
  have HB2:=hide (below_turn HB1.out.1 T (fun k e=>by omega) HB1.out.1.size)
  simp only [List.setIfInBounds_toArray,List.set_cons_zero,List.set_cons_succ] at kz
  generalize ((((W.setCell ⟨w.heap.size+1,0,none⟩ (.int .i64 n)).setCell ⟨w.heap.size+1,1,none⟩ (.int .i64 (wrap64 (Q.tdiv 4)))).setCell ⟨w.heap.size+1,2,none⟩ (.int .i64 (wrap64 (z - L.stack)))).setCell ⟨w.heap.size+1,3,none⟩ (.int .i64 0))=W2 at *
  have s0:W2.drew.cell? ⟨w.heap.size+1,0,none⟩=some (.int .i64 n):=kz.cell 0
  have s1:W2.drew.cell? ⟨w.heap.size+1,1,none⟩=some (.int .i64 (wrap64 (Q.tdiv 4))):=kz.cell 1
  have s2:W2.drew.cell? ⟨w.heap.size+1,2,none⟩=some (.int .i64 (wrap64 (z - L.stack))):=kz.cell 2
  have s3:W2.drew.cell? ⟨w.heap.size+1,3,none⟩=some (.int .i64 0):=kz.cell 3
  clear T kz HB1
  go_wp2
  exact bodyPost_ret (v:=.agg #[.int .i64 n,.int .i64 (wrap64 (Q.tdiv 4)),.int .i64 (wrap64 (z - L.stack)),.int .i64 0]) (by simp [results,Tryz.results152,go_sem,s0,s1,s2,s3]) rfl ⟨rfl,HB2.out.drew⟩
def Lok (ps:List PMod) (L:Lay):Prop:=lkc ps (L.slots.length:Int) (cfW L) (cfK L) 0=0∧lkL ps (L.slots.length:Int) (cfW L) (cfK L) 0=L
def plE (a b:Pl):Decidable (a=b):=decidable_of_iff (a.text=b.text /\ a.banks=b.banks /\ a.data=b.data /\ a.size=b.size) (by cases a;cases b;simp)
def layE (a b:Lay):Decidable (a=b):=
 have:DecidableEq Pl:=plE
 decidable_of_iff (a.places=b.places /\ a.stack=b.stack /\ a.slots=b.slots /\ a.flash=b.flash /\ a.ram=b.ram /\ a.targets=b.targets) (by cases a;cases b;simp)
def lokD (ps:List PMod)(L:Lay):Decidable (Lok ps L):=@instDecidableAnd _ _ _ (layE _ _)
def lokB (ps:List PMod)(L:Lay):Bool:=@decide _ (lokD ps L)
theorem lokB_iff {ps:List PMod}{L:Lay}:lokB ps L=true ↔ Lok ps L:=⟨@of_decide_eq_true _ (lokD ps L),@decide_eq_true _ (lokD ps L)⟩
set_option maxHeartbeats 2000000 in
theorem sliceEqT_any (a a':Option Addr) (n cap n' cap':Nat) (xs ys:List Tg) (w:World) (h:TgS w a n cap xs) (h':TgS w a' n' cap' ys):
 Calls Tryz.prog 218 #[.slice a n cap,.slice a' n' cap'] w fun e w'=>e=.returned (.bool (decide (xs=ys)))∧Below w.heap.size w w':=by
 have hl:=h.1
 have hl':=h'.1
 have hmx:=h.2.1
 have hmx':=h'.2.1
 unfold maxLen at hmx hmx'
 by_cases hn:n=n'
 ·subst hn
  have hne:((n:Int) != (n:Int))=false:=by simp
  go_enter Tryz.func218,Tryz.ntmps218
  go_wp2
  go_loopw [13] (fun i wr=>∃ k:Nat,k≤n∧i=.int .i64 k∧xs.take k=ys.take k∧Below w.heap.size w wr) (fun i _=>n - (intOf i).toNat)
  case atStart=>exact ⟨0,Nat.zero_le _,rfl,by simp,Below.refl _ _⟩
  case round=>
   obtain ⟨k,hk,rfl,hT,hB⟩:=hrel
   by_cases hlt:k<n
   ·have hlt':(k:Int)<(n:Int):=by omega
    obtain ⟨b,off,rfl,q0,q1,q2⟩:=(h.below hB).at k hlt
    obtain ⟨b',off',rfl,p0,p1,p2⟩:=(h'.below hB).at k hlt
    by_cases he:xs.getD k zT=ys.getD k zT
    ·have HS:Hid (xs.take (k+1)=ys.take (k+1)):=take_succ_eq zT xs ys k hT (by omega) (by omega) he
     rw [he] at q0 q1 q2
     clear hT he
     generalize ys.getD k zT=z at *
     obtain ⟨z0,z1,z2⟩:=z
     dsimp only at q0 q1 q2 p0 p1 p2
     go_wp2
     go_quiet (fail)
     go_wp2
     go_roundw
     case rel=>exact ⟨k+1,by omega,by go_num,HS.out,below_drewN hB _⟩
     case measure=>simp [intOf];omega
    ·have hf:Hid (decide (xs=ys)=false):=by
      show _=_
      simp
      intro e
      exact he (by rw [e])
     clear hT
     generalize ys.getD k zT=z at *
     generalize xs.getD k zT=z' at *
     obtain ⟨z0,z1,z2⟩:=z
     obtain ⟨x0,x1,x2⟩:=z'
     dsimp only at q0 q1 q2 p0 p1 p2
     have hne3:¬ (x0=z0∧x1=z1∧x2=z2):=fun e=>he (by rw [e.1,e.2.1,e.2.2])
     clear he
     by_cases f0:x0=z0
     ·by_cases f1:x1=z1
      ·have f2:¬ x2=z2:=fun e=>hne3 ⟨f0,f1,e⟩
       subst f0 f1
       have f2':(x2 == z2)=false:=by simpa using f2
       go_wp2
       go_quiet (fail)
       go_wp2
       go_ret
       exact ⟨ret_bool hf.out.symm,below_drewN hB _⟩
      ·subst f0
       have f1':(x1 == z1)=false:=by simpa using f1
       go_wp2
       go_quiet (fail)
       go_wp2
       go_ret
       exact ⟨ret_bool hf.out.symm,below_drewN hB _⟩
     ·have f0':(x0 == z0)=false:=by simpa using f0
      go_wp2
      go_quiet (fail)
      go_wp2
      go_ret
      exact ⟨ret_bool hf.out.symm,below_drewN hB _⟩
   ·have hf:Hid (decide (xs=ys)=true):=by
     show _=_
     simp
     rw [List.take_of_length_le (by omega),List.take_of_length_le (by omega)] at hT
     exact hT
    clear hT
    go_wp2
    go_ret
    exact ⟨ret_bool hf.out.symm,hB⟩
 ·have hf:Hid (decide (xs=ys)=false):=by
   show _=_
   simp
   intro e
   rw [e] at hl
   omega
  have hne:((n:Int) != (n':Int))=true:=by simp;omega
  go_enter Tryz.func218,Tryz.ntmps218
  go_wp2
  go_ret
  exact ⟨ret_bool hf.out.symm,Below.refl _ _⟩
set_option maxHeartbeats 2000000 in
theorem samePlace_any (t d z:Int) (a:Option Addr) (n c:Nat) (bs:List Int) (t' d' z':Int) (a':Option Addr) (n' c':Nat) (bs':List Int) (w:World) (h:IS w a n c bs) (h':IS w a' n' c' bs'):
 Calls Tryz.prog 216 #[.agg #[.int .i64 t,.slice a n c,.int .i64 d,.int .i64 z],.agg #[.int .i64 t',.slice a' n' c',.int .i64 d',.int .i64 z']] w fun e w'=>e=.returned (.bool (decide ((⟨t,bs,d,z⟩:Pl)=⟨t',bs',d',z'⟩)))∧Below w.heap.size w w':=by
 have B0:Below w.heap.size w ((w.alloc (.cells #[.int .i64 t,.slice a n c,.int .i64 d,.int .i64 z] 43)).alloc (.cells #[.int .i64 t',.slice a' n' c',.int .i64 d',.int .i64 z'] 43)):=((Below.refl _ _).alloc (Nat.le_refl _) _).alloc (by simp) _
 have HB0:=hide B0
 have HEQ:=hide (sliceEqI_any a a' n c n' c' bs bs' _ (h.below B0) (h'.below B0))
 clear B0 h h'
 obtain ⟨r,hr⟩:∃ r,r=decide ((⟨t,bs,d,z⟩:Pl)=⟨t',bs',d',z'⟩):=⟨_,rfl⟩
 rw [← hr]
 simp only [Pl.mk.injEq] at hr
 have HR:=hide hr
 clear hr
 by_cases c1:t=t'
 ·by_cases c2:d=d'
  ·by_cases c3:z=z'
   ·have g1:(t == t')=true:=by simpa using c1
    have g2:(d == d')=true:=by simpa using c2
    have g3:(z == z')=true:=by simpa using c3
    have HV:=hide (show decide (bs=bs')=r by rw [HR.out];simp [c1,c2,c3])
    rw [HV.out] at HEQ
    clear c1 c2 c3 HR
    go_enter Tryz.func216,Tryz.ntmps216
    go_wp2_with fail
    refine HEQ.out.mono ?_
    rintro e w1 ⟨rfl,hb1⟩
    cases r
    all_goals
     go_wp2
     go_ret
     exact ⟨rfl,HB0.out.trans (hb1.mono HB0.out.size)⟩
   ·have g1:(t == t')=true:=by simpa using c1
    have g2:(d == d')=true:=by simpa using c2
    have g3:(z == z')=false:=by simpa using c3
    have HV:=hide (show r=false by rw [HR.out];simp [c3])
    clear c1 c2 c3 HR HEQ
    go_enter Tryz.func216,Tryz.ntmps216
    go_wp2
    go_ret
    exact ⟨ret_bool HV.out.symm,HB0.out⟩
  ·have g1:(t == t')=true:=by simpa using c1
   have g2:(d == d')=false:=by simpa using c2
   have HV:=hide (show r=false by rw [HR.out];simp [c2])
   clear c1 c2 HR HEQ
   go_enter Tryz.func216,Tryz.ntmps216
   go_wp2
   go_ret
   exact ⟨ret_bool HV.out.symm,HB0.out⟩
 ·have g1:(t == t')=false:=by simpa using c1
  have HV:=hide (show r=false by rw [HR.out];simp [c1])
  clear c1 HR HEQ
  go_enter Tryz.func216,Tryz.ntmps216
  go_wp2
  go_ret
  exact ⟨ret_bool HV.out.symm,HB0.out⟩
theorem map_getD {α β:Type} (f:α→β) (xs:List α) (i:Nat) (a:α) (b:β) (h:i<xs.length):(xs.map f).getD i b=f (xs.getD i a):=by
 simp [List.getD_eq_getElem?_getD,h]
set_option maxHeartbeats 2000000 in
theorem equalFuncP_any (a a':Option Addr) (n cap n' cap':Nat) (xs ys:List PB) (w:World) (h:PlS w a n cap xs) (h':PlS w a' n' cap' ys):
 Calls Tryz.prog 215 #[.slice a n cap,.slice a' n' cap',.func (.func 216) #[] #[]] w fun e w'=>e=.returned (.bool (decide (xs.map (fun x=>x.1)=ys.map (fun x=>x.1))))∧Below w.heap.size w w':=by
 have hl:=h.1
 have hl':=h'.1
 have hmx:=h.2.1
 have hmx':=h'.2.1
 unfold maxLen at hmx hmx'
 obtain ⟨r,hr⟩:∃ r,r=decide (xs.map (fun x=>x.1)=ys.map (fun x=>x.1)):=⟨_,rfl⟩
 rw [← hr]
 have HR:=hide hr
 clear hr
 by_cases hn:n=n'
 ·subst hn
  have hne:((n:Int) != (n:Int))=false:=by simp
  go_enter Tryz.func215,Tryz.ntmps215
  go_wp2
  go_loopw [17] (fun i wr=>∃ k:Nat,k≤n∧i=.int .i64 k∧(xs.map (fun x=>x.1)).take k=(ys.map (fun x=>x.1)).take k∧Below w.heap.size w wr) (fun i _=>n - (intOf i).toNat)
  case atStart=>exact ⟨0,Nat.zero_le _,rfl,by simp,Below.refl _ _⟩
  case round=>
   obtain ⟨k,hk,rfl,hT,hB⟩:=hrel
   by_cases hlt:k<n
   ·have hlt':(k:Int)<(n:Int):=by omega
    obtain ⟨b,off,rfl,q0,q1,q2,q3⟩:=(h.below hB).at k hlt
    obtain ⟨b',off',rfl,p0,p1,p2,p3⟩:=(h'.below hB).at k hlt
    have i1:=(h.below hB).2.2.2.1 k hlt
    have i2:=(h'.below hB).2.2.2.1 k hlt
    have HGO:=hide (show (xs.getD k zPB).1=(ys.getD k zPB).1→(xs.map (fun x=>x.1)).take (k+1)=(ys.map (fun x=>x.1)).take (k+1) from fun he=>take_succ_eq zPB.1 _ _ k hT (by simp;omega) (by simp;omega) (by rw [map_getD _ _ _ zPB _ (by omega),map_getD _ _ _ zPB _ (by omega),he]))
    have HNO:=hide (show (xs.getD k zPB).1≠(ys.getD k zPB).1→r=false from fun he=>by
     rw [HR.out,decide_eq_false_iff_not]
     intro e
     have e2:=congrArg (fun l=>l.getD k zPB.1) e
     try simp only at e2
     rw [map_getD _ _ _ zPB _ (by omega),map_getD _ _ _ zPB _ (by omega)] at e2
     exact he e2)
    clear hT
    unfold svP at q1 p1
    generalize xs.getD k zPB=x at *
    generalize ys.getD k zPB=y at *
    obtain ⟨⟨xt,xb,xd,xz⟩,xa,xc⟩:=x
    obtain ⟨⟨yt,yb,yd,yz⟩,ya,yc⟩:=y
    dsimp only at q0 q1 q2 q3 p0 p1 p2 p3 i1 i2 HGO HNO
    have hlb:=World.block_lt_of_cell? _ _ q0
    have hlb':=World.block_lt_of_cell? _ _ p0
    have HB2:Below wr.heap.size wr ((wr.alloc (.cells #[.int .i64 xt,.slice xa xb.length xc,.int .i64 xd,.int .i64 xz] 43)).alloc (.cells #[.int .i64 yt,.slice ya yb.length yc,.int .i64 yd,.int .i64 yz] 43)):=((Below.refl _ _).alloc (Nat.le_refl _) _).alloc (by simp) _
    have HSP:=hide (samePlace_any xt xd xz xa xb.length xc xb yt yd yz ya yb.length yc yb _ (i1.below HB2) (i2.below HB2))
    have HB3:=hide (hB.trans (HB2.mono hB.size))
    clear i1 i2 HB2 hB
    by_cases he:(⟨xt,xb,xd,xz⟩:Pl)=⟨yt,yb,yd,yz⟩
    ·rw [decide_eq_true he] at HSP
     have HG:=hide (HGO.out he)
     clear he HGO HNO
     go_wp2_with fail
     refine HSP.out.mono ?_
     rintro e w1 ⟨rfl,hb1⟩
     have HB4:=hide (HB3.out.trans (hb1.mono HB3.out.size))
     clear q0 q1 q2 q3 p0 p1 p2 p3 hb1 HSP
     go_wp2
     go_roundw
     case rel=>exact ⟨k+1,by omega,by go_num,HG.out,HB4.out⟩
     case measure=>simp [intOf];omega
    ·rw [decide_eq_false he] at HSP
     have HG:=hide (HNO.out he)
     clear he HGO HNO
     go_wp2_with fail
     refine HSP.out.mono ?_
     rintro e w1 ⟨rfl,hb1⟩
     have HB4:=hide (HB3.out.trans (hb1.mono HB3.out.size))
     clear q0 q1 q2 q3 p0 p1 p2 p3 hb1 HSP
     go_wp2
     go_ret
     exact ⟨ret_bool HG.out.symm,HB4.out⟩
   ·have hf:Hid (r=true):=by
     show _=_
     rw [HR.out]
     simp
     rw [List.take_of_length_le (by simp;omega),List.take_of_length_le (by simp;omega)] at hT
     exact hT
    clear hT
    go_wp2
    go_ret
    exact ⟨ret_bool hf.out.symm,hB⟩
 ·have hf:Hid (r=false):=by
   show _=_
   rw [HR.out,decide_eq_false_iff_not]
   intro e
   have:=congrArg List.length e
   simp at this
   omega
  have hne:((n:Int) != (n':Int))=true:=by simp;omega
  go_enter Tryz.func215,Tryz.ntmps215
  go_wp2
  go_ret
  exact ⟨ret_bool hf.out.symm,Below.refl _ _⟩
set_option maxHeartbeats 2000000 in
theorem equalFuncT_any (a a':Option Addr) (n cap n' cap':Nat) (xs ys:List TB) (w:World) (h:TsS w a n cap xs) (h':TsS w a' n' cap' ys):
 Calls Tryz.prog 217 #[.slice a n cap,.slice a' n' cap',.func (.func 218) #[] #[]] w fun e w'=>e=.returned (.bool (decide (xs.map (fun x=>x.1)=ys.map (fun x=>x.1))))∧Below w.heap.size w w':=by
 have hl:=h.1
 have hl':=h'.1
 have hmx:=h.2.1
 have hmx':=h'.2.1
 unfold maxLen at hmx hmx'
 obtain ⟨r,hr⟩:∃ r,r=decide (xs.map (fun x=>x.1)=ys.map (fun x=>x.1)):=⟨_,rfl⟩
 rw [← hr]
 have HR:=hide hr
 clear hr
 by_cases hn:n=n'
 ·subst hn
  have hne:((n:Int) != (n:Int))=false:=by simp
  go_enter Tryz.func217,Tryz.ntmps217
  go_wp2
  go_loopw [17] (fun i wr=>∃ k:Nat,k≤n∧i=.int .i64 k∧(xs.map (fun x=>x.1)).take k=(ys.map (fun x=>x.1)).take k∧Below w.heap.size w wr) (fun i _=>n - (intOf i).toNat)
  case atStart=>exact ⟨0,Nat.zero_le _,rfl,by simp,Below.refl _ _⟩
  case round=>
   obtain ⟨k,hk,rfl,hT,hB⟩:=hrel
   by_cases hlt:k<n
   ·have hlt':(k:Int)<(n:Int):=by omega
    obtain ⟨b,off,rfl,q0⟩:=(h.below hB).at k hlt
    obtain ⟨b',off',rfl,p0⟩:=(h'.below hB).at k hlt
    have i1:=(h.below hB).2.2.2.1 k hlt
    have i2:=(h'.below hB).2.2.2.1 k hlt
    have HGO:=hide (show (xs.getD k zTB).1=(ys.getD k zTB).1→(xs.map (fun x=>x.1)).take (k+1)=(ys.map (fun x=>x.1)).take (k+1) from fun he=>take_succ_eq zTB.1 _ _ k hT (by simp;omega) (by simp;omega) (by rw [map_getD _ _ _ zTB _ (by omega),map_getD _ _ _ zTB _ (by omega),he]))
    have HNO:=hide (show (xs.getD k zTB).1≠(ys.getD k zTB).1→r=false from fun he=>by
     rw [HR.out,decide_eq_false_iff_not]
     intro e
     have e2:=congrArg (fun l=>l.getD k zTB.1) e
     try simp only at e2
     rw [map_getD _ _ _ zTB _ (by omega),map_getD _ _ _ zTB _ (by omega)] at e2
     exact he e2)
    clear hT
    unfold svT at q0 p0
    generalize xs.getD k zTB=x at *
    generalize ys.getD k zTB=y at *
    obtain ⟨xl,xa,xc⟩:=x
    obtain ⟨yl,ya,yc⟩:=y
    dsimp only at q0 p0 i1 i2 HGO HNO
    have HSP:=hide (sliceEqT_any xa ya xl.length xc yl.length yc xl yl _ i1 i2)
    have HB3:=hide hB
    clear i1 i2 hB
    by_cases he:xl=yl
    ·rw [decide_eq_true he] at HSP
     have HG:=hide (HGO.out he)
     clear he HGO HNO
     go_wp2_with fail
     refine HSP.out.mono ?_
     rintro e w1 ⟨rfl,hb1⟩
     have HB4:=hide (HB3.out.trans (hb1.mono HB3.out.size))
     clear q0 p0 hb1 HSP
     go_wp2
     go_roundw
     case rel=>exact ⟨k+1,by omega,by go_num,HG.out,HB4.out⟩
     case measure=>simp [intOf];omega
    ·rw [decide_eq_false he] at HSP
     have HG:=hide (HNO.out he)
     clear he HGO HNO
     go_wp2_with fail
     refine HSP.out.mono ?_
     rintro e w1 ⟨rfl,hb1⟩
     have HB4:=hide (HB3.out.trans (hb1.mono HB3.out.size))
     clear q0 p0 hb1 HSP
     go_wp2
     go_ret
     exact ⟨ret_bool HG.out.symm,HB4.out⟩
   ·have hf:Hid (r=true):=by
     show _=_
     rw [HR.out]
     simp
     rw [List.take_of_length_le (by simp;omega),List.take_of_length_le (by simp;omega)] at hT
     exact hT
    clear hT
    go_wp2
    go_ret
    exact ⟨ret_bool hf.out.symm,hB⟩
 ·have hf:Hid (r=false):=by
   show _=_
   rw [HR.out,decide_eq_false_iff_not]
   intro e
   have:=congrArg List.length e
   simp at this
   omega
  have hne:((n:Int) != (n':Int))=true:=by simp;omega
  go_enter Tryz.func217,Tryz.ntmps217
  go_wp2
  go_ret
  exact ⟨ret_bool hf.out.symm,Below.refl _ _⟩
theorem Blk.ly6 {w:World} {b:Nat} {t:TypeId} {v0 v1 v2 v3 v4 v5:Value} (h:Blk w b #[v0,v1,v2,v3,v4,v5] t):w.cell? ⟨b,0,none⟩=some v0∧w.cell? ⟨b,1,none⟩=some v1∧w.cell? ⟨b,2,none⟩=some v2∧w.cell? ⟨b,3,none⟩=some v3∧w.cell? ⟨b,4,none⟩=some v4∧w.cell? ⟨b,5,none⟩=some v5:=⟨h.cell 0,h.cell 1,h.cell 2,h.cell 3,h.cell 4,h.cell 5⟩
set_option maxHeartbeats 4000000 in
theorem sameLayout_any (L:Lay) (a0:Option Addr) (c0:Nat) (xs:List PB) (a2:Option Addr) (c2:Nat) (a5:Option Addr) (c5:Nat) (ts:List TB) (L':Lay) (a0':Option Addr) (c0':Nat) (xs':List PB) (a2':Option Addr) (c2':Nat) (a5':Option Addr) (c5':Nat) (ts':List TB) (w:World) (h:LyT w L a0 c0 xs a2 c2 a5 c5 ts) (h':LyT w L' a0' c0' xs' a2' c2' a5' c5' ts'):
 Calls Tryz.prog 153 #[.agg #[.slice a0 xs.length c0,.int .i64 L.stack,.slice a2 L.slots.length c2,.int .i64 L.flash,.int .i64 L.ram,.slice a5 ts.length c5],.agg #[.slice a0' xs'.length c0',.int .i64 L'.stack,.slice a2' L'.slots.length c2',.int .i64 L'.flash,.int .i64 L'.ram,.slice a5' ts'.length c5']] w fun e w'=>e=.returned (.bool (decide (L=L')))∧Below w.heap.size w w':=by
 have hps:=h.ps
 have hps':=h'.ps
 have htt:=h.tt
 have htt':=h'.tt
 have HE1:=hide (fun (W:World) (hb:Below w.heap.size w W)=>sliceEqI_any a2 a2' L.slots.length c2 L'.slots.length c2' L.slots L'.slots W (h.s.below hb) (h'.s.below hb))
 have HE2:=hide (fun (W:World) (hb:Below w.heap.size w W)=>equalFuncP_any a0 a0' xs.length c0 xs'.length c0' xs xs' W (h.p.below hb) (h'.p.below hb))
 have HE3:=hide (fun (W:World) (hb:Below w.heap.size w W)=>equalFuncT_any a5 a5' ts.length c5 ts'.length c5' ts ts' W (h.t.below hb) (h'.t.below hb))
 rw [hps,hps'] at HE2
 rw [htt,htt'] at HE3
 clear h h' hps hps' htt htt'
 obtain ⟨pl,st,sl,fl,rm,tg⟩:=L
 obtain ⟨pl',st',sl',fl',rm',tg'⟩:=L'
 dsimp only at HE1 HE2 HE3 ⊢
 obtain ⟨r,hr⟩:∃ r,r=decide ((⟨pl,st,sl,fl,rm,tg⟩:Lay)=⟨pl',st',sl',fl',rm',tg'⟩):=⟨_,rfl⟩
 rw [← hr]
 simp only [Lay.mk.injEq] at hr
 have HR:=hide hr
 clear hr
 have B0:Below w.heap.size w ((w.alloc (.cells #[.slice a0 xs.length c0,.int .i64 st,.slice a2 sl.length c2,.int .i64 fl,.int .i64 rm,.slice a5 ts.length c5] 32)).alloc (.cells #[.slice a0' xs'.length c0',.int .i64 st',.slice a2' sl'.length c2',.int .i64 fl',.int .i64 rm',.slice a5' ts'.length c5'] 32)):=((Below.refl _ _).alloc (Nat.le_refl _) _).alloc (by simp) _
 have u:=(Blk.new w #[.slice a0 xs.length c0,.int .i64 st,.slice a2 sl.length c2,.int .i64 fl,.int .i64 rm,.slice a5 ts.length c5] 32).alloc (.cells #[.slice a0' xs'.length c0',.int .i64 st',.slice a2' sl'.length c2',.int .i64 fl',.int .i64 rm',.slice a5' ts'.length c5'] 32)
 have v:=Blk.new (w.alloc (.cells #[.slice a0 xs.length c0,.int .i64 st,.slice a2 sl.length c2,.int .i64 fl,.int .i64 rm,.slice a5 ts.length c5] 32)) #[.slice a0' xs'.length c0',.int .i64 st',.slice a2' sl'.length c2',.int .i64 fl',.int .i64 rm',.slice a5' ts'.length c5'] 32
 simp only [World.size_alloc] at v
 have HK:=hide (And.intro B0 (And.intro u v))
 clear u v
 by_cases k1:st=st'
 rotate_left
 ·have g1:(st == st')=false:=by simpa using k1
  have HV:=hide (show r=false by rw [HR.out];simp [k1])
  clear HR HE1 HE2 HE3
  go_enter Tryz.func153,Tryz.ntmps153
  go_wp2
  go_ret
  exact ⟨ret_bool HV.out.symm,HK.out.1⟩
 have g1:(st == st')=true:=by simpa using k1
 have HC1:=hide k1
 clear k1
 by_cases k2:fl=fl'
 rotate_left
 ·have g2:(fl == fl')=false:=by simpa using k2
  have HV:=hide (show r=false by rw [HR.out];simp [k2])
  clear HR HE1 HE2 HE3
  go_enter Tryz.func153,Tryz.ntmps153
  go_wp2
  go_ret
  exact ⟨ret_bool HV.out.symm,HK.out.1⟩
 have g2:(fl == fl')=true:=by simpa using k2
 have HC2:=hide k2
 clear k2
 by_cases k3:rm=rm'
 rotate_left
 ·have g3:(rm == rm')=false:=by simpa using k3
  have HV:=hide (show r=false by rw [HR.out];simp [k3])
  clear HR HE1 HE2 HE3
  go_enter Tryz.func153,Tryz.ntmps153
  go_wp2
  go_ret
  exact ⟨ret_bool HV.out.symm,HK.out.1⟩
 have g3:(rm == rm')=true:=by simpa using k3
 have HC3:=hide k3
 clear k3
 go_enter Tryz.func153,Tryz.ntmps153
 go_wp2_with fail
 refine (HE1.out _ HK.out.1).mono ?_
 rintro e w1 ⟨rfl,hb1⟩
 have HK1:=hide (And.intro (HK.out.1.trans (hb1.mono HK.out.1.size)) (And.intro (HK.out.2.1.below hb1) (HK.out.2.2.below hb1)))
 clear hb1 HK B0
 by_cases k4:sl=sl'
 rotate_left
 ·rw [decide_eq_false k4]
  have HV:=hide (show r=false by rw [HR.out];simp [k4])
  go_wp2
  go_ret
  exact ⟨ret_bool HV.out.symm,HK1.out.1⟩
 rw [decide_eq_true k4]
 have HC4:=hide k4
 clear k4
 obtain ⟨p0,p1,p2,p3,p4,p5⟩:=(HK1.out.2.1).ly6
 obtain ⟨q0,q1,q2,q3,q4,q5⟩:=(HK1.out.2.2).ly6
 go_wp2_with fail
 refine (HE2.out _ HK1.out.1).mono ?_
 rintro e w2 ⟨rfl,hb2⟩
 have HK2:=hide (And.intro (HK1.out.1.trans (hb2.mono HK1.out.1.size)) (And.intro (HK1.out.2.1.below hb2) (HK1.out.2.2.below hb2)))
 clear hb2 p0 p1 p2 p3 p4 p5 q0 q1 q2 q3 q4 q5
 by_cases k5:pl=pl'
 rotate_left
 ·rw [decide_eq_false k5]
  have HV:=hide (show r=false by rw [HR.out];simp [k5])
  go_wp2
  go_ret
  exact ⟨ret_bool HV.out.symm,HK2.out.1⟩
 rw [decide_eq_true k5]
 have HC5:=hide k5
 clear k5
 obtain ⟨p0,p1,p2,p3,p4,p5⟩:=(HK2.out.2.1).ly6
 obtain ⟨q0,q1,q2,q3,q4,q5⟩:=(HK2.out.2.2).ly6
 go_wp2_with fail
 refine (HE3.out _ HK2.out.1).mono ?_
 rintro e w3 ⟨rfl,hb3⟩
 have HB3:=hide (HK2.out.1.trans (hb3.mono HK2.out.1.size))
 have HV:=hide (show decide (tg=tg')=r by rw [HR.out];simp [HC1.out,HC2.out,HC3.out,HC4.out,HC5.out])
 rw [HV.out]
 clear hb3 p0 p1 p2 p3 p4 p5 q0 q1 q2 q3 q4 q5 HR
 cases r
 all_goals
  go_wp2
  go_ret
  exact ⟨rfl,HB3.out⟩
end Go.Proofs.YtngdgogjlpjjpadGreat
