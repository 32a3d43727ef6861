import Derived.Test.YtngdgogjlpjjpadGreatP00
import Derived.Test.YtngdgogjlpjjpadGreatP01
import Derived.Test.YtngdgogjlpjjpadGreatP04
import Derived.Test.YtngdgogjlpjjpadGreatP05
import Derived.Test.YtngdgogjlpjjpadGreatP08
import Derived.Test.YtngdgogjlpjjpadGreatP09
namespace Go.Proofs.YtngdgogjlpjjpadGreat
open Go.RowKit
set_option linter.unusedVariables false
set_option linter.unusedSimpArgs false
set_option maxRecDepth 100000
def pcn (tn bn:Nat) (bl:List Bk) (b:Int):Int:=if b=-1 then (tn:Int) else if 0≤b∧b<(bn:Int) then ((bl.getD b.toNat zB).2.1:Int) else -1
def PiPost (w:World) (ta:Option Addr) (tn tc bn:Nat) (bl:List Bk) (b:Int) (e:Ending) (w':World):Prop:=
 ∃ a n c ok,e=.returned (.tuple #[.slice a n c,.bool ok])∧ok=decide (0≤pcn tn bn bl b)∧(ok=true→(n:Int)=pcn tn bn bl b)∧n≤maxLen∧Below w.heap.size w w'
set_option maxHeartbeats 2000000 in
theorem l4Piece_any (nm:ByteArray) (ta:Option Addr) (tn tc:Nat) (ba:Option Addr) (bn bc:Nat) (bl:List Bk) (v3 v5 v6 v7:Value) (bss b:Int) (w:World) (htn:tn≤maxLen) (hb:BKS w ba bn bc bl):
 Calls Tryz.prog 173 #[.agg #[.string nm,.slice ta tn tc,.slice ba bn bc,v3,.int .i64 bss,v5,v6,v7],.int .i64 b] w (PiPost w ta tn tc bn bl b):=by
 obtain ⟨W,hW⟩:∃ W,W=w.alloc (.cells #[.string nm,.slice ta tn tc,.slice ba bn bc,v3,.int .i64 bss,v5,v6,v7] 49):=⟨_,rfl⟩
 have hB0:Below w.heap.size w W:=by rw [hW];exact (Below.refl _ _).alloc (Nat.le_refl _) _
 have kb:Blk W w.heap.size #[.string nm,.slice ta tn tc,.slice ba bn bc,v3,.int .i64 bss,v5,v6,v7] 49:=by rw [hW];exact Blk.new _ _ _
 obtain ⟨q0,q1,q2,q3,q4,q5,q6,q7⟩:=kb.eight
 have hb0:=hb.below hB0
 have hm2:=hb.2.1
 unfold maxLen at hm2
 have HW:=hide hW
 clear hW
 by_cases c1:b=-1
 ·subst c1
  have HP:=hide (show pcn tn bn bl (-1)=(tn:Int) from rfl)
  go_enter Tryz.func173,Tryz.ntmps173
  go_wp2_with (rw [← HW.out])
  go_ret2
  exact ⟨ta,tn,tc,true,rfl,by rw [HP.out];simp,fun _=>HP.out.symm,htn,hB0⟩
 ·have c1':(b == -1)=false:=by simpa using c1
  by_cases c2:b<0
  ·have HP:=hide (show pcn tn bn bl b=-1 by unfold pcn;rw [if_neg c1,if_neg (by omega)])
   go_enter Tryz.func173,Tryz.ntmps173
   go_wp2_with (rw [← HW.out])
   go_ret2
   exact ⟨_,0,0,false,rfl,by rw [HP.out];rfl,(by intro h;cases h),Nat.zero_le _,by first | exact hB0.alloc hB0.size _ | exact hB0⟩
  ·by_cases c3:(bn:Int)≤b
   ·have HP:=hide (show pcn tn bn bl b=-1 by unfold pcn;rw [if_neg c1,if_neg (by omega)])
    go_enter Tryz.func173,Tryz.ntmps173
    go_wp2_with (rw [← HW.out])
    go_ret2
    exact ⟨_,0,0,false,rfl,by rw [HP.out];rfl,(by intro h;cases h),Nat.zero_le _,by first | exact hB0.alloc hB0.size _ | exact hB0⟩
   ·have c3':b<(bn:Int):=by omega
    have HP:=hide (show pcn tn bn bl b=((bl.getD b.toNat zB).2.1:Int) by unfold pcn;rw [if_neg c1,if_pos (by omega)])
    obtain ⟨bb,off,rfl⟩:=hb0.addr (by omega)
    have hck:=hb0.at b.toNat (by omega)
    have hik:=hb0.2.2.2.1 b.toNat (by omega)
    generalize bl.getD b.toNat zB=B at *
    obtain ⟨xa,xn,xc,xz⟩:=B
    dsimp only at hck hik HP
    have HM:=hide hik.2.1
    clear hik
    have c2':0≤b:=by omega
    go_enter Tryz.func173,Tryz.ntmps173
    go_wp2_with (rw [← HW.out])
    go_ret2
    exact ⟨xa,xn,xc,true,rfl,by rw [HP.out];simp,fun _=>HP.out.symm,HM.out,hB0⟩
set_option maxHeartbeats 2000000 in
theorem pieceOf_any (nm:ByteArray) (ta:Option Addr) (tn tc:Nat) (ba:Option Addr) (bn bc:Nat) (bl:List Bk) (v3 v5 v6 v7:Value) (bss b:Int) (w:World) (htn:tn≤maxLen) (hb:BKS w ba bn bc bl):
 Calls Tryz.prog 175 #[.agg #[.string nm,.slice ta tn tc,.slice ba bn bc,v3,.int .i64 bss,v5,v6,v7],.int .i64 b] w (PiPost w ta tn tc bn bl b):=by
 obtain ⟨W,hW⟩:∃ W,W=w.alloc (.cells #[.string nm,.slice ta tn tc,.slice ba bn bc,v3,.int .i64 bss,v5,v6,v7] 49):=⟨_,rfl⟩
 have hB0:Below w.heap.size w W:=by rw [hW];exact (Below.refl _ _).alloc (Nat.le_refl _) _
 have kb:Blk W w.heap.size #[.string nm,.slice ta tn tc,.slice ba bn bc,v3,.int .i64 bss,v5,v6,v7] 49:=by rw [hW];exact Blk.new _ _ _
 obtain ⟨q0,q1,q2,q3,q4,q5,q6,q7⟩:=kb.eight
 have hb0:=hb.below hB0
 have hm2:=hb.2.1
 unfold maxLen at hm2
 have HW:=hide hW
 clear hW
 by_cases c1:b=-1
 ·subst c1
  have HP:=hide (show pcn tn bn bl (-1)=(tn:Int) from rfl)
  go_enter Tryz.func175,Tryz.ntmps175
  go_wp2_with (rw [← HW.out])
  go_ret2
  exact ⟨ta,tn,tc,true,rfl,by rw [HP.out];simp,fun _=>HP.out.symm,htn,hB0⟩
 ·have c1':(b == -1)=false:=by simpa using c1
  by_cases c2:b<0
  ·have HP:=hide (show pcn tn bn bl b=-1 by unfold pcn;rw [if_neg c1,if_neg (by omega)])
   go_enter Tryz.func175,Tryz.ntmps175
   go_wp2_with (rw [← HW.out])
   go_ret2
   exact ⟨_,0,0,false,rfl,by rw [HP.out];rfl,(by intro h;cases h),Nat.zero_le _,by first | exact hB0.alloc hB0.size _ | exact hB0⟩
  ·by_cases c3:(bn:Int)≤b
   ·have HP:=hide (show pcn tn bn bl b=-1 by unfold pcn;rw [if_neg c1,if_neg (by omega)])
    go_enter Tryz.func175,Tryz.ntmps175
    go_wp2_with (rw [← HW.out])
    go_ret2
    exact ⟨_,0,0,false,rfl,by rw [HP.out];rfl,(by intro h;cases h),Nat.zero_le _,by first | exact hB0.alloc hB0.size _ | exact hB0⟩
   ·have c3':b<(bn:Int):=by omega
    have HP:=hide (show pcn tn bn bl b=((bl.getD b.toNat zB).2.1:Int) by unfold pcn;rw [if_neg c1,if_pos (by omega)])
    obtain ⟨bb,off,rfl⟩:=hb0.addr (by omega)
    have hck:=hb0.at b.toNat (by omega)
    have hik:=hb0.2.2.2.1 b.toNat (by omega)
    generalize bl.getD b.toNat zB=B at *
    obtain ⟨xa,xn,xc,xz⟩:=B
    dsimp only at hck hik HP
    have HM:=hide hik.2.1
    clear hik
    have c2':0≤b:=by omega
    go_enter Tryz.func175,Tryz.ntmps175
    go_wp2_with (rw [← HW.out])
    go_ret2
    exact ⟨xa,xn,xc,true,rfl,by rw [HP.out];simp,fun _=>HP.out.symm,HM.out,hB0⟩
def upS (f:Nat→Nat):Nat→Nat
 | 0=>0
 | k+1=>upS f k+f k
theorem upS_mono (f:Nat→Nat) (k:Nat):∀ m,k≤m→upS f k≤upS f m
 | 0,h=>by
    obtain rfl:k=0:=by omega
    exact Nat.le_refl _
 | m+1,h=>by
   by_cases e:k=m+1
   ·subst e;exact Nat.le_refl _
   ·have:=upS_mono f k m (by omega)
    show _≤upS f m+f m
    omega
def Shp (w w':World):Prop:=∀ g cs t,Blk w g cs t→∃ cs':Array Value,Blk w' g cs' t∧cs'.size=cs.size
theorem Shp.refl (w:World):Shp w w:=fun g cs t h=>⟨cs,h,rfl⟩
theorem Shp.trans {a b c:World} (h:Shp a b) (k:Shp b c):Shp a c:=fun g cs t hb=>by
 obtain ⟨c1,h1,e1⟩:=h g cs t hb
 obtain ⟨c2,h2,e2⟩:=k g c1 t h1
 exact ⟨c2,h2,e2.trans e1⟩
theorem Shp.below {w w':World} (h:Below w.heap.size w w'):Shp w w':=fun g cs t hb=>⟨cs,hb.below h,rfl⟩
theorem Shp.set (w:World) (k i:Nat) (v:Value):Shp w (w.setCell ⟨k,i,none⟩ v):=fun g cs t hb=>by
 by_cases e:g=k
 ·subst e
  exact ⟨_,hb.set i v,by simp⟩
 ·exact ⟨cs,hb.other _ _ e,rfl⟩
structure Mkd (S:Nat→Prop) (w w':World):Prop where
 turn:Turn S w w'
 shp:Shp w w'
theorem Mkd.refl (S:Nat→Prop) (w:World):Mkd S w w:=⟨Turn.refl _ _,Shp.refl _⟩
theorem Mkd.trans {S:Nat→Prop} {a b c:World} (h:Mkd S a b) (k:Mkd S b c):Mkd S a c:=⟨h.turn.trans k.turn,h.shp.trans k.shp⟩
theorem Mkd.below {S:Nat→Prop} {w w':World} (h:Below w.heap.size w w'):Mkd S w w':=⟨turn_below h,Shp.below h⟩
theorem Mkd.set {S:Nat→Prop} {w w':World} (h:Mkd S w w') (k i:Nat) (v:Value) (hk:S k):Mkd S w (w'.setCell ⟨k,i,none⟩ v):=
 h.trans ⟨⟨rfl,rfl,rfl,by rw [size_setCell];exact Nat.le_refl _,fun j _ hj=>heap_setCell_other _ _ _ _ (fun e=>hj (by rw [e];exact hk))⟩,Shp.set _ _ _ _⟩
theorem Mkd.mono {S S':Nat→Prop} {w w':World} (h:Mkd S w w') (hs:∀ k,S k→S' k):Mkd S' w w':=⟨h.turn.mono hs,h.shp⟩
def Sl (S:Nat→Prop) (w:World) (a:Option Addr) (n sz:Nat):Prop:=n≠0→∃ g o cs t,a=some ⟨g,o,none⟩∧S g∧Blk w g cs t∧o+n * sz≤cs.size
theorem Sl.shp {S:Nat→Prop} {w w':World} {a:Option Addr} {n sz:Nat} (h:Sl S w a n sz) (m:Shp w w'):Sl S w' a n sz:=fun hn=>by
 obtain ⟨g,o,cs,t,ha,hs,hb,hl⟩:=h hn
 obtain ⟨cs',hb',e⟩:=m g cs t hb
 exact ⟨g,o,cs',t,ha,hs,hb',by omega⟩
theorem Sl.cell {S:Nat→Prop} {w:World} {g o n sz:Nat} (h:Sl S w (some ⟨g,o,none⟩) n sz) (hn:n≠0) (i:Nat) (hi:i<n * sz):(∃ u,w.cell? ⟨g,o+i,none⟩=some u)∧w.frozen? ⟨g,o+i,none⟩=false∧S g:=by
 obtain ⟨g',o',cs,t,ha,hs,hb,hl⟩:=h hn
 simp at ha
 obtain ⟨rfl,rfl⟩:=ha
 exact ⟨⟨cs[o+i]'(by omega),by rw [hb.cell];simp [show o+i<cs.size by omega]⟩,hb.frozen _,hs⟩
theorem Sl.addr {S:Nat→Prop} {w:World} {a:Option Addr} {n sz:Nat} (h:Sl S w a n sz) (hn:n≠0):∃ g o,a=some ⟨g,o,none⟩:=by
 obtain ⟨g,o,_,_,ha,_⟩:=h hn
 exact ⟨g,o,ha⟩
structure SlB (S:Nat→Prop) (w:World) (a:Option Addr) (n:Nat) (f:Nat→Option Addr × Nat × Nat):Prop where
 head:n≠0→∃ g o cs t,a=some ⟨g,o,none⟩∧¬ S g∧Blk w g cs t∧∀ i,i<n→cs[o+i]?=some (.slice (f i).1 (f i).2.1 (f i).2.2)
 rows:∀ i,i<n→Sl S w (f i).1 (f i).2.1 1
theorem SlB.kept {S:Nat→Prop} {w w':World} {a:Option Addr} {n:Nat} {f:Nat→Option Addr × Nat × Nat} (h:SlB S w a n f) (m:Mkd S w w'):SlB S w' a n f:=
 ⟨fun hn=>by obtain ⟨g,o,cs,t,ha,hs,hb,hl⟩:=h.head hn;exact ⟨g,o,cs,t,ha,hs,turn_blk m.turn hb hs,hl⟩,fun i hi=>(h.rows i hi).shp m.shp⟩
def Sr (f:Nat→Option Addr × Nat × Nat) (n j:Nat):Prop:=∃ i,i<n∧(Value.slice (f i).1 (f i).2.1 (f i).2.2).ownBlock=some j
structure Rr (w:World) (base:Nat) (a:Option Addr) (n:Nat) (f:Nat→Option Addr × Nat × Nat) (X:Nat→List Int):Prop where
 head:n≠0→∃ g cs,a=some ⟨g,0,none⟩∧¬ Sr f n g∧Blk w g cs 29∧∀ i,i<n→cs[i]?=some (.slice (f i).1 (f i).2.1 (f i).2.2)
 rows:∀ i,i<n→OI w base (.slice (f i).1 (f i).2.1 (f i).2.2) (X i)
 apart:∀ i j,i<n→j<n→i≠j→∀ k,(Value.slice (f i).1 (f i).2.1 (f i).2.2).ownBlock=some k→(Value.slice (f j).1 (f j).2.1 (f j).2.2).ownBlock≠some k
theorem Rr.kept {w w':World} {base:Nat} {a:Option Addr} {n:Nat} {f:Nat→Option Addr × Nat × Nat} {X:Nat→List Int} {S:Nat→Prop} (h:Rr w base a n f X) (t:Turn S w w') (hs:∀ i,i<n→∀ k,(Value.slice (f i).1 (f i).2.1 (f i).2.2).ownBlock=some k→¬ S k) (hh:n≠0→∀ g cs,a=some ⟨g,0,none⟩→Blk w g cs 29→¬ S g):Rr w' base a n f X:=
 ⟨fun hn=>by obtain ⟨g,cs,ha,h1,h2,h3⟩:=h.head hn;exact ⟨g,cs,ha,h1,turn_blk t h2 (hh hn g cs ha h2),h3⟩,fun i hi=>turn_oi t (h.rows i hi) (hs i hi),h.apart⟩
end Go.Proofs.YtngdgogjlpjjpadGreat
namespace Go.Proofs.YtngdgogjlpjjpadGreat
open Go.RowKit
set_option linter.unusedVariables false
structure Rdr (W:World) (r:Nat) (a:Option Addr) (n c:Nat) (zs:List Int) (k:Nat):Prop where
 blk:Blk W r #[.slice a n c,.int .i64 ((min k n:Nat):Int)] 176
 bs:BS W a n c zs
 small:n≤1000
 far:n≠0→∀ b off,a=some ⟨b,off,none⟩→b≠r
theorem rdr_below {W W':World} {r:Nat} {a:Option Addr} {n c:Nat} {zs:List Int} {k:Nat} (h:Rdr W r a n c zs k) (hb:Below W.heap.size W W'):Rdr W' r a n c zs k:=⟨h.blk.below hb,h.bs.below hb,h.small,h.far⟩
theorem Blk.two {w:World} {g:Nat} {a b:Value} {t:TypeId} (h:Blk w g #[a,b] t):w.cell? ⟨g,0,none⟩=some a∧w.cell? ⟨g,1,none⟩=some b∧∀ i,w.frozen? ⟨g,i,none⟩=false:=
 ⟨by rw [h.cell];rfl,by rw [h.cell];rfl,fun i=>h.frozen i⟩
theorem turn_bs' {S:Nat→Prop} {w w':World} {a:Option Addr} {n cap:Nat} {zs:List Int} (ht:Turn S w w') (h:BS w a n cap zs) (hk:n≠0→∀ k,S k→∀ b off,a=some ⟨b,off,none⟩→b≠k):BS w' a n cap zs:=by
 by_cases hn:n=0
 ·exact ⟨h.1,h.2.1,h.2.2.1,fun e=>absurd hn e,h.2.2.2.2⟩
 ·exact turn_bs ht h (hk hn)
theorem turn_cell (w:World) (r i:Nat) (v:Value):Turn (fun j=>j=r) w (w.setCell ⟨r,i,none⟩ v):=⟨rfl,rfl,rfl,by rw [size_setCell];exact Nat.le_refl _,fun j hj hn=>heap_setCell_other _ _ _ _ hn⟩
set_option maxHeartbeats 1000000 in
theorem l1Open_any (a:Option Addr) (n c n':Nat) (zs:List Int) (w:World) (h:BS w a n c zs) (hn':n'=min n 1000):
 Calls Tryz.prog 50 #[.slice a n c] w fun e w'=>e=.returned (.pointer (some ⟨w.heap.size,0,none⟩))∧Rdr w' w.heap.size a n' c (zs.take 1000) 0∧Below w.heap.size w w':=by
 have hm:=h.2.1
 unfold maxLen at hm
 have hl:=h.1
 have hcap:=h.2.2.2.2
 have hB:∀ o,Below w.heap.size w (w.alloc o):=fun o=>(Below.refl _ _).alloc (Nat.le_refl _) _
 have hfar:n≠0→∀ b off,a=some ⟨b,off,none⟩→b<w.heap.size:=by
  intro hn b off e
  subst e
  exact World.block_lt_of_cell? w _ (h.at 0 (by omega))
 have HFAR:=hide hfar
 clear hfar
 by_cases hn:(1000:Int)<(n:Int)
 ·obtain ⟨b,off,rfl⟩:=h.some (by omega)
  have h':=(h.take 1000 (by omega))
  have hn1:n'=1000:=by omega
  subst hn1
  clear hn'
  go_enter Tryz.func50,Tryz.ntmps50
  go_wp2
  go_ret
  exact ⟨rfl,⟨Blk.new w _ _,h'.below (hB _),Nat.le_refl _,fun _ b' off' e=>by have:=HFAR.out (by omega) b' off' e;omega⟩,hB _⟩
 ·have ht:zs.take 1000=zs:=List.take_of_length_le (by omega)
  rw [ht]
  have hn1:n'=n:=by omega
  subst hn1
  clear hn' ht
  have HB:=hide hB
  have H:=hide h
  clear hB h
  go_enter Tryz.func50,Tryz.ntmps50
  go_wp2
  go_ret
  exact ⟨rfl,⟨by rw [Nat.zero_min];exact Blk.new w _ _,H.out.below (HB.out _),by omega,fun h0 b' off' e=>by have:=HFAR.out h0 b' off' e;omega⟩,HB.out _⟩
set_option maxHeartbeats 1000000 in
theorem next_any (r:Nat) (a:Option Addr) (n c:Nat) (zs:List Int) (k:Nat) (w:World) (h:Rdr w r a n c zs k):
 Calls Tryz.prog 51 #[.pointer (some ⟨r,0,none⟩)] w fun e w'=>e=.returned (.int .i64 (zs.getD k 0))∧Rdr w' r a n c zs (k+1)∧Turn (fun j=>j=r) w w':=by
 obtain ⟨q1,q2,q3⟩:=h.blk.two
 have hs:=h.small
 have hl:=h.bs.1
 by_cases hlt:k<n
 ·have e1:min k n=k:=by omega
  rw [e1] at q2
  have hlt':(k:Int)<(n:Int):=by omega
  obtain ⟨b,off,rfl⟩:=h.bs.some (by omega)
  have hc:=h.bs.at k hlt
  have hr:=h.bs.range k
  have hfin:Rdr (w.setCell ⟨r,1,none⟩ (.int .i64 ((k:Int)+1))) r (some ⟨b,off,none⟩) n c zs (k+1):=by
   refine ⟨?_,?_,hs,h.far⟩
   ·have:=h.blk.set 1 (.int .i64 ((k:Int)+1))
    rw [show (min (k+1) n)=k+1 by omega]
    simpa using this
   ·refine turn_bs' (turn_cell w r 1 _) h.bs ?_
    intro h0 j hj b' off' e
    subst hj
    exact h.far h0 b' off' e
  have HF:=hide hfin
  have HT:=hide (turn_cell w r 1 (.int .i64 ((k:Int)+1)))
  clear hfin h e1
  generalize zs.getD k 0=z at *
  obtain ⟨z0,z1⟩:=hr
  go_enter Tryz.func51,Tryz.ntmps51
  go_wp2
  go_quiet (fail)
  go_wp2
  go_quiet (fail)
  go_wp2
  go_ret
  exact ⟨rfl,⟨HF.out.blk,HF.out.bs,HF.out.small,HF.out.far⟩,⟨HT.out.os,HT.out.tape,HT.out.output,HT.out.size,HT.out.block⟩⟩
 ·have e1:min k n=n:=by omega
  rw [e1] at q2
  have e0:zs.getD k 0=0:=by simp [List.getD_eq_getElem?_getD,show zs.length≤k by omega]
  have hfin:Rdr w r a n c zs (k+1):=⟨by rw [show min (k+1) n=min k n by omega];exact h.blk,h.bs,hs,h.far⟩
  have HF:=hide hfin
  rw [e0]
  have hd:((n:Int)<(n:Int))=False:=by simp
  clear hfin h e1 e0
  go_enter Tryz.func51,Tryz.ntmps51
  go_wp2
  go_quiet (fail)
  go_wp2
  go_ret
  exact ⟨rfl,⟨HF.out.blk,HF.out.bs,HF.out.small,HF.out.far⟩,⟨rfl,rfl,rfl,Nat.le_refl _,fun _ _ _=>rfl⟩⟩
theorem next_is (r:Nat) (a:Option Addr) (n c:Nat) (zs:List Int) (k:Nat) (v:Int) (w:World) (h:Rdr w r a n c zs k) (hv:Hid (zs.getD k 0=v)):
 Calls Tryz.prog 51 #[.pointer (some ⟨r,0,none⟩)] w fun e w'=>e=.returned (.int .i64 v)∧Rdr w' r a n c zs (k+1)∧Turn (fun j=>j=r) w w':=
 (next_any r a n c zs k w h).mono fun e w' he=>⟨by rw [he.1,hv.out],he.2⟩
end Go.Proofs.YtngdgogjlpjjpadGreat
