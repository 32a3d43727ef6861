import Derived.Test.YtngdgogjlpjjpadGreatP00
import Derived.Test.YtngdgogjlpjjpadGreatP01
namespace Go.Proofs.YtngdgogjlpjjpadGreat
open Go.RowKit
set_option linter.unusedVariables false
theorem mod_word (v:Int):((v.tmod 4294967296)+4294967296).tmod 4294967296=v % 4294967296:=by
 have h:=Int.tmod_eq_emod (a:=v) (b:=4294967296)
 have hlt:-4294967296<v.tmod 4294967296:=by
  have:=Int.lt_tmod_of_pos v (show (0:Int)<4294967296 by omega)
  exact this
 rw [Int.tmod_eq_emod_of_nonneg (by omega)]
 split at h <;> omega
set_option maxHeartbeats 400000 in
theorem l1Mod_word (v:Int) (w:World) (hv:-9223372036854775808≤v∧v≤9223372036854775807):
 Calls Tryz.prog 157 #[.int .i64 v,.int .i64 4294967296] w fun e w'=>e=.returned (.int .i64 (v % 4294967296))∧w=w':=by
 have hlt:-4294967296<v.tmod 4294967296:=Int.lt_tmod_of_pos v (by omega)
 have hgt:v.tmod 4294967296<4294967296:=Int.tmod_lt_of_pos v (by omega)
 have HM:=hide (mod_word v)
 go_enter Tryz.func157,Tryz.ntmps157
 go_wp2
 go_ret
 exact ⟨ret_int (by have:=HM.out;rwa [Int.tmod_eq_emod_of_nonneg (by omega)] at this),rfl⟩
set_option maxHeartbeats 400000 in
theorem l1Word_any (v:Int) (w:World) (hv:-9223372036854775808≤v∧v≤9223372036854775807):
 Calls Tryz.prog 72 #[.int .i64 v] w fun e w'=>e=.returned (.int .i64 (v % 4294967296))∧w=w':=by
 go_enter Tryz.func72,Tryz.ntmps72
 go_wp2_with fail
 refine (l1Mod_word v _ hv).mono ?_
 rintro e w1 ⟨rfl,rfl⟩
 go_wp2
 go_ret
 exact ⟨rfl,rfl⟩
def bt (v:Int) (j:Nat):Int:=v / (256:Int)^j % 256
def putW (w:World) (g k:Nat) (v:Int):Nat→World
 | 0=>w
 | j+1=>(putW w g k v j).setCell ⟨g,k+j,none⟩ (.int .u8 (bt v j))
def put (zs:List Int) (k:Nat) (v:Int):Nat→List Int
 | 0=>zs
 | j+1=>(put zs k v j).set (k+j) (bt v j)
theorem bt_range (v:Int) (j:Nat):0≤bt v j∧bt v j≤255:=by unfold bt;omega
theorem bt_succ (v:Int) (j:Nat):v / (256:Int)^j / 256=v / (256:Int)^(j+1):=by
 rw [Int.pow_succ,Int.ediv_ediv_of_nonneg (Int.le_of_lt (Int.pow_pos (by omega)))]
theorem put_len (zs:List Int) (k:Nat) (v:Int):∀ j,(put zs k v j).length=zs.length
 | 0=>rfl
 | j+1=>by rw [put,List.length_set,put_len zs k v j]
def Room (w:World) (g n:Nat):Prop:=∃ cur,Blk w g cur 5∧n≤cur.size
theorem Room.cell {w:World} {g n:Nat} (h:Room w g n) (i:Nat) (hi:i<n):∃ u,w.cell? ⟨g,i,none⟩=some u:=by
 obtain ⟨cur,hb,hn⟩:=h
 rw [hb.cell]
 exact ⟨cur[i],by simp⟩
theorem Room.frozen {w:World} {g n:Nat} (h:Room w g n) (i:Nat):w.frozen? ⟨g,i,none⟩=false:=by
 obtain ⟨cur,hb,hn⟩:=h
 exact hb.frozen i
theorem Room.set {w:World} {g n:Nat} (h:Room w g n) (i:Nat) (u:Value):Room (w.setCell ⟨g,i,none⟩ u) g n:=by
 obtain ⟨cur,hb,hn⟩:=h
 exact ⟨_,hb.set i u,by simpa using hn⟩
theorem Room.put {w:World} {g n:Nat} (h:Room w g n) (k:Nat) (v:Int):∀ j,Room (putW w g k v j) g n
 | 0=>h
 | j+1=>(Room.put h k v j).set (k+j) _
set_option maxHeartbeats 1000000 in
theorem l1Put_any (g n cap k:Nat) (s v:Int) (w:World) (h:Room w g n) (hn:n≤16384) (hs1:1≤s) (hs:s≤4) (hk:(k:Int)+s≤n) (hv0:0≤v) (hv1:v≤4294967295):
 Calls Tryz.prog 71 #[.slice (some ⟨g,0,none⟩) n cap,.int .i64 k,.int .i64 s,.int .i64 v] w fun e w'=>e=.returned (.tuple #[])∧w'=putW w g k v s.toNat:=by
 go_enter Tryz.func71,Tryz.ntmps71
 go_wp2
 go_loopw [3,8] (fun x i wr=>∃ j:Nat,(j:Int)≤s∧i=.int .i64 j∧x=.int .i64 (v / (256:Int)^j)∧wr=putW w g k v j) (fun _ i _=>s.toNat - (intOf i).toNat)
 case atStart=>exact ⟨0,by omega,rfl,by simp,rfl⟩
 case round=>
  obtain ⟨j,hj,rfl,rfl,rfl⟩:=hrel
  by_cases hlt:(j:Int)<s
  ·have hR:=h.put k v j
   obtain ⟨u,hu⟩:=hR.cell (k+j) (by omega)
   have hf:=hR.frozen (k+j)
   have hp:0<(256:Int)^j:=Int.pow_pos (by omega)
   have hq0:0≤v / (256:Int)^j:=Int.ediv_nonneg hv0 (by omega)
   have hq1:v / (256:Int)^j≤v:=Int.ediv_le_self _ hv0
   have HS:=hide (bt_succ v j)
   have hW:putW w g k v (j+1)=(putW w g k v j).setCell ⟨g,k+j,none⟩ (.int .u8 (v / (256:Int)^j % 256)):=rfl
   have HW:=hide hW
   clear hW hR hp
   generalize putW w g k v j=W at *
   generalize v / (256:Int)^j=q at *
   go_wp2
   go_roundw
   case rel=>exact ⟨j+1,by omega,by go_num,by rw [HS.out],HW.out.symm⟩
   case measure=>simp [intOf];omega
  ·have hjs:s.toNat=j:=by omega
   have HJ:=hide hjs
   clear hjs
   generalize v / (256:Int)^j=q at *
   go_wp2
   go_end0
   exact ⟨rfl,by rw [HJ.out]⟩
def putD4 (w:World) (g k:Nat) (v:Int):World:=
 (((w.setCell ⟨g,k+3,none⟩ (.int .u8 (bt v 3))).setCell ⟨g,k+2,none⟩ (.int .u8 (bt v 2))).setCell ⟨g,k+1,none⟩ (.int .u8 (bt v 1))).setCell ⟨g,k,none⟩ (.int .u8 (bt v 0))
theorem bt0 (v:Int):bt v 0=v % 256:=by unfold bt;simp
theorem bt1 (v:Int):bt v 1=v / 256 % 256:=by unfold bt;simp
theorem bt2 (v:Int):bt v 2=v / 65536 % 256:=by unfold bt;rw [show (256:Int)^2=65536 from rfl]
theorem bt3 (v:Int):bt v 3=v / 16777216 % 256:=by unfold bt;rw [show (256:Int)^3=16777216 from rfl]
set_option maxHeartbeats 1000000 in
theorem putBytes_4 (g n cap k:Nat) (v:Int) (w:World) (h:Room w g (k+4)) (hn:4≤n) (hv:-9223372036854775808≤v∧v≤9223372036854775807):
 Calls Tryz.prog 155 #[.slice (some ⟨g,k,none⟩) n cap,.int .i64 4,.int .i64 v] w fun e w'=>e=.returned (.tuple #[])∧w'=putD4 w g k v:=by
 obtain ⟨u0,c0⟩:=h.cell k (by omega)
 obtain ⟨u1,c1⟩:=h.cell (k+1) (by omega)
 obtain ⟨u2,c2⟩:=h.cell (k+2) (by omega)
 obtain ⟨u3,c3⟩:=h.cell (k+3) (by omega)
 have hf:∀ i,w.frozen? ⟨g,i,none⟩=false:=h.frozen
 have hl:(3:Int)<(n:Int):=by omega
 obtain ⟨hv0,hv1⟩:=hv
 have HP:=hide (show putD4 w g k v=putD4 w g k v from rfl)
 unfold putD4
 rw [bt3,bt2,bt1,bt0]
 go_enter Tryz.func155,Tryz.ntmps155
 go_wp2
 go_end0
 exact ⟨rfl,rfl⟩
theorem bt_word (v:Int):bt (v % 4294967296) 0=bt v 0∧bt (v % 4294967296) 1=bt v 1∧bt (v % 4294967296) 2=bt v 2∧bt (v % 4294967296) 3=bt v 3:=by
 rw [bt0,bt1,bt2,bt3,bt0,bt1,bt2,bt3]
 omega
theorem put_desc4 (zs:List Int) (k:Nat) (v:Int):put zs k v 4=(((zs.set (k+3) (bt v 3)).set (k+2) (bt v 2)).set (k+1) (bt v 1)).set k (bt v 0):=by
 simp only [put,Nat.add_zero]
 rw [List.set_comm _ _ (show k≠k+1 by omega),List.set_comm _ _ (show k≠k+2 by omega),List.set_comm _ _ (show k≠k+3 by omega)]
 congr 1
 rw [List.set_comm _ _ (show k+1≠k+2 by omega),List.set_comm _ _ (show k+1≠k+3 by omega)]
 congr 1
 rw [List.set_comm _ _ (show k+2≠k+3 by omega)]
theorem ob_set {w:World} {base g n cap:Nat} {zs:List Int} (h:OB w base (.slice (some ⟨g,0,none⟩) n cap) zs) (i:Nat) (hi:i<n) (z:Int) (hz:0≤z∧z≤255):OB (w.setCell ⟨g,i,none⟩ (.int .u8 z)) base (.slice (some ⟨g,0,none⟩) n cap) (zs.set i z):=by
 obtain ⟨⟨hl,h0 | ⟨g',cap',cur,hv,hg,hh,h1,h2,h3,h4⟩⟩,hr⟩:=h
 ·simp at h0
 ·simp at hv
  obtain ⟨rfl,rfl,rfl⟩:=hv
  refine ⟨⟨by simp,.inr ⟨g,cap,cur.setIfInBounds i (.int .u8 z),by simp,hg,Blk.set (w:=w) hh i _,by simpa using h1,h2,by simpa using h3,?_⟩⟩,?_⟩
  ·rw [List.length_set,Array.toList_setIfInBounds,List.take_set,h4,List.map_set]
  ·intro y hy
   rcases List.mem_or_eq_of_mem_set hy with hy | rfl
   ·exact hr y hy
   ·exact hz
theorem ob_put {w:World} {base g n cap:Nat} {zs:List Int} (h:OB w base (.slice (some ⟨g,0,none⟩) n cap) zs) (k:Nat) (v:Int):∀ j,k+j≤n→OB (putW w g k v j) base (.slice (some ⟨g,0,none⟩) n cap) (put zs k v j)
 | 0,_=>h
 | j+1,hj=>ob_set (ob_put h k v j (by omega)) (k+j) (by omega) _ (bt_range v j)
theorem ob_putD4 {w:World} {base g n cap:Nat} {zs:List Int} (h:OB w base (.slice (some ⟨g,0,none⟩) n cap) zs) (k:Nat) (v:Int) (hk:k+4≤n):OB (putD4 w g k v) base (.slice (some ⟨g,0,none⟩) n cap) (put zs k v 4):=by
 rw [put_desc4]
 exact ob_set (ob_set (ob_set (ob_set h (k+3) (by omega) _ (bt_range v 3)) (k+2) (by omega) _ (bt_range v 2)) (k+1) (by omega) _ (bt_range v 1)) k (by omega) _ (bt_range v 0)
theorem ob_room {w:World} {base g n cap:Nat} {zs:List Int} (h:OB w base (.slice (some ⟨g,0,none⟩) n cap) zs):Room w g n:=by
 obtain ⟨⟨hl,h0 | ⟨g',cap',cur,hv,hg,hh,h1,h2,h3,h4⟩⟩,hr⟩:=h
 ·simp at h0
 ·simp at hv
  obtain ⟨rfl,rfl,rfl⟩:=hv
  exact ⟨cur,hh,by omega⟩
def Only (g:Nat) (w w':World):Prop:=w'.heap.size=w.heap.size∧(∀ k,k≠g→w'.heap[k]?=w.heap[k]?)∧w'.os=w.os∧w'.tape=w.tape∧w'.output=w.output
theorem only_refl (g:Nat) (w:World):Only g w w:=⟨rfl,fun _ _=>rfl,rfl,rfl,rfl⟩
theorem only_set {g:Nat} {w w':World} (h:Only g w w') (i:Nat) (u:Value):Only g w (w'.setCell ⟨g,i,none⟩ u):=
 ⟨by rw [size_setCell];exact h.1,fun k hk=>by rw [heap_setCell_other _ _ _ _ hk];exact h.2.1 k hk,h.2.2.1,h.2.2.2.1,h.2.2.2.2⟩
theorem only_put (g k:Nat) (v:Int) (w:World):∀ j,Only g w (putW w g k v j)
 | 0=>only_refl g w
 | j+1=>only_set (only_put g k v w j) (k+j) _
theorem only_putD4 (g k:Nat) (v:Int) (w:World):Only g w (putD4 w g k v):=only_set (only_set (only_set (only_set (only_refl g w) _ _) _ _) _ _) _ _
theorem only_below {B g:Nat} {a w w':World} (h:Below B a w) (ho:Only g w w') (hg:B≤g):Below B a w':=
 ⟨ho.2.2.1.trans h.os,ho.2.2.2.1.trans h.tape,ho.2.2.2.2.trans h.output,by rw [ho.1];exact h.size,fun k hk=>(ho.2.1 k (by omega)).trans (h.block k hk)⟩
theorem only_blk {g k:Nat} {w w':World} {cs:Array Value} {t:TypeId} (ho:Only g w w') (h:Blk w k cs t) (hk:k≠g):Blk w' k cs t:=by
 unfold Blk at *;rw [ho.2.1 k hk];exact h
theorem only_ob {g base:Nat} {w w':World} {v:Value} {zs:List Int} (ho:Only g w w') (h:OB w base v zs) (hk:v.ownBlock≠some g):OB w' base v zs:=by
 refine ⟨?_,h.2⟩
 obtain ⟨hl,h0 | ⟨g',cap,cur,rfl,hg,hh,h1,h2,h3,h4⟩⟩:=h.1
 ·exact ⟨hl,.inl h0⟩
 ·refine ⟨hl,.inr ⟨g',cap,cur,rfl,hg,?_,h1,h2,h3,h4⟩⟩
  exact only_blk ho hh (by intro e;subst e;exact hk rfl)
theorem put_word (zs:List Int) (k:Nat) (v:Int):put zs k (v % 4294967296) 4=put zs k v 4∧put zs k (v % 4294967296) 2=put zs k v 2∧put zs k (v % 4294967296) 1=put zs k v 1:=by
 obtain ⟨e0,e1,e2,e3⟩:=bt_word v
 simp only [put,e0,e1,e2,e3,and_self]
theorem own3_below {w w':World} {base:Nat} {v1 v2 v3:Value} {x1 x2 x3:List Int} (h:Own3 w base v1 v2 v3 x1 x2 x3) (hb:Below w.heap.size w w'):Own3 w' base v1 v2 v3 x1 x2 x3:=
 ⟨h.1.below hb,h.2.1.below hb,h.2.2.1.below hb,h.2.2.2⟩
theorem own3_other {w:World} {base:Nat} {v1 v2 v3:Value} {x1 x2 x3:List Int} (h:Own3 w base v1 v2 v3 x1 x2 x3) (a:Addr) (u:Value) (ha:a.block<base):Own3 (w.setCell a u) base v1 v2 v3 x1 x2 x3:=
 ⟨h.1.other a u ha,h.2.1.other a u ha,h.2.2.1.other a u ha,h.2.2.2⟩
theorem own3_mono {w:World} {base base':Nat} {v1 v2 v3:Value} {x1 x2 x3:List Int} (h:Own3 w base v1 v2 v3 x1 x2 x3) (hb:base'≤base):Own3 w base' v1 v2 v3 x1 x2 x3:=
 ⟨h.1.mono hb,h.2.1.mono hb,h.2.2.1.mono hb,h.2.2.2⟩
theorem grown_blk {w w':World} {row:Option Nat} {k:Nat} {cs:Array Value} {t:TypeId} (hg:w.grownBy w' row) (h:Blk w k cs t) (hk:some k≠row):Blk w' k cs t:=by
 have:=hg.block k h.lt hk
 unfold Blk at *;rw [this];exact h
structure Hold (w W:World) (base go:Nat) (bx:Array Value) (v1 v2 v3:Value) (x1 x2 x3:List Int):Prop where
 below:Below w.heap.size w W
 big:w.heap.size+2≤base
 gobig:base≤go
 box:Blk W w.heap.size bx 38
 res:Blk W (w.heap.size+1) #[.slice none 0 0,.slice none 0 0,.slice none 0 0] 38
 out:Blk W go #[v1,v2,v3] 38
 own:Own3 W base v1 v2 v3 x1 x2 x3
 far:∀ v,v=v1∨v=v2∨v=v3→v.ownBlock≠some go
theorem Hold.step {w W W':World} {base go:Nat} {bx:Array Value} {v1 v2 v3:Value} {x1 x2 x3:List Int} (h:Hold w W base go bx v1 v2 v3 x1 x2 x3) (hb:Below W.heap.size W W'):Hold w W' base go bx v1 v2 v3 x1 x2 x3:=
 ⟨h.below.trans (hb.mono h.below.size),h.big,h.gobig,h.box.below hb,h.res.below hb,h.out.below hb,own3_below h.own hb,h.far⟩
def resW (W:World) (g:Nat) (v1 v2 v3:Value):World:=((W.setCell ⟨g,0,none⟩ v1).setCell ⟨g,1,none⟩ v2).setCell ⟨g,2,none⟩ v3
theorem Hold.done {w W:World} {base go:Nat} {bx:Array Value} {v1 v2 v3:Value} {x1 x2 x3:List Int} (h:Hold w W base go bx v1 v2 v3 x1 x2 x3):
 Own3 (resW W (w.heap.size+1) v1 v2 v3) w.heap.size v1 v2 v3 x1 x2 x3∧Below w.heap.size w (resW W (w.heap.size+1) v1 v2 v3):=by
 have hb:=h.big
 exact ⟨own3_mono (own3_other (own3_other (own3_other h.own _ _ (by dsimp only;omega)) _ _ (by dsimp only;omega)) _ _ (by dsimp only;omega)) (by omega),
  ((h.below.setCell (by dsimp only;omega) _).setCell (by dsimp only;omega) _).setCell (by dsimp only;omega) _⟩
theorem turn_ob {S:Nat→Prop} {base:Nat} {w w':World} {v:Value} {zs:List Int} (ht:Turn S w w') (h:OB w base v zs) (hk:∀ k,v.ownBlock=some k→¬ S k):OB w' base v zs:=by
 refine ⟨?_,h.2⟩
 obtain ⟨hl,h0 | ⟨g',cap,cur,rfl,hg,hh,h1,h2,h3,h4⟩⟩:=h.1
 ·exact ⟨hl,.inl h0⟩
 ·exact ⟨hl,.inr ⟨g',cap,cur,rfl,hg,turn_blk ht hh (hk g' rfl),h1,h2,h3,h4⟩⟩
end Go.Proofs.YtngdgogjlpjjpadGreat
namespace Go.Proofs.YtngdgogjlpjjpadGreat
open Go.RowKit
set_option linter.unusedVariables false
set_option linter.unusedSimpArgs false
set_option maxRecDepth 100000
abbrev Bk:=Option Addr × Nat × Nat × List Int
def zB:Bk:=(none,0,0,[])
def BKS (w:World) (a:Option Addr) (n cap:Nat) (bl:List Bk):Prop:=
 bl.length=n∧n≤maxLen∧(n≠0→∃ b off,a=some ⟨b,off,none⟩∧∀ i,i<n→w.cell? ⟨b,off+i,none⟩=some (.slice (bl.getD i zB).1 (bl.getD i zB).2.1 (bl.getD i zB).2.2.1))∧(∀ i,i<n→IS w (bl.getD i zB).1 (bl.getD i zB).2.1 (bl.getD i zB).2.2.1 (bl.getD i zB).2.2.2)∧n≤cap
theorem BKS.below {w w':World} {a:Option Addr} {n cap:Nat} {bl:List Bk} (h:BKS w a n cap bl) (hb:Below w.heap.size w w'):BKS w' a n cap bl:=by
 obtain ⟨h1,h2,h3,h4,h5⟩:=h
 refine ⟨h1,h2,fun hn=>?_,fun i hi=>(h4 i hi).below hb,h5⟩
 obtain ⟨b,off,e,hc⟩:=h3 hn
 exact ⟨b,off,e,fun i hi=>(hb.cell (World.block_lt_of_cell? w _ (hc i hi))).trans (hc i hi)⟩
theorem BKS.addr {w:World} {a:Option Addr} {n cap:Nat} {bl:List Bk} (h:BKS w a n cap bl) (hn:n≠0):∃ b off,a=some ⟨b,off,none⟩:=by
 obtain ⟨b,off,e,_⟩:=h.2.2.1 hn
 exact ⟨b,off,e⟩
theorem BKS.at {w:World} {b off n cap:Nat} {bl:List Bk} (h:BKS w (some ⟨b,off,none⟩) n cap bl) (i:Nat) (hi:i<n):w.cell? ⟨b,off+i,none⟩=some (.slice (bl.getD i zB).1 (bl.getD i zB).2.1 (bl.getD i zB).2.2.1):=by
 obtain ⟨b',off',e,hc⟩:=h.2.2.1 (by omega)
 simp at e
 obtain ⟨rfl,rfl⟩:=e
 exact hc i hi
def bko (b:Bk):Bool:=decide (1≤b.2.1∧b.2.1≤64) && wds b.2.2.2
def cdo (tn:Nat) (tz:List Int) (bn:Nat) (bl:List Bk):Bool:=decide (tn≤200∧bn≤4) && (wds tz && bl.all bko)
theorem all_bad (bl:List Bk) (k:Nat) (hk:k<bl.length) (h:bko (bl.getD k zB)=false):bl.all bko=false:=by
 rw [List.all_eq_false]
 exact ⟨bl[k],List.getElem_mem _,by rw [show bl.getD k zB=bl[k] by simp [List.getD_eq_getElem?_getD,hk]] at h;simp [h]⟩
theorem all_good (bl:List Bk) (h:∀ j,j<bl.length→bko (bl.getD j zB)=true):bl.all bko=true:=by
 rw [List.all_eq_true]
 intro z hz
 obtain ⟨i,hi,rfl⟩:=List.getElem_of_mem hz
 have:=h i hi
 rwa [show bl.getD i zB=bl[i] by simp [List.getD_eq_getElem?_getD,hi]] at this
theorem Blk.eight {w:World} {g:Nat} {a b c d e f x y:Value} {t:TypeId} (h:Blk w g #[a,b,c,d,e,f,x,y] t):
 w.cell? ⟨g,0,none⟩=some a∧w.cell? ⟨g,1,none⟩=some b∧w.cell? ⟨g,2,none⟩=some c∧w.cell? ⟨g,3,none⟩=some d∧w.cell? ⟨g,4,none⟩=some e∧w.cell? ⟨g,5,none⟩=some f∧w.cell? ⟨g,6,none⟩=some x∧w.cell? ⟨g,7,none⟩=some y:=
 ⟨by rw [h.cell];rfl,by rw [h.cell];rfl,by rw [h.cell];rfl,by rw [h.cell];rfl,by rw [h.cell];rfl,by rw [h.cell];rfl,by rw [h.cell];rfl,by rw [h.cell];rfl⟩
set_option maxHeartbeats 2000000 in
theorem l4CodeOk_any (nm:ByteArray) (ta:Option Addr) (tn tc:Nat) (tz:List Int) (ba:Option Addr) (bn bc:Nat) (bl:List Bk) (v3 v5 v6 v7:Value) (bss:Int) (w:World) (ht:IS w ta tn tc tz) (hb:BKS w ba bn bc bl):
 Calls Tryz.prog 200 #[.agg #[.string nm,.slice ta tn tc,.slice ba bn bc,v3,.int .i64 bss,v5,v6,v7]] w fun e w'=>e=.returned (.bool (cdo tn tz bn bl))∧Below w.heap.size w w':=by
 obtain ⟨W,hW⟩:∃ W,W=w.alloc (.cells #[.string nm,.slice ta tn tc,.slice ba bn bc,v3,.int .i64 bss,v5,v6,v7] 49):=⟨_,rfl⟩
 have hB0:Below w.heap.size w W:=by rw [hW];exact (Below.refl _ _).alloc (Nat.le_refl _) _
 have kb:Blk W w.heap.size #[.string nm,.slice ta tn tc,.slice ba bn bc,v3,.int .i64 bss,v5,v6,v7] 49:=by rw [hW];exact Blk.new _ _ _
 obtain ⟨q0,q1,q2,q3,q4,q5,q6,q7⟩:=kb.eight
 have HT:=hide (fun w h=>l4Words_any ta tn tc tz w h)
 obtain ⟨r,hr⟩:∃ r,r=cdo tn tz bn bl:=⟨_,rfl⟩
 rw [← hr]
 unfold cdo at hr
 have ht0:=ht.below hB0
 have hb0:=hb.below hB0
 have hm1:=ht.2.1
 have hm2:=hb.2.1
 unfold maxLen at hm1 hm2
 have HW:=hide hW
 clear hW
 by_cases c1:200<tn
 ·have HR:=hide (show r=false by rw [hr,decide_eq_false (by omega)];rfl)
  clear hr
  have c1':(200:Int)<(tn:Int):=by omega
  go_enter Tryz.func200,Tryz.ntmps200
  go_wp2_with (rw [← HW.out])
  go_ret
  exact ⟨ret_bool HR.out.symm,hB0⟩
 ·have c1':¬ (200:Int)<(tn:Int):=by omega
  by_cases c2:4<bn
  ·have HR:=hide (show r=false by rw [hr,decide_eq_false (by omega)];rfl)
   clear hr
   have c2':(4:Int)<(bn:Int):=by omega
   go_enter Tryz.func200,Tryz.ntmps200
   go_wp2_with (rw [← HW.out])
   go_ret
   exact ⟨ret_bool HR.out.symm,hB0⟩
  ·have c2':¬ (4:Int)<(bn:Int):=by omega
   cases hz:wds tz
   ·rw [hz] at HT
    have HR:=hide (show r=false by rw [hr,hz];simp)
    clear hr
    go_enter Tryz.func200,Tryz.ntmps200
    go_wp2_with (first | (rw [← HW.out]) | (go_at_call 267;refine (HT.out _ ht0).mono ?_;rintro e w1 ⟨rfl,rfl⟩))
    go_ret
    exact ⟨ret_bool HR.out.symm,hB0⟩
   ·rw [hz] at HT
    have hr':r=bl.all bko:=by rw [hr,hz,decide_eq_true (by omega)];simp
    have HR:=hide hr'
    clear hr hr'
    have hl:=hb.1
    go_enter Tryz.func200,Tryz.ntmps200
    go_wp2_with (first | (rw [← HW.out]) | (go_at_call 267;refine (HT.out _ ht0).mono ?_;rintro e w1 ⟨rfl,rfl⟩))
    go_loop [3] (fun i=>∃ k:Nat,k≤bn∧i=.int .i64 k∧Hid (∀ j,j<k→bko (bl.getD j zB)=true)) (fun i=>bn - (intOf i).toNat)
    case atStart=>exact ⟨0,Nat.zero_le _,rfl,hide (fun j hj=>by omega)⟩
    case round=>
     obtain ⟨k,hk,rfl,HJ⟩:=hrel
     by_cases hlt:k<bn
     ·have hlt':(k:Int)<(bn:Int):=by omega
      obtain ⟨bb,off,rfl⟩:=hb0.addr (by omega)
      have hck:=hb0.at k hlt
      have hik:=hb0.2.2.2.1 k hlt
      have HZ:=hide (all_bad bl k (by omega))
      have HG:=hide (show bko (bl.getD k zB)=true→∀ j,j<k+1→bko (bl.getD j zB)=true from fun h j hj=>by
       by_cases e:j=k
       ·subst e;exact h
       ·exact HJ.out j (by omega))
      generalize bl.getD k zB=B at *
      obtain ⟨xa,xn,xc,xz⟩:=B
      dsimp only at hck hik
      have hxm:=hik.2.1
      unfold maxLen at hxm
      have HX:=hide (fun w h=>l4Words_any xa xn xc xz w h)
      by_cases d1:xn<1
      ·have d1':(xn:Int)<1:=by omega
       go_wp2
       go_ret
       exact ⟨ret_bool (by rw [HR.out];exact (HZ.out (by unfold bko;dsimp only;rw [decide_eq_false (by omega)];rfl)).symm),hB0⟩
      ·have d1':¬ (xn:Int)<1:=by omega
       by_cases d2:64<xn
       ·have d2':(64:Int)<(xn:Int):=by omega
        go_wp2
        go_ret
        exact ⟨ret_bool (by rw [HR.out];exact (HZ.out (by unfold bko;dsimp only;rw [decide_eq_false (by omega)];rfl)).symm),hB0⟩
       ·have d2':¬ (64:Int)<(xn:Int):=by omega
        cases hx:wds xz
        ·rw [hx] at HX
         go_wp2_with (go_at_call 267;refine (HX.out _ hik).mono ?_;rintro e w1 ⟨rfl,rfl⟩)
         go_ret
         exact ⟨ret_bool (by rw [HR.out];exact (HZ.out (by unfold bko;dsimp only;rw [hx];simp)).symm),hB0⟩
        ·rw [hx] at HX
         go_wp2_with (go_at_call 267;refine (HX.out _ hik).mono ?_;rintro e w1 ⟨rfl,rfl⟩)
         go_round
         case rel=>exact ⟨k+1,by omega,by go_num,hide (HG.out (by unfold bko;dsimp only;rw [hx,decide_eq_true (by omega)];rfl))⟩
         case measure=>simp [intOf];omega
     ·have HE:=hide (all_good bl (fun j hj=>HJ.out j (by omega)))
      go_wp2
      go_ret
      exact ⟨ret_bool (by rw [HR.out];exact HE.out.symm),hB0⟩
set_option maxHeartbeats 2000000 in
theorem codeOk_any (nm:ByteArray) (ta:Option Addr) (tn tc:Nat) (tz:List Int) (ba:Option Addr) (bn bc:Nat) (bl:List Bk) (v3 v5 v6 v7:Value) (bss:Int) (w:World) (ht:IS w ta tn tc tz) (hb:BKS w ba bn bc bl):
 Calls Tryz.prog 206 #[.agg #[.string nm,.slice ta tn tc,.slice ba bn bc,v3,.int .i64 bss,v5,v6,v7]] w fun e w'=>e=.returned (.bool (cdo tn tz bn bl))∧Below w.heap.size w w':=by
 obtain ⟨W,hW⟩:∃ W,W=w.alloc (.cells #[.string nm,.slice ta tn tc,.slice ba bn bc,v3,.int .i64 bss,v5,v6,v7] 49):=⟨_,rfl⟩
 have hB0:Below w.heap.size w W:=by rw [hW];exact (Below.refl _ _).alloc (Nat.le_refl _) _
 have kb:Blk W w.heap.size #[.string nm,.slice ta tn tc,.slice ba bn bc,v3,.int .i64 bss,v5,v6,v7] 49:=by rw [hW];exact Blk.new _ _ _
 obtain ⟨q0,q1,q2,q3,q4,q5,q6,q7⟩:=kb.eight
 have HT:=hide (fun w h=>areWords_any ta tn tc tz w h)
 obtain ⟨r,hr⟩:∃ r,r=cdo tn tz bn bl:=⟨_,rfl⟩
 rw [← hr]
 unfold cdo at hr
 have ht0:=ht.below hB0
 have hb0:=hb.below hB0
 have hm1:=ht.2.1
 have hm2:=hb.2.1
 unfold maxLen at hm1 hm2
 have HW:=hide hW
 clear hW
 by_cases c1:200<tn
 ·have HR:=hide (show r=false by rw [hr,decide_eq_false (by omega)];rfl)
  clear hr
  have c1':(200:Int)<(tn:Int):=by omega
  go_enter Tryz.func206,Tryz.ntmps206
  go_wp2_with (rw [← HW.out])
  go_ret
  exact ⟨ret_bool HR.out.symm,hB0⟩
 ·have c1':¬ (200:Int)<(tn:Int):=by omega
  by_cases c2:4<bn
  ·have HR:=hide (show r=false by rw [hr,decide_eq_false (by omega)];rfl)
   clear hr
   have c2':(4:Int)<(bn:Int):=by omega
   go_enter Tryz.func206,Tryz.ntmps206
   go_wp2_with (rw [← HW.out])
   go_ret
   exact ⟨ret_bool HR.out.symm,hB0⟩
  ·have c2':¬ (4:Int)<(bn:Int):=by omega
   cases hz:wds tz
   ·rw [hz] at HT
    have HR:=hide (show r=false by rw [hr,hz];simp)
    clear hr
    go_enter Tryz.func206,Tryz.ntmps206
    go_wp2_with (first | (rw [← HW.out]) | (go_at_call 268;refine (HT.out _ ht0).mono ?_;rintro e w1 ⟨rfl,rfl⟩))
    go_ret
    exact ⟨ret_bool HR.out.symm,hB0⟩
   ·rw [hz] at HT
    have hr':r=bl.all bko:=by rw [hr,hz,decide_eq_true (by omega)];simp
    have HR:=hide hr'
    clear hr hr'
    have hl:=hb.1
    go_enter Tryz.func206,Tryz.ntmps206
    go_wp2_with (first | (rw [← HW.out]) | (go_at_call 268;refine (HT.out _ ht0).mono ?_;rintro e w1 ⟨rfl,rfl⟩))
    go_loop [24] (fun i=>∃ k:Nat,k≤bn∧i=.int .i64 k∧Hid (∀ j,j<k→bko (bl.getD j zB)=true)) (fun i=>bn - (intOf i).toNat)
    case atStart=>exact ⟨0,Nat.zero_le _,rfl,hide (fun j hj=>by omega)⟩
    case round=>
     obtain ⟨k,hk,rfl,HJ⟩:=hrel
     by_cases hlt:k<bn
     ·have hlt':(k:Int)<(bn:Int):=by omega
      obtain ⟨bb,off,rfl⟩:=hb0.addr (by omega)
      have hck:=hb0.at k hlt
      have hik:=hb0.2.2.2.1 k hlt
      have HZ:=hide (all_bad bl k (by omega))
      have HG:=hide (show bko (bl.getD k zB)=true→∀ j,j<k+1→bko (bl.getD j zB)=true from fun h j hj=>by
       by_cases e:j=k
       ·subst e;exact h
       ·exact HJ.out j (by omega))
      generalize bl.getD k zB=B at *
      obtain ⟨xa,xn,xc,xz⟩:=B
      dsimp only at hck hik
      have hxm:=hik.2.1
      unfold maxLen at hxm
      have HX:=hide (fun w h=>areWords_any xa xn xc xz w h)
      by_cases d1:xn<1
      ·have d1':(xn:Int)<1:=by omega
       go_wp2
       go_ret
       exact ⟨ret_bool (by rw [HR.out];exact (HZ.out (by unfold bko;dsimp only;rw [decide_eq_false (by omega)];rfl)).symm),hB0⟩
      ·have d1':¬ (xn:Int)<1:=by omega
       by_cases d2:64<xn
       ·have d2':(64:Int)<(xn:Int):=by omega
        go_wp2
        go_ret
        exact ⟨ret_bool (by rw [HR.out];exact (HZ.out (by unfold bko;dsimp only;rw [decide_eq_false (by omega)];rfl)).symm),hB0⟩
       ·have d2':¬ (64:Int)<(xn:Int):=by omega
        cases hx:wds xz
        ·rw [hx] at HX
         go_wp2_with (go_at_call 268;refine (HX.out _ hik).mono ?_;rintro e w1 ⟨rfl,rfl⟩)
         go_ret
         exact ⟨ret_bool (by rw [HR.out];exact (HZ.out (by unfold bko;dsimp only;rw [hx];simp)).symm),hB0⟩
        ·rw [hx] at HX
         go_wp2_with (go_at_call 268;refine (HX.out _ hik).mono ?_;rintro e w1 ⟨rfl,rfl⟩)
         go_round
         case rel=>exact ⟨k+1,by omega,by go_num,hide (HG.out (by unfold bko;dsimp only;rw [hx,decide_eq_true (by omega)];rfl))⟩
         case measure=>simp [intOf];omega
     ·have HE:=hide (all_good bl (fun j hj=>HJ.out j (by omega)))
      go_wp2
      go_ret
      exact ⟨ret_bool (by rw [HR.out];exact HE.out.symm),hB0⟩
def rlk (rz:List Int) (dn:Nat) (k:Nat):Bool:=decide (0≤rz.getD k 0∧rz.getD k 0 % 4=0∧rz.getD k 0≤(dn:Int) - 4∧(k=0∨rz.getD (k - 1) 0<rz.getD k 0))
def rlo (rn:Nat) (rz:List Int) (dn:Nat):Bool:=decide (rn≤16) && (List.range rn).all (rlk rz dn)
theorem rng_bad (f:Nat→Bool) (n k:Nat) (hk:k<n) (h:f k=false):(List.range n).all f=false:=by
 rw [List.all_eq_false]
 exact ⟨k,by simpa using hk,by simp [h]⟩
theorem rng_good (f:Nat→Bool) (n:Nat) (h:∀ j,j<n→f j=true):(List.range n).all f=true:=by
 rw [List.all_eq_true]
 exact fun k hk=>h k (by simpa using hk)
theorem tmod4 (z:Int):(z.tmod 4 != 0)=decide (z % 4≠0):=by
 have h:z.tmod 4=0 ↔ z % 4=0:=by
  rw [← Int.dvd_iff_tmod_eq_zero,← Int.dvd_iff_emod_eq_zero]
 by_cases c:z % 4=0
 ·simp [h.2 c,c]
 ·have:¬ z.tmod 4=0:=fun e=>c (h.1 e)
  simp [this,c]
set_option maxHeartbeats 2000000 in
theorem l4RelocsOk_any (nm:ByteArray) (v1 v2:Value) (da:Option Addr) (dn dc:Nat) (bss:Int) (ra:Option Addr) (rn rc:Nat) (rz:List Int) (v6 v7:Value) (w:World) (hd:dn≤maxLen) (h:IS w ra rn rc rz):
 Calls Tryz.prog 201 #[.agg #[.string nm,v1,v2,.slice da dn dc,.int .i64 bss,.slice ra rn rc,v6,v7]] w fun e w'=>e=.returned (.bool (rlo rn rz dn))∧Below w.heap.size w w':=by
 obtain ⟨W,hW⟩:∃ W,W=w.alloc (.cells #[.string nm,v1,v2,.slice da dn dc,.int .i64 bss,.slice ra rn rc,v6,v7] 49):=⟨_,rfl⟩
 have hB0:Below w.heap.size w W:=by rw [hW];exact (Below.refl _ _).alloc (Nat.le_refl _) _
 have kb:Blk W w.heap.size #[.string nm,v1,v2,.slice da dn dc,.int .i64 bss,.slice ra rn rc,v6,v7] 49:=by rw [hW];exact Blk.new _ _ _
 obtain ⟨q0,q1,q2,q3,q4,q5,q6,q7⟩:=kb.eight
 obtain ⟨r,hr⟩:∃ r,r=rlo rn rz dn:=⟨_,rfl⟩
 rw [← hr]
 unfold rlo at hr
 have h0:=h.below hB0
 have hm1:=h.2.1
 unfold maxLen at hm1 hd
 have HW:=hide hW
 clear hW
 by_cases c1:16<rn
 ·have HR:=hide (show r=false by rw [hr,decide_eq_false (by omega)];rfl)
  clear hr
  have c1':(16:Int)<(rn:Int):=by omega
  go_enter Tryz.func201,Tryz.ntmps201
  go_wp2_with (rw [← HW.out])
  go_ret
  exact ⟨ret_bool HR.out.symm,hB0⟩
 ·have c1':¬ (16:Int)<(rn:Int):=by omega
  have HR:=hide (show r=(List.range rn).all (rlk rz dn) by rw [hr,decide_eq_true (by omega)];rfl)
  clear hr
  go_enter Tryz.func201,Tryz.ntmps201
  go_wp2_with (rw [← HW.out])
  go_loop [3] (fun i=>∃ k:Nat,k≤rn∧i=.int .i64 k∧Hid (∀ j,j<k→rlk rz dn j=true)) (fun i=>rn - (intOf i).toNat)
  case atStart=>exact ⟨0,Nat.zero_le _,rfl,hide (fun j hj=>by omega)⟩
  case round=>
   obtain ⟨k,hk,rfl,HJ⟩:=hrel
   by_cases hlt:k<rn
   ·have hlt':(k:Int)<(rn:Int):=by omega
    obtain ⟨bb,off,rfl⟩:=h0.addr (by omega)
    have hck:=h0.at k hlt
    have HZ:=hide (rng_bad (rlk rz dn) rn k hlt)
    have HG:=hide (show rlk rz dn k=true→∀ j,j<k+1→rlk rz dn j=true from fun h j hj=>by
     by_cases e:j=k
     ·subst e;exact h
     ·exact HJ.out j (by omega))
    have HK:=hide (show ∀ b:Bool,(b=true ↔ (0≤rz.getD k 0∧rz.getD k 0 % 4=0∧rz.getD k 0≤(dn:Int) - 4∧(k=0∨rz.getD (k - 1) 0<rz.getD k 0)))→rlk rz dn k=b from fun b hb=>by unfold rlk;rw [Bool.eq_iff_iff,hb];simp)
    have hrg:=h0.range k
    unfold wfi at hrg
    obtain ⟨g0,g1⟩:=hrg
    have ht4:=tmod4 (rz.getD k 0)
    by_cases k0:k=0
    ·subst k0
     simp only [Nat.add_zero] at hck
     generalize rz.getD 0 0=z at *
     by_cases d1:z<0
     ·go_wp2
      go_ret
      exact ⟨ret_bool (by rw [HR.out];exact (HZ.out (HK.out false (by simp;omega))).symm),hB0⟩
     ·by_cases d2:z % 4≠0
      ·rw [decide_eq_true d2] at ht4
       go_wp2
       go_ret
       exact ⟨ret_bool (by rw [HR.out];exact (HZ.out (HK.out false (by simp;omega))).symm),hB0⟩
      ·rw [decide_eq_false d2] at ht4
       by_cases d3:(dn:Int) - 4<z
       ·go_wp2
        go_ret
        exact ⟨ret_bool (by rw [HR.out];exact (HZ.out (HK.out false (by simp;omega))).symm),hB0⟩
       ·go_wp2
        go_round
        case rel=>exact ⟨1,by omega,by go_num,hide (HG.out (HK.out true (by simp;omega)))⟩
        case measure=>simp [intOf];omega
    ·have hpk:=h0.at (k - 1) (by omega)
     have hk0:(0:Int)<(k:Int):=by omega
     have hk1:(0:Int)≤(k:Int) - 1:=by omega
     have hk2:(k:Int) - 1<(rn:Int):=by omega
     generalize rz.getD (k - 1) 0=y at *
     generalize rz.getD k 0=z at *
     by_cases d1:z<0
     ·go_wp2
      go_ret
      exact ⟨ret_bool (by rw [HR.out];exact (HZ.out (HK.out false (by simp;omega))).symm),hB0⟩
     ·by_cases d2:z % 4≠0
      ·rw [decide_eq_true d2] at ht4
       go_wp2
       go_ret
       exact ⟨ret_bool (by rw [HR.out];exact (HZ.out (HK.out false (by simp;omega))).symm),hB0⟩
      ·rw [decide_eq_false d2] at ht4
       by_cases d3:(dn:Int) - 4<z
       ·go_wp2
        go_ret
        exact ⟨ret_bool (by rw [HR.out];exact (HZ.out (HK.out false (by simp;omega))).symm),hB0⟩
       ·by_cases d4:z≤y
        ·go_wp2
         go_ret
         exact ⟨ret_bool (by rw [HR.out];exact (HZ.out (HK.out false (by simp;omega))).symm),hB0⟩
        ·go_wp2
         go_round
         case rel=>exact ⟨k+1,by omega,by go_num,hide (HG.out (HK.out true (by simp;omega)))⟩
         case measure=>simp [intOf];omega
   ·have HE:=hide (rng_good (rlk rz dn) rn (fun j hj=>HJ.out j (by omega)))
    go_wp2
    go_ret
    exact ⟨ret_bool (by rw [HR.out];exact HE.out.symm),hB0⟩
set_option maxHeartbeats 2000000 in
theorem relocsOk_any (nm:ByteArray) (v1 v2:Value) (da:Option Addr) (dn dc:Nat) (bss:Int) (ra:Option Addr) (rn rc:Nat) (rz:List Int) (v6 v7:Value) (w:World) (hd:dn≤maxLen) (h:IS w ra rn rc rz):
 Calls Tryz.prog 207 #[.agg #[.string nm,v1,v2,.slice da dn dc,.int .i64 bss,.slice ra rn rc,v6,v7]] w fun e w'=>e=.returned (.bool (rlo rn rz dn))∧Below w.heap.size w w':=by
 obtain ⟨W,hW⟩:∃ W,W=w.alloc (.cells #[.string nm,v1,v2,.slice da dn dc,.int .i64 bss,.slice ra rn rc,v6,v7] 49):=⟨_,rfl⟩
 have hB0:Below w.heap.size w W:=by rw [hW];exact (Below.refl _ _).alloc (Nat.le_refl _) _
 have kb:Blk W w.heap.size #[.string nm,v1,v2,.slice da dn dc,.int .i64 bss,.slice ra rn rc,v6,v7] 49:=by rw [hW];exact Blk.new _ _ _
 obtain ⟨q0,q1,q2,q3,q4,q5,q6,q7⟩:=kb.eight
 obtain ⟨r,hr⟩:∃ r,r=rlo rn rz dn:=⟨_,rfl⟩
 rw [← hr]
 unfold rlo at hr
 have h0:=h.below hB0
 have hm1:=h.2.1
 unfold maxLen at hm1 hd
 have HW:=hide hW
 clear hW
 by_cases c1:16<rn
 ·have HR:=hide (show r=false by rw [hr,decide_eq_false (by omega)];rfl)
  clear hr
  have c1':(16:Int)<(rn:Int):=by omega
  go_enter Tryz.func207,Tryz.ntmps207
  go_wp2_with (rw [← HW.out])
  go_ret
  exact ⟨ret_bool HR.out.symm,hB0⟩
 ·have c1':¬ (16:Int)<(rn:Int):=by omega
  have HR:=hide (show r=(List.range rn).all (rlk rz dn) by rw [hr,decide_eq_true (by omega)];rfl)
  clear hr
  go_enter Tryz.func207,Tryz.ntmps207
  go_wp2_with (rw [← HW.out])
  go_loop [12] (fun i=>∃ k:Nat,k≤rn∧i=.int .i64 k∧Hid (∀ j,j<k→rlk rz dn j=true)) (fun i=>rn - (intOf i).toNat)
  case atStart=>exact ⟨0,Nat.zero_le _,rfl,hide (fun j hj=>by omega)⟩
  case round=>
   obtain ⟨k,hk,rfl,HJ⟩:=hrel
   by_cases hlt:k<rn
   ·have hlt':(k:Int)<(rn:Int):=by omega
    obtain ⟨bb,off,rfl⟩:=h0.addr (by omega)
    have hck:=h0.at k hlt
    have HZ:=hide (rng_bad (rlk rz dn) rn k hlt)
    have HG:=hide (show rlk rz dn k=true→∀ j,j<k+1→rlk rz dn j=true from fun h j hj=>by
     by_cases e:j=k
     ·subst e;exact h
     ·exact HJ.out j (by omega))
    have HK:=hide (show ∀ b:Bool,(b=true ↔ (0≤rz.getD k 0∧rz.getD k 0 % 4=0∧rz.getD k 0≤(dn:Int) - 4∧(k=0∨rz.getD (k - 1) 0<rz.getD k 0)))→rlk rz dn k=b from fun b hb=>by unfold rlk;rw [Bool.eq_iff_iff,hb];simp)
    have hrg:=h0.range k
    unfold wfi at hrg
    obtain ⟨g0,g1⟩:=hrg
    have ht4:=tmod4 (rz.getD k 0)
    have HU:=hide (fun w=>isUpTo_any (rz.getD k 0) ((dn:Int) - 4) w)
    by_cases k0:k=0
    ·subst k0
     simp only [Nat.add_zero] at hck
     generalize rz.getD 0 0=z at *
     by_cases d2:z % 4≠0
     ·rw [decide_eq_true d2] at ht4
      go_wp2
      go_ret
      exact ⟨ret_bool (by rw [HR.out];exact (HZ.out (HK.out false (by simp;omega))).symm),hB0⟩
     ·rw [decide_eq_false d2] at ht4
      by_cases d3:0≤z∧z≤(dn:Int) - 4
      ·rw [decide_eq_true d3] at HU
       go_wp2_with (go_at_call 63;refine (HU.out _).mono ?_;rintro e w1 ⟨rfl,rfl⟩)
       go_round
       case rel=>exact ⟨1,by omega,by go_num,hide (HG.out (HK.out true (by simp;omega)))⟩
       case measure=>simp [intOf];omega
      ·rw [decide_eq_false d3] at HU
       go_wp2_with (go_at_call 63;refine (HU.out _).mono ?_;rintro e w1 ⟨rfl,rfl⟩)
       go_ret
       exact ⟨ret_bool (by rw [HR.out];exact (HZ.out (HK.out false (by simp;omega))).symm),hB0⟩
    ·have hpk:=h0.at (k - 1) (by omega)
     have hk0:(0:Int)<(k:Int):=by omega
     have hk1:(0:Int)≤(k:Int) - 1:=by omega
     have hk2:(k:Int) - 1<(rn:Int):=by omega
     generalize rz.getD (k - 1) 0=y at *
     generalize rz.getD k 0=z at *
     by_cases d2:z % 4≠0
     ·rw [decide_eq_true d2] at ht4
      go_wp2
      go_ret
      exact ⟨ret_bool (by rw [HR.out];exact (HZ.out (HK.out false (by simp;omega))).symm),hB0⟩
     ·rw [decide_eq_false d2] at ht4
      by_cases d3:0≤z∧z≤(dn:Int) - 4
      ·rw [decide_eq_true d3] at HU
       by_cases d4:z≤y
       ·go_wp2_with (go_at_call 63;refine (HU.out _).mono ?_;rintro e w1 ⟨rfl,rfl⟩)
        go_ret
        exact ⟨ret_bool (by rw [HR.out];exact (HZ.out (HK.out false (by simp;omega))).symm),hB0⟩
       ·go_wp2_with (go_at_call 63;refine (HU.out _).mono ?_;rintro e w1 ⟨rfl,rfl⟩)
        go_round
        case rel=>exact ⟨k+1,by omega,by go_num,hide (HG.out (HK.out true (by simp;omega)))⟩
        case measure=>simp [intOf];omega
      ·rw [decide_eq_false d3] at HU
       go_wp2_with (go_at_call 63;refine (HU.out _).mono ?_;rintro e w1 ⟨rfl,rfl⟩)
       go_ret
       exact ⟨ret_bool (by rw [HR.out];exact (HZ.out (HK.out false (by simp;omega))).symm),hB0⟩
   ·have HE:=hide (rng_good (rlk rz dn) rn (fun j hj=>HJ.out j (by omega)))
    go_wp2
    go_ret
    exact ⟨ret_bool (by rw [HR.out];exact HE.out.symm),hB0⟩
def zS:ByteArray:=⟨#[]⟩
def SS (w:World) (a:Option Addr) (n cap:Nat) (ss:List ByteArray):Prop:=
 ss.length=n∧n≤maxLen∧(∀ s ∈ ss,s.size≤1048576)∧(n≠0→∃ b off,a=some ⟨b,off,none⟩∧∀ i,i<n→w.cell? ⟨b,off+i,none⟩=some (.string (ss.getD i zS)))∧n≤cap
theorem SS.below {w w':World} {a:Option Addr} {n cap:Nat} {ss:List ByteArray} (h:SS w a n cap ss) (hb:Below w.heap.size w w'):SS w' a n cap ss:=by
 obtain ⟨h1,h2,h3,h4,h5⟩:=h
 refine ⟨h1,h2,h3,fun hn=>?_,h5⟩
 obtain ⟨b,off,e,hc⟩:=h4 hn
 exact ⟨b,off,e,fun i hi=>(hb.cell (World.block_lt_of_cell? w _ (hc i hi))).trans (hc i hi)⟩
theorem SS.addr {w:World} {a:Option Addr} {n cap:Nat} {ss:List ByteArray} (h:SS w a n cap ss) (hn:n≠0):∃ b off,a=some ⟨b,off,none⟩:=by
 obtain ⟨b,off,e,_⟩:=h.2.2.2.1 hn
 exact ⟨b,off,e⟩
theorem SS.at {w:World} {b off n cap:Nat} {ss:List ByteArray} (h:SS w (some ⟨b,off,none⟩) n cap ss) (i:Nat) (hi:i<n):w.cell? ⟨b,off+i,none⟩=some (.string (ss.getD i zS)):=by
 obtain ⟨b',off',e,hc⟩:=h.2.2.2.1 (by omega)
 simp at e
 obtain ⟨rfl,rfl⟩:=e
 exact hc i hi
theorem SS.size {w:World} {a:Option Addr} {n cap:Nat} {ss:List ByteArray} (h:SS w a n cap ss) (i:Nat):(ss.getD i zS).size≤1048576:=by
 by_cases hi:i<ss.length
 ·have:=h.2.2.1 ss[i] (List.getElem_mem hi)
  simpa [List.getD_eq_getElem?_getD,hi] using this
 ·rw [List.getD_eq_getElem?_getD,List.getElem?_eq_none (Nat.le_of_not_lt hi)]
  exact (by decide:(zS).size≤1048576)
def imo (n:Nat) (ss:List ByteArray):Bool:=decide (n≤16) && (List.range n).all fun k=>full (ss.getD k zS)
set_option maxHeartbeats 2000000 in
theorem importsOk_any (nm:ByteArray) (v1 v2 v3 v5 v7:Value) (bss:Int) (ia:Option Addr) (n ic:Nat) (ss:List ByteArray) (w:World) (h:SS w ia n ic ss):
 Calls Tryz.prog 208 #[.agg #[.string nm,v1,v2,v3,.int .i64 bss,v5,.slice ia n ic,v7]] w fun e w'=>e=.returned (.bool (imo n ss))∧Below w.heap.size w w':=by
 obtain ⟨W,hW⟩:∃ W,W=w.alloc (.cells #[.string nm,v1,v2,v3,.int .i64 bss,v5,.slice ia n ic,v7] 49):=⟨_,rfl⟩
 have hB0:Below w.heap.size w W:=by rw [hW];exact (Below.refl _ _).alloc (Nat.le_refl _) _
 have kb:Blk W w.heap.size #[.string nm,v1,v2,v3,.int .i64 bss,v5,.slice ia n ic,v7] 49:=by rw [hW];exact Blk.new _ _ _
 obtain ⟨q0,q1,q2,q3,q4,q5,q6,q7⟩:=kb.eight
 obtain ⟨r,hr⟩:∃ r,r=imo n ss:=⟨_,rfl⟩
 rw [← hr]
 unfold imo at hr
 have hm1:=h.2.1
 unfold maxLen at hm1
 have HW:=hide hW
 clear hW
 by_cases c1:16<n
 ·have HR:=hide (show r=false by rw [hr,decide_eq_false (by omega)];rfl)
  clear hr
  have c1':(16:Int)<(n:Int):=by omega
  go_enter Tryz.func208,Tryz.ntmps208
  go_wp2_with (rw [← HW.out])
  go_ret
  exact ⟨ret_bool HR.out.symm,hB0⟩
 ·have c1':¬ (16:Int)<(n:Int):=by omega
  have HR:=hide (show r=(List.range n).all (fun k=>full (ss.getD k zS)) by rw [hr,decide_eq_true (by omega)];rfl)
  clear hr
  go_enter Tryz.func208,Tryz.ntmps208
  go_wp2_with (rw [← HW.out])
  go_loopw [15] (fun i wr=>∃ k:Nat,k≤n∧i=.int .i64 k∧Hid (∀ j,j<k→full (ss.getD j zS)=true)∧Below w.heap.size w wr) (fun i _=>n - (intOf i).toNat)
  case atStart=>exact ⟨0,Nat.zero_le _,rfl,hide (fun j hj=>by omega),hB0⟩
  case round=>
   obtain ⟨k,hk,rfl,HJ,hB⟩:=hrel
   by_cases hlt:k<n
   ·have hlt':(k:Int)<(n:Int):=by omega
    obtain ⟨bb,off,rfl⟩:=h.addr (by omega)
    have hck:=(h.below hB).at k hlt
    have HZ:=hide (rng_bad (fun k=>full (ss.getD k zS)) n k hlt)
    have HG:=hide (show full (ss.getD k zS)=true→∀ j,j<k+1→full (ss.getD j zS)=true from fun h j hj=>by
     by_cases e:j=k
     ·subst e;exact h
     ·exact HJ.out j (by omega))
    have HC:=hide (fun w=>cutImport_any (ss.getD k zS) w (h.size k))
    generalize ss.getD k zS=s at *
    cases hf:full s
    ·rw [cutV,hf,if_neg (by simp)] at HC
     go_wp2_with fail
     refine (HC.out _).mono ?_
     rintro e w1 ⟨rfl,hb1⟩
     go_wp2
     go_ret
     exact ⟨ret_bool (by rw [HR.out];exact (HZ.out hf).symm),hB.trans (hb1.mono hB.size)⟩
    ·rw [cutV,hf,if_pos rfl] at HC
     go_wp2_with fail
     refine (HC.out _).mono ?_
     rintro e w1 ⟨rfl,hb1⟩
     go_wp2
     go_roundw
     case rel=>exact ⟨k+1,by omega,by go_num,hide (HG.out hf),hB.trans (hb1.mono hB.size)⟩
     case measure=>simp [intOf];omega
   ·have HE:=hide (rng_good (fun k=>full (ss.getD k zS)) n (fun j hj=>HJ.out j (by omega)))
    go_wp2
    go_ret
    exact ⟨ret_bool (by rw [HR.out];exact HE.out.symm),hB⟩
def pcn (tn bn:Nat) (bl:List Bk) (b:Int):Int:=if b=-1 then (tn:Int) else if 0≤b∧b<(bn:Int) then ((bl.getD b.toNat zB).2.1:Int) else -1
def PiPost (w:World) (ta:Option Addr) (tn tc bn:Nat) (bl:List Bk) (b:Int) (e:Ending) (w':World):Prop:=
 ∃ a n c ok,e=.returned (.tuple #[.slice a n c,.bool ok])∧ok=decide (0≤pcn tn bn bl b)∧(ok=true→(n:Int)=pcn tn bn bl b)∧n≤maxLen∧Below w.heap.size w w'
set_option maxHeartbeats 2000000 in
theorem l4Piece_any (nm:ByteArray) (ta:Option Addr) (tn tc:Nat) (ba:Option Addr) (bn bc:Nat) (bl:List Bk) (v3 v5 v6 v7:Value) (bss b:Int) (w:World) (htn:tn≤maxLen) (hb:BKS w ba bn bc bl):
 Calls Tryz.prog 173 #[.agg #[.string nm,.slice ta tn tc,.slice ba bn bc,v3,.int .i64 bss,v5,v6,v7],.int .i64 b] w (PiPost w ta tn tc bn bl b):=by
 obtain ⟨W,hW⟩:∃ W,W=w.alloc (.cells #[.string nm,.slice ta tn tc,.slice ba bn bc,v3,.int .i64 bss,v5,v6,v7] 49):=⟨_,rfl⟩
 have hB0:Below w.heap.size w W:=by rw [hW];exact (Below.refl _ _).alloc (Nat.le_refl _) _
 have kb:Blk W w.heap.size #[.string nm,.slice ta tn tc,.slice ba bn bc,v3,.int .i64 bss,v5,v6,v7] 49:=by rw [hW];exact Blk.new _ _ _
 obtain ⟨q0,q1,q2,q3,q4,q5,q6,q7⟩:=kb.eight
 have hb0:=hb.below hB0
 have hm2:=hb.2.1
 unfold maxLen at hm2
 have HW:=hide hW
 clear hW
 by_cases c1:b=-1
 ·subst c1
  have HP:=hide (show pcn tn bn bl (-1)=(tn:Int) from rfl)
  go_enter Tryz.func173,Tryz.ntmps173
  go_wp2_with (rw [← HW.out])
  go_ret2
  exact ⟨ta,tn,tc,true,rfl,by rw [HP.out];simp,fun _=>HP.out.symm,htn,hB0⟩
 ·have c1':(b == -1)=false:=by simpa using c1
  by_cases c2:b<0
  ·have HP:=hide (show pcn tn bn bl b=-1 by unfold pcn;rw [if_neg c1,if_neg (by omega)])
   go_enter Tryz.func173,Tryz.ntmps173
   go_wp2_with (rw [← HW.out])
   go_ret2
   exact ⟨_,0,0,false,rfl,by rw [HP.out];rfl,(by intro h;cases h),Nat.zero_le _,by first | exact hB0.alloc hB0.size _ | exact hB0⟩
  ·by_cases c3:(bn:Int)≤b
   ·have HP:=hide (show pcn tn bn bl b=-1 by unfold pcn;rw [if_neg c1,if_neg (by omega)])
    go_enter Tryz.func173,Tryz.ntmps173
    go_wp2_with (rw [← HW.out])
    go_ret2
    exact ⟨_,0,0,false,rfl,by rw [HP.out];rfl,(by intro h;cases h),Nat.zero_le _,by first | exact hB0.alloc hB0.size _ | exact hB0⟩
   ·have c3':b<(bn:Int):=by omega
    have HP:=hide (show pcn tn bn bl b=((bl.getD b.toNat zB).2.1:Int) by unfold pcn;rw [if_neg c1,if_pos (by omega)])
    obtain ⟨bb,off,rfl⟩:=hb0.addr (by omega)
    have hck:=hb0.at b.toNat (by omega)
    have hik:=hb0.2.2.2.1 b.toNat (by omega)
    generalize bl.getD b.toNat zB=B at *
    obtain ⟨xa,xn,xc,xz⟩:=B
    dsimp only at hck hik HP
    have HM:=hide hik.2.1
    clear hik
    have c2':0≤b:=by omega
    go_enter Tryz.func173,Tryz.ntmps173
    go_wp2_with (rw [← HW.out])
    go_ret2
    exact ⟨xa,xn,xc,true,rfl,by rw [HP.out];simp,fun _=>HP.out.symm,HM.out,hB0⟩
set_option maxHeartbeats 2000000 in
theorem pieceOf_any (nm:ByteArray) (ta:Option Addr) (tn tc:Nat) (ba:Option Addr) (bn bc:Nat) (bl:List Bk) (v3 v5 v6 v7:Value) (bss b:Int) (w:World) (htn:tn≤maxLen) (hb:BKS w ba bn bc bl):
 Calls Tryz.prog 175 #[.agg #[.string nm,.slice ta tn tc,.slice ba bn bc,v3,.int .i64 bss,v5,v6,v7],.int .i64 b] w (PiPost w ta tn tc bn bl b):=by
 obtain ⟨W,hW⟩:∃ W,W=w.alloc (.cells #[.string nm,.slice ta tn tc,.slice ba bn bc,v3,.int .i64 bss,v5,v6,v7] 49):=⟨_,rfl⟩
 have hB0:Below w.heap.size w W:=by rw [hW];exact (Below.refl _ _).alloc (Nat.le_refl _) _
 have kb:Blk W w.heap.size #[.string nm,.slice ta tn tc,.slice ba bn bc,v3,.int .i64 bss,v5,v6,v7] 49:=by rw [hW];exact Blk.new _ _ _
 obtain ⟨q0,q1,q2,q3,q4,q5,q6,q7⟩:=kb.eight
 have hb0:=hb.below hB0
 have hm2:=hb.2.1
 unfold maxLen at hm2
 have HW:=hide hW
 clear hW
 by_cases c1:b=-1
 ·subst c1
  have HP:=hide (show pcn tn bn bl (-1)=(tn:Int) from rfl)
  go_enter Tryz.func175,Tryz.ntmps175
  go_wp2_with (rw [← HW.out])
  go_ret2
  exact ⟨ta,tn,tc,true,rfl,by rw [HP.out];simp,fun _=>HP.out.symm,htn,hB0⟩
 ·have c1':(b == -1)=false:=by simpa using c1
  by_cases c2:b<0
  ·have HP:=hide (show pcn tn bn bl b=-1 by unfold pcn;rw [if_neg c1,if_neg (by omega)])
   go_enter Tryz.func175,Tryz.ntmps175
   go_wp2_with (rw [← HW.out])
   go_ret2
   exact ⟨_,0,0,false,rfl,by rw [HP.out];rfl,(by intro h;cases h),Nat.zero_le _,by first | exact hB0.alloc hB0.size _ | exact hB0⟩
  ·by_cases c3:(bn:Int)≤b
   ·have HP:=hide (show pcn tn bn bl b=-1 by unfold pcn;rw [if_neg c1,if_neg (by omega)])
    go_enter Tryz.func175,Tryz.ntmps175
    go_wp2_with (rw [← HW.out])
    go_ret2
    exact ⟨_,0,0,false,rfl,by rw [HP.out];rfl,(by intro h;cases h),Nat.zero_le _,by first | exact hB0.alloc hB0.size _ | exact hB0⟩
   ·have c3':b<(bn:Int):=by omega
    have HP:=hide (show pcn tn bn bl b=((bl.getD b.toNat zB).2.1:Int) by unfold pcn;rw [if_neg c1,if_pos (by omega)])
    obtain ⟨bb,off,rfl⟩:=hb0.addr (by omega)
    have hck:=hb0.at b.toNat (by omega)
    have hik:=hb0.2.2.2.1 b.toNat (by omega)
    generalize bl.getD b.toNat zB=B at *
    obtain ⟨xa,xn,xc,xz⟩:=B
    dsimp only at hck hik HP
    have HM:=hide hik.2.1
    clear hik
    have c2':0≤b:=by omega
    go_enter Tryz.func175,Tryz.ntmps175
    go_wp2_with (rw [← HW.out])
    go_ret2
    exact ⟨xa,xn,xc,true,rfl,by rw [HP.out];simp,fun _=>HP.out.symm,HM.out,hB0⟩
end Go.Proofs.YtngdgogjlpjjpadGreat
