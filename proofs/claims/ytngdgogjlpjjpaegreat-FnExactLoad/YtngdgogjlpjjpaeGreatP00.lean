import Derived.Test.YtngdgogjlpjjpaeGreatRows
import Derived.WalkKit
import Derived.WalkLawsBesides
import Derived.WalkSpells
import Derived.BigQuiet
import Derived.Deep.QuietTactic
import Derived.Deep.RegionWith
namespace Go.Proofs.YtngdgogjlpjjpaeGreat
open Go.RowKit
set_option linter.unusedVariables false
theorem ret_int {k:IntKind}{a b:Int}(h:a=b):Ending.returned (.int k a)=.returned (.int k b):=by rw [h]
theorem ret_bool {a b:Bool}(h:a=b):Ending.returned (.bool a)=.returned (.bool b):=by rw [h]
theorem hide {p:Prop}(h:p):Hid p:=h
theorem unhide {p:Prop}(h:Hid p):p:=h
theorem pow_lt (n:Nat)(h:n≤20):(2:Int)^n≤1048576:=by
 have h1:(2:Nat)^n≤2^20:=Nat.pow_le_pow_right (by omega) h
 have h2:((2^n:Nat):Int)=(2:Int)^n:=by simp
 have h3:(2:Nat)^20=1048576:=rfl
 omega
theorem pow_pos (n:Nat):0<(2:Int)^n:=by
 have h1:0<(2:Nat)^n:=Nat.pow_pos (by omega)
 have h2:((2^n:Nat):Int)=(2:Int)^n:=by simp
 omega
theorem bcell {W w1:World}(hb:Below W.heap.size W w1):(∀ b o,b<W.heap.size→w1.cell? ⟨b,o,none⟩=W.cell? ⟨b,o,none⟩)∧(∀ b o,b<W.heap.size→w1.frozen? ⟨b,o,none⟩=W.frozen? ⟨b,o,none⟩):=
 ⟨fun b o h=>hb.cell (p:=⟨b,o,none⟩) h,fun b o h=>hb.frozen (p:=⟨b,o,none⟩) h⟩
def BS (w:World)(a:Option Addr)(n cap:Nat)(zs:List Int):Prop:=
 zs.length=n∧n≤maxLen∧(∀ z ∈ zs,0≤z∧z≤255)∧(n≠0→∃ b off,a=some ⟨b,off,none⟩∧∀ i,i<n→w.cell? ⟨b,off+i,none⟩=some (.int .u8 (zs.getD i 0)))∧n≤cap
theorem BS.below {w w':World}{a:Option Addr}{n cap:Nat}{zs:List Int}(h:BS w a n cap zs)(hb:Below w.heap.size w w'):BS w' a n cap zs:=by
 obtain ⟨h1,h2,h3,h4,h5⟩:=h
 refine ⟨h1,h2,h3,fun hn=>?_,h5⟩
 obtain ⟨b,off,ha,hc⟩:=h4 hn
 refine ⟨b,off,ha,fun i hi=>?_⟩
 have:=hc i hi
 rw [hb.cell (p:=⟨b,off+i,none⟩) (World.block_lt_of_cell? w _ this)]
 exact this
theorem BS.range {w:World}{a:Option Addr}{n cap:Nat}{zs:List Int}(h:BS w a n cap zs)(i:Nat):0≤zs.getD i 0∧zs.getD i 0≤255:=by
 by_cases hi:i<zs.length
 ·have:=h.2.2.1 zs[i] (List.getElem_mem hi)
  simpa [List.getD_eq_getElem?_getD,hi] using this
 ·simp [List.getD_eq_getElem?_getD,Nat.le_of_not_lt hi]
def Row8 (w:World)(g:Nat)(zs:List Int):Prop:=w.heap[g]?=some (.cells (zs.map (Value.int .u8)).toArray 5 (0,0))
theorem Row8.cell {w:World}{g:Nat}{zs:List Int}(h:Row8 w g zs)(i:Nat)(hi:i<zs.length):w.cell? ⟨g,i,none⟩=some (.int .u8 (zs.getD i 0)):=by
 rw [cell_of_row w g i _ _ _ h];simp [List.getD_eq_getElem?_getD,hi]
theorem Row8.frozen {w:World}{g:Nat}{zs:List Int}(h:Row8 w g zs)(i:Nat):w.frozen? ⟨g,i,none⟩=false:=frozen_of_row w g i _ _ h
theorem Row8.set {w:World}{g:Nat}{zs:List Int}(h:Row8 w g zs)(i:Nat)(z:Int):Row8 (w.setCell ⟨g,i,none⟩ (.int .u8 z)) g (zs.set i z):=by
 unfold Row8 at *
 rw [heap_setCell_same w g i _ _ _ h]
 simp [List.map_set]
theorem Row8.lt {w:World}{g:Nat}{zs:List Int}(h:Row8 w g zs):g<w.heap.size:=by
 unfold Row8 at h
 by_cases hg:g<w.heap.size
 ·exact hg
 ·simp [Array.getElem?_eq_none (Nat.le_of_not_lt hg)] at h
theorem Row8.below {w w':World}{g:Nat}{zs:List Int}(h:Row8 w g zs)(hb:Below w.heap.size w w'):Row8 w' g zs:=by
 have:=hb.block g h.lt
 unfold Row8 at *
 rw [this];exact h
def Blk (w:World)(g:Nat)(cs:Array Value)(t:TypeId):Prop:=w.heap[g]?=some (.cells cs t (0,0))
theorem Blk.cell {w:World}{g:Nat}{cs:Array Value}{t:TypeId}(h:Blk w g cs t)(i:Nat):w.cell? ⟨g,i,none⟩=cs[i]?:=cell_of_row w g i _ _ _ h
theorem Blk.frozen {w:World}{g:Nat}{cs:Array Value}{t:TypeId}(h:Blk w g cs t)(i:Nat):w.frozen? ⟨g,i,none⟩=false:=frozen_of_row w g i _ _ h
theorem Blk.lt {w:World}{g:Nat}{cs:Array Value}{t:TypeId}(h:Blk w g cs t):g<w.heap.size:=by
 unfold Blk at h
 by_cases hg:g<w.heap.size
 ·exact hg
 ·simp [Array.getElem?_eq_none (Nat.le_of_not_lt hg)] at h
theorem Blk.below {w w':World}{g:Nat}{cs:Array Value}{t:TypeId}(h:Blk w g cs t)(hb:Below w.heap.size w w'):Blk w' g cs t:=by
 have:=hb.block g h.lt
 unfold Blk at *
 rw [this];exact h
theorem Blk.new (w:World)(cs:Array Value)(t:TypeId):Blk (w.alloc (.cells cs t)) w.heap.size cs t:=heap_alloc_new w _
theorem Blk.alloc {w:World}{g:Nat}{cs:Array Value}{t:TypeId}(h:Blk w g cs t)(o:Obj):Blk (w.alloc o) g cs t:=by
 have hl:=h.lt;unfold Blk at *;rw [Below.heap_alloc _ _ _ hl];exact h
theorem Blk.set {w:World}{g:Nat}{cs:Array Value}{t:TypeId}(h:Blk w g cs t)(i:Nat)(v:Value):Blk (w.setCell ⟨g,i,none⟩ v) g (cs.setIfInBounds i v) t:=heap_setCell_same w g i _ _ _ h
theorem Blk.other {w:World}{g:Nat}{cs:Array Value}{t:TypeId}(h:Blk w g cs t)(a:Addr)(v:Value)(hg:g≠a.block):Blk (w.setCell a v) g cs t:=by
 unfold Blk at *;rw [heap_setCell_other _ _ _ _ hg];exact h
theorem size_setCell (w:World)(a:Addr)(v:Value):(w.setCell a v).heap.size=w.heap.size:=by simp [World.setCell]
theorem undrew {w w':World}(h:Below w.drew.heap.size w.drew w'):Below w.heap.size w w':=⟨h.os,h.tape,h.output,h.size,h.block⟩
def mid (zs:List Int)(k:Nat):List Int:=(List.range zs.length).map (fun i=>if i<k then zs.getD i 0 else 0)
theorem mid_len (zs:List Int)(k:Nat):(mid zs k).length=zs.length:=by simp [mid]
theorem mid_zero (zs:List Int):mid zs 0=List.replicate zs.length 0:=by
 apply List.ext_getElem
 ·simp [mid]
 ·intro i h1 h2;simp [mid]
theorem mid_all (zs:List Int):mid zs zs.length=zs:=by
 apply List.ext_getElem
 ·simp [mid]
 ·intro i h1 h2;simp [mid,h2]
theorem mid_set (zs:List Int)(k:Nat)(h:k<zs.length):(mid zs k).set k (zs.getD k 0)=mid zs (k+1):=by
 apply List.ext_getElem
 ·simp [mid]
 ·intro i h1 h2
  simp only [mid,List.getElem_set,List.getElem_map,List.getElem_range]
  by_cases hik:k=i
  ·subst hik;simp
  ·by_cases h3:i<k
   ·simp [hik,h3,show i<k+1 by omega]
   ·simp [hik,h3,show ¬ i<k+1 by omega]
structure Turn (S:Nat→Prop)(w w':World):Prop where
 os:w'.os=w.os
 tape:w'.tape=w.tape
 output:w'.output=w.output
 size:w.heap.size≤w'.heap.size
 block:∀ k,k<w.heap.size→¬ S k→w'.heap[k]?=w.heap[k]?
theorem Turn.refl (S:Nat→Prop)(w:World):Turn S w w:=⟨rfl,rfl,rfl,Nat.le_refl _,fun _ _ _=>rfl⟩
theorem Turn.trans {S:Nat→Prop}{a b c:World}(h:Turn S a b)(k:Turn S b c):Turn S a c:=
 ⟨k.os.trans h.os,k.tape.trans h.tape,k.output.trans h.output,Nat.le_trans h.size k.size,fun j hj hs=>(k.block j (Nat.lt_of_lt_of_le hj h.size) hs).trans (h.block j hj hs)⟩
theorem Turn.mono {S S':Nat→Prop}{w w':World}(h:Turn S w w')(hs:∀ k,S k→S' k):Turn S' w w':=⟨h.os,h.tape,h.output,h.size,fun k hk hn=>h.block k hk (fun e=>hn (hs k e))⟩
theorem turn_below {S:Nat→Prop}{w w':World}(h:Below w.heap.size w w'):Turn S w w':=⟨h.os,h.tape,h.output,h.size,fun k hk _=>h.block k hk⟩
theorem turn_alloc {S:Nat→Prop}(w:World)(o:Obj):Turn S w (w.alloc o):=turn_below ((Below.refl _ _).alloc (Nat.le_refl _) _)
theorem below_turn {B:Nat}{S:Nat→Prop}{a w w':World}(h:Below B a w)(ht:Turn S w w')(hS:∀ k,S k→B≤k)(hB:B≤w.heap.size):Below B a w':=
 ⟨ht.os.trans h.os,ht.tape.trans h.tape,ht.output.trans h.output,Nat.le_trans h.size ht.size,fun k hk=>(ht.block k (by omega) (fun e=>by have:=hS k e;omega)).trans (h.block k hk)⟩
theorem turn_blk {S:Nat→Prop}{w w':World}{k:Nat}{cs:Array Value}{t:TypeId}(ht:Turn S w w')(h:Blk w k cs t)(hk:¬ S k):Blk w' k cs t:=by
 have:=ht.block k h.lt hk
 unfold Blk at *;rw [this];exact h
theorem turn_bs {S:Nat→Prop}{w w':World}{a:Option Addr}{n cap:Nat}{zs:List Int}(ht:Turn S w w')(h:BS w a n cap zs)(hk:∀ k,S k→∀ b off,a=some ⟨b,off,none⟩→b≠k):BS w' a n cap zs:=by
 obtain ⟨h1,h2,h3,h4,h5⟩:=h
 refine ⟨h1,h2,h3,fun hn=>?_,h5⟩
 obtain ⟨b,off,ha,hc⟩:=h4 hn
 refine ⟨b,off,ha,fun i hi=>?_⟩
 have:=hc i hi
 have hl:=World.block_lt_of_cell? w _ this
 rw [World.cell?_of_block (w:=w) (ht.block b hl (fun e=>hk b e b off ha rfl))]
 exact this
theorem addr_add (b off i:Nat):(Addr.add ⟨b,off,none⟩ i)=⟨b,off+i,none⟩:=by
 simp only [Addr.add]
 split
 ·next h=>subst h;rfl
 ·rfl
def low:List Int→Int
 | []=>0
 | z :: zs=>low zs * 256+z
theorem low_range:∀ (zs:List Int),(∀ z ∈ zs,0≤z∧z≤255)→0≤low zs∧low zs+1≤(256:Int)^zs.length
 | [],_=>by simp [low]
 | z :: zs,h=>by
   have ih:=low_range zs (fun x hx=>h x (by simp [hx]))
   have hz:=h z (by simp)
   simp only [low,List.length_cons,Int.pow_succ]
   omega
theorem low_small (zs:List Int)(h:∀ z ∈ zs,0≤z∧z≤255)(hl:zs.length≤4):0≤low zs∧low zs≤4294967295:=by
 have h1:=low_range zs h
 have h2:(256:Nat)^zs.length≤256^4:=Nat.pow_le_pow_right (by omega) hl
 have h3:((256^zs.length:Nat):Int)=(256:Int)^zs.length:=by simp
 have h4:(256:Nat)^4=4294967296:=rfl
 omega
theorem low_drop (zs:List Int)(j:Nat)(h:j<zs.length):low (zs.drop j)=low (zs.drop (j+1)) * 256+zs.getD j 0:=by
 rw [List.drop_eq_getElem_cons h]
 simp [low,List.getD_eq_getElem?_getD,h]
set_option maxHeartbeats 1000000 in
theorem l1Low_any (b off n cap:Nat)(zs:List Int)(w:World)(h:BS w (some ⟨b,off,none⟩) n cap zs)(hn:n≤4):
 Calls Tryz.prog 85 #[.slice (some ⟨b,off,none⟩) n cap] w fun e w'=>e=.returned (.int .i64 (low zs))∧w=w':=by
 obtain ⟨hl,hmx,hr,hc,_⟩:=h
 have hd:∀ i,i<n→w.cell? ⟨b,off+i,none⟩=some (.int .u8 (zs.getD i 0)):=by
  intro i hi
  obtain ⟨b',off',e,hd⟩:=hc (by omega)
  simp at e
  obtain ⟨rfl,rfl⟩:=e
  exact hd i hi
 clear hc
 go_enter Tryz.func85,Tryz.ntmps85
 go_wp2
 go_loop [3,4] (fun v i=>∃ (k:Nat) (p:Int),k≤n∧p+1=k∧i=.int .i64 p∧v=.int .i64 (low (zs.drop k))) (fun _ i=>(intOf i+1).toNat)
 case atStart=>exact ⟨n,(n:Int) - 1,Nat.le_refl _,by omega,rfl,by rw [List.drop_of_length_le (by omega)];rfl⟩
 case round=>
  obtain ⟨k,p,hk,hp,rfl,rfl⟩:=hrel
  by_cases h0:k=0
  ·have hp':p=-1:=by omega
   subst hp' h0
   clear hp
   have hfin:Hid (low (List.drop 0 zs)=low zs):=by show _=_;rw [List.drop_zero]
   generalize low (List.drop 0 zs)=L at *
   go_wp2
   go_ret
   exact ⟨ret_int hfin.out,rfl⟩
  ·obtain ⟨j,rfl⟩:∃ j,k=j+1:=⟨k - 1,by omega⟩
   have hp':p=(j:Int):=by omega
   subst hp'
   have hj:(0:Int)≤(j:Int):=by omega
   have hjn:(j:Int)<(n:Int):=by omega
   have hst:=low_drop zs j (by omega)
   have hL:=low_small (zs.drop (j+1)) (fun z hz=>hr z (List.mem_of_mem_drop hz)) (by simp;omega)
   have hL3:low (zs.drop (j+1))≤4294967295:=hL.2
   have hcj:=hd j (by omega)
   have hz0:0≤zs.getD j 0∧zs.getD j 0≤255:=by
    have:=hr zs[j] (List.getElem_mem (by omega))
    simpa [List.getD_eq_getElem?_getD,show j<zs.length by omega] using this
   have HS:=hide hst
   clear hst hp hd h0
   generalize low (zs.drop (j+1))=L at *
   generalize zs.getD j 0=z at *
   obtain ⟨hL1,hL2⟩:=hL
   obtain ⟨hz1,hz2⟩:=hz0
   go_wp2
   go_round
   case rel=>exact ⟨j,(j:Int) - 1,by omega,by omega,by go_num,by rw [HS.out]⟩
   case measure=>simp [intOf]
end Go.Proofs.YtngdgogjlpjjpaeGreat
