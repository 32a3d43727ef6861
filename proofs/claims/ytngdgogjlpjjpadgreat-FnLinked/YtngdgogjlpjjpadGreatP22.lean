import Derived.Test.YtngdgogjlpjjpadGreatP07
import Derived.Test.YtngdgogjlpjjpadGreatP06
import Derived.Test.YtngdgogjlpjjpadGreatP19
namespace Go.Proofs.YtngdgogjlpjjpadGreat
open Go.RowKit
set_option linter.unusedVariables false
set_option linter.unusedSimpArgs false
set_option maxRecDepth 100000
def clM (x:PMod × Ma):List Value:=[.string x.1.nm,.slice x.2.a1 x.1.tz.length x.2.c1,.slice x.2.a2 x.2.bl.length x.2.c2,.slice x.2.a3 x.1.dz.length x.2.c3,.int .i64 x.1.bss,.slice x.2.a5 x.1.rz.length x.2.c5,.slice x.2.a6 x.1.ss.length x.2.c6,.slice x.2.a7 x.1.es.length x.2.c7]
def own6 (x:PMod × Ma):Option Nat:=(Value.slice x.2.a6 x.1.ss.length x.2.c6).ownBlock
theorem flat_get8:∀ (L:List (PMod × Ma)) (i:Nat) (x:PMod × Ma),L[i]?=some x→∀ j,j<8→(L.flatMap clM)[i * 8+j]?=(clM x)[j]?
 | [],i,x,h,j,hj=>by simp at h
 | y :: L,0,x,h,j,hj=>by
   simp at h
   subst h
   rw [List.flatMap_cons,List.getElem?_append_left (by simp [clM];omega)]
   simp
 | y :: L,i+1,x,h,j,hj=>by
   rw [List.flatMap_cons,List.getElem?_append_right (by simp [clM];omega)]
   have e:(i+1) * 8+j - (clM y).length=i * 8+j:=by simp [clM];omega
   rw [e]
   exact flat_get8 L i x (by simpa using h) j hj
theorem flat_set8 (v:Value) (x':PMod × Ma):∀ (L:List (PMod × Ma)) (i:Nat) (x:PMod × Ma),L[i]?=some x→clM x'=(clM x).set 6 v→(L.flatMap clM).set (i * 8+6) v=(L.set i x').flatMap clM
 | [],i,x,h,e=>by simp at h
 | y :: L,0,x,h,e=>by
   simp at h
   subst h
   rw [List.set_cons_zero,List.flatMap_cons,List.flatMap_cons,e]
   exact List.set_append_left _ _ (by simp [clM])
 | y :: L,i+1,x,h,e=>by
   rw [List.set_cons_succ,List.flatMap_cons,List.flatMap_cons,← flat_set8 v x' L i x (by simpa using h) e,List.set_append_right _ _ (by simp [clM];omega)]
   congr 2
   simp [clM]
   omega
theorem owns_set {W:World} {base:Nat} {t:TypeId} {sz g n cap:Nat} {xs:List Value} (h:W.ownsRow base t sz (.slice (some ⟨g,0,none⟩) n cap) n xs) (k:Nat) (v:Value):(W.setCell ⟨g,k,none⟩ v).ownsRow base t sz (.slice (some ⟨g,0,none⟩) n cap) n (xs.set k v):=by
 obtain ⟨hl,⟨h0,_⟩ | ⟨g',cap',cur,hv,hg,hh,h1,h2,h3,h4⟩⟩:=h
 ·simp at h0
 ·simp at hv
  obtain ⟨rfl,rfl⟩:=hv
  refine ⟨by simpa using hl,.inr ⟨g,cap,cur.setIfInBounds k v,rfl,hg,Blk.set (w:=W) hh k v,h1,h2,by simpa using h3,?_⟩⟩
  rw [Array.toList_setIfInBounds,List.take_set,h4]
theorem grown_trn {W W':World} {row:Option Nat} (hg:W.grownBy W' row):Turn (fun j=>row=some j) W W':=⟨hg.os,hg.tape,hg.output,hg.size,fun j hj hs=>hg.block j hj (fun e=>hs e.symm)⟩
theorem MO.grownM {W W':World} {base base' n:Nat} {P:PMod} {M:Ma} {v:Value} {xs:List Value} (h:MO W base P M) (ho:W.ownsRow base' 49 8 v n xs) (hg:W.grownBy W' v.ownBlock):MO W' base P M:=h.kept (grown_trn hg) (fun j hj=>.inr (own_kind ho hj))
theorem MO.mono {W:World} {base base':Nat} {P:PMod} {M:Ma} (h:MO W base P M) (hb:base'≤base):MO W base' P M:=ModO.mono h hb
theorem MO.below {W W':World} {base:Nat} {P:PMod} {M:Ma} (h:MO W base P M) (hb:Below W.heap.size W W'):MO W' base P M:=h.kept (S:=fun _=>False) (turn_below hb) (fun j hj=>absurd hj id)
theorem MO.far_i {W W':World} {base base' n:Nat} {P:PMod} {M:Ma} {v:Value} {xs:List Value} (h:MO W base P M) (ho:W.ownsRow base' 9 1 v n xs) (hg:W.grownBy W' v.ownBlock) (hne:∀ k,v.ownBlock=some k→(Value.slice M.a6 P.ss.length M.c6).ownBlock≠some k):MO W' base P M where
 t:=h.t.grown hg (ne_kind h.t ho (by decide))
 b:=h.b.grown hg (ne_kind h.b.head ho (by decide)) (fun B hB=>ne_kind (h.b.rows B hB).2 ho (by decide))
 bls:=h.bls
 d:=h.d.grown' hg (ne_kind h.d.1 ho (by decide))
 r:=h.r.grown hg (ne_kind h.r ho (by decide))
 i:=h.i.grown hg (ne_some hne)
 e:=h.e.grown hg (ne_kind h.e ho (by decide))
 tb:=h.tb
 tr:=h.tr
 br:=h.br
def rb (x:PMod × Ma) (b:Nat):Prop:=(Value.slice x.2.a1 x.1.tz.length x.2.c1).ownBlock=some b∨(Value.slice x.2.a2 x.2.bl.length x.2.c2).ownBlock=some b∨(Value.slice x.2.a5 x.1.rz.length x.2.c5).ownBlock=some b∨(Value.slice x.2.a7 x.1.es.length x.2.c7).ownBlock=some b∨∃ B ∈ x.2.bl,(Value.slice B.1 B.2.1 B.2.2.1).ownBlock=some b
def Sep (L:List (PMod × Ma)):Prop:=∀ (i j:Nat) (x y:PMod × Ma),L[i]?=some x→L[j]?=some y→i≠j→∀ b,rb x b→¬ rb y b
theorem MO.rb_lt {W:World} {base:Nat} {x:PMod × Ma} (h:MO W base x.1 x.2) (b:Nat) (hb:rb x b):base≤b∧b<W.heap.size:=by
 rcases hb with e | e | e | e | ⟨B,hB,e⟩
 ·exact h.t.lt b e
 ·exact h.b.head.lt b e
 ·exact h.r.lt b e
 ·exact h.e.lt b e
 ·exact (h.b.rows B hB).2.lt b e
theorem sep_nil:Sep []:=fun i j x y hx=>by simp at hx
structure Mst (w W:World) (r:Nat) (a:Option Addr) (n c:Nat) (zs:List Int) (k:Nat) (v:Value) (L:List (PMod × Ma)):Prop where
 d:Dst w W r a n c zs k
 o:OG 49 8 clM W w.heap.size v L
 m:∀ (i:Nat) (x:PMod × Ma),L[i]?=some x→MO W w.heap.size x.1 x.2∧∃ db,x.2.a3=some ⟨db,0,none⟩
 ap:∀ (i j:Nat) (x y:PMod × Ma),L[i]?=some x→L[j]?=some y→i≠j→∀ q,own6 x=some q→own6 y≠some q
 sp:Sep L
theorem Mst.below {w W W':World} {r:Nat} {a:Option Addr} {n c:Nat} {zs:List Int} {k:Nat} {v:Value} {L:List (PMod × Ma)} (h:Mst w W r a n c zs k v L) (hb:Below W.heap.size W W'):Mst w W' r a n c zs k v L:=⟨h.d.below hb,h.o.below hb,fun i x hx=>⟨(h.m i x hx).1.below hb,(h.m i x hx).2⟩,h.ap,h.sp⟩
theorem Mst.drew {w W:World} {r:Nat} {a:Option Addr} {n c:Nat} {zs:List Int} {k:Nat} {v:Value} {L:List (PMod × Ma)} (h:Mst w W r a n c zs k v L):Mst w W.drew r a n c zs k v L:=h.below (Below.refl _ _).drew
theorem Mst.turn {w W W':World} {r:Nat} {a:Option Addr} {n c:Nat} {zs:List Int} {k k':Nat} {v:Value} {L:List (PMod × Ma)} (h:Mst w W r a n c zs k v L) (ht:Turn (fun j=>j=r) W W') (d:Dst w W' r a n c zs k'):Mst w W' r a n c zs k' v L:=
 ⟨d,h.o.turn ht (fun j hj=>by have:=h.d.lt;omega),fun i x hx=>⟨(h.m i x hx).1.kept ht (fun j hj=>.inl (by subst hj;exact h.d.lt)),(h.m i x hx).2⟩,h.ap,h.sp⟩
theorem Mst.next {w W:World} {r:Nat} {a:Option Addr} {n c:Nat} {zs:List Int} {k:Nat} {v:Value} {L:List (PMod × Ma)} (h:Mst w W r a n c zs k v L) (x:Int) (hx:Hid (zs.getD k 0=x)):
 Calls Tryz.prog 51 #[.pointer (some ⟨r,0,none⟩)] W fun e w'=>e=.returned (.int .i64 x)∧Mst w w' r a n c zs (k+1) v L:=
 (h.d.next x hx).mono fun e w' ⟨he,hd,ht⟩=>⟨he,h.turn ht hd⟩
theorem get_snoc {α:Type} {L:List α} {y x:α} {i:Nat} (h:(L++[y])[i]?=some x):L[i]?=some x∨(i=L.length∧x=y):=by
 rcases Nat.lt_or_ge i L.length with hi | hi
 ·rw [List.getElem?_append_left hi] at h
  exact .inl h
 ·rw [List.getElem?_append_right hi] at h
  by_cases e:i - L.length=0
  ·rw [e] at h
   simp at h
   exact .inr ⟨by omega,h.symm⟩
  ·obtain ⟨m,hm⟩:∃ m,i - L.length=m+1:=⟨i - L.length - 1,by omega⟩
   rw [hm] at h
   simp at h
theorem Mst.push {w W wa w':World} {r:Nat} {a:Option Addr} {n c:Nat} {zs:List Int} {k k':Nat} {v v':Value} {L:List (PMod × Ma)} {x:PMod × Ma} {cs:Array Value} (h:Mst w W r a n c zs k v L) (d:Dst W wa r a n c zs k') (mo:MO wa W.heap.size x.1 x.2) (ds:∃ db,x.2.a3=some ⟨db,0,none⟩)
 (hown:w'.ownsRow w.heap.size 49 8 v' (L.length+1) (L.flatMap clM++clM x)) (hg:(wa.alloc (.cells cs 49)).grownBy w' v.ownBlock):Mst w w' r a n c zs k' v' (L++[x]):=by
 have hA:=(h.turn d.t (h.d.trans d)).below (al_below wa (.cells cs 49))
 have hs:=h.d.sz
 refine ⟨hA.d.grown hg (fun j hj=>(hA.o.lt j hj).1),?_,fun i y hy=>?_,fun i j y z hy hz hij q hq=>?_,fun i j y z hy hz hij b hb hb'=>?_⟩
 ·unfold OG
  rw [List.length_append,List.flatMap_append]
  simpa using hown
 ·rcases get_snoc hy with hy | ⟨_,rfl⟩
  ·exact ⟨(hA.m i y hy).1.grownM hA.o hg,(hA.m i y hy).2⟩
  ·exact ⟨((mo.below (al_below wa _)).grownM hA.o hg).mono hs,ds⟩
 ·rcases get_snoc hy with hy1 | ⟨ei,rfl⟩ <;> rcases get_snoc hz with hz1 | ⟨ej,rfl⟩
  ·exact h.ap i j y z hy1 hz1 hij q hq
  ·intro e
   have h1:=((h.m i y hy1).1.i.lt q hq).2
   have h2:=(mo.i.lt q e).1
   omega
  ·intro e
   have h1:=((h.m j z hz1).1.i.lt q e).2
   have h2:=(mo.i.lt q hq).1
   omega
  ·omega
 ·rcases get_snoc hy with hy1 | ⟨ei,rfl⟩ <;> rcases get_snoc hz with hz1 | ⟨ej,rfl⟩
  ·exact h.sp i j y z hy1 hz1 hij b hb hb'
  ·have h1:=((h.m i y hy1).1.rb_lt b hb).2
   have h2:=(mo.rb_lt b hb').1
   omega
  ·have h1:=((h.m j z hz1).1.rb_lt b hb').2
   have h2:=(mo.rb_lt b hb).1
   omega
  ·omega
theorem get_set {α:Type} {L:List α} {x' x:α} {i j:Nat} (h:(L.set i x')[j]?=some x):(j=i∧x=x')∨(j≠i∧L[j]?=some x):=by
 rw [List.getElem?_set] at h
 split at h
 ·rename_i e
  split at h
  ·simp at h;exact .inl ⟨e.symm,h.symm⟩
  ·simp at h
 ·rename_i e
  exact .inr ⟨fun e'=>e e'.symm,h⟩
theorem Mst.imp {w W w4:World} {r:Nat} {a:Option Addr} {n c:Nat} {zs:List Int} {k i g m cap g4 c4:Nat} {L:List (PMod × Ma)} {x:PMod × Ma} {s:ByteArray} (h:Mst w W r a n c zs k (.slice (some ⟨g,0,none⟩) m cap) L) (hm:L.length=m) (hx:L[i]?=some x)
 (hown:w4.ownsRow w.heap.size 9 1 (.slice (some ⟨g4,0,none⟩) (x.1.ss.length+1) c4) (x.1.ss.length+1) (x.1.ss.flatMap clT++clT s)) (hg:W.grownBy w4 (Value.slice x.2.a6 x.1.ss.length x.2.c6).ownBlock) (hat:(Value.slice x.2.a6 x.1.ss.length x.2.c6).ownBlock=some g4∨g4=W.heap.size):
 Mst w (w4.setCell ⟨g,i * 8+6,none⟩ (.slice (some ⟨g4,0,none⟩) (x.1.ss.length+1) c4)) r a n c zs k (.slice (some ⟨g,0,none⟩) m cap) (L.set i ({ x.1 with ss:=x.1.ss++[s] },{ x.2 with a6:=some ⟨g4,0,none⟩,c6:=c4 })):=by
 obtain ⟨mx,dx⟩:=h.m i x hx
 have hgo:=(h.o.lt g rfl).1
 have o1:OG 49 8 clM w4 w.heap.size (.slice (some ⟨g,0,none⟩) m cap) L:=h.o.grown hg (ne_kind h.o mx.i (by decide))
 have kb:∀ j,j=g→∃ cs,Blk w4 j cs 49:=fun j hj=>by subst hj;exact own_kind o1 rfl
 have gi:MO w4 w.heap.size { x.1 with ss:=x.1.ss++[s] } { x.2 with a6:=some ⟨g4,0,none⟩,c6:=c4 }:=mx.grow_i (X:=[s]) rfl (by unfold OG;rw [List.length_append,List.flatMap_append];simpa using hown) hg
 refine ⟨(h.d.grown hg (fun j hj=>(mx.i.lt j hj).1)).set hgo _ _,?_,fun j y hy=>?_,fun j j' y z hy hz hij q hq=>?_,fun j j' y z hy hz hij b hb hb'=>?_⟩
 ·unfold OG at o1 ⊢
  rw [List.length_set]
  rw [hm] at o1 ⊢
  have:=owns_set o1 (i * 8+6) (.slice (some ⟨g4,0,none⟩) (x.1.ss.length+1) c4)
  rw [flat_set8 _ ({ x.1 with ss:=x.1.ss++[s] },{ x.2 with a6:=some ⟨g4,0,none⟩,c6:=c4 }) L i x hx (by simp [clM])] at this
  exact this
 ·rcases get_set hy with ⟨_,rfl⟩ | ⟨hj,hy⟩
  ·exact ⟨gi.kept (turn_set w4 g _ _) (fun j hj=>.inr (kb j hj)),dx⟩
  ·exact ⟨((h.m j y hy).1.far_i mx.i hg (h.ap i j x y hx hy (fun e=>hj e.symm))).kept (turn_set w4 g _ _) (fun j hj=>.inr (kb j hj)),(h.m j y hy).2⟩
 ·have key:∀ jj y,L[jj]?=some y→jj≠i→own6 y≠some g4:=fun jj y hy hj e=>by
   rcases hat with e2 | e2
   ·exact h.ap i jj x y hx hy (fun e=>hj e.symm) g4 e2 e
   ·have:=((h.m jj y hy).1.i.lt g4 e).2
    omega
  rcases get_set hy with ⟨e1,rfl⟩ | ⟨hj,hy⟩ <;> rcases get_set hz with ⟨e2,rfl⟩ | ⟨hj',hz⟩
  ·omega
  ·have:some g4=some q:=hq
   injection this with this
   subst this
   exact key j' z hz hj'
  ·intro e
   have:some g4=some q:=e
   injection this with this
   subst this
   exact key j y hy hj hq
  ·exact h.ap j j' y z hy hz hij q hq
 ·rcases get_set hy with ⟨e1,rfl⟩ | ⟨hj,hy⟩ <;> rcases get_set hz with ⟨e2,rfl⟩ | ⟨hj',hz⟩
  ·omega
  ·exact h.sp i j' x z hx hz (by omega) b hb hb'
  ·exact h.sp j i y x hy hx (by omega) b hb hb'
  ·exact h.sp j j' y z hy hz hij b hb hb'
theorem Mst.cells {w W:World} {r:Nat} {a:Option Addr} {n c:Nat} {zs:List Int} {k i g m cap:Nat} {L:List (PMod × Ma)} {x:PMod × Ma} (h:Mst w W r a n c zs k (.slice (some ⟨g,0,none⟩) m cap) L) (hx:L[i]?=some x) (j:Nat) (hj:j<8) (u:Value) (hu:(clM x)[j]?=some u):W.cell? ⟨g,i * 8+j,none⟩=some u:=by
 have hi:i<L.length:=by
  rcases Nat.lt_or_ge i L.length with hi | hi
  ·exact hi
  ·rw [List.getElem?_eq_none hi] at hx;cases hx
 obtain ⟨h1,_,_,h4⟩:=og_parts h.o
 obtain ⟨g',e,hc⟩:=h4 (by omega)
 simp at e
 subst e
 exact hc _ _ (by rw [flat_get8 L i x hx j hj];exact hu)
theorem Mst.frozen {w W:World} {r:Nat} {a:Option Addr} {n c:Nat} {zs:List Int} {k g m cap:Nat} {L:List (PMod × Ma)} (h:Mst w W r a n c zs k (.slice (some ⟨g,0,none⟩) m cap) L) (j:Nat):W.frozen? ⟨g,j,none⟩=false:=by
 obtain ⟨cs,b⟩:=own_kind h.o (k:=g) rfl
 exact b.frozen j
theorem flat_len {α:Type}(f:α → List Value)(sz:Nat)(hf:∀ x,(f x).length=sz):∀ xs:List α,(xs.flatMap f).length=xs.length * sz
 | []=>by simp
 | x :: xs=>by simp only [List.flatMap_cons,List.length_append,List.length_cons,flat_len f sz hf xs,hf x];rw [Nat.add_mul];omega
theorem flat_get {α:Type}(f:α → List Value)(sz:Nat)(hf:∀ x,(f x).length=sz)(z:α):∀ (xs:List α) (i j:Nat),i<xs.length→j<sz→(xs.flatMap f)[i * sz+j]?=(f (xs.getD i z))[j]?
 | [],i,j,h,_=>by simp at h
 | x :: xs,0,j,h,hj=>by simp [List.getElem?_append_left (show j<(f x).length by rw [hf];exact hj)]
 | x :: xs,i+1,j,h,hj=>by
   have ih:=flat_get f sz hf z xs i j (by simpa using h) hj
   have e:(i+1) * sz+j=(f x).length+(i * sz+j):=by rw [hf,Nat.add_mul];omega
   rw [List.flatMap_cons,e,List.getElem?_append_right (by omega),Nat.add_sub_cancel_left,ih]
   simp
theorem take_flat {α:Type}(f:α → List Value)(sz:Nat)(hf:∀ x,(f x).length=sz)(z:α){cs:Array Value} {xs:List α} (h:cs.size=xs.length * sz) (hs:0<sz) (hc:∀ i,i<xs.length→∀ j,j<sz→cs[i * sz+j]?=(f (xs.getD i z))[j]?):cs.toList.take (xs.length * sz)=xs.flatMap f:=by
 apply List.ext_getElem?
 intro k
 by_cases hk:k<xs.length * sz
 ·have e:k=k / sz * sz+k % sz:=by rw [Nat.mul_comm];exact (Nat.div_add_mod k sz).symm
  have h1:k / sz<xs.length:=by rw [Nat.div_lt_iff_lt_mul hs];exact hk
  have h2:k % sz<sz:=Nat.mod_lt _ hs
  rw [List.getElem?_take,if_pos hk,Array.getElem?_toList]
  rw [e,hc _ h1 _ h2,flat_get f sz hf z xs _ _ h1 h2]
 ·rw [List.getElem?_eq_none (by simp;omega),List.getElem?_eq_none (by rw [flat_len f sz hf];omega)]
def RowF {α:Type} (t:TypeId) (sz:Nat) (f:α→List Value) (w:World) (g n:Nat) (F:Nat→α):Prop:=
 ∃ cs,Blk w g cs t∧cs.size=n * sz∧∀ i,i<n→∀ j,j<sz→cs[i * sz+j]?=(f (F i))[j]?
section
variable {α:Type} {t:TypeId} {sz:Nat} {f:α→List Value} {w w':World} {g n:Nat} {F:Nat→α}
theorem RowF.below (h:RowF t sz f w g n F) (hb:Below w.heap.size w w'):RowF t sz f w' g n F:=by
 obtain ⟨cs,h1,h2,h3⟩:=h
 exact ⟨cs,h1.below hb,h2,h3⟩
theorem RowF.lt (h:RowF t sz f w g n F):g<w.heap.size:=by obtain ⟨cs,h1,_⟩:=h;exact h1.lt
theorem RowF.blk (h:RowF t sz f w g n F):∃ cs,Blk w g cs t:=by obtain ⟨cs,h1,_⟩:=h;exact ⟨cs,h1⟩
theorem RowF.cell (h:RowF t sz f w g n F) (hf:∀ x,(f x).length=sz) (i j:Nat) (hi:i<n) (hj:j<sz) (v:Value) (hv:(f (F i))[j]?=some v):w.cell? ⟨g,i * sz+j,none⟩=some v:=by
 obtain ⟨cs,h1,h2,h3⟩:=h
 rw [h1.cell,h3 i hi j hj,hv]
theorem RowF.og (h:RowF t sz f w g n F) (hf:∀ x,(f x).length=sz) (hs:0<sz) {base:Nat} (hg:base≤g) (hn:n≤maxLen) {xs:List α} (hl:xs.length=n) (z:α) (he:∀ i,i<n→F i=xs.getD i z):OG t sz f w base (.slice (some ⟨g,0,none⟩) n n) xs:=by
 obtain ⟨cs,h1,h2,h3⟩:=h
 subst hl
 refine ⟨flat_len f sz hf xs,.inr ⟨g,xs.length,cs,rfl,hg,h1,Nat.le_refl _,hn,h2,take_flat f sz hf z h2 hs (fun i hi j hj=>?_)⟩⟩
 rw [h3 i hi j hj,he i hi]
theorem ar_at {cs:Array Value} {i:Nat} {v:Value} (h:i<cs.size):(cs.setIfInBounds i v)[i]?=some v:=by simp [h]
theorem RowF.set1 (h:RowF t 1 f w g n F) (m:Nat) (hm:m<n) (x:α) (a:Value) (hx:f x=[a]):RowF t 1 f (w.setCell ⟨g,m,none⟩ a) g n (fun i=>if i=m then x else F i):=by
 obtain ⟨cs,h1,h2,h3⟩:=h
 refine ⟨_,h1.set m a,by simp [h2],fun i hi j hj=>?_⟩
 by_cases e:i=m
 ·subst e
  obtain rfl:j=0:=by omega
  simp [hx,h2,hi]
 ·simp only [e,if_false]
  rw [Array.getElem?_setIfInBounds_ne (by omega)]
  exact h3 i hi j hj
theorem RowF.set3 (h:RowF t 3 f w g n F) (m:Nat) (hm:m<n) (x:α) (a b c:Value) (hx:f x=[a,b,c]):RowF t 3 f (((w.setCell ⟨g,m * 3,none⟩ a).setCell ⟨g,m * 3+1,none⟩ b).setCell ⟨g,m * 3+2,none⟩ c) g n (fun i=>if i=m then x else F i):=by
 obtain ⟨cs,h1,h2,h3⟩:=h
 refine ⟨_,((h1.set (m * 3) a).set (m * 3+1) b).set (m * 3+2) c,by simp [h2],fun i hi j hj=>?_⟩
 by_cases e:i=m
 ·subst e
  simp only [if_true,hx]
  match j,hj with
  | 0,_=>exact ar_other (ar_other (ar_at (by rw [h2];omega)) (by omega)) (by omega)
  | 1,_=>exact ar_other (ar_at (by simp [h2];omega)) (by omega)
  | 2,_=>exact ar_at (by simp [h2];omega)
 ·simp only [e,if_false]
  rw [Array.getElem?_setIfInBounds_ne (by omega),Array.getElem?_setIfInBounds_ne (by omega),Array.getElem?_setIfInBounds_ne (by omega)]
  exact h3 i hi j hj
end
structure HR {α β:Type} (th:TypeId) (hs:Nat) (hc:α→List Value) (tr:TypeId) (rs:Nat) (rc:β→List Value) (sv:α→Value) (ct:α→List β) (w:World) (base g n:Nat) (f:Nat→α):Prop where
 head:RowF th hs hc w g n f
 rows:∀ i,i<n→OG tr rs rc w base (sv (f i)) (ct (f i))
 apart:∀ i j,i<n→j<n→i≠j→∀ k,(sv (f i)).ownBlock=some k→(sv (f j)).ownBlock≠some k
section
variable {α β:Type} {th:TypeId} {hs:Nat} {hc:α→List Value} {tr:TypeId} {rs:Nat} {rc:β→List Value} {sv:α→Value} {ct:α→List β} {w w':World} {base g n:Nat} {f:Nat→α}
theorem HR.below (h:HR th hs hc tr rs rc sv ct w base g n f) (hb:Below w.heap.size w w'):HR th hs hc tr rs rc sv ct w' base g n f:=⟨h.head.below hb,fun i hi=>(h.rows i hi).below hb,h.apart⟩
theorem HR.put (h:HR th hs hc tr rs rc sv ct w base g n f) (hne:th≠tr) {m:Nat} (hm:m<n) {x:α} (R:RowF th hs hc w' g n (fun i=>if i=m then x else f i)) (T:Turn (fun j=>j=g) w w') (hx:OG tr rs rc w base (sv x) (ct x)) (hap:∀ i,i<n→i≠m→∀ k,(sv (f i)).ownBlock=some k→(sv x).ownBlock≠some k):HR th hs hc tr rs rc sv ct w' base g n (fun i=>if i=m then x else f i):=by
 obtain ⟨cg,kg⟩:=h.head.blk
 have ng:∀ (v:Value) (ys:List β),OG tr rs rc w base v ys→∀ k,v.ownBlock=some k→¬ (fun j=>j=g) k:=fun v ys ho k hk e=>by
  have e':k=g:=e
  subst e'
  obtain ⟨c1,k1⟩:=own_kind ho hk
  exact hne (blk_kind kg k1)
 refine ⟨R,fun i hi=>?_,fun i j hi hj hij k hk=>?_⟩
 ·by_cases e:i=m
  ·simp only [e,if_true];exact hx.kept T (ng _ _ hx)
  ·simp only [e,if_false];exact (h.rows i hi).kept T (ng _ _ (h.rows i hi))
 ·by_cases e1:i=m
  ·have e2:¬ j=m:=fun e=>hij (e1.trans e.symm)
   simp only [e1,e2,if_true,if_false] at hk ⊢
   exact fun e=>hap j hj e2 k e hk
  ·by_cases e2:j=m
   ·simp only [e1,e2,if_true,if_false] at hk ⊢
    exact hap i hi e1 k hk
   ·simp only [e1,e2,if_false] at hk ⊢
    exact h.apart i j hi hj hij k hk
theorem HR.or (h:HR th hs hc tr rs rc sv ct w base g n f) (hf:∀ x,(hc x).length=hs) (h0:0<hs) (hg:base≤g) (hn:n≤maxLen) (z:α) {xs:List α} (hl:xs.length=n) (he:∀ i,i<n→f i=xs.getD i z):OR th hs hc tr rs rc sv ct w base base (.slice (some ⟨g,0,none⟩) n n) xs:=by
 refine ⟨h.head.og hf h0 hg hn hl z he,fun x hx=>?_,?_⟩
 ·obtain ⟨i,hi,rfl⟩:=List.getElem_of_mem hx
  have:=h.rows i (by omega)
  rw [he i (by omega)] at this
  simpa [List.getD_eq_getElem?_getD,hi] using this
 ·rw [List.pairwise_iff_getElem]
  intro i j hi hj hij k hk
  have:=h.apart i j (by omega) (by omega) (by omega) k
  rw [he i (by omega),he j (by omega)] at this
  simp only [List.getD_eq_getElem?_getD,List.getElem?_eq_getElem hi,List.getElem?_eq_getElem hj,Option.getD_some] at this
  exact this hk
end
end Go.Proofs.YtngdgogjlpjjpadGreat
