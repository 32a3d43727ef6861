import Derived.Laws.IdiomStrings
import Derived.Deep.AppendLies
import Derived.Deep.RegionLaw
import Derived.Laws.EntriesVeiled
import Derived.Test.YtngdgogjlpjjpadGreatP00
import Derived.Test.YtngdgogjlpjjpadGreatP01
import Derived.Test.YtngdgogjlpjjpadGreatP02
import Derived.Test.YtngdgogjlpjjpadGreatP03
import Derived.Test.YtngdgogjlpjjpadGreatP04
namespace Go.Proofs.YtngdgogjlpjjpadGreat
open Go.RowKit
set_option linter.unusedVariables false
set_option linter.unusedSimpArgs false
set_option maxRecDepth 100000
theorem turn_set (w:World) (g i:Nat) (v:Value):Turn (fun j=>j=g) w (w.setCell ⟨g,i,none⟩ v):=⟨rfl,rfl,rfl,by rw [size_setCell];exact Nat.le_refl _,fun k _ hk=>heap_setCell_other _ _ _ _ hk⟩
def OG {α:Type} (t:TypeId) (sz:Nat) (f:α→List Value) (w:World) (base:Nat) (v:Value) (xs:List α):Prop:=w.ownsRow base t sz v xs.length (xs.flatMap f)
theorem OG.below {α:Type} {t:TypeId} {sz:Nat} {f:α→List Value} {w w':World} {base:Nat} {v:Value} {xs:List α} (h:OG t sz f w base v xs) (hb:Below w.heap.size w w'):OG t sz f w' base v xs:=by
 obtain ⟨hl,h0 | ⟨g,cap,cur,hv,hg,hh,h1,h2,h3,h4⟩⟩:=h
 ·exact ⟨hl,.inl h0⟩
 ·exact ⟨hl,.inr ⟨g,cap,cur,hv,hg,Blk.below (w:=w) hh hb,h1,h2,h3,h4⟩⟩
theorem OG.mono {α:Type} {t:TypeId} {sz:Nat} {f:α→List Value} {w:World} {base base':Nat} {v:Value} {xs:List α} (h:OG t sz f w base v xs) (hb:base'≤base):OG t sz f w base' v xs:=by
 obtain ⟨hl,h0 | ⟨g,cap,cur,hv,hg,hh,h1,h2,h3,h4⟩⟩:=h
 ·exact ⟨hl,.inl h0⟩
 ·exact ⟨hl,.inr ⟨g,cap,cur,hv,by omega,hh,h1,h2,h3,h4⟩⟩
theorem OG.turn {α:Type} {t:TypeId} {sz:Nat} {f:α→List Value} {S:Nat→Prop} {w w':World} {base:Nat} {v:Value} {xs:List α} (h:OG t sz f w base v xs) (ht:Turn S w w') (hS:∀ k,S k→¬ base≤k):OG t sz f w' base v xs:=by
 obtain ⟨hl,h0 | ⟨g,cap,cur,hv,hg,hh,h1,h2,h3,h4⟩⟩:=h
 ·exact ⟨hl,.inl h0⟩
 ·exact ⟨hl,.inr ⟨g,cap,cur,hv,hg,turn_blk (w:=w) ht hh (fun s=>hS g s hg),h1,h2,h3,h4⟩⟩
theorem OG.lt {α:Type} {t:TypeId} {sz:Nat} {f:α→List Value} {w:World} {base:Nat} {v:Value} {xs:List α} (h:OG t sz f w base v xs):∀ k,v.ownBlock=some k→base≤k∧k<w.heap.size:=World.ownsRow.lt h
theorem og_nil {α:Type} (t:TypeId) (sz:Nat) (f:α→List Value) (w:World) (base:Nat):OG t sz f w base (.slice none 0 0) []:=⟨by simp,.inl ⟨rfl,rfl⟩⟩
theorem og_shape {α:Type} {t:TypeId} {sz:Nat} {f:α→List Value} {w:World} {base:Nat} {v:Value} {xs:List α} (h:OG t sz f w base v xs):∃ a c,v=.slice a xs.length c:=by
 obtain ⟨hl,⟨h0,h1⟩ | ⟨g,cap,cur,hv,_⟩⟩:=h
 ·exact ⟨none,0,by rw [h0,h1]⟩
 ·exact ⟨_,_,hv⟩
theorem turn_grown {S:Nat→Prop} {w W W':World} {row:Option Nat} (h:Turn S w W) (hg:W.grownBy W' row) (hr:∀ k,row=some k→w.heap.size≤k):Turn S w W':=
 ⟨hg.os.trans h.os,hg.tape.trans h.tape,hg.output.trans h.output,Nat.le_trans h.size hg.size,fun k hk hs=>(hg.block k (Nat.lt_of_lt_of_le hk h.size) (fun e=>by have:=hr k e.symm;omega)).trans (h.block k hk hs)⟩
theorem cells_new (w:World) (cs:Array Value) (t:TypeId) (xs:List Value) (h:cs=xs.toArray):∀ j u,xs[j]?=some u→(w.alloc (.cells cs t)).cell? ((⟨w.heap.size,0,none⟩:Addr).add j)=some u:=by
 intro j u hj
 subst h
 rw [addr_add,Nat.zero_add,Blk.cell (Blk.new w _ _)]
 simpa using hj
def clI (x:Int):List Value:=[.int .i64 x]
def clT (x:ByteArray):List Value:=[.string x]
def clX (x:Ex):List Value:=[.string x.1,.int .i64 x.2.1,.int .i64 x.2.2]
theorem turn_new' {S:Nat→Prop} {w W:World} (h:Turn S w W) {k:Nat} (hk:w.heap.size≤k) (i:Nat) (v:Value):Turn S w (W.setCell ⟨k,i,none⟩ v):=
 ⟨h.os,h.tape,h.output,by rw [size_setCell];exact h.size,fun j hj hs=>by rw [heap_setCell_other _ _ _ _ (by show j≠k;omega)];exact h.block j hj hs⟩
structure OBk (w:World) (base:Nat) (v:Value) (bl:List Bk):Prop where
 head:w.ownsRow base 29 1 v bl.length (bl.map fun B=>Value.slice B.1 B.2.1 B.2.2.1)
 rows:∀ B ∈ bl,B.2.1=B.2.2.2.length∧OG 3 1 clI w base (.slice B.1 B.2.1 B.2.2.1) B.2.2.2
 apart:bl.Pairwise fun A B=>∀ k,(Value.slice A.1 A.2.1 A.2.2.1).ownBlock=some k→(Value.slice B.1 B.2.1 B.2.2.1).ownBlock≠some k
theorem own_kind {w:World} {base n sz:Nat} {t:TypeId} {v:Value} {xs:List Value} {k:Nat} (h:w.ownsRow base t sz v n xs) (hk:v.ownBlock=some k):∃ cur,Blk w k cur t:=by
 obtain ⟨hl,⟨h0,_⟩ | ⟨g,cap,cur,hv,_,hh,_⟩⟩:=h
 ·subst h0;simp [Value.ownBlock] at hk
 ·subst hv
  simp [Value.ownBlock] at hk
  subst hk
  exact ⟨cur,hh⟩
theorem blk_kind {w:World} {k:Nat} {cs cs':Array Value} {t t':TypeId} (h:Blk w k cs t) (h':Blk w k cs' t'):t=t':=by
 unfold Blk at h h'
 rw [h] at h'
 simp at h'
 exact h'.2
theorem OG.grown {α:Type} {t:TypeId} {sz:Nat} {f:α→List Value} {w w':World} {base:Nat} {v:Value} {xs:List α} {row:Option Nat} (h:OG t sz f w base v xs) (hg:w.grownBy w' row) (hk:v.ownBlock=none∨v.ownBlock≠row):OG t sz f w' base v xs:=World.ownsRow.kept h hg hk
theorem OBk.turn {S:Nat→Prop} {w w':World} {base:Nat} {v:Value} {bl:List Bk} (h:OBk w base v bl) (ht:Turn S w w') (hS:∀ k,S k→¬ base≤k):OBk w' base v bl:=by
 refine ⟨?_,fun B hB=>⟨(h.rows B hB).1,(h.rows B hB).2.turn ht hS⟩,h.apart⟩
 obtain ⟨hl,h0 | ⟨g,cap,cur,hv,hg,hh,h1,h2,h3,h4⟩⟩:=h.head
 ·exact ⟨hl,.inl h0⟩
 ·exact ⟨hl,.inr ⟨g,cap,cur,hv,hg,turn_blk (w:=w) ht hh (fun s=>hS g s hg),h1,h2,h3,h4⟩⟩
theorem OBk.lt {w:World} {base:Nat} {v:Value} {bl:List Bk} (h:OBk w base v bl):∀ k,v.ownBlock=some k→base≤k∧k<w.heap.size:=h.head.lt
theorem OBk.push {W W':World} {base lo:Nat} {a:Option Addr} {k c:Nat} {bl:List Bk} {v':Value} {A:Option Addr} {C:Nat} {x:List Int} (h:OBk W base (.slice a k c) bl) (hl:bl.length=k) (hx:OG 3 1 clI W lo (.slice A x.length C) x) (hb:base≤lo) (hlo:∀ B ∈ bl,∀ j,(Value.slice B.1 B.2.1 B.2.2.1).ownBlock=some j→j<lo)
 (hown:W'.ownsRow base 29 1 v' (k+1) (bl.map (fun B=>Value.slice B.1 B.2.1 B.2.2.1)++[.slice A x.length C])) (hg:W.grownBy W' (Value.slice a k c).ownBlock):OBk W' base v' (bl++[(A,x.length,C,x)]):=by
 have hne:∀ (v:Value) (xs:List Int) (lo:Nat),OG 3 1 clI W lo v xs→v.ownBlock=none∨v.ownBlock≠(Value.slice a k c).ownBlock:=fun v xs lo ho=>by
  cases e:v.ownBlock with
  | none=>exact .inl rfl
  | some j=>
    refine .inr (fun e'=>?_)
    obtain ⟨c1,k1⟩:=own_kind ho e
    obtain ⟨c2,k2⟩:=own_kind h.head e'.symm
    exact absurd (blk_kind k1 k2) (by decide)
 refine ⟨?_,?_,?_⟩
 ·rw [List.length_append,hl,List.map_append]
  exact hown
 ·intro B hB
  rcases List.mem_append.1 hB with hB | hB
  ·exact ⟨(h.rows B hB).1,(h.rows B hB).2.grown hg (hne _ _ _ (h.rows B hB).2)⟩
  ·simp at hB
   subst hB
   exact ⟨rfl,(hx.grown hg (hne _ _ _ hx)).mono hb⟩
 ·rw [List.pairwise_append]
  refine ⟨h.apart,by simp,fun B hB X hX j hj e=>?_⟩
  simp at hX
  subst hX
  have h1:=hlo B hB j hj
  have h2:=(hx.lt j e).1
  omega
theorem OBk.mono {w:World} {base base':Nat} {v:Value} {bl:List Bk} (h:OBk w base v bl) (hb:base'≤base):OBk w base' v bl:=by
 refine ⟨?_,fun B hB=>⟨(h.rows B hB).1,(h.rows B hB).2.mono hb⟩,h.apart⟩
 obtain ⟨hl,h0 | ⟨g,cap,cur,hv,hg,hh,h1,h2,h3,h4⟩⟩:=h.head
 ·exact ⟨hl,.inl h0⟩
 ·exact ⟨hl,.inr ⟨g,cap,cur,hv,by omega,hh,h1,h2,h3,h4⟩⟩
theorem flat_one {α:Type} (f:α→Value):∀ xs:List α,xs.flatMap (fun x=>[f x])=xs.map f
 | []=>rfl
 | x :: xs=>by rw [List.flatMap_cons,flat_one f xs];rfl
theorem flat_clI (xs:List Int):xs.flatMap clI=xs.map (Value.int .i64):=flat_one _ xs
theorem flat_clT (xs:List ByteArray):xs.flatMap clT=xs.map Value.string:=flat_one _ xs
theorem flat_clX:∀ (xs:List Ex) (i:Nat),i<xs.length→(xs.flatMap clX)[i * 3]?=some (.string (xs.getD i zE).1)∧(xs.flatMap clX)[i * 3+1]?=some (.int .i64 (xs.getD i zE).2.1)∧(xs.flatMap clX)[i * 3+2]?=some (.int .i64 (xs.getD i zE).2.2)
 | [],i,h=>by simp at h
 | x :: xs,0,h=>⟨rfl,rfl,rfl⟩
 | x :: xs,i+1,h=>by
   have ih:=flat_clX xs i (by simpa using h)
   have e:∀ d,((x :: xs).flatMap clX)[(i+1) * 3+d]?=(xs.flatMap clX)[i * 3+d]?:=fun d=>by
    rw [List.flatMap_cons,List.getElem?_append_right (by simp [clX];omega)]
    congr 1
    simp [clX]
    omega
   have e0:=e 0
   simp only [Nat.add_zero] at e0
   refine ⟨e0.trans ih.1,(e 1).trans ih.2.1,(e 2).trans ih.2.2⟩
theorem og_parts {α:Type} {t:TypeId} {sz:Nat} {f:α→List Value} {w:World} {base n c:Nat} {a:Option Addr} {xs:List α} (h:OG t sz f w base (.slice a n c) xs):xs.length=n∧n≤maxLen∧n≤c∧(n≠0→∃ g,a=some ⟨g,0,none⟩∧∀ j u,(xs.flatMap f)[j]?=some u→w.cell? ⟨g,j,none⟩=some u):=by
 have hc:=fun g hg=>World.ownsRow.cells h (g:=g) hg
 obtain ⟨hl,⟨h0,h1⟩ | ⟨g,cap,cur,hv,hg,hh,h1,h2,h3,h4⟩⟩:=h
 ·simp at h0
  obtain ⟨rfl,rfl,rfl⟩:=h0
  exact ⟨h1,Nat.zero_le _,Nat.le_refl _,fun hn=>absurd rfl hn⟩
 ·simp at hv
  obtain ⟨rfl,rfl,rfl⟩:=hv
  refine ⟨rfl,by omega,h1,fun hn=>⟨g,rfl,fun j u hj=>?_⟩⟩
  have:=hc g rfl j u hj
  rwa [addr_add,Nat.zero_add] at this
theorem og_is {w:World} {base n c:Nat} {a:Option Addr} {xs:List Int} (h:OG 3 1 clI w base (.slice a n c) xs) (hx:∀ z ∈ xs,wfi z):IS w a n c xs:=by
 obtain ⟨h1,h2,h3,h4⟩:=og_parts h
 refine ⟨h1,h2,hx,fun hn=>?_,h3⟩
 obtain ⟨g,rfl,hc⟩:=h4 hn
 refine ⟨g,0,rfl,fun i hi=>?_⟩
 rw [Nat.zero_add]
 refine hc i _ ?_
 rw [flat_clI]
 simp [List.getD_eq_getElem?_getD,show i<xs.length by omega]
theorem og_ss {w:World} {base n c:Nat} {a:Option Addr} {xs:List ByteArray} (h:OG 9 1 clT w base (.slice a n c) xs) (hx:∀ s ∈ xs,s.size≤1048576):SS w a n c xs:=by
 obtain ⟨h1,h2,h3,h4⟩:=og_parts h
 refine ⟨h1,h2,hx,fun hn=>?_,h3⟩
 obtain ⟨g,rfl,hc⟩:=h4 hn
 refine ⟨g,0,rfl,fun i hi=>?_⟩
 rw [Nat.zero_add]
 refine hc i _ ?_
 rw [flat_clT]
 simp [List.getD_eq_getElem?_getD,show i<xs.length by omega]
theorem og_es {w:World} {base n c:Nat} {a:Option Addr} {xs:List Ex} (h:OG 210 3 clX w base (.slice a n c) xs) (hx:∀ s ∈ xs,s.1.size≤1048576):ES w a n c xs:=by
 obtain ⟨h1,h2,h3,h4⟩:=og_parts h
 refine ⟨h1,h2,hx,fun hn=>?_,h3⟩
 obtain ⟨g,rfl,hc⟩:=h4 hn
 refine ⟨g,0,rfl,fun i hi=>?_⟩
 rw [Nat.zero_add]
 obtain ⟨f0,f1,f2⟩:=flat_clX xs i (by omega)
 exact ⟨hc _ _ f0,hc _ _ f1,hc _ _ f2⟩
theorem obk_bks {w:World} {base n c:Nat} {a:Option Addr} {bl:List Bk} (h:OBk w base (.slice a n c) bl) (hx:∀ B ∈ bl,∀ z ∈ B.2.2.2,wfi z):BKS w a n c bl:=by
 have hh:OG 29 1 (fun B:Bk=>[Value.slice B.1 B.2.1 B.2.2.1]) w base (.slice a n c) bl:=by unfold OG;rw [flat_one];exact h.head
 obtain ⟨h1,h2,h3,h4⟩:=og_parts hh
 refine ⟨h1,h2,fun hn=>?_,fun i hi=>?_,h3⟩
 ·obtain ⟨g,rfl,hc⟩:=h4 hn
  refine ⟨g,0,rfl,fun i hi=>?_⟩
  rw [Nat.zero_add]
  refine hc i _ ?_
  rw [flat_one]
  simp [List.getD_eq_getElem?_getD,show i<bl.length by omega]
 ·have hm:bl.getD i zB ∈ bl:=by simp [List.getD_eq_getElem?_getD,show i<bl.length by omega]
  obtain ⟨e,o⟩:=h.rows _ hm
  exact og_is o (hx _ hm)
theorem OG.kept {α:Type} {t:TypeId} {sz:Nat} {f:α→List Value} {S:Nat→Prop} {w w':World} {base:Nat} {v:Value} {xs:List α} (h:OG t sz f w base v xs) (ht:Turn S w w') (hk:∀ k,v.ownBlock=some k→¬ S k):OG t sz f w' base v xs:=by
 obtain ⟨hl,h0 | ⟨g,cap,cur,hv,hg,hh,h1,h2,h3,h4⟩⟩:=h
 ·exact ⟨hl,.inl h0⟩
 ·exact ⟨hl,.inr ⟨g,cap,cur,hv,hg,turn_blk (w:=w) ht hh (hk g (by rw [hv];rfl)),h1,h2,h3,h4⟩⟩
def Shp (w w':World):Prop:=∀ g cs t,Blk w g cs t→∃ cs':Array Value,Blk w' g cs' t∧cs'.size=cs.size
theorem Shp.refl (w:World):Shp w w:=fun g cs t h=>⟨cs,h,rfl⟩
theorem Shp.trans {a b c:World} (h:Shp a b) (k:Shp b c):Shp a c:=fun g cs t hb=>by
 obtain ⟨c1,h1,e1⟩:=h g cs t hb
 obtain ⟨c2,h2,e2⟩:=k g c1 t h1
 exact ⟨c2,h2,e2.trans e1⟩
theorem Shp.below {w w':World} (h:Below w.heap.size w w'):Shp w w':=fun g cs t hb=>⟨cs,hb.below h,rfl⟩
theorem Shp.set (w:World) (k i:Nat) (v:Value):Shp w (w.setCell ⟨k,i,none⟩ v):=fun g cs t hb=>by
 by_cases e:g=k
 ·subst e
  exact ⟨_,hb.set i v,by simp⟩
 ·exact ⟨cs,hb.other _ _ e,rfl⟩
structure Mkd (S:Nat→Prop) (w w':World):Prop where
 turn:Turn S w w'
 shp:Shp w w'
theorem Mkd.refl (S:Nat→Prop) (w:World):Mkd S w w:=⟨Turn.refl _ _,Shp.refl _⟩
theorem Mkd.trans {S:Nat→Prop} {a b c:World} (h:Mkd S a b) (k:Mkd S b c):Mkd S a c:=⟨h.turn.trans k.turn,h.shp.trans k.shp⟩
theorem Mkd.below {S:Nat→Prop} {w w':World} (h:Below w.heap.size w w'):Mkd S w w':=⟨turn_below h,Shp.below h⟩
theorem Mkd.set {S:Nat→Prop} {w w':World} (h:Mkd S w w') (k i:Nat) (v:Value) (hk:S k):Mkd S w (w'.setCell ⟨k,i,none⟩ v):=
 h.trans ⟨⟨rfl,rfl,rfl,by rw [size_setCell];exact Nat.le_refl _,fun j _ hj=>heap_setCell_other _ _ _ _ (fun e=>hj (by rw [e];exact hk))⟩,Shp.set _ _ _ _⟩
theorem Mkd.mono {S S':Nat→Prop} {w w':World} (h:Mkd S w w') (hs:∀ k,S k→S' k):Mkd S' w w':=⟨h.turn.mono hs,h.shp⟩
def Sl (S:Nat→Prop) (w:World) (a:Option Addr) (n sz:Nat):Prop:=n≠0→∃ g o cs t,a=some ⟨g,o,none⟩∧S g∧Blk w g cs t∧o+n * sz≤cs.size
theorem Sl.shp {S:Nat→Prop} {w w':World} {a:Option Addr} {n sz:Nat} (h:Sl S w a n sz) (m:Shp w w'):Sl S w' a n sz:=fun hn=>by
 obtain ⟨g,o,cs,t,ha,hs,hb,hl⟩:=h hn
 obtain ⟨cs',hb',e⟩:=m g cs t hb
 exact ⟨g,o,cs',t,ha,hs,hb',by omega⟩
theorem Sl.cell {S:Nat→Prop} {w:World} {g o n sz:Nat} (h:Sl S w (some ⟨g,o,none⟩) n sz) (hn:n≠0) (i:Nat) (hi:i<n * sz):(∃ u,w.cell? ⟨g,o+i,none⟩=some u)∧w.frozen? ⟨g,o+i,none⟩=false∧S g:=by
 obtain ⟨g',o',cs,t,ha,hs,hb,hl⟩:=h hn
 simp at ha
 obtain ⟨rfl,rfl⟩:=ha
 exact ⟨⟨cs[o+i]'(by omega),by rw [hb.cell];simp [show o+i<cs.size by omega]⟩,hb.frozen _,hs⟩
theorem Sl.addr {S:Nat→Prop} {w:World} {a:Option Addr} {n sz:Nat} (h:Sl S w a n sz) (hn:n≠0):∃ g o,a=some ⟨g,o,none⟩:=by
 obtain ⟨g,o,_,_,ha,_⟩:=h hn
 exact ⟨g,o,ha⟩
structure SlB (S:Nat→Prop) (w:World) (a:Option Addr) (n:Nat) (f:Nat→Option Addr × Nat × Nat):Prop where
 head:n≠0→∃ g o cs t,a=some ⟨g,o,none⟩∧¬ S g∧Blk w g cs t∧∀ i,i<n→cs[o+i]?=some (.slice (f i).1 (f i).2.1 (f i).2.2)
 rows:∀ i,i<n→Sl S w (f i).1 (f i).2.1 1
theorem SlB.kept {S:Nat→Prop} {w w':World} {a:Option Addr} {n:Nat} {f:Nat→Option Addr × Nat × Nat} (h:SlB S w a n f) (m:Mkd S w w'):SlB S w' a n f:=
 ⟨fun hn=>by obtain ⟨g,o,cs,t,ha,hs,hb,hl⟩:=h.head hn;exact ⟨g,o,cs,t,ha,hs,turn_blk m.turn hb hs,hl⟩,fun i hi=>(h.rows i hi).shp m.shp⟩
def Sr (f:Nat→Option Addr × Nat × Nat) (n j:Nat):Prop:=∃ i,i<n∧(Value.slice (f i).1 (f i).2.1 (f i).2.2).ownBlock=some j
structure Rr (w:World) (base:Nat) (a:Option Addr) (n:Nat) (f:Nat→Option Addr × Nat × Nat) (X:Nat→List Int):Prop where
 head:n≠0→∃ g cs,a=some ⟨g,0,none⟩∧¬ Sr f n g∧Blk w g cs 29∧∀ i,i<n→cs[i]?=some (.slice (f i).1 (f i).2.1 (f i).2.2)
 rows:∀ i,i<n→OI w base (.slice (f i).1 (f i).2.1 (f i).2.2) (X i)
 apart:∀ i j,i<n→j<n→i≠j→∀ k,(Value.slice (f i).1 (f i).2.1 (f i).2.2).ownBlock=some k→(Value.slice (f j).1 (f j).2.1 (f j).2.2).ownBlock≠some k
theorem Rr.kept {w w':World} {base:Nat} {a:Option Addr} {n:Nat} {f:Nat→Option Addr × Nat × Nat} {X:Nat→List Int} {S:Nat→Prop} (h:Rr w base a n f X) (t:Turn S w w') (hs:∀ i,i<n→∀ k,(Value.slice (f i).1 (f i).2.1 (f i).2.2).ownBlock=some k→¬ S k) (hh:n≠0→∀ g cs,a=some ⟨g,0,none⟩→Blk w g cs 29→¬ S g):Rr w' base a n f X:=
 ⟨fun hn=>by obtain ⟨g,cs,ha,h1,h2,h3⟩:=h.head hn;exact ⟨g,cs,ha,h1,turn_blk t h2 (hh hn g cs ha h2),h3⟩,fun i hi=>turn_oi t (h.rows i hi) (hs i hi),h.apart⟩
abbrev Rw3:=Option Addr × Nat × Nat
def svR (r:Rw3):Value:=.slice r.1 r.2.1 r.2.2
def Ar4 (cs:Array Value) (o:Nat) (v:Int × Int × Int) (r:Rw3):Prop:=cs[o]?=some (.int .i64 v.1)∧cs[o+1]?=some (svR r)∧cs[o+2]?=some (.int .i64 v.2.1)∧cs[o+3]?=some (.int .i64 v.2.2)
theorem get_lt {cs:Array Value} {i:Nat} {u:Value} (h:cs[i]?=some u):i<cs.size:=by
 rcases Nat.lt_or_ge i cs.size with h1 | h1
 ·exact h1
 ·rw [Array.getElem?_eq_none h1] at h;cases h
theorem ar_other {cs:Array Value} {i j:Nat} {u v:Value} (h:cs[j]?=some u) (hn:i≠j):(cs.setIfInBounds i v)[j]?=some u:=by
 rw [Array.getElem?_setIfInBounds,if_neg hn];exact h
theorem ar_same {cs:Array Value} {i:Nat} {u v:Value} (h:cs[i]?=some u):(cs.setIfInBounds i v)[i]?=some v:=by
 rw [Array.getElem?_setIfInBounds,if_pos rfl,if_pos (get_lt h)]
theorem ar4_set {cs:Array Value} {o:Nat} {v:Int × Int × Int} {r:Rw3} (h:Ar4 cs o v r) (x y z:Int):Ar4 (((cs.setIfInBounds o (.int .i64 x)).setIfInBounds (o+2) (.int .i64 y)).setIfInBounds (o+3) (.int .i64 z)) o (x,y,z) r:=
 ⟨ar_other (ar_other (ar_same h.1) (by omega)) (by omega),ar_other (ar_other (ar_other h.2.1 (by omega)) (by omega)) (by omega),ar_other (ar_same (ar_other h.2.2.1 (by omega))) (by omega),ar_same (ar_other (ar_other h.2.2.2 (by omega)) (by omega))⟩
theorem ar4_far {cs:Array Value} {o o':Nat} {v:Int × Int × Int} {r:Rw3} (h:Ar4 cs o' v r) (hf:o'+4≤o∨o+4≤o') (x y z:Int):Ar4 (((cs.setIfInBounds o (.int .i64 x)).setIfInBounds (o+2) (.int .i64 y)).setIfInBounds (o+3) (.int .i64 z)) o' v r:=
 ⟨ar_other (ar_other (ar_other h.1 (by omega)) (by omega)) (by omega),ar_other (ar_other (ar_other h.2.1 (by omega)) (by omega)) (by omega),ar_other (ar_other (ar_other h.2.2.1 (by omega)) (by omega)) (by omega),ar_other (ar_other (ar_other h.2.2.2 (by omega)) (by omega)) (by omega)⟩
structure Rp (w:World) (base:Nat) (a:Option Addr) (n:Nat) (f:Nat→Rw3) (V:Nat→Int × Int × Int) (X:Nat→List Int):Prop where
 head:n≠0→∃ g cs,a=some ⟨g,0,none⟩∧¬ Sr f n g∧Blk w g cs 43∧∀ i,i<n→Ar4 cs (i * 4) (V i) (f i)
 rows:∀ i,i<n→OI w base (svR (f i)) (X i)
 apart:∀ i j,i<n→j<n→i≠j→∀ k,(svR (f i)).ownBlock=some k→(svR (f j)).ownBlock≠some k
 hb:n≠0→∀ g,a=some ⟨g,0,none⟩→base≤g
def Sp (a:Option Addr) (f:Nat→Rw3) (n j:Nat):Prop:=Sr f n j∨(n≠0∧∃ g,a=some ⟨g,0,none⟩∧j=g)
theorem Rp.kept {w w':World} {base:Nat} {a:Option Addr} {n:Nat} {f:Nat→Rw3} {V:Nat→Int × Int × Int} {X:Nat→List Int} {S:Nat→Prop} (h:Rp w base a n f V X) (t:Turn S w w') (hs:∀ i,i<n→∀ k,(svR (f i)).ownBlock=some k→¬ S k) (hh:n≠0→∀ g cs,a=some ⟨g,0,none⟩→Blk w g cs 43→¬ S g):Rp w' base a n f V X:=
 ⟨fun hn=>by obtain ⟨g,cs,ha,h1,h2,h3⟩:=h.head hn;exact ⟨g,cs,ha,h1,turn_blk t h2 (hh hn g cs ha h2),h3⟩,fun i hi=>turn_oi t (h.rows i hi) (hs i hi),h.apart,h.hb⟩
theorem Rp.step {wr w1:World} {base g n m:Nat} {f:Nat→Rw3} {V V':Nat→Int × Int × Int} {X X':Nat→List Int} {cs:Array Value} (h:Rp wr base (some ⟨g,0,none⟩) n f V X) (hng:¬ Sr f n g) (hb:Blk wr g cs 43) (hc:∀ i,i<n→Ar4 cs (i * 4) (V i) (f i)) (hm:m<n) (x y z:Int)
 (hV:∀ i,i≠m→V' i=V i) (hVm:V' m=(x,y,z)) (hX:∀ i,i≠m→X' i=X i) (T1:Turn (fun j=>(svR (f m)).ownBlock=some j) (wr.setCell ⟨g,m * 4,none⟩ (.int .i64 x)) w1) (O1:OI w1 base (svR (f m)) (X' m)):
 Rp ((w1.setCell ⟨g,m * 4+2,none⟩ (.int .i64 y)).setCell ⟨g,m * 4+3,none⟩ (.int .i64 z)) base (some ⟨g,0,none⟩) n f V' X':=by
 have T2:Turn (fun j=>j=g) w1 ((w1.setCell ⟨g,m * 4+2,none⟩ (.int .i64 y)).setCell ⟨g,m * 4+3,none⟩ (.int .i64 z)):=(turn_set _ _ _ _).trans (turn_set _ _ _ _)
 have T0:Turn (fun j=>j=g) wr (wr.setCell ⟨g,m * 4,none⟩ (.int .i64 x)):=turn_set _ _ _ _
 have b1:=turn_blk T1 (hb.set (m * 4) (.int .i64 x)) (fun e=>hng ⟨m,hm,e⟩)
 refine ⟨fun _=>⟨g,_,rfl,hng,(b1.set (m * 4+2) _).set (m * 4+3) _,fun i hi=>?_⟩,fun i hi=>?_,h.apart,h.hb⟩
 ·by_cases e:i=m
  ·subst e;rw [hVm];exact ar4_set (hc i hi) x y z
  ·rw [hV i e];exact ar4_far (hc i hi) (by omega) x y z
 ·by_cases e:i=m
  ·subst e
   exact turn_oi T2 O1 (fun k hk s=>hng ⟨i,hi,by rw [← s];exact hk⟩)
  ·rw [hX i e]
   have o0:=turn_oi T0 (h.rows i hi) (fun k hk s=>hng ⟨i,hi,by rw [← s];exact hk⟩)
   have o1:=turn_oi T1 o0 (fun q hq hq'=>h.apart i m hi hm e q hq hq')
   exact turn_oi T2 o1 (fun k hk s=>hng ⟨i,hi,by rw [← s];exact hk⟩)
def Ar8 (cs:Array Value) (o:Nat) (m:Md):Prop:=(∃ u,cs[o]?=some u)∧cs[o+1]?=some (.slice m.ta m.tn m.tc)∧cs[o+2]?=some (.slice m.ba m.bn m.bc)∧cs[o+3]?=some (.slice m.da m.dn m.dc)∧(∃ u,cs[o+4]?=some u)∧cs[o+5]?=some (.slice m.ra m.rn m.rc)∧cs[o+6]?=some (.slice m.ia m.im m.ic)∧cs[o+7]?=some (.slice m.ea m.en m.ec)
theorem ar_ex {cs:Array Value} {i j:Nat} {v:Value} (h:∃ u,cs[j]?=some u):∃ u,(cs.setIfInBounds i v)[j]?=some u:=by
 obtain ⟨u,h⟩:=h
 by_cases e:i=j
 ·subst e;exact ⟨v,ar_same h⟩
 ·exact ⟨u,ar_other h e⟩
theorem ar8_set {cs:Array Value} {o i j:Nat} {m:Md} {v:Value} (h:Ar8 cs (o * 8) m) (hj:j=0∨j=4):Ar8 (cs.setIfInBounds (i * 8+j) v) (o * 8) m:=
 ⟨ar_ex h.1,ar_other h.2.1 (by omega),ar_other h.2.2.1 (by omega),ar_other h.2.2.2.1 (by omega),ar_ex h.2.2.2.2.1,ar_other h.2.2.2.2.2.1 (by omega),ar_other h.2.2.2.2.2.2.1 (by omega),ar_other h.2.2.2.2.2.2.2 (by omega)⟩
structure Rws (S:Nat→Prop) (W:World) (c:Nat) (m:Md) (f:Nat→Rw3):Prop where
 t:Sl S W m.ta m.tn 1
 b:SlB S W m.ba m.bn f
 d:Sl S W m.da m.dn 1
 r:Sl S W m.ra m.rn 1
 i:Sl S W m.ia m.im 1
 e:Sl S W m.ea m.en 3
 g:∀ g o,m.ba=some ⟨g,o,none⟩→g≠c
theorem Rws.kept {S:Nat→Prop} {W W':World} {c:Nat} {m:Md} {f:Nat→Rw3} (h:Rws S W c m f) (k:Mkd S W W'):Rws S W' c m f:=
 ⟨h.t.shp k.shp,h.b.kept k,h.d.shp k.shp,h.r.shp k.shp,h.i.shp k.shp,h.e.shp k.shp,h.g⟩
theorem Rws.set {S:Nat→Prop} {W:World} {c:Nat} {m:Md} {f:Nat→Rw3} (h:Rws S W c m f) (i:Nat) (v:Value):Rws S (W.setCell ⟨c,i,none⟩ v) c m f:=
 have sh:=Shp.set W c i v
 ⟨h.t.shp sh,⟨fun hn=>by obtain ⟨g,o,cs,t,ha,hs,hb,hl⟩:=h.b.head hn;exact ⟨g,o,cs,t,ha,hs,hb.other _ _ (h.g g o ha),hl⟩,fun i hi=>(h.b.rows i hi).shp sh⟩,h.d.shp sh,h.r.shp sh,h.i.shp sh,h.e.shp sh,h.g⟩
structure Mrs (S:Nat→Prop) (W:World) (c n:Nat) (ms:List Md) (F:Nat→Nat→Rw3):Prop where
 nc:¬ S c
 head:∃ cs,Blk W c cs 49∧∀ i,i<n→Ar8 cs (i * 8) (ms.getD i zMd)
 rows:∀ i,i<n→Rws S W c (ms.getD i zMd) (F i)
theorem Mrs.kept {S:Nat→Prop} {W W':World} {c n:Nat} {ms:List Md} {F:Nat→Nat→Rw3} (h:Mrs S W c n ms F) (k:Mkd S W W'):Mrs S W' c n ms F:=
 ⟨h.nc,by obtain ⟨cs,hb,hc⟩:=h.head;exact ⟨cs,turn_blk k.turn hb h.nc,hc⟩,fun i hi=>(h.rows i hi).kept k⟩
theorem Mrs.set {S:Nat→Prop} {W:World} {c n:Nat} {ms:List Md} {F:Nat→Nat→Rw3} (h:Mrs S W c n ms F) (i j:Nat) (hj:j=0∨j=4) (v:Value):Mrs S (W.setCell ⟨c,i * 8+j,none⟩ v) c n ms F:=
 ⟨h.nc,by obtain ⟨cs,hb,hc⟩:=h.head;exact ⟨_,hb.set _ _,fun o ho=>ar8_set (hc o ho) hj⟩,fun o ho=>(h.rows o ho).set _ _⟩
theorem Mrs.at {S:Nat→Prop} {W:World} {c n:Nat} {ms:List Md} {F:Nat→Nat→Rw3} (h:Mrs S W c n ms F) (i:Nat) (hi:i<n):(∃ u,W.cell? ⟨c,i * 8,none⟩=some u)∧W.cell? ⟨c,i * 8+1,none⟩=some (.slice (ms.getD i zMd).ta (ms.getD i zMd).tn (ms.getD i zMd).tc)∧W.cell? ⟨c,i * 8+2,none⟩=some (.slice (ms.getD i zMd).ba (ms.getD i zMd).bn (ms.getD i zMd).bc)∧W.cell? ⟨c,i * 8+3,none⟩=some (.slice (ms.getD i zMd).da (ms.getD i zMd).dn (ms.getD i zMd).dc)∧(∃ u,W.cell? ⟨c,i * 8+4,none⟩=some u)∧W.cell? ⟨c,i * 8+5,none⟩=some (.slice (ms.getD i zMd).ra (ms.getD i zMd).rn (ms.getD i zMd).rc)∧W.cell? ⟨c,i * 8+6,none⟩=some (.slice (ms.getD i zMd).ia (ms.getD i zMd).im (ms.getD i zMd).ic)∧W.cell? ⟨c,i * 8+7,none⟩=some (.slice (ms.getD i zMd).ea (ms.getD i zMd).en (ms.getD i zMd).ec)∧∀ j,W.frozen? ⟨c,j,none⟩=false:=by
 obtain ⟨cs,hb,hc⟩:=h.head
 obtain ⟨⟨u,h0⟩,h1,h2,h3,⟨u4,h4⟩,h5,h6,h7⟩:=hc i hi
 exact ⟨⟨u,(hb.cell _).trans h0⟩,(hb.cell _).trans h1,(hb.cell _).trans h2,(hb.cell _).trans h3,⟨u4,(hb.cell _).trans h4⟩,(hb.cell _).trans h5,(hb.cell _).trans h6,(hb.cell _).trans h7,fun j=>hb.frozen j⟩
end Go.Proofs.YtngdgogjlpjjpadGreat
namespace Go.Proofs.YtngdgogjlpjjpadGreat
open Go.RowKit
set_option linter.unusedVariables false
theorem ob_room2 {w:World} {base g n cap m:Nat} {zs:List Int} (h:OB w base (.slice (some ⟨g,0,none⟩) n cap) zs) (hm:m≤n):Room w g m:=by
 obtain ⟨cur,hb,hn⟩:=ob_room h
 exact ⟨cur,hb,by omega⟩
end Go.Proofs.YtngdgogjlpjjpadGreat
namespace Go.Proofs.YtngdgogjlpjjpadGreat
open Go.RowKit
set_option linter.unusedVariables false
set_option linter.unusedSimpArgs false
set_option maxRecDepth 100000
theorem only_trans {g:Nat} {a b c:World} (h:Only g a b) (k:Only g b c):Only g a c:=⟨k.1.trans h.1,fun j hj=>(k.2.1 j hj).trans (h.2.1 j hj),k.2.2.1.trans h.2.2.1,k.2.2.2.1.trans h.2.2.2.1,k.2.2.2.2.trans h.2.2.2.2⟩
theorem only_turn' {g:Nat} {w w':World} (h:Only g w w'):Turn (fun j=>j=g) w w':=⟨h.2.2.1,h.2.2.2.1,h.2.2.2.2,by rw [h.1];exact Nat.le_refl _,fun k hk hn=>h.2.1 k hn⟩
def pour (zs:List Int) (k:Nat) (ws:List Int):Nat→List Int
 | 0=>zs
 | i+1=>put (pour zs k ws i) (k+4 * i) (ws.getD i 0) 4
theorem pour_len (zs:List Int) (k:Nat) (ws:List Int):∀ i,(pour zs k ws i).length=zs.length
 | 0=>rfl
 | i+1=>by rw [pour,put_len,pour_len zs k ws i]
set_option maxHeartbeats 2000000 in
theorem l5Pour_any (g n cap k:Nat) (a:Option Addr) (wn wc:Nat) (ws zs:List Int) (base:Nat) (w0 w:World) (h0:IS w0 a wn wc ws) (hb:Below w0.heap.size w0 w) (hg:w0.heap.size≤g) (ho:OB w base (.slice (some ⟨g,0,none⟩) n cap) zs) (hn:n≤16384) (hk:k+4 * wn≤n) (hw:∀ i,i<wn→0≤ws.getD i 0∧ws.getD i 0≤4294967295):
 Calls Tryz.prog 70 #[.slice (some ⟨g,0,none⟩) n cap,.int .i64 k,.slice a wn wc] w fun e w'=>e=.returned (.tuple #[])∧OB w' base (.slice (some ⟨g,0,none⟩) n cap) (pour zs k ws wn)∧Only g w w':=by
 have HO:=hide ho
 have HB:=hide hb
 clear ho hb
 go_enter Tryz.func70,Tryz.ntmps70
 go_wp2
 go_loopw [6] (fun i wr=>∃ m:Nat,m≤wn∧i=.int .i64 m∧OB wr base (.slice (some ⟨g,0,none⟩) n cap) (pour zs k ws m)∧Only g w wr) (fun i _=>wn - (intOf i).toNat)
 case atStart=>exact ⟨0,Nat.zero_le _,rfl,HO.out,only_refl _ _⟩
 case round=>
  obtain ⟨m,hm,rfl,O,T⟩:=hrel
  by_cases hlt:m<wn
  ·have hlt':(m:Int)<(wn:Int):=by omega
   obtain ⟨b,off,rfl,hc⟩:=(h0.below (only_below HB.out T hg)).2.2.2.1 (by omega)
   have q:=hc m hlt
   obtain ⟨v0,v1⟩:=hw m hlt
   have HP:=hide (l1Put_any g n cap (k+4 * m) 4 (ws.getD m 0) wr (ob_room O) hn (by omega) (by omega) (by omega) v0 v1)
   have HX:=hide (And.intro (ob_put O (k+4 * m) (ws.getD m 0) 4 (by omega)) (only_trans T (only_put g (k+4 * m) (ws.getD m 0) wr 4)))
   have HE:=hide (show pour zs k ws (m+1)=put (pour zs k ws m) (k+4 * m) (ws.getD m 0) 4 from rfl)
   have hkm:((k+4 * m:Nat):Int)=(k:Int)+4 * (m:Int):=by omega
   rw [hkm] at HP
   clear O T hc
   generalize ws.getD m 0=v at *
   go_wp2_with fail
   refine HP.out.mono ?_
   rintro e w1 ⟨rfl,rfl⟩
   go_wp2
   go_roundw
   case rel=>exact ⟨m+1,by omega,by go_num,by rw [HE.out];exact HX.out.1,HX.out.2⟩
   case measure=>simp [intOf];omega
  ·have e:Hid (m=wn):=by show m=wn;omega
   have HX:=hide (And.intro O T)
   clear O T
   go_wp2
   go_end0
   exact ⟨rfl,by have:=HX.out.1;rw [e.out] at this;exact this,HX.out.2⟩
set_option maxHeartbeats 2000000 in
theorem putWords_any (g n cap k m c:Nat) (a:Option Addr) (wn wc:Nat) (ws zs:List Int) (base:Nat) (w0 w:World) (h0:IS w0 a wn wc ws) (hb:Below w0.heap.size w0 w) (hg:w0.heap.size≤g) (ho:OB w base (.slice (some ⟨g,0,none⟩) n cap) zs) (hn:n≤16384) (hk:k+4 * wn≤n) (hm:4 * wn≤m) (hc:m≤c) (hc2:c≤16384):
 Calls Tryz.prog 154 #[.slice (some ⟨g,k,none⟩) m c,.slice a wn wc] w fun e w'=>e=.returned (.tuple #[])∧OB w' base (.slice (some ⟨g,0,none⟩) n cap) (pour zs k ws wn)∧Only g w w':=by
 have HO:=hide ho
 have HB:=hide hb
 clear ho hb
 go_enter Tryz.func154,Tryz.ntmps154
 go_wp2
 go_loopw [8] (fun i wr=>∃ j:Nat,j≤wn∧i=.int .i64 j∧OB wr base (.slice (some ⟨g,0,none⟩) n cap) (pour zs k ws j)∧Only g w wr) (fun i _=>wn - (intOf i).toNat)
 case atStart=>exact ⟨0,Nat.zero_le _,rfl,HO.out,only_refl _ _⟩
 case round=>
  obtain ⟨j,hj,rfl,O,T⟩:=hrel
  by_cases hlt:j<wn
  ·have hlt':(j:Int)<(wn:Int):=by omega
   obtain ⟨b,off,rfl,hcc⟩:=(h0.below (only_below HB.out T hg)).2.2.2.1 (by omega)
   have q:=hcc j hlt
   have wv:-9223372036854775808≤ws.getD j 0∧ws.getD j 0≤9223372036854775807:=h0.2.2.1 _ (by have:=h0.1;simp [List.getD_eq_getElem?_getD,show j<ws.length by omega])
   have HP:=hide (putBytes_4 g (m - 4 * j) (c - 4 * j) (k+4 * j) (ws.getD j 0) wr (ob_room2 O (by omega)) (by omega) wv)
   have HX:=hide (And.intro (ob_putD4 O (k+4 * j) (ws.getD j 0) (by omega)) (only_trans T (only_putD4 g (k+4 * j) (ws.getD j 0) wr)))
   have HE:=hide (show pour zs k ws (j+1)=put (pour zs k ws j) (k+4 * j) (ws.getD j 0) 4 from rfl)
   have t0:(0:Int)≤4 * (j:Int):=by omega
   have t1:4 * (j:Int)≤(m:Int):=by omega
   have t2:4 * (j:Int)<(c:Int):=by omega
   have t3:(4 * (j:Int)).toNat=4 * j:=by omega
   clear O T hcc wv
   generalize ws.getD j 0=v at *
   go_wp2_with fail
   refine HP.out.mono ?_
   rintro e w1 ⟨rfl,rfl⟩
   go_wp2
   go_roundw
   case rel=>exact ⟨j+1,by omega,by go_num,by rw [HE.out];exact HX.out.1,HX.out.2⟩
   case measure=>simp [intOf];omega
  ·have e:Hid (j=wn):=by show j=wn;omega
   have HX:=hide (And.intro O T)
   clear O T
   go_wp2
   go_end0
   exact ⟨rfl,by have:=HX.out.1;rw [e.out] at this;exact this,HX.out.2⟩
theorem take_eq_succ7 (xs ys:List Int) (k:Nat) (h:xs.take k=ys.take k) (hx:k<xs.length) (hy:k<ys.length) (he:xs.getD k 0=ys.getD k 0):xs.take (k+1)=ys.take (k+1):=by
 rw [List.take_succ_eq_append_getElem hx,List.take_succ_eq_append_getElem hy,h]
 simp [List.getD_eq_getElem?_getD,hx,hy] at he
 rw [he]
set_option maxHeartbeats 1000000 in
theorem l7Bytes_any (a a':Option Addr) (n cap n' cap':Nat) (xs ys:List Int) (w:World) (h:BS w a n cap xs) (h':BS w a' n' cap' ys):
 Calls Tryz.prog 74 #[.slice a n cap,.slice a' n' cap'] w fun e w'=>e=.returned (.bool (decide (xs=ys)))∧Below w.heap.size w w':=by
 obtain ⟨hl,hmx,hr,hc,_⟩:=h
 obtain ⟨hl',hmx',hr',hc',_⟩:=h'
 unfold maxLen at hmx hmx'
 by_cases hn:n=n'
 ·subst hn
  have hne:((n:Int) != (n:Int))=false:=by simp
  by_cases hn0:n=0
  ·subst hn0
   obtain rfl:xs=[]:=List.eq_nil_of_length_eq_zero hl
   obtain rfl:ys=[]:=List.eq_nil_of_length_eq_zero hl'
   clear hc hc'
   go_enter Tryz.func74,Tryz.ntmps74
   go_wp2
   go_loop [5] (fun i=>i=.int .i64 0) (fun _=>0)
   case atStart=>rfl
   case round=>
    obtain rfl:=hrel
    go_wp2
    go_ret
    exact ⟨rfl,Below.refl _ _⟩
  ·obtain ⟨b,off,rfl,hd⟩:=hc hn0
   obtain ⟨b',off',rfl,hd'⟩:=hc' hn0
   clear hc hc'
   go_enter Tryz.func74,Tryz.ntmps74
   go_wp2
   go_loopw [5] (fun i wr=>∃ k:Nat,k≤n∧i=.int .i64 k∧xs.take k=ys.take k∧Below w.heap.size w wr) (fun i _=>n - (intOf i).toNat)
   case atStart=>exact ⟨0,Nat.zero_le _,rfl,by simp,Below.refl _ _⟩
   case round=>
    obtain ⟨k,hk,rfl,hT,hB⟩:=hrel
    by_cases hlt:k<n
    ·have hlt':(k:Int)<(n:Int):=by omega
     have hck:wr.cell? ⟨b,off+k,none⟩=some (.int .u8 (xs.getD k 0)):=(hB.cell (World.block_lt_of_cell? w _ (hd k hlt))).trans (hd k hlt)
     have hck':wr.cell? ⟨b',off'+k,none⟩=some (.int .u8 (ys.getD k 0)):=(hB.cell (World.block_lt_of_cell? w _ (hd' k hlt))).trans (hd' k hlt)
     by_cases he:xs.getD k 0=ys.getD k 0
     ·have hS:=take_eq_succ7 xs ys k hT (by omega) (by omega) he
      have HS:Hid (xs.take (k+1)=ys.take (k+1)):=hS
      rw [he] at hck
      clear hS hT hd hd' he
      generalize ys.getD k 0=z at *
      have hz:(z != z)=false:=by simp
      go_wp2
      go_quiet (fail)
      go_wp2
      go_roundw
      case rel=>exact ⟨k+1,by omega,by go_num,HS.out,below_drewN hB _⟩
      case measure=>simp [intOf];omega
     ·have hf:Hid (decide (xs=ys)=false):=by
       show _=_
       simp
       intro e
       exact he (by rw [e])
      have hz:(xs.getD k 0 != ys.getD k 0)=true:=by simpa using he
      clear hT hd hd' he
      generalize ys.getD k 0=z at *
      generalize xs.getD k 0=z' at *
      go_wp2
      go_quiet (fail)
      go_wp2
      go_ret
      exact ⟨ret_bool hf.out.symm,below_drewN hB _⟩
    ·have hf:Hid (decide (xs=ys)=true):=by
      show _=_
      simp
      rw [List.take_of_length_le (by omega),List.take_of_length_le (by omega)] at hT
      exact hT
     clear hT hd hd'
     go_wp2
     go_ret
     exact ⟨ret_bool hf.out.symm,hB⟩
 ·have hf:Hid (decide (xs=ys)=false):=by
   show _=_
   simp
   intro e
   rw [e] at hl
   omega
  have hne:((n:Int) != (n':Int))=true:=by simp;omega
  clear hc hc'
  go_enter Tryz.func74,Tryz.ntmps74
  go_wp2
  go_ret
  exact ⟨ret_bool hf.out.symm,Below.refl _ _⟩
set_option maxHeartbeats 1000000 in
theorem sameMem_same (a1 a2 a3 b1 b2 b3:Option Addr) (n1 c1 n2 c2 n3 c3 d1 d2 d3:Nat) (x1 x2 x3:List Int) (w:World) (h1:BS w a1 n1 c1 x1) (h2:BS w a2 n2 c2 x2) (h3:BS w a3 n3 c3 x3) (k1:BS w b1 n1 d1 x1) (k2:BS w b2 n2 d2 x2) (k3:BS w b3 n3 d3 x3):
 Calls Tryz.prog 15 #[.agg #[.slice a1 n1 c1,.slice a2 n2 c2,.slice a3 n3 c3],.agg #[.slice b1 n1 d1,.slice b2 n2 d2,.slice b3 n3 d3]] w fun e w'=>e=.returned (.bool true)∧Below w.heap.size w w':=by
 have hB0:Below w.heap.size w ((w.alloc (.cells #[.slice a1 n1 c1,.slice a2 n2 c2,.slice a3 n3 c3] 38)).alloc (.cells #[.slice b1 n1 d1,.slice b2 n2 d2,.slice b3 n3 d3] 38)):=((Below.refl _ _).alloc (Nat.le_refl _) _).alloc (by simp) _
 have kb:=(Blk.new w #[.slice a1 n1 c1,.slice a2 n2 c2,.slice a3 n3 c3] 38).alloc (.cells #[.slice b1 n1 d1,.slice b2 n2 d2,.slice b3 n3 d3] 38)
 have kc:=Blk.new (w.alloc (.cells #[.slice a1 n1 c1,.slice a2 n2 c2,.slice a3 n3 c3] 38)) #[.slice b1 n1 d1,.slice b2 n2 d2,.slice b3 n3 d3] 38
 simp only [World.size_alloc] at kc
 go_enter Tryz.func15,Tryz.ntmps15
 go_wp2_with fail
 refine (l7Bytes_any _ _ _ _ _ _ x1 x1 _ (h1.below hB0) (k1.below hB0)).mono ?_
 rw [decide_eq_true rfl]
 rintro e w1 ⟨rfl,hb1⟩
 have hB1:=hB0.trans (hb1.mono (by simp;omega))
 have kb:=kb.below hb1
 have kc:=kc.below hb1
 obtain ⟨q1,q2,q3,q4⟩:=kb.three
 obtain ⟨p1,p2,p3,p4⟩:=kc.three
 clear hb1 hB0
 go_wp2_with fail
 refine (l7Bytes_any _ _ _ _ _ _ x2 x2 _ (h2.below hB1) (k2.below hB1)).mono ?_
 rw [decide_eq_true rfl]
 rintro e w2 ⟨rfl,hb2⟩
 have hB2:=hB1.trans (hb2.mono hB1.size)
 have kb:=kb.below hb2
 have kc:=kc.below hb2
 clear q1 q2 q3 q4 p1 p2 p3 p4 hb2 hB1
 obtain ⟨q1,q2,q3,q4⟩:=kb.three
 obtain ⟨p1,p2,p3,p4⟩:=kc.three
 go_wp2_with fail
 refine (l7Bytes_any _ _ _ _ _ _ x3 x3 _ (h3.below hB2) (k3.below hB2)).mono ?_
 rw [decide_eq_true rfl]
 rintro e w3 ⟨rfl,hb3⟩
 have hB3:=hB2.trans (hb3.mono hB2.size)
 go_wp2
 go_ret
 exact ⟨rfl,hB3⟩
theorem low_put4 (x:List Int) (k:Nat) (v:Int) (hk:k+4≤x.length):low (((put x k v 4).drop k).take 4)=v % 4294967296:=by
 have e:((put x k v 4).drop k).take 4=[bt v 0,bt v 1,bt v 2,bt v 3]:=by
  apply List.ext_getElem
  ·simp [put_len];omega
  ·intro i h1 h2
   simp at h2
   rw [List.getElem_take,List.getElem_drop]
   have hi:i=0∨i=1∨i=2∨i=3:=by omega
   rcases hi with rfl | rfl | rfl | rfl
   all_goals simp [put,List.getElem_set]
 rw [e]
 simp only [low]
 rw [bt0,bt1,bt2,bt3]
 omega
end Go.Proofs.YtngdgogjlpjjpadGreat
namespace Go.Proofs.YtngdgogjlpjjpadGreat
open Go.RowKit
set_option linter.unusedVariables false
theorem okI_bounds {op d a i:Int} (h:okI op d a i=true):1≤op∧op≤25∧0≤d∧d≤7∧0≤a∧a≤7∧0≤i∧i≤65535:=by
 unfold okI okU at h
 simp at h
 obtain ⟨h0,h1,h2,h3,h4,h5,h6⟩:=h
 have hx:mD (us op)≤7:=by unfold mD;split <;> omega
 have hy:mA (us op)≤7:=by unfold mA;split <;> omega
 have hz:mI (us op)≤65535:=by unfold mI;split <;> omega
 by_cases ho:op≤0∨26≤op
 ·rw [us_out op ho] at h0
  omega
 ·omega
def enc (op d a i:Int):Int:=op * 67108864+d * 8388608+a * 1048576+i
def encV (op d a i:Int):Int:=if okI op d a i then enc op d a i else 0
set_option maxHeartbeats 1000000 in
theorem sEncode_any (op d a i:Int) (w:World):
 Calls Tryz.prog 257 #[.agg #[.int .i64 op,.int .i64 d,.int .i64 a,.int .i64 i]] w fun e w'=>e=.returned (.tuple #[.int .i64 (encV op d a i),.bool (okI op d a i)])∧Below w.heap.size w w':=by
 have kb:=Blk.new w #[.int .i64 op,.int .i64 d,.int .i64 a,.int .i64 i] 124
 have hB0:Below w.heap.size w (w.alloc (.cells #[.int .i64 op,.int .i64 d,.int .i64 a,.int .i64 i] 124)):=(Below.refl _ _).alloc (Nat.le_refl _) _
 have HI:=hide (l3InsOk_any op d a i)
 unfold encV
 cases hk:okI op d a i
 ·rw [hk] at HI
  clear hk
  rw [if_neg (by simp)]
  go_enter Tryz.func257,Tryz.ntmps257
  go_wp2_with fail
  refine (HI.out _).mono ?_
  rintro e w1 ⟨rfl,hb1⟩
  go_wp2
  go_ret2
  exact ⟨rfl,hB0.trans (hb1.mono (by simp))⟩
 ·obtain ⟨h1,h2,h3,h4,h5,h6,h7,h8⟩:=okI_bounds hk
  rw [hk] at HI
  clear hk
  rw [if_pos rfl]
  unfold enc
  go_enter Tryz.func257,Tryz.ntmps257
  go_wp2_with fail
  refine (HI.out _).mono ?_
  rintro e w1 ⟨rfl,hb1⟩
  obtain ⟨p1,p2,p3,p4,p5⟩:=(kb.below hb1).four'
  go_wp2
  go_ret2
  exact ⟨rfl,hB0.trans (hb1.mono (by simp))⟩
def hs (b l o a:Int):Bool:=decide (b≤a∧a<b+(2:Int)^l.toNat∧(o / (2:Int)^((a - b) / ((2:Int)^l.toNat / 8)).toNat) % 2=0)
theorem wrap_i64 {n:Int} (h0:-9223372036854775808≤n) (h1:n≤9223372036854775807):IntKind.i64.wrap n=n:=by
 simp only [IntKind.wrap,IntKind.bits,IntKind.signed]
 simp
 omega
def set6 (w:World) (g o:Nat) (r:Rg):World:=
 (((((w.setCell ⟨g,o,none⟩ (.int .i64 r.1)).setCell ⟨g,o+1,none⟩ (.int .i64 r.2.1)).setCell ⟨g,o+2,none⟩ (.int .i64 r.2.2.1)).setCell ⟨g,o+3,none⟩ (.bool r.2.2.2.1)).setCell ⟨g,o+4,none⟩ (.bool r.2.2.2.2.1)).setCell ⟨g,o+5,none⟩ (.bool r.2.2.2.2.2)
theorem cell_other {w:World} {g o o' b:Nat} {v:Value} (h:b≠g∨o'≠o):(w.setCell ⟨g,o,none⟩ v).cell? ⟨b,o',none⟩=w.cell? ⟨b,o',none⟩:=
 World.cell?_setCell_other _ _ _ _ (by intro e;injection e;rcases h with h | h <;> simp_all)
theorem cell_same {w:World} {g o:Nat} {u v:Value} (h:w.cell? ⟨g,o,none⟩=some u):(w.setCell ⟨g,o,none⟩ v).cell? ⟨g,o,none⟩=some v:=World.cell?_setCell_same _ _ _ h
theorem set6_other (w:World) (g o b o':Nat) (r:Rg) (h:b≠g∨o'<o∨o+6≤o'):(set6 w g o r).cell? ⟨b,o',none⟩=w.cell? ⟨b,o',none⟩:=by
 unfold set6
 rw [cell_other (by omega),cell_other (by omega),cell_other (by omega),cell_other (by omega),cell_other (by omega),cell_other (by omega)]
theorem set6_at {w:World} {g o:Nat} {q:Rg} (h:At6 w g o q) (r:Rg):At6 (set6 w g o r) g o r:=by
 obtain ⟨h1,h2,h3,h4,h5,h6⟩:=h
 unfold set6
 refine ⟨?_,?_,?_,?_,?_,?_⟩
 ·rw [cell_other (by omega),cell_other (by omega),cell_other (by omega),cell_other (by omega),cell_other (by omega)];exact cell_same h1
 ·rw [cell_other (by omega),cell_other (by omega),cell_other (by omega),cell_other (by omega)];exact cell_same (by rw [cell_other (by omega)];exact h2)
 ·rw [cell_other (by omega),cell_other (by omega),cell_other (by omega)];exact cell_same (by rw [cell_other (by omega),cell_other (by omega)];exact h3)
 ·rw [cell_other (by omega),cell_other (by omega)];exact cell_same (by rw [cell_other (by omega),cell_other (by omega),cell_other (by omega)];exact h4)
 ·rw [cell_other (by omega)];exact cell_same (by rw [cell_other (by omega),cell_other (by omega),cell_other (by omega),cell_other (by omega)];exact h5)
 ·exact cell_same (by rw [cell_other (by omega),cell_other (by omega),cell_other (by omega),cell_other (by omega),cell_other (by omega)];exact h6)
theorem set6_far {w:World} {g o b o':Nat} {q:Rg} (h:At6 w b o' q) (r:Rg) (hf:b≠g∨o'+6≤o∨o+6≤o'):At6 (set6 w g o r) b o' q:=by
 unfold At6
 rw [set6_other _ _ _ _ _ _ (by omega),set6_other _ _ _ _ _ _ (by omega),set6_other _ _ _ _ _ _ (by omega),set6_other _ _ _ _ _ _ (by omega),set6_other _ _ _ _ _ _ (by omega),set6_other _ _ _ _ _ _ (by omega)]
 exact h
theorem set6_blk {w:World} {g:Nat} {cur:Array Value} {t:TypeId} (h:Blk w g cur t) (o:Nat) (r:Rg):∃ cur',Blk (set6 w g o r) g cur' t∧cur'.size=cur.size:=
 ⟨_,((((((h.set o _).set (o+1) _).set (o+2) _).set (o+3) _).set (o+4) _).set (o+5) _),by simp⟩
def RowR (w:World) (g:Nat) (rs:List Rg):Prop:=
 (∃ cur,Blk w g cur 135∧cur.size=rs.length * 6)∧∀ i,i<rs.length→At6 w g (i * 6) (rs.getD i z6)
theorem RowR.lt {w:World} {g:Nat} {rs:List Rg} (h:RowR w g rs):g<w.heap.size:=by obtain ⟨⟨cur,hb,_⟩,_⟩:=h;exact hb.lt
theorem RowR.below {w w':World} {g:Nat} {rs:List Rg} (h:RowR w g rs) (hb:Below w.heap.size w w'):RowR w' g rs:=by
 obtain ⟨⟨cur,hc,hs⟩,hr⟩:=h
 exact ⟨⟨cur,hc.below hb,hs⟩,fun i hi=>(hr i hi).below hb⟩
theorem RowR.frozen {w:World} {g:Nat} {rs:List Rg} (h:RowR w g rs) (i:Nat):w.frozen? ⟨g,i,none⟩=false:=by obtain ⟨⟨cur,hb,_⟩,_⟩:=h;exact hb.frozen i
theorem RowR.set {w:World} {g:Nat} {rs:List Rg} (h:RowR w g rs) (i:Nat) (hi:i<rs.length) (r:Rg):RowR (set6 w g (i * 6) r) g (rs.set i r):=by
 obtain ⟨⟨cur,hc,hs⟩,hr⟩:=h
 obtain ⟨cur',hc',hs'⟩:=set6_blk hc (i * 6) r
 refine ⟨⟨cur',hc',by rw [hs',hs,List.length_set]⟩,fun j hj=>?_⟩
 rw [List.length_set] at hj
 by_cases e:i=j
 ·subst e
  have:(rs.set i r).getD i z6=r:=by simp [List.getD_eq_getElem?_getD,hi]
  rw [this]
  exact set6_at (hr i hi) r
 ·have:(rs.set i r).getD j z6=rs.getD j z6:=by simp [List.getD_eq_getElem?_getD,e]
  rw [this]
  exact set6_far (hr j hj) r (by omega)
theorem RowR.rs {w:World} {g:Nat} {rs:List Rg} (h:RowR w g rs) (hm:rs.length≤maxLen) (hw:∀ g ∈ rs,wfi g.1∧wfi g.2.1∧wfi g.2.2.1) (n cap:Nat) (hn:rs.length=n) (hc:n≤cap:=by exact Nat.le_refl _):RS w (some ⟨g,0,none⟩) n cap rs:=by
 subst hn
 exact ⟨rfl,hm,hw,fun _=>⟨g,0,rfl,fun i hi=>by rw [Nat.zero_add];exact h.2 i hi⟩,hc⟩
end Go.Proofs.YtngdgogjlpjjpadGreat
