import Derived.Test.YtngdgogjlpjjpaeGreatP00
import Derived.Test.YtngdgogjlpjjpaeGreatP01
import Derived.Test.YtngdgogjlpjjpaeGreatP02
import Derived.Test.YtngdgogjlpjjpaeGreatP07
import Derived.Test.YtngdgogjlpjjpaeGreatP09
import Derived.Test.YtngdgogjlpjjpaeGreatP10
import Derived.Test.YtngdgogjlpjjpaeGreatP14
import Derived.Test.YtngdgogjlpjjpaeGreatP15
import Derived.Test.YtngdgogjlpjjpaeGreatP13
set_option maxHeartbeats 2000000
namespace Go.Proofs.YtngdgogjlpjjpaeGreat
open Go.RowKit Classical
set_option linter.unusedVariables false
set_option linter.unusedSimpArgs false
set_option maxRecDepth 100000
theorem upS_lt (f:Nat→Nat):∀ n i,i<n→f i+upS f i≤upS f n
 | 0,i,h=>by omega
 | n+1,i,h=>by
   show _≤upS f n+f n
   by_cases e:i=n
   ·subst e;omega
   ·have:=upS_lt f n i (by omega);omega
structure Hd where
 a1:Option Addr
 tn:Nat
 c1:Nat
 a2:Option Addr
 bn:Nat
 c2:Nat
 f:Nat→Option Addr × Nat × Nat
 a3:Option Addr
 dn:Nat
 c3:Nat
 a5:Option Addr
 rn:Nat
 c5:Nat
 a6:Option Addr
 im:Nat
 c6:Nat
 a7:Option Addr
 en:Nat
 c7:Nat
structure Ct where
 nm:ByteArray
 T:List Int
 X:Nat→List Int
 D:List Int
 s:Int
 R:List Int
 I:List ByteArray
 E:List Ex
def zHd:Hd:=⟨none,0,0,none,0,0,fun _=>(none,0,0),none,0,0,none,0,0,none,0,0,none,0,0⟩
def clH (x:Hd × Ct):List Value:=[.string x.2.nm,.slice x.1.a1 x.1.tn x.1.c1,.slice x.1.a2 x.1.bn x.1.c2,.slice x.1.a3 x.1.dn x.1.c3,.int .i64 x.2.s,.slice x.1.a5 x.1.rn x.1.c5,.slice x.1.a6 x.1.im x.1.c6,.slice x.1.a7 x.1.en x.1.c7]
abbrev M6h (W:World)(base:Nat)(x:Hd × Ct):Prop:=M6 W base (.slice x.1.a1 x.1.tn x.1.c1) (.slice x.1.a3 x.1.dn x.1.c3) (.slice x.1.a5 x.1.rn x.1.c5) (.slice x.1.a6 x.1.im x.1.c6) (.slice x.1.a7 x.1.en x.1.c7) x.1.a2 x.1.bn x.1.f x.2.T x.2.X x.2.D x.2.R x.2.I x.2.E
def Sh (h:Hd)(j:Nat):Prop:=(Value.slice h.a1 h.tn h.c1).ownBlock=some j∨Sr h.f h.bn j∨(Value.slice h.a3 h.dn h.c3).ownBlock=some j∨(Value.slice h.a5 h.rn h.c5).ownBlock=some j∨(Value.slice h.a6 h.im h.c6).ownBlock=some j∨(Value.slice h.a7 h.en h.c7).ownBlock=some j
theorem M6h.sh {W:World}{base:Nat}{x:Hd × Ct}(h:M6h W base x){j:Nat}(hj:Sh x.1 j):(base≤j∧j<W.heap.size)∧∃ cs t,Blk W j cs t∧(t=3∨t=5∨t=9∨t=207):=by
 rcases hj with e | e | e | e | e | e
 ·obtain ⟨cs,k⟩:=own_kind h.t.1 e
  exact ⟨h.t.lt j e,cs,_,k,.inl rfl⟩
 ·obtain ⟨cs,k⟩:=h.b.kind e
  exact ⟨h.lt.2.1 j e,cs,_,k,.inl rfl⟩
 ·obtain ⟨cs,k⟩:=own_kind h.d.1 e
  exact ⟨h.d.lt j e,cs,_,k,.inr (.inl rfl)⟩
 ·obtain ⟨cs,k⟩:=own_kind h.r.1 e
  exact ⟨h.r.lt j e,cs,_,k,.inl rfl⟩
 ·obtain ⟨cs,k⟩:=own_kind h.i e
  exact ⟨h.i.lt j e,cs,_,k,.inr (.inr (.inl rfl))⟩
 ·obtain ⟨cs,k⟩:=own_kind h.e e
  exact ⟨h.e.lt j e,cs,_,k,.inr (.inr (.inr rfl))⟩
theorem M6h.no {W:World}{base:Nat}{x:Hd × Ct}(h:M6h W base x){j:Nat}(hj:Sh x.1 j){cs:Array Value}{t:TypeId}(hb:Blk W j cs t)(ht:t≠3∧t≠5∧t≠9∧t≠207):False:=by
 obtain ⟨_,cs',t',kb,h | h | h | h⟩:=h.sh hj
 all_goals
  subst h
  have:=blk_kind hb kb
  simp_all
theorem M6h.kept {S:Nat→Prop}{W W':World}{base:Nat}{x:Hd × Ct}(h:M6h W base x)(t:Turn S W W')(h1:∀ j,Sh x.1 j→¬ S j)(h2:∀ j cs,Blk W j cs 24→¬ S j):M6h W' base x:=
 ⟨turn_oi t h.t (fun k hk=>h1 k (.inl hk)),h.b.kept t (fun i hi k hk=>h1 k (.inr (.inl ⟨i,hi,hk⟩))) (fun _ g cs _ hb=>h2 g cs hb),turn_ob t h.d (fun k hk=>h1 k (.inr (.inr (.inl hk)))),turn_oi t h.r (fun k hk=>h1 k (.inr (.inr (.inr (.inl hk))))),h.i.kept t (fun k hk=>h1 k (.inr (.inr (.inr (.inr (.inl hk)))))),h.e.kept t (fun k hk=>h1 k (.inr (.inr (.inr (.inr (.inr hk)))))),h.tr,h.tb,h.rb⟩
structure OMs (W:World)(base:Nat)(v:Value)(L:List (Hd × Ct))(β:Nat→Nat):Prop where
 o:OG 104 8 clH W base v L
 m:∀ (i:Nat) (x:Hd × Ct),L[i]?=some x→M6h W (β i) x∧∀ j,Sh x.1 j→j<β (i+1)
 mono:∀ i k,i≤k→k≤L.length→β i≤β k
theorem lget_lt {α:Type}{L:List α}{i:Nat}{x:α}(h:L[i]?=some x):i<L.length:=by
 rcases Nat.lt_or_ge i L.length with h' | h'
 ·exact h'
 ·rw [List.getElem?_eq_none h'] at h;simp at h
theorem get_st {α:Type}{L:List α}{x' x:α}{i j:Nat}(h:(L.set i x')[j]?=some x):(j=i∧x=x')∨(j≠i∧L[j]?=some x):=by
 rw [List.getElem?_set] at h
 split at h
 ·rename_i e
  split at h
  ·simp at h;exact .inl ⟨e.symm,h.symm⟩
  ·simp at h
 ·rename_i e
  exact .inr ⟨fun q=>e q.symm,h⟩
theorem OMs.apart {W:World}{base:Nat}{v:Value}{L:List (Hd × Ct)}{β:Nat→Nat}(H:OMs W base v L β){i k:Nat}{x y:Hd × Ct}(hx:L[i]?=some x)(hy:L[k]?=some y)(hik:k≠i):∀ j,Sh y.1 j→¬ Sh x.1 j:=fun j h1 h2=>by
 have li:=lget_lt hx
 have lk:=lget_lt hy
 have a1:=(H.m i x hx).2 j h2
 have a2:=((H.m i x hx).1.sh h2).1.1
 have b1:=(H.m k y hy).2 j h1
 have b2:=((H.m k y hy).1.sh h1).1.1
 rcases Nat.lt_or_gt_of_ne hik with h | h
 ·have:=H.mono (k+1) i h (by omega);omega
 ·have:=H.mono (i+1) k h (by omega);omega
theorem OMs.below {W W':World}{base:Nat}{v:Value}{L:List (Hd × Ct)}{β:Nat→Nat}(H:OMs W base v L β)(hb:Below W.heap.size W W'):OMs W' base v L β:=⟨H.o.below hb,fun i x hx=>⟨(H.m i x hx).1.below hb,(H.m i x hx).2⟩,H.mono⟩
theorem OMs.kept {S:Nat→Prop}{W W':World}{base:Nat}{v:Value}{L:List (Hd × Ct)}{β:Nat→Nat}(H:OMs W base v L β)(t:Turn S W W')(h0:∀ j,v.ownBlock=some j→¬ S j)(h1:∀ (i:Nat) (x:Hd × Ct),L[i]?=some x→∀ j,Sh x.1 j→¬ S j)(h2:∀ j cs,Blk W j cs 24→¬ S j):OMs W' base v L β:=
 ⟨H.o.kept t h0,fun i x hx=>⟨(H.m i x hx).1.kept t (h1 i x hx) h2,(H.m i x hx).2⟩,H.mono⟩
theorem flat_s8 {α:Type}{f:α→List Value}(hf:∀ x,(f x).length=8)(v:Value)(x':α)(j:Nat)(hj:j<8):∀ (L:List α) (i:Nat) (x:α),L[i]?=some x→f x'=(f x).set j v→(L.flatMap f).set (i * 8+j) v=(L.set i x').flatMap f
 | [],i,x,h,e=>by simp at h
 | y :: L,0,x,h,e=>by
   simp at h
   subst h
   rw [List.set_cons_zero,List.flatMap_cons,List.flatMap_cons,e,Nat.zero_mul,Nat.zero_add]
   exact List.set_append_left _ _ (by rw [hf];exact hj)
 | y :: L,i+1,x,h,e=>by
   rw [List.set_cons_succ,List.flatMap_cons,List.flatMap_cons,← flat_s8 hf v x' j hj L i x (by simpa using h) e,List.set_append_right _ _ (by rw [hf];omega)]
   congr 2
   rw [hf]
   omega
theorem flat_e8 {α:Type}{f:α→List Value}(x':α):∀ (L:List α) (i:Nat) (x:α),L[i]?=some x→f x'=f x→(L.set i x').flatMap f=L.flatMap f
 | [],i,x,h,e=>by simp at h
 | y :: L,0,x,h,e=>by
   simp at h
   subst h
   rw [List.set_cons_zero,List.flatMap_cons,List.flatMap_cons,e]
 | y :: L,i+1,x,h,e=>by
   rw [List.set_cons_succ,List.flatMap_cons,List.flatMap_cons,flat_e8 x' L i x (by simpa using h) e]
theorem flat_g8 {α:Type}{f:α→List Value}(hf:∀ x,(f x).length=8):∀ (L:List α) (i:Nat) (x:α),L[i]?=some x→∀ j,j<8→(L.flatMap f)[i * 8+j]?=(f x)[j]?
 | [],i,x,h,j,hj=>by simp at h
 | y :: L,0,x,h,j,hj=>by
   simp at h
   subst h
   rw [List.flatMap_cons,Nat.zero_mul,Nat.zero_add,List.getElem?_append_left (by rw [hf];exact hj)]
 | y :: L,i+1,x,h,j,hj=>by
   rw [List.flatMap_cons,List.getElem?_append_right (by rw [hf];omega),hf,show (i+1) * 8+j - 8=i * 8+j by omega]
   exact flat_g8 hf L i x (by simpa using h) j hj
theorem own_set1 {W:World}{base:Nat}{t:TypeId}{sz g n cap:Nat}{xs:List Value}(h:W.ownsRow base t sz (.slice (some ⟨g,0,none⟩) n cap) n xs)(k:Nat)(v:Value):(W.setCell ⟨g,k,none⟩ v).ownsRow base t sz (.slice (some ⟨g,0,none⟩) n cap) n (xs.set k v):=by
 obtain ⟨hl,⟨h0,_⟩ | ⟨g',cap',cur,hv,hg,hh,h1,h2,h3,h4⟩⟩:=h
 ·simp at h0
 ·simp at hv
  obtain ⟨rfl,rfl⟩:=hv
  refine ⟨by simpa using hl,.inr ⟨g,cap,cur.setIfInBounds k v,rfl,hg,Blk.set (w:=W) hh k v,h1,h2,by simpa using h3,?_⟩⟩
  rw [Array.toList_setIfInBounds,List.take_set,h4]
theorem OMs.mod {W W':World}{base:Nat}{v:Value}{L:List (Hd × Ct)}{β:Nat→Nat}{i:Nat}{h:Hd}{c c':Ct}(H:OMs W base v L β)(hx:L[i]?=some (h,c))(M':M6h W' (β i) (h,c'))(e:clH (h,c')=clH (h,c)){S:Nat→Prop}(hS:∀ j,S j→Sh h j)(T:Turn S W W'):OMs W' base v (L.set i (h,c')) β:=by
 have hX:=H.m i _ hx
 refine ⟨?_,fun k y hy=>?_,by rw [List.length_set];exact H.mono⟩
 ·have o':=H.o.kept T (fun k hk s=>by
   obtain ⟨c1,k1⟩:=own_kind H.o hk
   exact hX.1.no (hS k s) k1 (by decide))
  unfold OG at o' ⊢
  rw [flat_e8 (h,c') L i (h,c) hx e,List.length_set]
  exact o'
 ·rcases get_st hy with ⟨rfl,rfl⟩ | ⟨hk,hy⟩
  ·exact ⟨M',hX.2⟩
  ·exact ⟨(H.m k y hy).1.kept T (fun j hj s=>H.apart hx hy hk j hj (hS j s)) (fun j cs hb s=>hX.1.no (hS j s) hb (by decide)),(H.m k y hy).2⟩
theorem OMs.cell {W:World}{base g n cap:Nat}{L:List (Hd × Ct)}{β:Nat→Nat}{i:Nat}{h:Hd}{c c':Ct}(H:OMs W base (.slice (some ⟨g,0,none⟩) n cap) L β)(hn:L.length=n)(hx:L[i]?=some (h,c))(j:Nat)(hj:j<8)(u:Value)(e:clH (h,c')=(clH (h,c)).set j u)(hM:M6h W (β i) (h,c')):OMs (W.setCell ⟨g,i * 8+j,none⟩ u) base (.slice (some ⟨g,0,none⟩) n cap) (L.set i (h,c')) β:=by
 have T:=turn_set W g (i * 8+j) u
 obtain ⟨cg,kg⟩:=own_kind H.o (k:=g) rfl
 have k1:∀ (y:Hd × Ct) (b:Nat),M6h W b y→M6h (W.setCell ⟨g,i * 8+j,none⟩ u) b y:=fun y b hy=>hy.kept T (fun q hq s=>by
  subst s
  exact hy.no hq kg (by decide)) (fun q cs hb s=>by subst s;exact absurd (blk_kind kg hb) (by decide))
 refine ⟨?_,fun k y hy=>?_,by rw [List.length_set];exact H.mono⟩
 ·have o:=H.o
  unfold OG at o ⊢
  rw [← flat_s8 (fun _=>rfl) u (h,c') j hj L i (h,c) hx e,List.length_set]
  rw [hn] at o ⊢
  exact own_set1 o (i * 8+j) u
 ·rcases get_st hy with ⟨rfl,rfl⟩ | ⟨hk,hy⟩
  ·exact ⟨k1 _ _ hM,(H.m k _ hx).2⟩
  ·exact ⟨k1 _ _ (H.m k y hy).1,(H.m k y hy).2⟩
theorem OMs.at {W:World}{base g n cap:Nat}{L:List (Hd × Ct)}{β:Nat→Nat}{i:Nat}{x:Hd × Ct}(H:OMs W base (.slice (some ⟨g,0,none⟩) n cap) L β)(hx:L[i]?=some x):(W.cell? ⟨g,i * 8,none⟩=some (.string x.2.nm)∧W.cell? ⟨g,i * 8+1,none⟩=some (.slice x.1.a1 x.1.tn x.1.c1)∧W.cell? ⟨g,i * 8+2,none⟩=some (.slice x.1.a2 x.1.bn x.1.c2)∧W.cell? ⟨g,i * 8+3,none⟩=some (.slice x.1.a3 x.1.dn x.1.c3)∧W.cell? ⟨g,i * 8+4,none⟩=some (.int .i64 x.2.s)∧W.cell? ⟨g,i * 8+5,none⟩=some (.slice x.1.a5 x.1.rn x.1.c5)∧W.cell? ⟨g,i * 8+6,none⟩=some (.slice x.1.a6 x.1.im x.1.c6)∧W.cell? ⟨g,i * 8+7,none⟩=some (.slice x.1.a7 x.1.en x.1.c7))∧∀ j,W.frozen? ⟨g,j,none⟩=false:=by
 have k:∀ j,j<8→∀ u,(clH x)[j]?=some u→W.cell? ⟨g,i * 8+j,none⟩=some u:=fun j hj u hu=>by
  have q:=World.ownsRow.cells H.o (g:=g) rfl _ _ ((flat_g8 (fun _=>rfl) L i x hx j hj).trans hu)
  rwa [addr_add,Nat.zero_add] at q
 obtain ⟨cs,kb⟩:=own_kind H.o (k:=g) rfl
 exact ⟨⟨k 0 (by omega) _ rfl,k 1 (by omega) _ rfl,k 2 (by omega) _ rfl,k 3 (by omega) _ rfl,k 4 (by omega) _ rfl,k 5 (by omega) _ rfl,k 6 (by omega) _ rfl,k 7 (by omega) _ rfl⟩,fun j=>kb.frozen j⟩
def cntH (h:Hd):Nat:=2+h.tn+sumB h.f h.bn+h.dn+h.rn+h.im+3 * h.en
def mkC (h:Hd)(k:Nat):Ct:=⟨mtx k,marksI (k+1) h.tn,mrk (k+1+h.tn) h.f,marks (k+1+h.tn+sumB h.f h.bn) h.dn,((k+1+h.tn+sumB h.f h.bn+h.dn:Nat):Int),marksI (k+1+h.tn+sumB h.f h.bn+h.dn+1) h.rn,marksT (k+1+h.tn+sumB h.f h.bn+h.dn+1+h.rn) h.im,marksX (k+1+h.tn+sumB h.f h.bn+h.dn+1+h.rn+h.im) h.en⟩
def BBS (w:World)(a:Option Addr)(n cap:Nat)(bl:List Bk):Prop:=
 bl.length=n∧n≤maxLen∧(n≠0→∃ b off,a=some ⟨b,off,none⟩∧∀ i,i<n→w.cell? ⟨b,off+i,none⟩=some (.slice (bl.getD i zB).1 (bl.getD i zB).2.1 (bl.getD i zB).2.2.1))∧(∀ i,i<n→BS w (bl.getD i zB).1 (bl.getD i zB).2.1 (bl.getD i zB).2.2.1 (bl.getD i zB).2.2.2)∧n≤cap
theorem BBS.below {w w':World}{a:Option Addr}{n cap:Nat}{bl:List Bk}(h:BBS w a n cap bl)(hb:Below w.heap.size w w'):BBS w' a n cap bl:=by
 obtain ⟨h1,h2,h3,h4,h5⟩:=h
 refine ⟨h1,h2,fun hn=>?_,fun i hi=>(h4 i hi).below hb,h5⟩
 obtain ⟨b,off,e,hc⟩:=h3 hn
 exact ⟨b,off,e,fun i hi=>(hb.cell (World.block_lt_of_cell? w _ (hc i hi))).trans (hc i hi)⟩
theorem BBS.addr {w:World}{a:Option Addr}{n cap:Nat}{bl:List Bk}(h:BBS w a n cap bl)(hn:n≠0):∃ b off,a=some ⟨b,off,none⟩:=by
 obtain ⟨b,off,e,_⟩:=h.2.2.1 hn
 exact ⟨b,off,e⟩
theorem BBS.at {w:World}{b off n cap:Nat}{bl:List Bk}(h:BBS w (some ⟨b,off,none⟩) n cap bl)(i:Nat)(hi:i<n):w.cell? ⟨b,off+i,none⟩=some (.slice (bl.getD i zB).1 (bl.getD i zB).2.1 (bl.getD i zB).2.2.1):=by
 obtain ⟨b',off',e,hc⟩:=h.2.2.1 (by omega)
 simp at e
 obtain ⟨rfl,rfl⟩:=e
 exact hc i hi
def RowY (w:World)(g n:Nat)(gs:List Nat)(bl:List Bk):Prop:=
 (∃ cur,Blk w g cur 41∧cur.size=n∧∀ i,i<gs.length→cur[i]?=some (.slice (some ⟨gs.getD i 0,0,none⟩) (bl.getD i zB).2.1 (bl.getD i zB).2.1))∧(∀ i,i<gs.length→Row8 w (gs.getD i 0) (bl.getD i zB).2.2.2∧g<gs.getD i 0)∧(∀ i j,i<j→j<gs.length→gs.getD i 0<gs.getD j 0)
theorem RowY.below {w w':World}{g n:Nat}{gs:List Nat}{bl:List Bk}(h:RowY w g n gs bl)(hb:Below w.heap.size w w'):RowY w' g n gs bl:=by
 obtain ⟨⟨cur,h1,h2,h3⟩,h4,h5⟩:=h
 exact ⟨⟨cur,h1.below hb,h2,h3⟩,fun i hi=>⟨(h4 i hi).1.below hb,(h4 i hi).2⟩,h5⟩
theorem RowY.cell {w:World}{g n:Nat}{gs:List Nat}{bl:List Bk}(h:RowY w g n gs bl)(k:Nat)(hk:k<n):∃ v,w.cell? ⟨g,k,none⟩=some v:=by
 obtain ⟨⟨cur,h1,h2,h3⟩,h4,h5⟩:=h
 refine ⟨cur[k],?_⟩
 rw [h1.cell]
 simp [h2,hk]
theorem RowY.frozen {w:World}{g n:Nat}{gs:List Nat}{bl:List Bk}(h:RowY w g n gs bl)(k:Nat):w.frozen? ⟨g,k,none⟩=false:=by
 obtain ⟨⟨cur,h1,h2,h3⟩,h4,h5⟩:=h
 exact h1.frozen k
theorem RowY.push {w:World}{g n x:Nat}{gs:List Nat}{bl:List Bk}(h:RowY w g n gs bl)(hk:gs.length<n)(hr:Row8 w x (bl.getD gs.length zB).2.2.2)(hx:g<x)(hi:∀ i,i<gs.length→gs.getD i 0<x):
 RowY (w.setCell ⟨g,gs.length,none⟩ (.slice (some ⟨x,0,none⟩) (bl.getD gs.length zB).2.1 (bl.getD gs.length zB).2.1)) g n (gs++[x]) bl:=by
 obtain ⟨⟨cur,h1,h2,h3⟩,h4,h5⟩:=h
 have key:∀ y zs,Row8 w y zs→g≠y→Row8 (w.setCell ⟨g,gs.length,none⟩ (.slice (some ⟨x,0,none⟩) (bl.getD gs.length zB).2.1 (bl.getD gs.length zB).2.1)) y zs:=fun y zs hy hne=>by
  unfold Row8 at *
  rw [heap_setCell_other _ _ _ _ (by dsimp only;omega)]
  exact hy
 refine ⟨⟨_,h1.set gs.length _,by simp [h2],fun i hi'=>?_⟩,fun i hi'=>?_,fun i j hij hj=>?_⟩
 ·simp only [List.length_append,List.length_cons,List.length_nil] at hi'
  by_cases e:i=gs.length
  ·subst e
   rw [getD_snoc]
   simp [h2,hk]
  ·rw [getD_snoc_lt _ _ _ (by omega),← h3 i (by omega)]
   rw [Array.getElem?_setIfInBounds_ne (by omega)]
 ·simp only [List.length_append,List.length_cons,List.length_nil] at hi'
  by_cases e:i=gs.length
  ·subst e
   rw [getD_snoc]
   exact ⟨key _ _ hr (by omega),hx⟩
  ·rw [getD_snoc_lt _ _ _ (by omega)]
   exact ⟨key _ _ (h4 i (by omega)).1 (by have:=(h4 i (by omega)).2;omega),(h4 i (by omega)).2⟩
 ·simp only [List.length_append,List.length_cons,List.length_nil] at hj
  by_cases e:j=gs.length
  ·subst e
   rw [getD_snoc,getD_snoc_lt _ _ _ hij]
   exact hi i hij
  ·rw [getD_snoc_lt _ _ _ (by omega),getD_snoc_lt _ _ _ (by omega)]
   exact h5 i j hij (by omega)
theorem RowY.bbs {w w0:World}{g n cap:Nat}{a:Option Addr}{gs:List Nat}{bl:List Bk}(h:RowY w g n gs bl)(hb:BBS w0 a n cap bl)(hg:gs.length=n):BBS w (some ⟨g,0,none⟩) n n (reb gs bl):=by
 obtain ⟨b1,b2,b3,b4,b5⟩:=hb
 obtain ⟨⟨cur,h1,h2,h3⟩,h4,h5⟩:=h
 refine ⟨by rw [reb_len,b1],b2,fun _=>⟨g,0,rfl,fun i hi=>?_⟩,fun i hi=>?_,Nat.le_refl _⟩
 ·rw [reb_at _ _ _ (by omega),Nat.zero_add,h1.cell]
  exact h3 i (by omega)
 ·rw [reb_at _ _ _ (by omega)]
  obtain ⟨c1,c2,c3,c4,c5⟩:=b4 i hi
  have hr:=(h4 i (by omega)).1
  exact ⟨c1,c2,c3,fun _=>⟨gs.getD i 0,0,rfl,fun j hj=>by rw [Nat.zero_add];exact hr.cell j (by rw [c1];exact hj)⟩,Nat.le_refl _⟩
theorem infoY:(Tryz.prog.info? 41).map (fun i=>(i.zero,i.size,i.bytes))=some (some (.slice none 0 0),1,24):=by kernel_rfl
theorem rowY_of_made {w:World}{base g n:Nat}{bl:List Bk}(h:w.ownsRow base 41 1 (.slice (some ⟨g,0,none⟩) n n) n (madeCells (Value.cells (.slice none 0 0)) (n * 1)).toList):RowY w g n [] bl:=by
 obtain ⟨hl,h | ⟨g',cap,cur,hv,hb,hh,h1,h2,h3,h4⟩⟩:=h
 ·simp at h
 ·simp at hv
  obtain ⟨rfl,rfl⟩:=hv
  exact ⟨⟨cur,hh,by simpa using h3,fun i hi=>by simp at hi⟩,fun i hi=>by simp at hi,fun i j _ hj=>by simp at hj⟩
theorem toByteSS_any (a:Option Addr)(n cap:Nat)(bl:List Bk)(w:World)(h:BBS w a n cap bl)(hn:n≤1048576)(hs:∀ i,i<n→(bl.getD i zB).2.1≤1048576):
 Calls Tryz.prog 36 #[.slice a n cap] w fun e w'=>e=.returned (.slice (some ⟨w.heap.size,0,none⟩) n n)∧(∃ gs,gs.length=n∧RowY w' w.heap.size n gs bl)∧Below w.heap.size w w':=by
 obtain ⟨i0,hi,hz0,hz1,hz2⟩:=info_parts infoY
 have hl:=h.1
 go_enter Tryz.func36,Tryz.ntmps36
 go_wp2_with (at_make;refine wpList_make_full _ rfl _ _ 42 rfl w.heap.size 41 i0 (.slice none 0 0) 1 Tryz.underlying42 hi hz0 hz1 .i64 .i64 _ _ n rfl rfl rfl rfl (by rw [hz2];omega) (by unfold maxLen;omega) (Nat.le_refl _) ?_;intro w1 hown hgr)
 have hrow:RowY w1 w.heap.size n [] bl:=rowY_of_made hown
 have hbel:=below_grown hgr
 clear hown hgr hi hz0 hz1 hz2
 go_loopw [4] (fun i wr=>∃ k:Nat,k≤n∧i=.int .i64 k∧(∃ gs,gs.length=k∧RowY wr w.heap.size n gs bl)∧Below w.heap.size w wr) (fun i _=>n - (intOf i).toNat)
 case atStart=>exact ⟨0,Nat.zero_le _,rfl,⟨[],rfl,hrow⟩,hbel⟩
 case round=>
  obtain ⟨k,hk,rfl,⟨gs,hgs,hR⟩,hB⟩:=hrel
  clear hrow hbel
  by_cases hlt:k<n
  ·have hlt':(k:Int)<(n:Int):=by omega
   obtain ⟨b,off,rfl⟩:=h.addr (by omega)
   have hb':=h.below hB
   have hck:=hb'.at k hlt
   have hik:=hb'.2.2.2.1 k hlt
   have hsk:=hs k hlt
   have HT:=hide (fun w h=>toByteS_any (bl.getD k zB).1 (bl.getD k zB).2.1 (bl.getD k zB).2.2.1 (bl.getD k zB).2.2.2 w h hsk)
   have HP:=hide (fun (W:World) (hW:Below wr.heap.size wr W) (hr:Row8 W wr.heap.size (bl.getD k zB).2.2.2)=>by
    have hp:=RowY.push (hR.below hW) (by omega) (by rw [hgs];exact hr) (by obtain ⟨⟨cur,h1,_⟩,_⟩:=hR;exact h1.lt) (fun i hi=>(hR.2.1 i hi).1.lt)
    rw [hgs] at hp
    exact hp)
   have HF:=hide (fun (W:World) (hW:Below wr.heap.size wr W)=>And.intro ((hR.below hW).cell k hlt) ((hR.below hW).frozen k))
   clear hb' hsk
   generalize (bl.getD k zB).1=xa at *
   generalize (bl.getD k zB).2.1=xn at *
   generalize (bl.getD k zB).2.2.1=xc at *
   generalize (bl.getD k zB).2.2.2=xz at *
   go_wp2_with fail
   refine (HT.out _ hik).mono ?_
   rintro e w2 ⟨rfl,hr2,hb2⟩
   obtain ⟨⟨v0,hv0⟩,hfz⟩:=HF.out _ hb2
   have HS:=hide (HP.out _ hb2 hr2)
   have HB2:=hide ((hB.trans (hb2.mono hB.size)).setCell (p:=⟨w.heap.size,k,none⟩) (Nat.le_refl _) (.slice (some ⟨wr.heap.size,0,none⟩) xn xn))
   clear HP HF hR hik HT hck hr2
   go_wp2
   go_roundw
   case rel=>exact ⟨k+1,by omega,by go_num,⟨gs++[wr.heap.size],by simp [hgs],HS.out⟩,HB2.out⟩
   case measure=>simp [intOf];omega
  ·have e:Hid (k=n):=by show k=n;omega
   go_wp2
   go_ret
   exact ⟨rfl,⟨gs,by rw [hgs,e.out],hR⟩,hB⟩
theorem eqByteSS_same (a a':Option Addr)(n cap cap':Nat)(bl bl':List Bk)(w:World)(h:BBS w a n cap bl)(h':BBS w a' n cap' bl')(hz:∀ i,i<n→(bl'.getD i zB).2.1=(bl.getD i zB).2.1∧(bl'.getD i zB).2.2.2=(bl.getD i zB).2.2.2):
 Calls Tryz.prog 39 #[.slice a n cap,.slice a' n cap'] w fun e w'=>e=.returned (.bool true)∧Below w.heap.size w w':=by
 have hmx:=h.2.1
 unfold maxLen at hmx
 have hne:((n:Int) != (n:Int))=false:=by simp
 go_enter Tryz.func39,Tryz.ntmps39
 go_wp2
 go_loopw [5] (fun i wr=>∃ k:Nat,k≤n∧i=.int .i64 k∧Below w.heap.size w wr) (fun i _=>n - (intOf i).toNat)
 case atStart=>exact ⟨0,Nat.zero_le _,rfl,Below.refl _ _⟩
 case round=>
  obtain ⟨k,hk,rfl,hB⟩:=hrel
  by_cases hlt:k<n
  ·have hlt':(k:Int)<(n:Int):=by omega
   obtain ⟨b,off,rfl⟩:=h.addr (by omega)
   obtain ⟨b',off',rfl⟩:=h'.addr (by omega)
   have q1:=(h.below hB).at k hlt
   have p1:=(h'.below hB).at k hlt
   have i1:=(h.below hB).2.2.2.1 k hlt
   have i2:=(h'.below hB).2.2.2.1 k hlt
   obtain ⟨z1,z2⟩:=hz k hlt
   rw [z1,z2] at i2
   rw [z1] at p1
   clear z1 z2
   generalize (bl.getD k zB).1=xa at *
   generalize (bl.getD k zB).2.1=xn at *
   generalize (bl.getD k zB).2.2.1=xc at *
   generalize (bl.getD k zB).2.2.2=xz at *
   generalize (bl'.getD k zB).1=ya at *
   generalize (bl'.getD k zB).2.2.1=yc at *
   have HE:=hide (fun w h k=>eqByteS_any xa ya xn xc xn yc xz xz w h k)
   rw [decide_eq_true rfl] at HE
   go_wp2
   go_region_held3 (fun w'=>w'.cell? ⟨b,off+k,none⟩=some (.slice xa xn xc)∧w'.cell? ⟨b',off'+k,none⟩=some (.slice ya xn yc)) (go_keep)
    (first
      | (go_at_call 88;refine (HE.out _ (by exact i1) (by exact i2)).mono ?_;rintro e w1 ⟨rfl,hb1⟩;replace hb1:=undrew hb1;obtain ⟨hc1,hf1⟩:=bcell hb1;have hlb:=World.block_lt_of_cell? _ _ q1;have hlb':=World.block_lt_of_cell? _ _ p1))
   clear hc1 hf1 q1 p1
   go_wp2
   go_roundw
   case rel=>exact ⟨k+1,by omega,by go_num,hB.trans (hb1.mono hB.size)⟩
   case measure=>simp [intOf];omega
  ·go_wp2
   go_ret
   exact ⟨rfl,hB⟩
theorem szByteSS_any (a:Option Addr)(n cap:Nat)(bl:List Bk)(l:Int)(w:World)(h:BBS w a n cap bl)(l0:0≤l)(l1:l≤1048576):
 Calls Tryz.prog 35 #[.slice a n cap,.int .i64 l] w fun e w'=>e=.returned (.int .i64 (szR l (n+upS (fun j=>(bl.getD j zB).2.1) n)))∧w=w':=by
 have hm:=h.2.1
 unfold maxLen at hm
 obtain ⟨r,hr⟩:∃ r,r=szR l (n+upS (fun j=>(bl.getD j zB).2.1) n):=⟨_,rfl⟩
 rw [← hr]
 unfold szR at hr
 have HR:=hide hr
 clear hr
 by_cases c1:l<(n:Int)
 ·have e:=hide (show r=-1 from by rw [HR.out,if_pos (by omega)])
  go_enter Tryz.func35,Tryz.ntmps35
  go_wp2
  go_ret
  exact ⟨ret_int e.out.symm,rfl⟩
 ·go_enter Tryz.func35,Tryz.ntmps35
  go_wp2_with fail
  go_loop [1,5] (fun v i=>∃ (k:Nat) (z:Int),k≤n∧i=.int .i64 k∧v=.int .i64 z∧0≤z∧z≤1048576∧Hid (z=l - n - (upS (fun j=>(bl.getD j zB).2.1) k:Nat))) (fun _ i=>n - (intOf i).toNat)
  case atStart=>exact ⟨0,l - n,Nat.zero_le _,rfl,rfl,by omega,by omega,hide (by simp [upS])⟩
  case round=>
   obtain ⟨k,z,hk,rfl,rfl,z0,z1,HZ⟩:=hrel
   by_cases hlt:k<n
   ·have hlt':(k:Int)<(n:Int):=by omega
    obtain ⟨b,off,rfl⟩:=h.addr (by omega)
    have hck:=h.at k hlt
    have hik:=h.2.2.2.1 k hlt
    have hmx:=hik.2.1
    have HS:=hide (fun w=>szByteS_any (bl.getD k zB).1 (bl.getD k zB).2.1 (bl.getD k zB).2.2.1 z w z0 z1 hmx)
    have HU:=hide (show upS (fun j=>(bl.getD j zB).2.1) (k+1)=upS (fun j=>(bl.getD j zB).2.1) k+(bl.getD k zB).2.1 from rfl)
    have HM:=hide (upS_mono (fun j=>(bl.getD j zB).2.1) (k+1) n (by omega))
    clear hik
    generalize (bl.getD k zB).1=xa at *
    generalize hxn:(bl.getD k zB).2.1=xn at *
    generalize (bl.getD k zB).2.2.1=xc at *
    by_cases c2:z<(xn:Int)
    ·rw [if_pos c2] at HS
     have e:=hide (show r=-1 from by
      have h1:=HZ.out;have h2:=HU.out;have h3:=HM.out
      rw [HR.out,if_pos (by omega)])
     go_wp2_with (go_at_call 104;refine (HS.out _).mono ?_;rintro e w1 ⟨rfl,rfl⟩)
     go_ret
     exact ⟨ret_int e.out.symm,rfl⟩
    ·rw [if_neg c2] at HS
     have hz2:¬ z - (xn:Int)<0:=by omega
     go_wp2_with (go_at_call 104;refine (HS.out _).mono ?_;rintro e w1 ⟨rfl,rfl⟩)
     go_round
     case rel=>exact ⟨k+1,z - xn,by omega,by go_num,rfl,by omega,by omega,hide (by have h1:=HZ.out;have h2:=HU.out;omega)⟩
     case measure=>simp [intOf];omega
   ·have e:=hide (show r=z from by
     have h1:=HZ.out
     have hkn:k=n:=by omega
     rw [hkn] at h1
     rw [HR.out,if_neg (by omega)]
     omega)
    go_wp2
    go_ret
    exact ⟨ret_int e.out.symm,rfl⟩
theorem flat_len {α:Type}(f:α → List Value)(sz:Nat)(hf:∀ x,(f x).length=sz):∀ xs:List α,(xs.flatMap f).length=xs.length * sz
 | []=>by simp
 | x :: xs=>by simp only [List.flatMap_cons,List.length_append,List.length_cons,flat_len f sz hf xs,hf x];rw [Nat.add_mul];omega
theorem flat_get {α:Type}(f:α → List Value)(sz:Nat)(hf:∀ x,(f x).length=sz)(z:α):∀ (xs:List α) (i j:Nat),i<xs.length→j<sz→(xs.flatMap f)[i * sz+j]?=(f (xs.getD i z))[j]?
 | [],i,j,h,_=>by simp at h
 | x :: xs,0,j,h,hj=>by simp [List.getElem?_append_left (show j<(f x).length by rw [hf];exact hj)]
 | x :: xs,i+1,j,h,hj=>by
   have ih:=flat_get f sz hf z xs i j (by simpa using h) hj
   have e:(i+1) * sz+j=(f x).length+(i * sz+j):=by rw [hf,Nat.add_mul];omega
   rw [List.flatMap_cons,e,List.getElem?_append_right (by omega),Nat.add_sub_cancel_left,ih]
   simp
theorem take_flat {α:Type}(f:α → List Value)(sz:Nat)(hf:∀ x,(f x).length=sz)(z:α){cs:Array Value}{xs:List α}(h:cs.size=xs.length * sz)(hs:0<sz)(hc:∀ i,i<xs.length→∀ j,j<sz→cs[i * sz+j]?=(f (xs.getD i z))[j]?):cs.toList.take (xs.length * sz)=xs.flatMap f:=by
 apply List.ext_getElem?
 intro k
 by_cases hk:k<xs.length * sz
 ·have e:k=k / sz * sz+k % sz:=by rw [Nat.mul_comm];exact (Nat.div_add_mod k sz).symm
  have h1:k / sz<xs.length:=by rw [Nat.div_lt_iff_lt_mul hs];exact hk
  have h2:k % sz<sz:=Nat.mod_lt _ hs
  rw [List.getElem?_take,if_pos hk,Array.getElem?_toList]
  rw [e,hc _ h1 _ h2,flat_get f sz hf z xs _ _ h1 h2]
 ·rw [List.getElem?_eq_none (by simp;omega),List.getElem?_eq_none (by rw [flat_len f sz hf];omega)]
def RowF {α:Type}(t:TypeId)(sz:Nat)(f:α→List Value)(w:World)(g n:Nat)(F:Nat→α):Prop:=
 ∃ cs,Blk w g cs t∧cs.size=n * sz∧∀ i,i<n→∀ j,j<sz→cs[i * sz+j]?=(f (F i))[j]?
section
variable {α:Type}{t:TypeId}{sz:Nat}{f:α→List Value}{w w':World}{g n:Nat}{F:Nat→α}
theorem RowF.og (h:RowF t sz f w g n F)(hf:∀ x,(f x).length=sz)(hs:0<sz){base:Nat}(hg:base≤g)(hn:n≤maxLen){xs:List α}(hl:xs.length=n)(z:α)(he:∀ i,i<n→F i=xs.getD i z):OG t sz f w base (.slice (some ⟨g,0,none⟩) n n) xs:=by
 obtain ⟨cs,h1,h2,h3⟩:=h
 subst hl
 refine ⟨flat_len f sz hf xs,.inr ⟨g,xs.length,cs,rfl,hg,h1,Nat.le_refl _,hn,h2,take_flat f sz hf z h2 hs (fun i hi j hj=>?_)⟩⟩
 rw [h3 i hi j hj,he i hi]
theorem rowF_made (z0:α)(v:Value)(hv:v.cells.toList=f z0)(hs:sz=v.cells.size){base:Nat}(h:w.ownsRow base t sz (.slice (some ⟨g,0,none⟩) n n) n (madeCells v.cells (n * sz)).toList):RowF t sz f w g n (fun _=>z0):=by
 obtain ⟨hl,h | ⟨g',cap,cur,hv',hb,hh,h1,h2,h3,h4⟩⟩:=h
 ·simp at h
 ·simp at hv'
  obtain ⟨rfl,rfl⟩:=hv'
  have e:cur.toList=(madeCells v.cells (n * sz)).toList:=by
   rw [← h4,List.take_of_length_le (by simp [h3])]
  have e2:cur=madeCells v.cells (n * sz):=Array.toList_inj.1 e
  refine ⟨cur,hh,h3,fun i hi j hj=>?_⟩
  have hlt:i * sz+j<n * sz:=by
   have:(i+1) * sz≤n * sz:=Nat.mul_le_mul_right _ (by omega)
   rw [Nat.add_mul] at this
   omega
  have hm:(i * sz+j) % v.cells.size=j:=by rw [← hs,Nat.mul_comm,Nat.mul_add_mod];exact Nat.mod_eq_of_lt hj
  rw [e2,← hv]
  simp [madeCells,hlt,hm,show j<v.cells.size by omega]
end
section
variable {α β:Type}{th:TypeId}{hs:Nat}{hc:α→List Value}{tr:TypeId}{rs:Nat}{rc:β→List Value}{sv:α→Value}{ct:α→List β}{w w':World}{base g n:Nat}{f:Nat→α}
end
structure LayB (L:Lay):Prop where
 r:LayR L
 p:L.places.length≤4∧∀ x ∈ L.places,x.banks.length≤4
 s:L.slots.length≤4
 t:L.targets.length≤4∧∀ x ∈ L.targets,x.length≤16
theorem layB_zero:LayB L0:=⟨⟨by simp [L0],by simp [L0],by simp [L0]⟩,by simp [L0],by simp [L0],by simp [L0]⟩
theorem lkc_facts {ps:List PMod}{s w k d:Int}(h:lkc ps s w k d=0):cfo s w k d=true∧1≤ps.length∧ps.length≤4∧vlds ps∧imps ps:=by
 unfold lkc at h
 split at h
 ·rename_i h1;exact absurd h h1
 rename_i h1
 split at h
 ·exact absurd h (by decide)
 rename_i h2
 simp at h1
 unfold snd4 at h1
 split at h1
 ·exact absurd h1 (by decide)
 rename_i h3
 split at h1
 ·exact absurd h1 (by decide)
 rename_i h4
 split at h1
 ·exact absurd h1 (by decide)
 rename_i h5
 exact ⟨by simpa using h3,by omega,by omega,Classical.not_not.1 h5,Classical.not_not.1 h2⟩
theorem layB_lay {ps:List PMod}{s w k d:Int}(h:lkc ps s w k d=0):LayB (lay ps s w k):=by
 obtain ⟨hc,h1,h2,hv,_⟩:=lkc_facts h
 unfold cfo at hc
 simp at hc
 obtain ⟨c1,c2,c3,c4,c5,c6,_⟩:=hc
 have hmem:∀ i,i<ps.length→mdoP (ps.getD i zP)=0:=hv
 refine ⟨⟨fun x hx z hz=>?_,fun z hz=>?_,?_,?_,fun x hx=>?_⟩,⟨?_,fun x hx=>?_⟩,?_,⟨?_,fun x hx=>?_⟩⟩
 ·simp only [lay,List.mem_map,List.mem_range] at hx
  obtain ⟨i,hi,rfl⟩:=hx
  simp only [plc,List.mem_map,List.mem_range] at hz
  obtain ⟨q,hq,rfl⟩:=hz
  have a1:=Fl_range hv i (by omega)
  have a2:=fsum_range (hmem i hi) q (by omega)
  have a3:=vld_en (hmem i hi)
  have a4:=rnd_range (x:=4 * ((ps.getD i zP).tz.length:Int)) (by omega)
  have a5:tsz (ps.getD i zP)=rnd (4 * ((ps.getD i zP).tz.length:Int)):=rfl
  rw [a5]
  unfold wfi
  omega
 ·simp only [lay,List.mem_map,List.mem_range] at hz
  obtain ⟨i,hi,rfl⟩:=hz
  have a1:=Ra_range hv ps.length (Nat.le_refl _)
  have a4:=rnd_range (x:=4 * w) (by omega)
  have a5:(0:Int)≤(i:Int) * rnd (4 * w):=Int.mul_nonneg (by omega) (by omega)
  have a6:(i:Int) * rnd (4 * w)≤4 * 287:=Int.mul_le_mul (by omega) (by omega) (by omega) (by omega)
  unfold slt wfi
  omega
 ·simp [lay];omega
 ·simp [lay];omega
 ·simp only [lay,List.mem_map,List.mem_range] at hx
  obtain ⟨i,hi,rfl⟩:=hx
  have a3:=vld_en (hmem i hi)
  simp only [tgs,List.length_map,List.length_range];omega
 ·simp [lay];omega
 ·simp only [lay,List.mem_map,List.mem_range] at hx
  obtain ⟨i,hi,rfl⟩:=hx
  have a3:=vld_en (hmem i hi)
  simp only [plc,List.length_map,List.length_range];omega
 ·simp [lay];omega
 ·simp [lay];omega
 ·simp only [lay,List.mem_map,List.mem_range] at hx
  obtain ⟨i,hi,rfl⟩:=hx
  have a3:=vld_en (hmem i hi)
  simp only [tgs,List.length_map,List.length_range];omega
theorem layB_lk (ps:List PMod)(s w k d:Int):LayB (lkL ps s w k d):=by
 unfold lkL
 by_cases h:lkc ps s w k d=0
 ·rw [if_pos h];exact layB_lay h
 ·rw [if_neg h];exact layB_zero
abbrev SlT:=Bool × Int × Int × Int
abbrev FrT:=Int × Int × Int × Int
def zSl:SlT:=(false,0,0,0)
def zFr:FrT:=(0,0,0,0)
def clSl (x:SlT):List Value:=[.bool x.1,.int .i64 x.2.1,.int .i64 x.2.2.1,.int .i64 x.2.2.2]
def clFr (x:FrT):List Value:=[.int .i64 x.1,.int .i64 x.2.1,.int .i64 x.2.2.1,.int .i64 x.2.2.2]
theorem clSl_len:∀ x:SlT,(clSl x).length=4:=fun x=>rfl
theorem clFr_len:∀ x:FrT,(clFr x).length=4:=fun x=>rfl
def QS {α:Type}(f:α→List Value)(z:α)(w:World)(a:Option Addr)(n cap:Nat)(xs:List α):Prop:=
 xs.length=n∧n≤maxLen∧(n≠0→∃ b off,a=some ⟨b,off,none⟩∧∀ i,i<n→∀ j v,(f (xs.getD i z))[j]?=some v→w.cell? ⟨b,off+i * 4+j,none⟩=some v)∧n≤cap
section
variable {α:Type}{f:α→List Value}{z:α}{w w':World}{a:Option Addr}{n cap:Nat}{xs:List α}
theorem QS.below (h:QS f z w a n cap xs)(hb:Below w.heap.size w w'):QS f z w' a n cap xs:=by
 obtain ⟨h1,h2,h3,h4⟩:=h
 refine ⟨h1,h2,fun hn=>?_,h4⟩
 obtain ⟨b,off,e,hc⟩:=h3 hn
 exact ⟨b,off,e,fun i hi j v hv=>cell_below hb (hc i hi j v hv)⟩
theorem QS.at (h:QS f z w a n cap xs)(i:Nat)(hi:i<n)(v0 v1 v2 v3:Value)(hf:f (xs.getD i z)=[v0,v1,v2,v3]):∃ b off,a=some ⟨b,off,none⟩∧w.cell? ⟨b,off+i * 4,none⟩=some v0∧w.cell? ⟨b,off+i * 4+1,none⟩=some v1∧w.cell? ⟨b,off+i * 4+2,none⟩=some v2∧w.cell? ⟨b,off+i * 4+3,none⟩=some v3:=by
 obtain ⟨b,off,e,hc⟩:=h.2.2.1 (by omega)
 have k:=hc i hi
 rw [hf] at k
 exact ⟨b,off,e,k 0 _ rfl,k 1 _ rfl,k 2 _ rfl,k 3 _ rfl⟩
theorem og_qs {t:TypeId}{base:Nat}(hf:∀ x,(f x).length=4)(h:OG t 4 f w base (.slice a n cap) xs):QS f z w a n cap xs:=by
 obtain ⟨h1,h2,h3,h4⟩:=og_parts h
 refine ⟨h1,h2,fun hn=>?_,h3⟩
 obtain ⟨g,rfl,hc⟩:=h4 hn
 refine ⟨g,0,rfl,fun i hi j v hv=>?_⟩
 have hj:j<4:=by
  rcases Nat.lt_or_ge j 4 with h | h
  ·exact h
  ·rw [List.getElem?_eq_none (by rw [hf];exact h)] at hv;cases hv
 rw [Nat.zero_add]
 exact hc _ _ (by rw [flat_get f 4 hf z xs i j (by omega) hj];exact hv)
end
theorem infoSl:(Tryz.prog.info? 134).map (fun i=>(i.zero,i.size,i.bytes))=some (some (.agg #[.bool false,.int .i64 0,.int .i64 0,.int .i64 0]),4,32):=by kernel_rfl
theorem lyt_of {W:World}{base:Nat}{L:Lay}{a0:Option Addr}{c0:Nat}{xs:List PB}{a2:Option Addr}{c2:Nat}{a5:Option Addr}{c5:Nat}{ts:List TB}(hp:OPl W base base (.slice a0 xs.length c0) xs)(hps:xs.map (fun x=>x.1)=L.places)(hs:OG 3 1 clI W base (.slice a2 L.slots.length c2) L.slots)(ht:OTg W base base (.slice a5 ts.length c5) ts)(htt:ts.map (fun x=>x.1)=L.targets)(R:LayR L)(hv:wfi L.stack∧wfi L.flash∧wfi L.ram):LyT W L a0 c0 xs a2 c2 a5 c5 ts where
 p:=by
  obtain ⟨_,h2,h3,h4⟩:=og_parts hp.head
  refine ⟨rfl,by omega,fun hn=>?_,fun i hi=>?_,by omega⟩
  ·obtain ⟨g,hg,_⟩:=h4 hn
   refine ⟨g,0,hg,fun i hi=>?_⟩
   obtain ⟨g',hg',q1,q2,q3,q4,_⟩:=opl_at hp i hi
   rw [hg] at hg'
   simp at hg'
   subst hg'
   simp only [Nat.zero_add]
   exact ⟨q1,q2,q3,q4⟩
  ·obtain ⟨_,_,_,_,_,_,o⟩:=opl_at hp i hi
   exact og_is o (R.p _ (by rw [← hps];exact List.mem_map.2 ⟨xs.getD i zPB,by simp [List.getD_eq_getElem?_getD,hi],rfl⟩))
 ps:=hps
 s:=og_is hs R.s
 t:=by
  obtain ⟨_,h2,h3,h4⟩:=og_parts ht.head
  refine ⟨rfl,by omega,fun hn=>?_,fun i hi=>?_,by omega⟩
  ·obtain ⟨g,hg,_⟩:=h4 hn
   refine ⟨g,0,hg,fun i hi=>?_⟩
   obtain ⟨g',hg',q1,_⟩:=otg_at ht i hi
   rw [hg] at hg'
   simp at hg'
   subst hg'
   simp only [Nat.zero_add]
   exact q1
  ·obtain ⟨_,_,_,o⟩:=otg_at ht i hi
   obtain ⟨k1,k2,k3,k4⟩:=og_parts o
   refine ⟨k1,by omega,fun hn=>?_,by omega⟩
   obtain ⟨g,hg,_⟩:=k4 hn
   refine ⟨g,0,hg,fun j hj=>?_⟩
   obtain ⟨g',hg',u0,u1,u2⟩:=ogG_at o j hj
   rw [hg] at hg'
   simp at hg'
   subst hg'
   simp only [Nat.zero_add]
   exact ⟨u0,u1,u2⟩
 tt:=htt
 v:=hv
theorem LayO.lyt {W:World}{base:Nat}{L:Lay}{a0:Option Addr}{c0:Nat}{xs:List PB}{a2:Option Addr}{c2:Nat}{a5:Option Addr}{c5:Nat}{ts:List TB}(h:LayO W base L a0 c0 xs a2 c2 a5 c5 ts)(R:LayR L)(hv:wfi L.stack∧wfi L.flash∧wfi L.ram):LyT W L a0 c0 xs a2 c2 a5 c5 ts:=lyt_of h.p h.ps h.s h.t h.tt R hv
theorem lay_v {ps:List PMod}{s w k d:Int}(h:lkc ps s w k d=0):wfi (lay ps s w k).stack∧wfi (lay ps s w k).flash∧wfi (lay ps s w k).ram:=by
 obtain ⟨hc,h1,h2,hv,_⟩:=lkc_facts h
 unfold cfo at hc
 simp at hc
 obtain ⟨c1,c2,c3,c4,c5,c6,_⟩:=hc
 have a1:=Ra_range hv ps.length (Nat.le_refl _)
 have a2:=Fl_range hv ps.length (Nat.le_refl _)
 have a4:=rnd_range (x:=4 * w) (by omega)
 have a5:(0:Int)≤(s.toNat:Int) * rnd (4 * w):=Int.mul_nonneg (by omega) (by omega)
 have a6:(s.toNat:Int) * rnd (4 * w)≤4 * 287:=Int.mul_le_mul (by omega) (by omega) (by omega) (by omega)
 simp only [lay]
 unfold wfi
 omega
theorem lkL_v (ps:List PMod)(s w k d:Int):wfi (lkL ps s w k d).stack∧wfi (lkL ps s w k d).flash∧wfi (lkL ps s w k d).ram:=by
 unfold lkL
 by_cases h:lkc ps s w k d=0
 ·rw [if_pos h];exact lay_v h
 ·rw [if_neg h];unfold L0 wfi;simp
theorem LayO.kept {W W':World}{base:Nat}{L:Lay}{a0:Option Addr}{c0:Nat}{xs:List PB}{a2:Option Addr}{c2:Nat}{a5:Option Addr}{c5:Nat}{ts:List TB}{S:Nat→Prop}(h:LayO W base L a0 c0 xs a2 c2 a5 c5 ts)(t:Turn S W W')(hs:∀ j,base≤j→j<W.heap.size→¬ S j):LayO W' base L a0 c0 xs a2 c2 a5 c5 ts where
 p:=h.p.kept t (fun k hk=>hs k (h.p.lt.1 k hk).1 (h.p.lt.1 k hk).2) (fun x hx k hk=>hs k (h.p.lt.2 x hx k hk).1 (h.p.lt.2 x hx k hk).2)
 ps:=h.ps
 s:=h.s.kept t (fun k hk=>hs k (h.s.lt k hk).1 (h.s.lt k hk).2)
 t:=h.t.kept t (fun k hk=>hs k (h.t.lt.1 k hk).1 (h.t.lt.1 k hk).2) (fun x hx k hk=>hs k (h.t.lt.2 x hx k hk).1 (h.t.lt.2 x hx k hk).2)
 tt:=h.tt
 sp:=h.sp
theorem LayO.below' {W W':World}{base:Nat}{L:Lay}{a0:Option Addr}{c0:Nat}{xs:List PB}{a2:Option Addr}{c2:Nat}{a5:Option Addr}{c5:Nat}{ts:List TB}(h:LayO W base L a0 c0 xs a2 c2 a5 c5 ts)(hb:Below W.heap.size W W'):LayO W' base L a0 c0 xs a2 c2 a5 c5 ts:=h.kept (S:=fun _=>False) (turn_below hb) (fun _ _ _ s=>s)
def Zb (zc:Array Value)(t:TypeId)(W0 X:World)(o:Option Nat):Prop:=Below W0.heap.size W0 X∧∀ g,o=some g→W0.heap.size≤g∧Blk X g zc t
section
variable {zc:Array Value}{t:TypeId}{W0 X Y:World}{o:Option Nat}
theorem zb_new (zc:Array Value)(t:TypeId)(W0:World):Zb zc t W0 W0 none:=⟨Below.refl _ _,fun g e=>by cases e⟩
theorem Zb.below (h:Zb zc t W0 X o)(hb:Below X.heap.size X Y):Zb zc t W0 Y o:=⟨h.1.trans (hb.mono h.1.size),fun g e=>⟨(h.2 g e).1,(h.2 g e).2.below hb⟩⟩
theorem Zb.drew (h:Zb zc t W0 X o):Zb zc t W0 X.drew o:=⟨h.1.drew,fun g e=>⟨(h.2 g e).1,(h.2 g e).2⟩⟩
theorem Zb.box (h:Zb zc t W0 X none):Zb zc t W0 (X.alloc (.cells zc t)) (some X.heap.size):=⟨h.1.alloc h.1.size _,fun g e=>by cases e;exact ⟨h.1.size,Blk.new X zc t⟩⟩
end
section
variable {zc:Array Value}{t:TypeId}{n g:Nat}{ms m:List Md}{W0 X Y:World}{o:Option Nat}
end
section
variable {base:Nat}{L:Lay}{W0 X:World}{gb:Nat}{a0:Option Addr}{c0:Nat}{xs:List PB}{a2:Option Addr}{c2:Nat}{a5:Option Addr}{c5:Nat}{ts:List TB}
end
section
variable {cf:Array Value}{tc:TypeId}{base:Nat}{L:Lay}{w W5 W W':World}{gb:Nat}{a0:Option Addr}{c0:Nat}{xs:List PB}{a2:Option Addr}{c2:Nat}{a5:Option Addr}{c5:Nat}{ts:List TB}
end
end Go.Proofs.YtngdgogjlpjjpaeGreat
namespace Go.Proofs.YtngdgogjlpjjpaeGreat
open Go.RowKit Classical
set_option linter.unusedVariables false
def cells6 (g:Rg):List Value:=[.int .i64 g.1,.int .i64 g.2.1,.int .i64 g.2.2.1,.bool g.2.2.2.1,.bool g.2.2.2.2.1,.bool g.2.2.2.2.2]
def flat (rs:List Rg):List Value:=rs.flatMap cells6
theorem flat6_len:∀ rs:List Rg,(flat rs).length=rs.length * 6
 | []=>rfl
 | g :: rs=>by simp only [flat,List.flatMap_cons,List.length_append];have:=flat6_len rs;simp only [flat] at this;rw [this];simp [cells6];omega
theorem flat6_get:∀ (rs:List Rg) (i j:Nat),i<rs.length→j<6→(flat rs)[i * 6+j]?=(cells6 (rs.getD i z6))[j]?
 | [],i,j,h,_=>absurd h (by simp)
 | g :: rs,0,j,_,hj=>by
   simp only [flat,List.flatMap_cons]
   rw [List.getElem?_append_left (by simp [cells6];omega)]
   simp
 | g :: rs,i+1,j,h,hj=>by
   have hh:=flat6_get rs i j (by simpa using h) hj
   simp only [flat,List.flatMap_cons] at hh ⊢
   rw [List.getElem?_append_right (by simp [cells6];omega)]
   have e:(i+1) * 6+j - (cells6 g).length=i * 6+j:=by simp [cells6];omega
   rw [e,hh]
   simp
def ORg (w:World)(base:Nat)(v:Value)(rs:List Rg):Prop:=w.ownsRow base 158 6 v rs.length (flat rs)∧∀ g ∈ rs,wfi g.1∧wfi g.2.1∧wfi g.2.2.1
theorem or_rs {w:World}{base n cap:Nat}{a:Option Addr}{rs:List Rg}(h:ORg w base (.slice a n cap) rs):RS w a n cap rs:=by
 obtain ⟨hl,⟨h0,h0'⟩ | ⟨g,cap',cur,hv,hg,hh,h1,h2,h3,h4⟩⟩:=h.1
 ·simp at h0
  obtain ⟨rfl,rfl,rfl⟩:=h0
  exact ⟨h0',Nat.zero_le _,h.2,fun hn=>absurd rfl hn,Nat.le_refl _⟩
 ·simp at hv
  obtain ⟨rfl,rfl,rfl⟩:=hv
  refine ⟨rfl,by omega,h.2,fun hn=>⟨g,0,rfl,fun i hi=>?_⟩,h1⟩
  have hc:∀ j,j<6→w.cell? ⟨g,0+i * 6+j,none⟩=(cells6 (rs.getD i z6))[j]?:=by
   intro j hj
   rw [Blk.cell (w:=w) hh]
   have:cur.toList[0+i * 6+j]?=(flat rs)[i * 6+j]?:=by
    rw [← h4,List.getElem?_take,if_pos (by omega),Nat.zero_add]
   rw [Array.getElem?_toList] at this
   rw [this,flat6_get rs i j hi hj]
  exact ⟨hc 0 (by omega),hc 1 (by omega),hc 2 (by omega),hc 3 (by omega),hc 4 (by omega),hc 5 (by omega)⟩
theorem turn_or {S:Nat→Prop}{base:Nat}{w w':World}{v:Value}{rs:List Rg}(t:Turn S w w')(h:ORg w base v rs)(hk:∀ k,base≤k→¬ S k):ORg w' base v rs:=by
 refine ⟨?_,h.2⟩
 obtain ⟨hl,h0 | ⟨g',cap,cur,hv,hg,hh,h1,h2,h3,h4⟩⟩:=h.1
 ·exact ⟨hl,.inl h0⟩
 ·exact ⟨hl,.inr ⟨g',cap,cur,hv,hg,turn_blk t hh (hk g' hg),h1,h2,h3,h4⟩⟩
theorem or_empty (w:World)(base:Nat)(hb:base≤w.heap.size):ORg (w.alloc (.cells #[] 158)) base (.slice (some ⟨w.heap.size,0,none⟩) 0 0) []:=
 ⟨⟨rfl,.inr ⟨w.heap.size,0,#[],rfl,hb,heap_alloc_new w _,Nat.le_refl _,Nat.zero_le _,rfl,rfl⟩⟩,fun _ h=>by cases h⟩
theorem or_shape {w:World}{base n:Nat}{t:TypeId}{sz:Nat}{v:Value}{xs:List Value}(h:w.ownsRow base t sz v n xs):∃ a cap,v=.slice a n cap:=by
 obtain ⟨_,⟨rfl,rfl⟩ | ⟨g,cap,cur,rfl,_⟩⟩:=h
 ·exact ⟨_,_,rfl⟩
 ·exact ⟨_,_,rfl⟩
theorem news6 (w:World)(g:Rg):∀ j u,(cells6 g)[j]?=some u→(w.alloc (.cells #[.int .i64 g.1,.int .i64 g.2.1,.int .i64 g.2.2.1,.bool g.2.2.2.1,.bool g.2.2.2.2.1,.bool g.2.2.2.2.2] 158)).cell? ((⟨w.heap.size,0,none⟩:Addr).add j)=some u:=by
 intro j u hj
 rw [addr_add,Nat.zero_add,Blk.cell (Blk.new w _ _),← hj]
 match j with
 | 0=>rfl
 | 1=>rfl
 | 2=>rfl
 | 3=>rfl
 | 4=>rfl
 | 5=>rfl
 | j+6=>rfl
theorem one6 (g:Rg):∀ u ∈ cells6 g,u.oneCell'=true:=by
 intro u hu
 simp [cells6] at hu
 rcases hu with rfl | rfl | rfl | rfl | rfl | rfl <;> rfl
theorem or_more {W W':World}{base:Nat}{v v':Value}{rs:List Rg}{g:Rg}(hr:∀ g ∈ rs,wfi g.1∧wfi g.2.1∧wfi g.2.2.1)(hw:wfi g.1∧wfi g.2.1∧wfi g.2.2.1)(h:W'.ownsRow base 158 6 v' (rs.length+1) (flat rs++cells6 g)):ORg W' base v' (rs++[g]):=by
 refine ⟨by simpa [flat] using h,fun y hy=>?_⟩
 rcases List.mem_append.1 hy with hy | hy
 ·exact hr y hy
 ·simp at hy;subst hy;exact hw
theorem grown_turn {W W':World}{row:Option Nat}(h:W.grownBy W' row):Turn (fun j=>row=some j) W W':=⟨h.os,h.tape,h.output,h.size,fun k hk hn=>h.block k hk (fun e=>hn e.symm)⟩
end Go.Proofs.YtngdgogjlpjjpaeGreat
