import Derived.Test.YtngdgogjlpjjpaeGreatP02
import Derived.Test.YtngdgogjlpjjpaeGreatP13
import Derived.Test.YtngdgogjlpjjpaeGreatP17
import Derived.Test.YtngdgogjlpjjpaeGreatP19
import Derived.Test.YtngdgogjlpjjpaeGreatP25
import Derived.Test.YtngdgogjlpjjpaeGreatP27
set_option maxHeartbeats 2000000
namespace Go.Proofs.YtngdgogjlpjjpaeGreat
open Go.RowKit Classical
set_option linter.unusedVariables false
set_option linter.unusedSimpArgs false
set_option maxRecDepth 100000
def mkSlot (k i:Nat):SlT:=(decide ((k+4 * i) % 3=0),((k+4 * i+1:Nat):Int),((k+4 * i+2:Nat):Int),((k+4 * i+3:Nat):Int))
theorem markSlotS_some (g n cap base:Nat)(zs:List SlT)(k:Nat)(w:World)(h:OG 134 4 clSl w base (.slice (some ⟨g,0,none⟩) n cap) zs)(hn:n≤1048576)(hk:k≤4194304):
 Calls Tryz.prog 111 #[.slice (some ⟨g,0,none⟩) n cap,.int .i64 k] w fun e w'=>e=.returned (.int .i64 ((k+4 * n:Nat):Int))∧OG 134 4 clSl w' base (.slice (some ⟨g,0,none⟩) n cap) (mrkQ (mkSlot k) n)∧Turn (fun j=>j=g) w w':=by
 have hl:=(og_parts h).1
 go_enter Tryz.func111,Tryz.ntmps111
 go_wp2
 go_loopw [1,5] (fun x i wr=>∃ m:Nat,m≤n∧i=.int .i64 m∧x=.int .i64 ((k+4 * m:Nat):Int)∧OG 134 4 clSl wr base (.slice (some ⟨g,0,none⟩) n cap) (mixQ zSl zs (mkSlot k) m)∧Turn (fun j=>j=g) w wr) (fun _ i _=>n - (intOf i).toNat)
 case atStart=>exact ⟨0,Nat.zero_le _,rfl,rfl,by rw [mixQ_zero];exact h,Turn.refl _ _⟩
 case round=>
  obtain ⟨m,hm,rfl,rfl,O,T⟩:=hrel
  by_cases hlt:m<n
  ·have hlt':(m:Int)<(n:Int):=by omega
   obtain ⟨g',hg',hc⟩:=og4_at clSl_len zSl O m hlt
   simp at hg'
   subst hg'
   have c0:wr.cell? ⟨g,m * 4,none⟩=_:=hc 0 (by omega) _ rfl
   have c1:wr.cell? ⟨g,m * 4+1,none⟩=_:=hc 1 (by omega) _ rfl
   have c2:wr.cell? ⟨g,m * 4+2,none⟩=_:=hc 2 (by omega) _ rfl
   have c3:wr.cell? ⟨g,m * 4+3,none⟩=_:=hc 3 (by omega) _ rfl
   obtain ⟨cur,hb⟩:=own_kind O rfl
   have f0:wr.frozen? ⟨g,m * 4,none⟩=false:=hb.frozen (m * 4)
   have f1:wr.frozen? ⟨g,m * 4+1,none⟩=false:=hb.frozen (m * 4+1)
   have f2:wr.frozen? ⟨g,m * 4+2,none⟩=false:=hb.frozen (m * 4+2)
   have f3:wr.frozen? ⟨g,m * 4+3,none⟩=false:=hb.frozen (m * 4+3)
   have HX:=hide (fun (v0 v1 v2 v3:Value) (hv:clSl (mkSlot k m)=[v0,v1,v2,v3])=>by
    have O2:=og4_set clSl_len O m hlt (mkSlot k m) v0 v1 v2 v3 hv
    rw [mixQ_set zSl zs (mkSlot k) m (by omega)] at O2
    have T2:=(((T.trans (turn_set wr g (m * 4) v0)).trans (turn_set _ g (m * 4+1) v1)).trans (turn_set _ g (m * 4+2) v2)).trans (turn_set _ g (m * 4+3) v3)
    exact And.intro O2 T2)
   clear O T hb hc
   go_wp2
   go_roundw
   case rel=>exact ⟨m+1,by omega,by go_num,by go_num,(HX.out _ _ _ _ (by simp only [clSl,mkSlot,List.cons.injEq,Value.int.injEq,Value.bool.injEq,true_and,and_true];refine ⟨?_,?_,?_,?_⟩ <;> first | rfl | (push_cast;omega) | omega | (rw [Bool.eq_iff_iff];simp only [decide_eq_true_iff,beq_iff_eq];omega))).1,(HX.out _ _ _ _ (by simp only [clSl,mkSlot,List.cons.injEq,Value.int.injEq,Value.bool.injEq,true_and,and_true];refine ⟨?_,?_,?_,?_⟩ <;> first | rfl | (push_cast;omega) | omega | (rw [Bool.eq_iff_iff];simp only [decide_eq_true_iff,beq_iff_eq];omega))).2⟩
   case measure=>simp [intOf];omega
  ·have e:Hid (m=n):=by show m=n;omega
   have HX:=hide (And.intro O T)
   clear O T
   go_wp2
   go_ret
   refine ⟨ret_int (by rw [e.out]),?_,HX.out.2⟩
   have:=HX.out.1
   rw [e.out,← hl,mixQ_all] at this
   rw [hl] at this
   exact this
theorem markSlotS_zero (a:Option Addr)(cap k:Nat)(w:World):
 Calls Tryz.prog 111 #[.slice a 0 cap,.int .i64 k] w fun e w'=>e=.returned (.int .i64 k)∧w=w':=by
 go_enter Tryz.func111,Tryz.ntmps111
 go_wp2
 go_loop [1,5] (fun x i=>i=.int .i64 0∧x=.int .i64 k) (fun _ _=>0)
 case atStart=>exact ⟨rfl,rfl⟩
 case round=>
  obtain ⟨rfl,rfl⟩:=hrel
  go_wp2
  go_ret
  exact ⟨rfl,rfl⟩
theorem markSlotS_any (a:Option Addr)(n cap base:Nat)(zs:List SlT)(k:Nat)(w:World)(h:OG 134 4 clSl w base (.slice a n cap) zs)(hn:n≤1048576)(hk:k≤4194304):
 Calls Tryz.prog 111 #[.slice a n cap,.int .i64 k] w fun e w'=>e=.returned (.int .i64 ((k+4 * n:Nat):Int))∧OG 134 4 clSl w' base (.slice a n cap) (mrkQ (mkSlot k) n)∧Turn (fun j=>(Value.slice a n cap).ownBlock=some j) w w':=by
 by_cases h1:n=0
 ·subst h1
  refine (markSlotS_zero a cap k w).mono fun e w' he=>?_
  obtain ⟨rfl,rfl⟩:=he
  have hz:zs=[]:=List.eq_nil_of_length_eq_zero (og_parts h).1
  subst hz
  exact ⟨rfl,h,Turn.refl _ _⟩
 ·obtain ⟨g,rfl⟩:=og_addr h h1
  refine (markSlotS_some g n cap base zs k w h hn hk).mono fun e w' he=>⟨he.1,he.2.1,he.2.2.mono ?_⟩
  intro j hj
  subst hj
  rfl
theorem heldSlotS_any (a:Option Addr)(n cap base:Nat)(k:Nat)(w:World)(h:OG 134 4 clSl w base (.slice a n cap) (mrkQ (mkSlot k) n))(hn:n≤1048576)(hk:k≤4194304):
 Calls Tryz.prog 115 #[.slice a n cap,.int .i64 k] w fun e w'=>e=.returned (.int .i64 ((k+4 * n:Nat):Int))∧w=w':=by
 have HO:=hide h
 clear h
 go_enter Tryz.func115,Tryz.ntmps115
 go_wp2
 go_loop [1,5] (fun x i=>∃ m:Nat,m≤n∧i=.int .i64 m∧x=.int .i64 ((k+4 * m:Nat):Int)) (fun _ i=>n - (intOf i).toNat)
 case atStart=>exact ⟨0,Nat.zero_le _,rfl,rfl⟩
 case round=>
  obtain ⟨m,hm,rfl,rfl⟩:=hrel
  by_cases hlt:m<n
  ·have hlt':(m:Int)<(n:Int):=by omega
   obtain ⟨g,rfl,hc⟩:=og4_at clSl_len zSl HO.out m hlt
   rw [mrkQ_at zSl (mkSlot k) n m hlt] at hc
   have c0:w.cell? ⟨g,m * 4,none⟩=_:=hc 0 (by omega) _ rfl
   have c1:w.cell? ⟨g,m * 4+1,none⟩=_:=hc 1 (by omega) _ rfl
   have c2:w.cell? ⟨g,m * 4+2,none⟩=_:=hc 2 (by omega) _ rfl
   have c3:w.cell? ⟨g,m * 4+3,none⟩=_:=hc 3 (by omega) _ rfl
   unfold mkSlot at c0 c1 c2 c3
   dsimp only at c0 c1 c2 c3
   obtain ⟨K,hK⟩:∃ K:Nat,K=k+4 * m:=⟨_,rfl⟩
   have HK:=hide hK
   have hKb:K≤8388700:=by omega
   rw [← hK] at c0 c1 c2 c3 ⊢
   clear hK hc
   have e0:(decide (K % 3=0) != decide (K % 3=0))=false:=by first | simp | (simp;omega)
   have e1:((K:Int)+1 != ((K+1:Nat):Int))=false:=by simp
   have e2:((K:Int)+1+1 != ((K+2:Nat):Int))=false:=by simp;omega
   have e3:((K:Int)+1+1+1 != ((K+3:Nat):Int))=false:=by simp;omega
   have e9:((K:Int) % 3 == 0)=decide (K % 3=0):=by rw [Bool.eq_iff_iff];simp only [decide_eq_true_iff,beq_iff_eq];omega
   have e8:(decide (K % 3=0) != ((K:Int) % 3 == 0))=false:=by rw [e9];simp
   go_wp2
   go_round
   case rel=>exact ⟨m+1,by omega,by go_num,by rw [HK.out];go_num⟩
   case measure=>simp [intOf];omega
  ·have e:Hid (m=n):=by show m=n;omega
   go_wp2
   go_ret
   exact ⟨ret_int (by rw [e.out]),rfl⟩
def mkFrame (k i:Nat):FrT:=(((k+4 * i:Nat):Int),((k+4 * i+1:Nat):Int),((k+4 * i+2:Nat):Int),((k+4 * i+3:Nat):Int))
theorem markFrameS_some (g n cap base:Nat)(zs:List FrT)(k:Nat)(w:World)(h:OG 136 4 clFr w base (.slice (some ⟨g,0,none⟩) n cap) zs)(hn:n≤1048576)(hk:k≤4194304):
 Calls Tryz.prog 112 #[.slice (some ⟨g,0,none⟩) n cap,.int .i64 k] w fun e w'=>e=.returned (.int .i64 ((k+4 * n:Nat):Int))∧OG 136 4 clFr w' base (.slice (some ⟨g,0,none⟩) n cap) (mrkQ (mkFrame k) n)∧Turn (fun j=>j=g) w w':=by
 have hl:=(og_parts h).1
 go_enter Tryz.func112,Tryz.ntmps112
 go_wp2
 go_loopw [1,5] (fun x i wr=>∃ m:Nat,m≤n∧i=.int .i64 m∧x=.int .i64 ((k+4 * m:Nat):Int)∧OG 136 4 clFr wr base (.slice (some ⟨g,0,none⟩) n cap) (mixQ zFr zs (mkFrame k) m)∧Turn (fun j=>j=g) w wr) (fun _ i _=>n - (intOf i).toNat)
 case atStart=>exact ⟨0,Nat.zero_le _,rfl,rfl,by rw [mixQ_zero];exact h,Turn.refl _ _⟩
 case round=>
  obtain ⟨m,hm,rfl,rfl,O,T⟩:=hrel
  by_cases hlt:m<n
  ·have hlt':(m:Int)<(n:Int):=by omega
   obtain ⟨g',hg',hc⟩:=og4_at clFr_len zFr O m hlt
   simp at hg'
   subst hg'
   have c0:wr.cell? ⟨g,m * 4,none⟩=_:=hc 0 (by omega) _ rfl
   have c1:wr.cell? ⟨g,m * 4+1,none⟩=_:=hc 1 (by omega) _ rfl
   have c2:wr.cell? ⟨g,m * 4+2,none⟩=_:=hc 2 (by omega) _ rfl
   have c3:wr.cell? ⟨g,m * 4+3,none⟩=_:=hc 3 (by omega) _ rfl
   obtain ⟨cur,hb⟩:=own_kind O rfl
   have f0:wr.frozen? ⟨g,m * 4,none⟩=false:=hb.frozen (m * 4)
   have f1:wr.frozen? ⟨g,m * 4+1,none⟩=false:=hb.frozen (m * 4+1)
   have f2:wr.frozen? ⟨g,m * 4+2,none⟩=false:=hb.frozen (m * 4+2)
   have f3:wr.frozen? ⟨g,m * 4+3,none⟩=false:=hb.frozen (m * 4+3)
   have HX:=hide (fun (v0 v1 v2 v3:Value) (hv:clFr (mkFrame k m)=[v0,v1,v2,v3])=>by
    have O2:=og4_set clFr_len O m hlt (mkFrame k m) v0 v1 v2 v3 hv
    rw [mixQ_set zFr zs (mkFrame k) m (by omega)] at O2
    have T2:=(((T.trans (turn_set wr g (m * 4) v0)).trans (turn_set _ g (m * 4+1) v1)).trans (turn_set _ g (m * 4+2) v2)).trans (turn_set _ g (m * 4+3) v3)
    exact And.intro O2 T2)
   clear O T hb hc
   go_wp2
   go_roundw
   case rel=>exact ⟨m+1,by omega,by go_num,by go_num,(HX.out _ _ _ _ (by simp only [clFr,mkFrame,List.cons.injEq,Value.int.injEq,true_and,and_true];refine ⟨?_,?_,?_,?_⟩ <;> first | rfl | (push_cast;omega) | omega)).1,(HX.out _ _ _ _ (by simp only [clFr,mkFrame,List.cons.injEq,Value.int.injEq,true_and,and_true];refine ⟨?_,?_,?_,?_⟩ <;> first | rfl | (push_cast;omega) | omega)).2⟩
   case measure=>simp [intOf];omega
  ·have e:Hid (m=n):=by show m=n;omega
   have HX:=hide (And.intro O T)
   clear O T
   go_wp2
   go_ret
   refine ⟨ret_int (by rw [e.out]),?_,HX.out.2⟩
   have:=HX.out.1
   rw [e.out,← hl,mixQ_all] at this
   rw [hl] at this
   exact this
theorem markFrameS_zero (a:Option Addr)(cap k:Nat)(w:World):
 Calls Tryz.prog 112 #[.slice a 0 cap,.int .i64 k] w fun e w'=>e=.returned (.int .i64 k)∧w=w':=by
 go_enter Tryz.func112,Tryz.ntmps112
 go_wp2
 go_loop [1,5] (fun x i=>i=.int .i64 0∧x=.int .i64 k) (fun _ _=>0)
 case atStart=>exact ⟨rfl,rfl⟩
 case round=>
  obtain ⟨rfl,rfl⟩:=hrel
  go_wp2
  go_ret
  exact ⟨rfl,rfl⟩
theorem markFrameS_any (a:Option Addr)(n cap base:Nat)(zs:List FrT)(k:Nat)(w:World)(h:OG 136 4 clFr w base (.slice a n cap) zs)(hn:n≤1048576)(hk:k≤4194304):
 Calls Tryz.prog 112 #[.slice a n cap,.int .i64 k] w fun e w'=>e=.returned (.int .i64 ((k+4 * n:Nat):Int))∧OG 136 4 clFr w' base (.slice a n cap) (mrkQ (mkFrame k) n)∧Turn (fun j=>(Value.slice a n cap).ownBlock=some j) w w':=by
 by_cases h1:n=0
 ·subst h1
  refine (markFrameS_zero a cap k w).mono fun e w' he=>?_
  obtain ⟨rfl,rfl⟩:=he
  have hz:zs=[]:=List.eq_nil_of_length_eq_zero (og_parts h).1
  subst hz
  exact ⟨rfl,h,Turn.refl _ _⟩
 ·obtain ⟨g,rfl⟩:=og_addr h h1
  refine (markFrameS_some g n cap base zs k w h hn hk).mono fun e w' he=>⟨he.1,he.2.1,he.2.2.mono ?_⟩
  intro j hj
  subst hj
  rfl
theorem heldFrameS_any (a:Option Addr)(n cap base:Nat)(k:Nat)(w:World)(h:OG 136 4 clFr w base (.slice a n cap) (mrkQ (mkFrame k) n))(hn:n≤1048576)(hk:k≤4194304):
 Calls Tryz.prog 116 #[.slice a n cap,.int .i64 k] w fun e w'=>e=.returned (.int .i64 ((k+4 * n:Nat):Int))∧w=w':=by
 have HO:=hide h
 clear h
 go_enter Tryz.func116,Tryz.ntmps116
 go_wp2
 go_loop [1,5] (fun x i=>∃ m:Nat,m≤n∧i=.int .i64 m∧x=.int .i64 ((k+4 * m:Nat):Int)) (fun _ i=>n - (intOf i).toNat)
 case atStart=>exact ⟨0,Nat.zero_le _,rfl,rfl⟩
 case round=>
  obtain ⟨m,hm,rfl,rfl⟩:=hrel
  by_cases hlt:m<n
  ·have hlt':(m:Int)<(n:Int):=by omega
   obtain ⟨g,rfl,hc⟩:=og4_at clFr_len zFr HO.out m hlt
   rw [mrkQ_at zFr (mkFrame k) n m hlt] at hc
   have c0:w.cell? ⟨g,m * 4,none⟩=_:=hc 0 (by omega) _ rfl
   have c1:w.cell? ⟨g,m * 4+1,none⟩=_:=hc 1 (by omega) _ rfl
   have c2:w.cell? ⟨g,m * 4+2,none⟩=_:=hc 2 (by omega) _ rfl
   have c3:w.cell? ⟨g,m * 4+3,none⟩=_:=hc 3 (by omega) _ rfl
   unfold mkFrame at c0 c1 c2 c3
   dsimp only at c0 c1 c2 c3
   obtain ⟨K,hK⟩:∃ K:Nat,K=k+4 * m:=⟨_,rfl⟩
   have HK:=hide hK
   have hKb:K≤8388700:=by omega
   rw [← hK] at c0 c1 c2 c3 ⊢
   clear hK hc
   have e0:((K:Int) != (K:Int))=false:=by first | simp | (simp;omega)
   have e1:((K:Int)+1 != ((K+1:Nat):Int))=false:=by simp
   have e2:((K:Int)+1+1 != ((K+2:Nat):Int))=false:=by simp;omega
   have e3:((K:Int)+1+1+1 != ((K+3:Nat):Int))=false:=by simp;omega
   go_wp2
   go_round
   case rel=>exact ⟨m+1,by omega,by go_num,by rw [HK.out];go_num⟩
   case measure=>simp [intOf];omega
  ·have e:Hid (m=n):=by show m=n;omega
   go_wp2
   go_ret
   exact ⟨ret_int (by rw [e.out]),rfl⟩
def ShL (hs:List Hd)(j:Nat):Prop:=∃ i,i<hs.length∧Sh (hs.getD i zHd) j
structure MnO (W:World)(base:Nat)(v0:Value)(hs:List Hd)(L:List (Hd × Ct))(β:Nat→Nat)(v1 vf vr vo vl vh:Value)(K F R O:List Int)(S:List SlT)(H:List FrT):Prop where
 m:OMs W base v0 L β
 e:L.map (fun x=>x.1)=hs
 k:OI W base v1 K
 q:OM W base vf vr vo F R O
 l:OG 134 4 clSl W base vl S
 h:OG 136 4 clFr W base vh H
 km:∀ j,v1.ownBlock=some j→¬ ShL hs j
 qm:∀ j,Blks vf vr vo j→¬ ShL hs j
 lo:∀ (i:Nat) (x:Hd × Ct),L[i]?=some x→base≤β i
section
variable {W W':World}{base:Nat}{v0:Value}{hs:List Hd}{L L':List (Hd × Ct)}{β:Nat→Nat}{v1 vf vr vo vl vh:Value}{K F R O K' F' R' O':List Int}{S S':List SlT}{H H':List FrT}
theorem MnO.below (h:MnO W base v0 hs L β v1 vf vr vo vl vh K F R O S H)(hb:Below W.heap.size W W'):MnO W' base v0 hs L β v1 vf vr vo vl vh K F R O S H:=⟨h.m.below hb,h.e,h.k.below hb,h.q.below hb,h.l.below hb,h.h.below hb,h.km,h.qm,h.lo⟩
theorem shl_at (h:MnO W base v0 hs L β v1 vf vr vo vl vh K F R O S H){j:Nat}(hj:ShL hs j):∃ (i:Nat) (x:Hd × Ct),L[i]?=some x∧Sh x.1 j:=by
 obtain ⟨i,hi,hj⟩:=hj
 obtain ⟨c,hc⟩:=hs_at h.e hi
 exact ⟨i,_,hc,hj⟩
theorem MnO.no (h:MnO W base v0 hs L β v1 vf vr vo vl vh K F R O S H){j:Nat}(hj:ShL hs j){cs:Array Value}{t:TypeId}(hb:Blk W j cs t)(ht:t≠3∧t≠5∧t≠9∧t≠207):False:=by
 obtain ⟨i,x,hx,hs⟩:=shl_at h hj
 exact (h.m.m i x hx).1.no hs hb ht
theorem blks_kind {f r o:Value}{x1 x2 x3:List Int}(h:OM W base f r o x1 x2 x3){j:Nat}(hj:Blks f r o j):∃ cs,Blk W j cs 5:=by
 rcases hj with e | e | e
 ·exact own_kind h.o1.1 e
 ·exact own_kind h.o2.1 e
 ·exact own_kind h.o3.1 e
theorem MnO.mods (h:MnO W base v0 hs L β v1 vf vr vo vl vh K F R O S H)(M:OMs W' base v0 L' β)(e:L'.map (fun x=>x.1)=hs)(T:Turn (fun j=>v0.ownBlock=some j∨ShL hs j) W W'):MnO W' base v0 hs L' β v1 vf vr vo vl vh K F R O S H:=by
 have hd:∀ {j:Nat} {cs:Array Value} {t:TypeId},Blk W j cs t→t≠104→v0.ownBlock≠some j:=fun hb hne e=>by
  obtain ⟨c,k⟩:=own_kind h.m.o e
  exact hne (blk_kind hb k)
 refine ⟨M,e,turn_oi T h.k (fun k hk s=>?_),h.q.kept T (fun j hj s=>?_),h.l.kept T (fun k hk s=>?_),h.h.kept T (fun k hk s=>?_),h.km,h.qm,fun i x hx=>?_⟩
 ·obtain ⟨c,kb⟩:=own_kind h.k.1 hk
  rcases s with s | s
  ·exact hd kb (by decide) s
  ·exact h.km k hk s
 ·obtain ⟨c,kb⟩:=blks_kind h.q hj
  rcases s with s | s
  ·exact hd kb (by decide) s
  ·exact h.qm j hj s
 ·obtain ⟨c,kb⟩:=own_kind h.l hk
  rcases s with s | s
  ·exact hd kb (by decide) s
  ·exact h.no s kb (by decide)
 ·obtain ⟨c,kb⟩:=own_kind h.h hk
  rcases s with s | s
  ·exact hd kb (by decide) s
  ·exact h.no s kb (by decide)
 ·have hl:L.length=L'.length:=by have q:=congrArg List.length (h.e.trans e.symm);simpa using q
  exact h.lo i _ (List.getElem?_eq_getElem (by have:=lget_lt hx;omega))
theorem OMs.far (M:OMs W base v0 L β)(e:L.map (fun x=>x.1)=hs){Q:Nat→Prop}(T:Turn Q W W')(h1:∀ j,Q j→¬ ShL hs j)(h2:∀ j,Q j→∃ cs t,Blk W j cs t∧t≠104∧t≠24):OMs W' base v0 L β:=
 M.kept T (fun j hj s=>by
  obtain ⟨cs,t,kb,n1,_⟩:=h2 j s
  obtain ⟨c,k⟩:=own_kind M.o hj
  exact n1 (blk_kind kb k)) (fun i x hx j hj s=>h1 j s ⟨i,by rw [← e,List.length_map];exact lget_lt hx,by rw [← e];simp [List.getD_eq_getElem?_getD,hx];exact hj⟩) (fun j cs hb s=>by
  obtain ⟨cs',t,kb,_,n2⟩:=h2 j s
  exact n2 (blk_kind kb hb))
theorem MnO.core (h:MnO W base v0 hs L β v1 vf vr vo vl vh K F R O S H)(k':OI W' base v1 K')(T:Turn (fun j=>v1.ownBlock=some j) W W'):MnO W' base v0 hs L β v1 vf vr vo vl vh K' F R O S H:=by
 have kd:∀ {j:Nat} {cs:Array Value} {t:TypeId},Blk W j cs t→t≠3→v1.ownBlock≠some j:=fun hb hne e=>by
  obtain ⟨c,k⟩:=own_kind h.k.1 e
  exact hne (blk_kind hb k)
 refine ⟨h.m.far h.e T h.km (fun j hj=>?_),h.e,k',h.q.kept T (fun j hj s=>?_),h.l.kept T (fun k hk s=>?_),h.h.kept T (fun k hk s=>?_),h.km,h.qm,h.lo⟩
 ·obtain ⟨c,kb⟩:=own_kind h.k.1 hj
  exact ⟨c,_,kb,by decide,by decide⟩
 ·obtain ⟨c,kb⟩:=blks_kind h.q hj
  exact kd kb (by decide) s
 ·obtain ⟨c,kb⟩:=own_kind h.l hk
  exact kd kb (by decide) s
 ·obtain ⟨c,kb⟩:=own_kind h.h hk
  exact kd kb (by decide) s
theorem MnO.mem (h:MnO W base v0 hs L β v1 vf vr vo vl vh K F R O S H)(q':OM W' base vf vr vo F' R' O')(T:Turn (Blks vf vr vo) W W'):MnO W' base v0 hs L β v1 vf vr vo vl vh K F' R' O' S H:=by
 have kd:∀ {j:Nat} {cs:Array Value} {t:TypeId},Blk W j cs t→t≠5→¬ Blks vf vr vo j:=fun hb hne e=>by
  obtain ⟨c,k⟩:=blks_kind h.q e
  exact hne (blk_kind hb k)
 refine ⟨h.m.far h.e T h.qm (fun j hj=>?_),h.e,turn_oi T h.k (fun k hk s=>?_),q',h.l.kept T (fun k hk s=>?_),h.h.kept T (fun k hk s=>?_),h.km,h.qm,h.lo⟩
 ·obtain ⟨c,kb⟩:=blks_kind h.q hj
  exact ⟨c,_,kb,by decide,by decide⟩
 ·obtain ⟨c,kb⟩:=own_kind h.k.1 hk
  exact kd kb (by decide) s
 ·obtain ⟨c,kb⟩:=own_kind h.l hk
  exact kd kb (by decide) s
 ·obtain ⟨c,kb⟩:=own_kind h.h hk
  exact kd kb (by decide) s
theorem MnO.slot (h:MnO W base v0 hs L β v1 vf vr vo vl vh K F R O S H)(l':OG 134 4 clSl W' base vl S')(T:Turn (fun j=>vl.ownBlock=some j) W W'):MnO W' base v0 hs L β v1 vf vr vo vl vh K F R O S' H:=by
 have kd:∀ {j:Nat} {cs:Array Value} {t:TypeId},Blk W j cs t→t≠134→vl.ownBlock≠some j:=fun hb hne e=>by
  obtain ⟨c,k⟩:=own_kind h.l e
  exact hne (blk_kind hb k)
 refine ⟨h.m.far h.e T (fun j hj s=>?_) (fun j hj=>?_),h.e,turn_oi T h.k (fun k hk s=>?_),h.q.kept T (fun j hj s=>?_),l',h.h.kept T (fun k hk s=>?_),h.km,h.qm,h.lo⟩
 ·obtain ⟨c,kb⟩:=own_kind h.l hj
  exact h.no s kb (by decide)
 ·obtain ⟨c,kb⟩:=own_kind h.l hj
  exact ⟨c,_,kb,by decide,by decide⟩
 ·obtain ⟨c,kb⟩:=own_kind h.k.1 hk
  exact kd kb (by decide) s
 ·obtain ⟨c,kb⟩:=blks_kind h.q hj
  exact kd kb (by decide) s
 ·obtain ⟨c,kb⟩:=own_kind h.h hk
  exact kd kb (by decide) s
theorem MnO.frame (h:MnO W base v0 hs L β v1 vf vr vo vl vh K F R O S H)(h':OG 136 4 clFr W' base vh H')(T:Turn (fun j=>vh.ownBlock=some j) W W'):MnO W' base v0 hs L β v1 vf vr vo vl vh K F R O S H':=by
 have kd:∀ {j:Nat} {cs:Array Value} {t:TypeId},Blk W j cs t→t≠136→vh.ownBlock≠some j:=fun hb hne e=>by
  obtain ⟨c,k⟩:=own_kind h.h e
  exact hne (blk_kind hb k)
 refine ⟨h.m.far h.e T (fun j hj s=>?_) (fun j hj=>?_),h.e,turn_oi T h.k (fun k hk s=>?_),h.q.kept T (fun j hj s=>?_),h.l.kept T (fun k hk s=>?_),h',h.km,h.qm,h.lo⟩
 ·obtain ⟨c,kb⟩:=own_kind h.h hj
  exact h.no s kb (by decide)
 ·obtain ⟨c,kb⟩:=own_kind h.h hj
  exact ⟨c,_,kb,by decide,by decide⟩
 ·obtain ⟨c,kb⟩:=own_kind h.k.1 hk
  exact kd kb (by decide) s
 ·obtain ⟨c,kb⟩:=blks_kind h.q hj
  exact kd kb (by decide) s
 ·obtain ⟨c,kb⟩:=own_kind h.l hk
  exact kd kb (by decide) s
end
theorem w64in (n:Int)(h:-9223372036854775808≤n∧n≤9223372036854775807):wrap64 n=n:=by unfold wrap64;omega
theorem lkc_all {ps:List PMod}{s w k d:Int}:lkc ps s w k d=0 ↔ cfo s w k d=true∧1≤ps.length∧ps.length≤4∧vlds ps∧nms ps∧imps ps∧(0<s→shrt ps w)∧(lay ps s w k).flash≤16384∧(lay ps s w k).ram≤16384:=by
 constructor
 ·intro h
  unfold lkc snd4 at h
  by_cases c1:cfo s w k d=false
  ·rw [if_pos c1] at h;simp at h
  rw [if_neg c1] at h
  by_cases c2:ps.length<1∨4<ps.length
  ·rw [if_pos c2] at h;simp at h
  rw [if_neg c2] at h
  by_cases c3:¬ vlds ps
  ·rw [if_pos c3] at h;simp at h
  rw [if_neg c3] at h
  by_cases c4:¬ nms ps
  ·rw [if_pos c4] at h;simp at h
  rw [if_neg c4,if_neg (by simp)] at h
  by_cases c5:¬ imps ps
  ·rw [if_pos c5] at h;simp at h
  rw [if_neg c5] at h
  by_cases c6:0<s∧¬ shrt ps w
  ·rw [if_pos c6] at h;simp at h
  rw [if_neg c6] at h
  by_cases c7:16384<(lay ps s w k).flash
  ·rw [if_pos c7] at h;simp at h
  rw [if_neg c7] at h
  by_cases c8:16384<(lay ps s w k).ram
  ·rw [if_pos c8] at h;simp at h
  exact ⟨by simpa using c1,by omega,by omega,Classical.not_not.1 c3,Classical.not_not.1 c4,Classical.not_not.1 c5,fun h=>Classical.not_not.1 (fun e=>c6 ⟨h,e⟩),by omega,by omega⟩
 ·rintro ⟨h1,h2,h3,h4,h5,h6,h7,h8,h9⟩
  have e0:snd4 ps s w k d=0:=by unfold snd4;rw [if_neg (by simp [h1]),if_neg (by omega),if_neg (fun e=>e h4),if_neg (fun e=>e h5)]
  unfold lkc
  rw [if_neg (by rw [e0];simp),if_neg (fun e=>e h6),if_neg (fun e=>e.2 (h7 e.1)),if_neg (by omega),if_neg (by omega)]
theorem lay_w {ps:List PMod}{s w w' k:Int}(h:s=0∨rnd (4 * w)=rnd (4 * w')):lay ps s w k=lay ps s w' k:=by
 rcases h with rfl | h
 ·simp [lay]
 ·have e:slt ps w k=slt ps w' k:=by funext i;unfold slt;rw [h]
  unfold lay
  rw [h,e]
theorem lok_lk {ps:List PMod}{s w k d:Int}(h:lkc ps s w k d=0):Lok ps (lay ps s w k):=by
 obtain ⟨h1,h2,h3,h4,h5,h6,h7,h8,h9⟩:=lkc_all.1 h
 have hc:=h1
 unfold cfo at hc
 simp at hc
 obtain ⟨s0,s1,w0,w1,k0,k1,k2,d0,d1⟩:=hc
 have a1:=Ra_range h4 ps.length (Nat.le_refl _)
 have a4:=rnd_range (x:=4 * w) (by omega)
 have hr:(lay ps s w k).ram=Ra ps ps.length+k+(s.toNat:Int) * rnd (4 * w):=rfl
 have ht:(lay ps s w k).stack=65536+Ra ps ps.length:=rfl
 have hl:(lay ps s w k).slots.length=s.toNat:=by simp [lay]
 have main:∀ w',cfW (lay ps s w k)=w'→(s=0∨rnd (4 * w)=rnd (4 * w'))→1≤w'→w'≤64→(0<s→w≤w')→cfK (lay ps s w k)=k→Lok ps (lay ps s w k):=by
  intro w' e1 e2 e3 e4 e5 e6
  have el:=lay_w (ps:=ps) (k:=k) e2
  have hs:((s.toNat:Nat):Int)=s:=by omega
  have hz:lkc ps s w' k 0=0:=lkc_all.2 ⟨by unfold cfo;simp;omega,h2,h3,h4,h5,h6,fun hs i hi j hj=>Int.le_trans (h7 hs i hi j hj) (e5 hs),by rw [← el];exact h8,by rw [← el];exact h9⟩
  unfold Lok
  rw [hl,hs,e1,e6]
  exact ⟨hz,by unfold lkL;rw [if_pos hz,el]⟩
 by_cases c:s=0
 ·subst c
  have e0:(lay ps 0 w k).slots=[]:=by simp [lay]
  have hr0:(lay ps 0 w k).ram=Ra ps ps.length+k:=by rw [hr];simp
  refine main 1 (by unfold cfW;rw [if_pos e0]) (.inl rfl) (by omega) (by omega) (fun h=>absurd h (by omega)) ?_
  unfold cfK endOf
  rw [if_pos e0,hr0,ht,w64in (65536+(Ra ps ps.length+k)) (by omega),w64in _ (by omega)]
  omega
 ·have hp:0<s.toNat:=by omega
  have hne:¬ (lay ps s w k).slots=[]:=fun e=>by rw [e] at hl;simp at hl;omega
  have e0:(lay ps s w k).slots.getD 0 0=65536+Ra ps ps.length+k:=by
   simp [lay,List.getD_eq_getElem?_getD,hp,slt]
  have hm:(s.toNat:Int) * rnd (4 * w)≤4 * 287:=Int.mul_le_mul (by omega) (by omega) (by omega) (by omega)
  have hm0:(0:Int)≤(s.toNat:Int) * rnd (4 * w):=Int.mul_nonneg (by omega) (by omega)
  have eq:cfQ (lay ps s w k)=rnd (4 * w):=by
   unfold cfQ
   rw [hr,e0,hl,w64in (65536+_) (by omega),w64in (65536+_ - _) (by omega),show 65536+(Ra ps ps.length+k+(s.toNat:Int) * rnd (4 * w)) - (65536+Ra ps ps.length+k)=rnd (4 * w) * (s.toNat:Int) by rw [Int.mul_comm (rnd (4 * w))];omega,Int.mul_tdiv_cancel _ (by omega),w64in _ (by omega)]
  have hrn:rnd (4 * w)=(4 * w+31) / 32 * 32:=rfl
  refine main (rnd (4 * w) / 4) ?_ (.inr ?_) (by omega) (by omega) (fun _=>by omega) ?_
  ·unfold cfW
   rw [if_neg hne,eq,Int.tdiv_eq_ediv_of_nonneg (by omega),w64in _ (by omega)]
  ·rw [hrn];unfold rnd;omega
  ·unfold cfK endOf
   rw [if_neg hne,e0,ht,w64in _ (by omega)]
   omega
theorem markByteSS_sl (S:Nat→Prop)(a:Option Addr)(n cap k:Nat)(f:Nat→Option Addr × Nat × Nat)(w:World)(h:SlB S w a n f)(hn:n≤1048576)(hs:sumB f n≤1048576)(hk:k≤4194304):
 Calls Tryz.prog 40 #[.slice a n cap,.int .i64 k] w fun e w'=>e=.returned (.int .i64 ((k+sumB f n:Nat):Int))∧Mkd S w w':=by
 go_enter Tryz.func40,Tryz.ntmps40
 go_wp2
 go_loopw [1,5] (fun x i wr=>∃ m:Nat,m≤n∧i=.int .i64 m∧x=.int .i64 ((k+sumB f m:Nat):Int)∧Mkd S w wr) (fun _ i _=>n - (intOf i).toNat)
 case atStart=>exact ⟨0,Nat.zero_le _,rfl,rfl,Mkd.refl _ _⟩
 case round=>
  obtain ⟨m,hm,rfl,rfl,M⟩:=hrel
  by_cases hlt:m<n
  ·have hlt':(m:Int)<(n:Int):=by omega
   have hM:=h.kept M
   obtain ⟨g,o,cs,t,rfl,_,hb,hc⟩:=hM.head (by omega)
   have c0:=(hb.cell (o+m)).trans (hc m hlt)
   have hle:=sumB_le f n m hlt
   have HSU:=hide (show sumB f (m+1)=sumB f m+(f m).2.1 from rfl)
   have HK:=hide (fun k hk=>markByteS_sl S (f m).1 (f m).2.1 (f m).2.2 k wr (hM.rows m hlt) (by omega) hk)
   generalize sumB f m=sm at *
   generalize f m=fm at *
   obtain ⟨fa,fn,fc⟩:=fm
   dsimp only at *
   clear hM hb hc
   go_wp2_with fail
   refine (HK.out (k+sm) (by omega)).mono ?_
   rintro e w1 ⟨rfl,M1⟩
   have HM:=hide (M.trans M1)
   clear M M1 HK c0
   go_wp2
   go_roundw
   case rel=>exact ⟨m+1,by omega,by go_num,by rw [HSU.out];go_num,HM.out⟩
   case measure=>simp [intOf];omega
  ·obtain rfl:m=n:=by omega
   go_wp2
   go_ret
   exact ⟨by go_num,M⟩
end Go.Proofs.YtngdgogjlpjjpaeGreat
