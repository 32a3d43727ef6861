import Derived.Deep.AppendLies
import Derived.Test.YtngdgogjlpjjpaeGreatP01
import Derived.Test.YtngdgogjlpjjpaeGreatP02
import Derived.Test.YtngdgogjlpjjpaeGreatP09
import Derived.Test.YtngdgogjlpjjpaeGreatP10
import Derived.Test.YtngdgogjlpjjpaeGreatP12
import Derived.Test.YtngdgogjlpjjpaeGreatP13
set_option maxHeartbeats 2000000
namespace Go.Proofs.YtngdgogjlpjjpaeGreat
open Go.RowKit Classical
set_option linter.unusedVariables false
set_option linter.unusedSimpArgs false
set_option maxRecDepth 100000
theorem flat_setX:∀ (xs:List Ex) (i:Nat) (x:Ex),i<xs.length→(((xs.flatMap clX).set (i * 3) (.string x.1)).set (i * 3+1) (.int .i64 x.2.1)).set (i * 3+2) (.int .i64 x.2.2)=(xs.set i x).flatMap clX
 | [],i,x,h=>by simp at h
 | y :: ys,0,x,h=>by simp [clX]
 | y :: ys,i+1,x,h=>by
   have ih:=flat_setX ys i x (by simpa using h)
   rw [show (i+1) * 3=i * 3+1+1+1 by omega]
   simp only [List.flatMap_cons,clX,List.cons_append,List.nil_append,List.set_cons_succ]
   rw [← ih]
theorem ogX_set {w:World}{base g n c:Nat}{xs:List Ex}(h:OG 207 3 clX w base (.slice (some ⟨g,0,none⟩) n c) xs)(i:Nat)(hi:i<n)(s:ByteArray)(p q:Int):OG 207 3 clX (((w.setCell ⟨g,i * 3,none⟩ (.string s)).setCell ⟨g,i * 3+1,none⟩ (.int .i64 p)).setCell ⟨g,i * 3+2,none⟩ (.int .i64 q)) base (.slice (some ⟨g,0,none⟩) n c) (xs.set i (s,p,q)):=by
 obtain ⟨hl,⟨h0,_⟩ | ⟨g',cap',cur,hv,hg,hh,h1,h2,h3,h4⟩⟩:=h
 ·simp at h0
 ·simp at hv
  obtain ⟨rfl,rfl,rfl⟩:=hv
  refine ⟨?_,.inr ⟨g,c,((cur.setIfInBounds (i * 3) (.string s)).setIfInBounds (i * 3+1) (.int .i64 p)).setIfInBounds (i * 3+2) (.int .i64 q),by simp,hg,Blk.set (Blk.set (Blk.set (w:=w) hh _ _) _ _) _ _,by simpa using h1,h2,by simpa using h3,?_⟩⟩
  ·rw [← flat_setX xs i (s,p,q) hi]
   simpa using hl
  ·rw [List.length_set,Array.toList_setIfInBounds,Array.toList_setIfInBounds,Array.toList_setIfInBounds,List.take_set,List.take_set,List.take_set,h4]
   exact flat_setX xs i (s,p,q) hi
def marksX (k n:Nat):List Ex:=(List.range n).map fun i=>(mtx (k+3 * i),((k+3 * i+1:Nat):Int),((k+3 * i+2:Nat):Int))
def mixedX (zs:List Ex)(k m:Nat):List Ex:=(List.range zs.length).map fun i=>if i<m then (mtx (k+3 * i),((k+3 * i+1:Nat):Int),((k+3 * i+2:Nat):Int)) else zs.getD i zE
theorem mixedX_len (zs:List Ex)(k m:Nat):(mixedX zs k m).length=zs.length:=by simp [mixedX]
theorem mixedX_zero (zs:List Ex)(k:Nat):mixedX zs k 0=zs:=by
 apply List.ext_getElem
 ·simp [mixedX]
 ·intro i h1 h2;simp [mixedX,h2]
theorem mixedX_all (zs:List Ex)(k:Nat):mixedX zs k zs.length=marksX k zs.length:=by
 apply List.ext_getElem
 ·simp [mixedX,marksX]
 ·intro i h1 h2
  simp [marksX] at h2
  simp [mixedX,marksX,h2]
theorem mixedX_set (zs:List Ex)(k m:Nat)(h:m<zs.length):(mixedX zs k m).set m (mtx (k+3 * m),((k+3 * m+1:Nat):Int),((k+3 * m+2:Nat):Int))=mixedX zs k (m+1):=by
 apply List.ext_getElem
 ·simp [mixedX]
 ·intro i h1 h2
  simp only [mixedX,List.getElem_set,List.getElem_map,List.getElem_range]
  by_cases hik:m=i
  ·subst hik;simp
  ·by_cases h3:i<m
   ·simp [hik,h3,show i<m+1 by omega]
   ·simp [hik,h3,show ¬ i<m+1 by omega]
theorem markExportS_some (g n cap base:Nat)(zs:List Ex)(k:Nat)(w:World)(h:OG 207 3 clX w base (.slice (some ⟨g,0,none⟩) n cap) zs)(hn:n≤1048576)(h0:0<k)(hk:k≤4194304):
 Calls Tryz.prog 94 #[.slice (some ⟨g,0,none⟩) n cap,.int .i64 k] w fun e w'=>e=.returned (.int .i64 ((k+3 * n:Nat):Int))∧OG 207 3 clX w' base (.slice (some ⟨g,0,none⟩) n cap) (marksX k n)∧Turn (fun j=>j=g) w w':=by
 have hl:=(og_parts h).1
 go_enter Tryz.func94,Tryz.ntmps94
 go_wp2
 go_loopw [1,5] (fun x i wr=>∃ m:Nat,m≤n∧i=.int .i64 m∧x=.int .i64 ((k+3 * m:Nat):Int)∧OG 207 3 clX wr base (.slice (some ⟨g,0,none⟩) n cap) (mixedX zs k m)∧Turn (fun j=>j=g) w wr) (fun _ i _=>n - (intOf i).toNat)
 case atStart=>exact ⟨0,Nat.zero_le _,rfl,rfl,by rw [mixedX_zero];exact h,Turn.refl _ _⟩
 case round=>
  obtain ⟨m,hm,rfl,rfl,O,T⟩:=hrel
  by_cases hlt:m<n
  ·have hlt':(m:Int)<(n:Int):=by omega
   have HT:=hide (markText_is (k+3 * m) wr (by omega) (by omega))
   go_wp2_with fail
   refine HT.out.mono ?_
   rintro e w1 ⟨rfl,hb⟩
   have O1:=O.below hb
   have T1:=T.trans (turn_below hb)
   have hsl:Sl (fun j=>j=g) w1 (some ⟨g,0,none⟩) n 3:=by
    obtain ⟨_,⟨h0',_⟩ | ⟨g',cap',cur,hv,_,hh,h1,_,h3,_⟩⟩:=O1
    ·simp at h0'
    ·simp at hv
     obtain ⟨rfl,rfl,rfl⟩:=hv
     refine Sl.ofBlk (c:=0) hh rfl ?_
     rw [mixedX_len] at h1
     omega
   obtain ⟨⟨u,c0⟩,f0,_⟩:=hsl.cell (by omega) (m * 3) (by omega)
   obtain ⟨⟨u1,c1⟩,f1,_⟩:=hsl.cell (by omega) (m * 3+1) (by omega)
   obtain ⟨⟨u2,c2⟩,f2,_⟩:=hsl.cell (by omega) (m * 3+2) (by omega)
   rw [Nat.zero_add] at c0 f0 c1 f1 c2 f2
   have HX:=hide (fun (p q:Int) (hp:p=((k+3 * m+1:Nat):Int)) (hq:q=((k+3 * m+2:Nat):Int))=>by
    have O2:=ogX_set O1 m hlt (mtx (k+3 * m)) p q
    rw [hp,hq,mixedX_set zs k m (by omega),← hp,← hq] at O2
    have T2:=((T1.trans (turn_set w1 g (m * 3) (.string (mtx (k+3 * m))))).trans (turn_set _ g (m * 3+1) (.int .i64 p))).trans (turn_set _ g (m * 3+2) (.int .i64 q))
    exact And.intro O2 T2)
   clear O T O1 T1 hb HT hsl
   go_wp2
   go_roundw
   case rel=>exact ⟨m+1,by omega,by go_num,by go_num,(HX.out _ _ (by go_num) (by go_num)).1,(HX.out _ _ (by go_num) (by go_num)).2⟩
   case measure=>simp [intOf];omega
  ·have e:Hid (m=n):=by show m=n;omega
   have HX:=hide (And.intro O T)
   clear O T
   go_wp2
   go_ret
   refine ⟨ret_int (by rw [e.out]),?_,HX.out.2⟩
   have:=HX.out.1
   rw [e.out,← hl,mixedX_all] at this
   rw [hl] at this
   exact this
theorem markExportS_zero (a:Option Addr)(cap k:Nat)(w:World):
 Calls Tryz.prog 94 #[.slice a 0 cap,.int .i64 k] w fun e w'=>e=.returned (.int .i64 k)∧w=w':=by
 go_enter Tryz.func94,Tryz.ntmps94
 go_wp2
 go_loop [1,5] (fun x i=>i=.int .i64 0∧x=.int .i64 k) (fun _ _=>0)
 case atStart=>exact ⟨rfl,rfl⟩
 case round=>
  obtain ⟨rfl,rfl⟩:=hrel
  go_wp2
  go_ret
  exact ⟨rfl,rfl⟩
theorem markExportS_any (a:Option Addr)(n cap base:Nat)(zs:List Ex)(k:Nat)(w:World)(h:OG 207 3 clX w base (.slice a n cap) zs)(hn:n≤1048576)(h0:0<k)(hk:k≤4194304):
 Calls Tryz.prog 94 #[.slice a n cap,.int .i64 k] w fun e w'=>e=.returned (.int .i64 ((k+3 * n:Nat):Int))∧OG 207 3 clX w' base (.slice a n cap) (marksX k n)∧Turn (fun j=>(Value.slice a n cap).ownBlock=some j) w w':=by
 by_cases h1:n=0
 ·subst h1
  refine (markExportS_zero a cap k w).mono fun e w' he=>?_
  obtain ⟨rfl,rfl⟩:=he
  have hz:zs=[]:=List.eq_nil_of_length_eq_zero (og_parts h).1
  subst hz
  exact ⟨rfl,h,Turn.refl _ _⟩
 ·obtain ⟨g,rfl⟩:=og_addr h h1
  refine (markExportS_some g n cap base zs k w h hn h0 hk).mono fun e w' he=>⟨he.1,he.2.1,he.2.2.mono ?_⟩
  intro j hj
  subst hj
  rfl
theorem ogX_at {w:World}{base g n c:Nat}{xs:List Ex}(h:OG 207 3 clX w base (.slice (some ⟨g,0,none⟩) n c) xs)(m:Nat)(hm:m<n):∀ W,Below w.heap.size w W→W.cell? ⟨g,m * 3,none⟩=some (.string (xs.getD m zE).1)∧W.cell? ⟨g,m * 3+1,none⟩=some (.int .i64 (xs.getD m zE).2.1)∧W.cell? ⟨g,m * 3+2,none⟩=some (.int .i64 (xs.getD m zE).2.2):=fun W hb=>by
 have O:=OG.below h hb
 obtain ⟨hl,_,_,h4⟩:=og_parts O
 obtain ⟨g',hg',hc⟩:=h4 (by omega)
 simp at hg'
 subst hg'
 obtain ⟨e0,e1,e2⟩:=flat_clX xs m (by omega)
 exact ⟨hc _ _ e0,hc _ _ e1,hc _ _ e2⟩
theorem marksX_at (k n m:Nat)(h:m<n):(marksX k n).getD m zE=(mtx (k+3 * m),((k+3 * m+1:Nat):Int),((k+3 * m+2:Nat):Int)):=by simp [marksX,List.getD_eq_getElem?_getD,h]
theorem heldExportS_any (a:Option Addr)(n cap base:Nat)(k:Nat)(w:World)(h:OG 207 3 clX w base (.slice a n cap) (marksX k n))(hn:n≤1048576)(h0:0<k)(hk:k≤4194304):
 Calls Tryz.prog 193 #[.slice a n cap,.int .i64 k] w fun e w'=>e=.returned (.int .i64 ((k+3 * n:Nat):Int))∧Below w.heap.size w w':=by
 have HO:=hide h
 clear h
 go_enter Tryz.func193,Tryz.ntmps193
 go_wp2
 go_loopw [1,5] (fun x i wr=>∃ m:Nat,m≤n∧i=.int .i64 m∧x=.int .i64 ((k+3 * m:Nat):Int)∧Below w.heap.size w wr) (fun _ i _=>n - (intOf i).toNat)
 case atStart=>exact ⟨0,Nat.zero_le _,rfl,rfl,Below.refl _ _⟩
 case round=>
  obtain ⟨m,hm,rfl,rfl,B⟩:=hrel
  by_cases hlt:m<n
  ·have hlt':(m:Int)<(n:Int):=by omega
   obtain ⟨g,rfl⟩:=og_addr HO.out (by omega)
   have HC0:=ogX_at HO.out m hlt
   rw [marksX_at k n m hlt] at HC0
   have HT:=hide (fun W=>markText_is (k+3 * m) W (by omega) (by omega))
   obtain ⟨K,hK⟩:∃ K:Nat,K=k+3 * m:=⟨_,rfl⟩
   have HK:=hide hK
   have hKb:K≤8388600:=by omega
   rw [← hK] at HC0 HT ⊢
   obtain ⟨s,hs⟩:∃ s,s=mtx K:=⟨_,rfl⟩
   rw [← hs] at HC0 HT
   have HC:=hide HC0
   clear hs HC0 hK
   obtain ⟨c0,c1,c2⟩:=HC.out wr B
   have hne:(s.toList != s.toList)=false:=by simp
   have HB:=hide B
   clear B
   go_wp2_with fail
   go_region_held3 (fun w'=>w'.cell? ⟨g,m * 3,none⟩=some (.string s)) (go_keep) (first
    | (go_at_call 89;refine (HT.out _).mono ?_;rintro e w1 ⟨rfl,hb⟩;replace hb:=HB.out.trans ((undrew hb).mono HB.out.size);obtain ⟨d0,d1,d2⟩:=HC.out w1 hb;have HB1:=hide hb;clear hb))
   clear c0 c1 c2 HB HC HT
   have e1:((K:Int)+1 != ((K+1:Nat):Int))=false:=by simp
   have e2:((K:Int)+1+1 != ((K+2:Nat):Int))=false:=by simp;omega
   go_wp2
   go_roundw
   case rel=>exact ⟨m+1,by omega,by go_num,by rw [HK.out];go_num,HB1.out⟩
   case measure=>simp [intOf];omega
  ·have e:Hid (m=n):=by show m=n;omega
   have HX:=hide B
   clear B
   go_wp2
   go_ret
   exact ⟨ret_int (by rw [e.out]),HX.out⟩
end Go.Proofs.YtngdgogjlpjjpaeGreat
namespace Go.Proofs.YtngdgogjlpjjpaeGreat
open Go.RowKit Classical
set_option linter.unusedVariables false
theorem markByteS_zero (a:Option Addr)(cap k:Nat)(w:World):
 Calls Tryz.prog 92 #[.slice a 0 cap,.int .i64 k] w fun e w'=>e=.returned (.int .i64 k)∧w=w':=by
 go_enter Tryz.func92,Tryz.ntmps92
 go_wp2
 go_loop [1,5] (fun x i=>i=.int .i64 0∧x=.int .i64 k) (fun _ _=>0)
 case atStart=>exact ⟨rfl,rfl⟩
 case round=>
  obtain ⟨rfl,rfl⟩:=hrel
  go_wp2
  go_ret
  exact ⟨rfl,rfl⟩
theorem markByteS_any (a:Option Addr)(n cap base:Nat)(zs:List Int)(k:Nat)(w:World)(h:OB w base (.slice a n cap) zs)(hn:n≤2097152)(hk:k≤4194304):
 Calls Tryz.prog 92 #[.slice a n cap,.int .i64 k] w fun e w'=>e=.returned (.int .i64 ((k+n:Nat):Int))∧OB w' base (.slice a n cap) (marks k n)∧Turn (fun j=>(Value.slice a n cap).ownBlock=some j) w w':=by
 by_cases h0:n=0
 ·subst h0
  refine (markByteS_zero a cap k w).mono fun e w' he=>?_
  obtain ⟨rfl,rfl⟩:=he
  have hz:zs=[]:=List.eq_nil_of_length_eq_zero h.bs.1
  subst hz
  exact ⟨rfl,h,Turn.refl _ _⟩
 ·obtain ⟨g,rfl⟩:∃ g,a=some ⟨g,0,none⟩:=by
   obtain ⟨hl,⟨h0',_⟩ | ⟨g,cap',cur,hv,_⟩⟩:=h.1
   ·simp at h0';exact absurd h0'.2.1 h0
   ·simp at hv;exact ⟨g,hv.1⟩
  refine (markByteS_some g n cap base zs k w h hn hk).mono fun e w' he=>⟨he.1,he.2.1,he.2.2.mono ?_⟩
  intro j hj
  subst hj
  rfl
theorem marks_getD (k n m:Nat)(h:m<n):(marks k n).getD m 0=((k+m:Nat):Int) % 256:=by simp [marks,List.getD_eq_getElem?_getD,h]
theorem heldByteS_any (a:Option Addr)(n cap:Nat)(k:Nat)(w:World)(h:BS w a n cap (marks k n))(hn:n≤2097152)(hk:k≤4194304):
 Calls Tryz.prog 97 #[.slice a n cap,.int .i64 k] w fun e w'=>e=.returned (.int .i64 ((k+n:Nat):Int))∧w=w':=by
 go_enter Tryz.func97,Tryz.ntmps97
 go_wp2
 go_loop [1,5] (fun x i=>∃ m:Nat,m≤n∧i=.int .i64 m∧x=.int .i64 ((k+m:Nat):Int)) (fun _ i=>n - (intOf i).toNat)
 case atStart=>exact ⟨0,Nat.zero_le _,rfl,rfl⟩
 case round=>
  obtain ⟨m,hm,rfl,rfl⟩:=hrel
  by_cases hlt:m<n
  ·have hlt':(m:Int)<(n:Int):=by omega
   obtain ⟨b,off,rfl⟩:=h.some (by omega)
   have hc:=h.at m hlt
   rw [marks_getD k n m hlt] at hc
   obtain ⟨K,hK⟩:∃ K:Int,K=((k+m:Nat):Int):=⟨_,rfl⟩
   have hK0:0≤K:=by omega
   have hK1:K≤8388608:=by omega
   have HK:=hide (show K+1=((k+(m+1):Nat):Int) by omega)
   rw [← hK] at hc ⊢
   have hne:(K % 256 != K % 256)=false:=by simp
   clear hK
   go_wp2
   go_round
   case rel=>exact ⟨m+1,by omega,by go_num,by rw [HK.out]⟩
   case measure=>simp [intOf];omega
  ·have e:Hid (m=n):=by show m=n;omega
   go_wp2
   go_ret
   exact ⟨ret_int (by rw [e.out]),rfl⟩
def Blks (v1 v2 v3:Value)(j:Nat):Prop:=v1.ownBlock=some j∨v2.ownBlock=some j∨v3.ownBlock=some j
end Go.Proofs.YtngdgogjlpjjpaeGreat
namespace Go.Proofs.YtngdgogjlpjjpaeGreat
open Go.RowKit Classical
set_option linter.unusedVariables false
set_option linter.unusedSimpArgs false
set_option maxRecDepth 100000
def pN (s:Nat)(zs:List Int):Option (Int × List Int):=if s≤zs.length then some (low (zs.take s),zs.drop s) else none
def pB (n:Nat)(zs:List Int):Option (List Int × List Int):=if n≤zs.length then some (zs.take n,zs.drop n) else none
def strOf (bs:List Int):ByteArray:=⟨(bs.map fun z=>UInt8.ofNat z.toNat).toArray⟩
def pT (zs:List Int):Option (ByteArray × List Int):=(pN 1 zs).bind fun x=>(pB x.1.toNat x.2).map fun y=>(strOf y.1,y.2)
def pM {α:Type}(p:List Int→Option (α × List Int)):Nat→List Int→Option (List α × List Int)
 | 0,zs=>some ([],zs)
 | k+1,zs=>(pM p k zs).bind fun x=>(p x.2).map fun y=>(x.1++[y.1],y.2)
def pL (zs:List Int):Option (List Int × List Int):=(pN 2 zs).bind fun x=>pM (pN 4) x.1.toNat x.2
def pX (zs:List Int):Option (Ex × List Int):=(pT zs).bind fun x=>(pN 1 x.2).bind fun y=>(pN 2 y.2).map fun z=>((x.1,y.1 - 1,z.1),z.2)
def pMod (zs:List Int):Option (PMod × List Int):=
 (pT zs).bind fun a=>(pL a.2).bind fun b=>(pN 1 b.2).bind fun nb=>(pM pL nb.1.toNat nb.2).bind fun c=>(pN 2 c.2).bind fun nd=>(pB nd.1.toNat nd.2).bind fun d=>(pN 2 d.2).bind fun e=>(pN 1 e.2).bind fun nr=>(pM (pN 2) nr.1.toNat nr.2).bind fun f=>(pN 1 f.2).bind fun ni=>(pM pT ni.1.toNat ni.2).bind fun g=>(pN 1 g.2).bind fun ne=>(pM pX ne.1.toNat ne.2).map fun h=>(⟨a.1,b.1,c.1,d.1,e.1,f.1,g.1,h.1⟩,h.2)
theorem pN_some {s:Nat}{zs:List Int}(h:s≤zs.length):pN s zs=some (low (zs.take s),zs.drop s):=if_pos h
theorem pN_none {s:Nat}{zs:List Int}(h:¬ s≤zs.length):pN s zs=none:=if_neg h
theorem pB_some {s:Nat}{zs:List Int}(h:s≤zs.length):pB s zs=some (zs.take s,zs.drop s):=if_pos h
theorem pB_none {s:Nat}{zs:List Int}(h:¬ s≤zs.length):pB s zs=none:=if_neg h
theorem pM_none {α:Type}{p:List Int→Option (α × List Int)}{k:Nat}{zs:List Int}(h:pM p k zs=none):∀ j,pM p (k+j) zs=none
 | 0=>h
 | j+1=>by
   show (pM p (k+j) zs).bind _=none
   rw [pM_none h j];rfl
theorem pM_succ {α:Type}{p:List Int→Option (α × List Int)}{k:Nat}{zs r:List Int}{xs:List α}(h:pM p k zs=some (xs,r)):pM p (k+1) zs=(p r).map fun y=>(xs++[y.1],y.2):=by
 show (pM p k zs).bind _=_
 rw [h];rfl
theorem pM_len {α:Type}{p:List Int→Option (α × List Int)}:∀ {k:Nat} {zs r:List Int} {xs:List α},pM p k zs=some (xs,r)→xs.length=k
 | 0,zs,r,xs,h=>by
   have h':some (([]:List α),zs)=some (xs,r):=h
   simp at h'
   simp [← h'.1]
 | k+1,zs,r,xs,h=>by
   have h':(pM p k zs).bind (fun x=>(p x.2).map fun y=>(x.1++[y.1],y.2))=some (xs,r):=h
   cases e:pM p k zs with
   | none=>rw [e] at h';simp at h'
   | some x=>
     obtain ⟨ys,r'⟩:=x
     have ih:=pM_len e
     rw [e] at h'
     simp only [Option.bind_some,Option.map_eq_some_iff] at h'
     obtain ⟨y,_,h2⟩:=h'
     simp at h2
     rw [← h2.1]
     simp [ih]
def Tails {α:Type}(p:List Int→Option (α × List Int)):Prop:=∀ zs x r,p zs=some (x,r)→∃ k,k≤zs.length∧r=zs.drop k
theorem tails_pN (s:Nat):Tails (pN s):=fun zs x r h=>by
 unfold pN at h
 split at h
 ·simp at h;exact ⟨s,by assumption,h.2.symm⟩
 ·simp at h
def panicE (c:Int):Ending:=.panicked [{ v:=.iface 258 (.int .i64 c),recovered:=false }]
structure RdI (W:World)(g b n cap:Nat)(zs r:List Int):Prop where
 pos:∃ k a,k≤n∧r=zs.drop k∧Blk W g #[.slice (some ⟨b,a,none⟩) (n - k) (cap - k)] 260∧(cap - k≠0→a=k)
 bs:BS W (some ⟨b,0,none⟩) n cap zs
 ne:b≠g
 small:n≤1048576
theorem RdI.below {W W':World}{g b n cap:Nat}{zs r:List Int}(h:RdI W g b n cap zs r)(hb:Below W.heap.size W W'):RdI W' g b n cap zs r:=by
 obtain ⟨k,a,h1,h2,h3,h4⟩:=h.pos
 exact ⟨⟨k,a,h1,h2,h3.below hb,h4⟩,h.bs.below hb,h.ne,h.small⟩
theorem RdI.range {W:World}{g b n cap:Nat}{zs r:List Int}(h:RdI W g b n cap zs r):∀ z ∈ r,0≤z∧z≤255:=by
 obtain ⟨k,a,h1,rfl,h3,h4⟩:=h.pos
 exact fun z hz=>h.bs.2.2.1 z (List.mem_of_mem_drop hz)
def RP {α:Type}(w:World)(g b n cap:Nat)(zs:List Int)(R:α→Value→World→Prop)(p:Option (α × List Int))(e:Ending)(w':World):Prop:=
 Turn (fun j=>j=g) w w'∧match p with
  | some x=>∃ v,e=.returned v∧R x.1 v w'∧RdI w' g b n cap zs x.2
  | none=>e=panicE 2
def isB (x:List Int)(v:Value)(w:World):Prop:=∃ b k c,v=.slice (some ⟨b,k,none⟩) x.length c∧BS w (some ⟨b,k,none⟩) x.length c x
theorem RdI.set {W:World}{g b n cap:Nat}{zs r:List Int}(h:RdI W g b n cap zs r)(k a:Nat)(hk:k≤n)(ha:cap - k≠0→a=k)(v:Value)(hv:v=.slice (some ⟨b,a,none⟩) (n - k) (cap - k)):RdI (W.setCell ⟨g,0,none⟩ v) g b n cap zs (zs.drop k):=by
 obtain ⟨k',a',h1,h2,h3,h4⟩:=h.pos
 refine ⟨⟨k,a,hk,rfl,?_,ha⟩,turn_bs (turn_set W g 0 v) h.bs (fun j hj b' off e=>by simp at e;rw [hj,← e.1];exact h.ne),h.ne,h.small⟩
 rw [← hv]
 simpa using h3.set 0 v
theorem take_any (g b n cap:Nat)(zs r:List Int)(m:Nat)(w:World)(h:RdI w g b n cap zs r)(hm:m≤1048576):
 Calls Tryz.prog 253 #[.pointer (some ⟨g,0,none⟩),.int .i64 m] w (RP w g b n cap zs isB (pB m r)):=by
 obtain ⟨k,a,hk,hr,hb,ha⟩:=h.pos
 have hl:=h.bs.1
 have hcap:=h.bs.2.2.2.2
 have hsm:=h.small
 have hrl:r.length=n - k:=by rw [hr,List.length_drop,hl]
 have q0:=hb.cell 0
 have f0:=hb.frozen 0
 simp at q0
 by_cases c:m≤r.length
 ·have hc:m≤n - k:=by omega
  have hp:pB m r=some (r.take m,r.drop m):=pB_some c
  rw [hp]
  have hlt:(r.take m).length=m:=by rw [List.length_take];omega
  have hrd:r.drop m=zs.drop (k+m):=by rw [hr,List.drop_drop]
  have hB1:BS w (some ⟨b,a,none⟩) m (cap - k) (r.take m):=by
   by_cases hz:cap - k=0
   ·have:m=0:=by omega
    subst this
    exact ⟨by simp,by unfold maxLen;omega,by simp,fun h=>absurd rfl h,by omega⟩
   ·have:=(h.bs.drop k hk).take m hc
    rw [Nat.zero_add] at this
    rw [ha hz,hr]
    exact this
  have hx1:(m:Int)≤((n - k:Nat):Int):=by omega
  have hx2:((n - k:Nat):Int)≤((cap - k:Nat):Int):=by omega
  have hx0:¬ (((n - k:Nat):Int)<(m:Int)):=by omega
  by_cases hcm:cap - k=m
  ·have hck:n - k=m:=by omega
   rw [hcm] at hB1
   have HP:=hide (And.intro hB1 (And.intro h (And.intro hrd (And.intro hlt (show cap - (k+m)=0 by omega)))))
   have hkm:k+m≤n:=by omega
   have HW:=hide (show n - (k+m)=0 by omega)
   clear h hp hB1 hb hr hrl c hrd hlt ha hx0 hx1 hx2 hc
   rw [hck,hcm] at q0
   clear hck hcm
   go_enter Tryz.func253,Tryz.ntmps253
   go_wp2
   go_ret
   obtain ⟨hB1,h,hrd,hlt,hce⟩:=HP.out
   refine ⟨turn_set _ _ _ _,_,rfl,⟨b,a,m,by rw [hlt];rfl,?_⟩,?_⟩
   ·rw [hlt]
    exact turn_bs (turn_set _ _ _ _) hB1 (fun j hj b' off e=>by simp at e;rw [hj,← e.1];exact h.ne)
   ·rw [hrd]
    refine h.set (k+m) a hkm (fun e=>absurd hce e) _ ?_
    rw [HW.out,hce]
    try simp
  ·have ha':=ha (by omega)
   subst ha'
   have HP:=hide (And.intro hB1 (And.intro h (And.intro hrd hlt)))
   have hkm:a+m≤n:=by omega
   clear h hp hB1 hb hr hrl c hrd hlt ha
   go_enter Tryz.func253,Tryz.ntmps253
   go_wp2
   go_ret
   obtain ⟨hB1,h,hrd,hlt⟩:=HP.out
   refine ⟨turn_set _ _ _ _,_,rfl,⟨b,a,cap - a,by rw [hlt];rfl,?_⟩,?_⟩
   ·rw [hlt]
    exact turn_bs (turn_set _ _ _ _) hB1 (fun j hj b' off e=>by simp at e;rw [hj,← e.1];exact h.ne)
   ·rw [hrd]
    refine h.set (a+m) (a+m) hkm (fun e=>rfl) _ ?_
    rw [Nat.sub_sub,Nat.sub_sub]
 ·have hc:((n - k:Nat):Int)<(m:Int):=by omega
  rw [pB_none c]
  clear h hr hb
  go_enter Tryz.func253,Tryz.ntmps253
  go_wp2
  exact ⟨rfl,Turn.refl _ _,rfl⟩
theorem RP.none {α:Type}{w w':World}{g b n cap:Nat}{zs:List Int}{R:α→Value→World→Prop}{p:Option (α × List Int)}{e:Ending}(h:RP w g b n cap zs R p e w')(hp:p=none):Turn (fun j=>j=g) w w'∧e=panicE 2:=by
 subst hp
 exact h
theorem RP.some {α:Type}{w w':World}{g b n cap:Nat}{zs:List Int}{R:α→Value→World→Prop}{p:Option (α × List Int)}{e:Ending}{x:α}{r:List Int}(h:RP w g b n cap zs R p e w')(hp:p=Option.some (x,r)):Turn (fun j=>j=g) w w'∧∃ v,e=.returned v∧R x v w'∧RdI w' g b n cap zs r:=by
 subst hp
 exact h
theorem RP.ofNone {α:Type}{w w':World}{g b n cap:Nat}{zs:List Int}{R:α→Value→World→Prop}{p:Option (α × List Int)}(hp:p=Option.none)(h:Turn (fun j=>j=g) w w'):RP w g b n cap zs R p (panicE 2) w':=by
 subst hp
 exact ⟨h,rfl⟩
theorem RP.ofSome {α:Type}{w w':World}{g b n cap:Nat}{zs:List Int}{R:α→Value→World→Prop}{p:Option (α × List Int)}{v:Value}{x:α}{r:List Int}(hp:p=Option.some (x,r))(h:Turn (fun j=>j=g) w w')(hv:R x v w')(hr:RdI w' g b n cap zs r):RP w g b n cap zs R p (.returned v) w':=by
 subst hp
 exact ⟨h,v,rfl,hv,hr⟩
def isN (x:Int)(v:Value)(w:World):Prop:=v=.int .i64 x
theorem getBytes_any (b off n cap s:Nat)(zs:List Int)(w:World)(h:BS w (some ⟨b,off,none⟩) n cap zs)(hs:s=1∨s=2∨s=4)(hn:s≤n):
 Calls Tryz.prog 180 #[.slice (some ⟨b,off,none⟩) n cap,.int .i64 s] w fun e w'=>e=.returned (.int .i64 (low (zs.take s)))∧Below w.heap.size w w':=by
 rcases hs with rfl | rfl | rfl
 ·exact getBytes_1 b off n cap zs w h hn
 ·exact getBytes_2 b off n cap zs w h hn
 ·exact getBytes_4 b off n cap zs w h hn
theorem number_rd (g b n cap:Nat)(zs r:List Int)(s:Nat)(w:World)(h:RdI w g b n cap zs r)(hs:s=1∨s=2∨s=4):
 Calls Tryz.prog 257 #[.pointer (some ⟨g,0,none⟩),.int .i64 s] w (RP w g b n cap zs isN (pN s r)):=by
 have HT:=hide (take_any g b n cap zs r s w h (by omega))
 by_cases c:s≤r.length
 ·have hlt:(r.take s).length=s:=by rw [List.length_take];omega
  have htt:(r.take s).take s=r.take s:=by rw [List.take_take,Nat.min_self]
  rw [pN_some c]
  go_enter Tryz.func257,Tryz.ntmps257
  go_wp2_with fail
  refine HT.out.mono ?_
  intro e w1 H
  obtain ⟨T1,v,rfl,⟨b',k,c',rfl,hB⟩,R1⟩:=H.some (pB_some c)
  rw [hlt] at hB ⊢
  have HG:=hide (getBytes_any b' k s c' s (r.take s) w1 hB hs (Nat.le_refl _))
  rw [htt] at HG
  have HR:=hide (And.intro T1 R1)
  clear T1 R1 hB
  go_wp2_with fail
  refine HG.out.mono ?_
  rintro e w2 ⟨rfl,hb2⟩
  have HR2:=hide (And.intro (HR.out.1.trans (turn_below hb2)) (HR.out.2.below hb2))
  go_wp2
  go_ret
  exact ⟨HR2.out.1,_,rfl,rfl,HR2.out.2⟩
 ·rw [pN_none c]
  go_enter Tryz.func257,Tryz.ntmps257
  go_wp2_with fail
  refine HT.out.mono ?_
  intro e w1 H
  obtain ⟨T1,rfl⟩:=H.none (pB_none c)
  unfold panicE
  go_wp2
  exact ⟨rfl,T1,rfl⟩
theorem count_rd (g b n cap:Nat)(zs r:List Int)(w:World)(h:RdI w g b n cap zs r):
 Calls Tryz.prog 259 #[.pointer (some ⟨g,0,none⟩)] w (RP w g b n cap zs isN (pN 2 r)):=by
 have HN:=hide (number_rd g b n cap zs r 2 w h (Or.inr (Or.inl rfl)))
 go_enter Tryz.func259,Tryz.ntmps259
 go_wp2_with fail
 refine HN.out.mono ?_
 intro e w1 H
 cases hp:pN 2 r with
 | none=>
   obtain ⟨T1,rfl⟩:=H.none hp
   unfold panicE
   go_wp2
   exact ⟨rfl,RP.ofNone rfl T1⟩
 | some x=>
   obtain ⟨T1,v,rfl,hv,R1⟩:=H.some hp
   go_wp2
   go_ret
   exact RP.ofSome hp T1 hv R1
theorem word_rd (g b n cap:Nat)(zs r:List Int)(w:World)(h:RdI w g b n cap zs r):
 Calls Tryz.prog 279 #[.pointer (some ⟨g,0,none⟩)] w (RP w g b n cap zs isN (pN 4 r)):=by
 have HN:=hide (number_rd g b n cap zs r 4 w h (Or.inr (Or.inr rfl)))
 go_enter Tryz.func279,Tryz.ntmps279
 go_wp2_with fail
 refine HN.out.mono ?_
 intro e w1 H
 cases hp:pN 4 r with
 | none=>
   obtain ⟨T1,rfl⟩:=H.none hp
   unfold panicE
   go_wp2
   exact ⟨rfl,RP.ofNone rfl T1⟩
 | some x=>
   obtain ⟨T1,v,rfl,hv,R1⟩:=H.some hp
   go_wp2
   go_ret
   exact RP.ofSome hp T1 hv R1
def isS (x:ByteArray)(v:Value)(w:World):Prop:=v=.string x
theorem low1 {zs:List Int}(h:1≤zs.length):low (zs.take 1)=zs.getD 0 0:=by
 rw [take1 zs h]
 show low [] * 256+_=_ <;> simp [low]
theorem run_text (w:World)(b k c:Nat)(x:List Int)(h:BS w (some ⟨b,k,none⟩) x.length c x):(convert 41 9 (.slice (some ⟨b,k,none⟩) x.length c)).run Tryz.prog w=.ok (.string (strOf x)) w:=by
 have hl:(x.map fun z=>UInt8.ofNat z.toNat).length=x.length:=by simp
 have:=run_convert_bytes_back (P:=Tryz.prog) w 41 9 5 ⟨b,k,none⟩ c (x.map fun z=>UInt8.ofNat z.toNat) Tryz.underlying41 Tryz.underlying5 Tryz.underlying9 (fun j hj=>by
  have hj':j<x.length:=by simpa using hj
  rw [addr_add,h.at j hj']
  have hz:=h.range j
  have e1:x.getD j 0=x[j]:=by simp [List.getD_eq_getElem?_getD,hj']
  have e2:(UInt8.ofNat (x[j]).toNat).toNat=(x[j]).toNat % 256:=UInt8.toNat_ofNat'
  rw [List.getElem_map,e2,e1]
  rw [e1] at hz
  congr 2
  omega)
 rw [hl] at this
 exact this
theorem text_rd (g b n cap:Nat)(zs r:List Int)(w:World)(h:RdI w g b n cap zs r):
 Calls Tryz.prog 254 #[.pointer (some ⟨g,0,none⟩)] w (RP w g b n cap zs isS (pT r)):=by
 have HN:=hide (number_rd g b n cap zs r 1 w h (Or.inl rfl))
 by_cases c:1≤r.length
 ·have hp:=pN_some (s:=1) c
  have hrg:=h.range
  have hx:0≤low (r.take 1)∧low (r.take 1)≤4294967295:=low_small _ (fun z hz=>hrg z (List.mem_of_mem_take hz)) (by rw [List.length_take];omega)
  have hx2:low (r.take 1)≤255:=by
   rw [low1 c]
   have:r.getD 0 0 ∈ r:=by simp [List.getD_eq_getElem?_getD,show 0<r.length by omega]
   exact (hrg _ this).2
  have hPT:pT r=(pB (low (r.take 1)).toNat (r.drop 1)).map fun y=>(strOf y.1,y.2):=by unfold pT;rw [hp];rfl
  rw [hPT]
  obtain ⟨m,hm⟩:∃ m:Nat,low (r.take 1)=(m:Int):=⟨(low (r.take 1)).toNat,by omega⟩
  rw [hm] at hp hx hx2 ⊢
  rw [Int.toNat_natCast]
  clear hPT
  have hm':m≤255:=by omega
  go_enter Tryz.func254,Tryz.ntmps254
  go_wp2_with fail
  refine HN.out.mono ?_
  intro e w1 H
  obtain ⟨T1,v,rfl,hv,R1⟩:=H.some hp
  obtain rfl:v=.int .i64 m:=hv
  have HT:=hide (take_any g b n cap zs (r.drop 1) m w1 R1 (by omega))
  clear H HN
  go_wp2_with fail
  refine HT.out.mono ?_
  intro e w2 H
  cases hq:pB m (r.drop 1) with
  | none=>
    obtain ⟨T2,rfl⟩:=H.none hq
    unfold panicE
    go_wp2
    exact ⟨rfl,RP.ofNone (by rw [hq];rfl) (T1.trans T2)⟩
  | some x=>
    obtain ⟨x,r'⟩:=x
    obtain ⟨T2,v,rfl,⟨b',k,c',rfl,hB⟩,R2⟩:=H.some hq
    have hcv:=run_text w2 b' k c' x hB
    have HR:=hide (And.intro (T1.trans T2) R2)
    clear T1 T2 R1 R2 hB H HT
    go_wp2
    go_ret
    exact RP.ofSome (x:=strOf x) (r:=r') (by rw [hq];rfl) HR.out.1 rfl HR.out.2
 ·have hp:=pN_none (s:=1) c
  have hPT:pT r=none:=by unfold pT;rw [hp];rfl
  rw [hPT]
  go_enter Tryz.func254,Tryz.ntmps254
  go_wp2_with fail
  refine HN.out.mono ?_
  intro e w1 H
  obtain ⟨T1,rfl⟩:=H.none hp
  unfold panicE
  go_wp2
  exact ⟨rfl,RP.ofNone rfl T1⟩
theorem RdI.grown {W W':World}{g b n cap base:Nat}{zs r:List Int}{row:Option Nat}(h:RdI W g b n cap zs r)(hg:W.grownBy W' row)(hr:∀ k,row=some k→base≤k)(h1:g<base)(h2:n≠0→b<base):RdI W' g b n cap zs r:=by
 obtain ⟨k,a,p1,p2,p3,p4⟩:=h.pos
 have t:Turn (fun j=>row=some j) W W':=⟨hg.os,hg.tape,hg.output,hg.size,fun j hj hs=>hg.block j hj (fun e=>hs e.symm)⟩
 refine ⟨⟨k,a,p1,p2,turn_blk t p3 (fun e=>by have:=hr g e;omega),p4⟩,?_,h.ne,h.small⟩
 by_cases hn:n=0
 ·subst hn
  obtain ⟨b1,b2,b3,b4,b5⟩:=h.bs
  exact ⟨b1,b2,b3,fun e=>absurd rfl e,b5⟩
 ·exact turn_bs t h.bs (fun j hj b' off e=>by simp at e;have:=hr j hj;have:=h2 hn;omega)
def isL {α:Type}(O:World→Nat→Value→List α→Prop)(base:Nat)(x:List α)(v:Value)(w:World):Prop:=∃ a c,v=.slice a x.length c∧O w base v x
theorem takenIword_rd (g b n cap:Nat)(zs:List Int)(m:Nat)(r0:List Int)(w:World)(h:RdI w g b n cap zs r0)(hm:m≤1048576):
 Calls Tryz.prog 260 #[.int .i64 m,.func (.func 279) #[.pointer (some ⟨g,0,none⟩)] #[]] w (RP w g b n cap zs (isL (OG 3 1 clI) w.heap.size) (pM (pN 4) m r0)):=by
 obtain ⟨i0,hi,hz0,hz1,hz2⟩:=info_parts infoI
 have hgl:g<w.heap.size:=by obtain ⟨_,_,_,_,hb,_⟩:=h.pos;exact hb.lt
 have hbl:n≠0→b<w.heap.size:=fun hn=>by
  obtain ⟨_,_,_,h4,_⟩:=h.bs
  obtain ⟨b',off,e,hc⟩:=h4 hn
  simp at e
  have:=World.block_lt_of_cell? w _ (hc 0 (by omega))
  simpa [e.1] using this
 have HF:=hide (fun w r h=>word_rd g b n cap zs r w h)
 have HBL:=hide hbl
 clear hbl
 go_enter Tryz.func260,Tryz.ntmps260
 go_wp2_with fail
 go_loopw [5,7] (fun x i wr=>∃ (k:Nat) (xs:List Int) (r:List Int),k≤m∧i=.int .i64 k∧pM (pN 4) k r0=some (xs,r)∧OG 3 1 clI wr w.heap.size x xs∧RdI wr g b n cap zs r∧Turn (fun j=>j=g) w wr) (fun _ i _=>m - (intOf i).toNat)
 case atStart=>exact ⟨0,[],r0,Nat.zero_le _,rfl,rfl,og_nil _ _ _ _ _,h,Turn.refl _ _⟩
 case round=>
  obtain ⟨k,xs,r,hk,rfl,hp,O,R,T⟩:=hrel
  have hxl:=pM_len hp
  by_cases hlt:k<m
  ·have hlt':(k:Int)<(m:Int):=by omega
   have hsc:=pM_succ hp
   have HC:=hide (HF.out wr r R)
   have hO:=O
   obtain ⟨a,c,rfl⟩:=og_shape O
   rw [hxl] at hO ⊢
   have HXL:=hide hxl
   clear hxl
   go_wp2_with fail
   refine HC.out.mono ?_
   intro e w1 H
   cases hq:(pN 4) r with
   | none=>
     obtain ⟨T1,rfl⟩:=H.none hq
     have hN:pM (pN 4) m r0=none:=by
      rw [hq] at hsc
      have:=pM_none (k:=k+1) hsc (m - (k+1))
      rwa [show k+1+(m - (k+1))=m by omega] at this
     unfold panicE
     go_wp2
     exact ⟨rfl,RP.ofNone hN (T.trans (T1.mono (fun j hj=>hj)))⟩
   | some x=>
     obtain ⟨x,r'⟩:=x
     obtain ⟨T1,v,rfl,hv,R1⟩:=H.some hq
     rw [hq] at hsc
     have hsc':pM (pN 4) (k+1) r0=some (xs++[x],r'):=hsc
     have O1:=hO.turn T1 (fun j hj=>by omega)
     have T2:=T.trans (T1.mono (fun j hj=>hj))
     obtain rfl:v=.int .i64 x:=hv
     have HO1:=hide (show (w1.alloc (.cells #[.int .i64 x] 3)).ownsRow w.heap.size 3 1 (.slice a k c) k (xs.flatMap clI) by have:=O1.below ((Below.refl _ _).alloc (Nat.le_refl _) (.cells #[.int .i64 x] 3));unfold OG at this;rw [HXL.out] at this;exact this)
     have HR1:=hide (And.intro R1 (And.intro T2 (And.intro hsc' hO)))
     have hsz:=T2.size
     clear R1 T1 T2 T R O O1 hsc hsc' H HC hq hp hO
     go_wp2_with (at_builtin;refine wpList_append_own _ rfl _ _ 24 rfl w.heap.size 3 i0 (.int .i64 0) 1 8 Tryz.underlying24 hi hz0 hz1 hz2 rfl (by decide) (.slice a k c) k (xs.flatMap clI) rfl HO1.out ⟨w1.heap.size,0,none⟩ 1 1 (clI x) rfl rfl (cells_new w1 _ _ (clI x) rfl) (by intro u hu;simp [clI] at hu;first | (subst hu;rfl) | (rcases hu with rfl | rfl | rfl <;> rfl)) (by unfold maxLen;omega) (by omega) (by simp;omega) ?_;intro v' w3 hown3 hgr3 _)
     obtain ⟨R1,T2,hsc',hO⟩:=HR1.out
     have T3:Turn (fun j=>j=g) w (w1.alloc (.cells #[.int .i64 x] 3)):=T2.trans (turn_alloc _ _)
     have hrow:∀ j,(Value.slice a k c).ownBlock=some j→w.heap.size≤j:=fun j hj=>(hO.lt j hj).1
     have T4:=turn_grown T3 hgr3 hrow
     have R4:=(R1.below ((Below.refl _ _).alloc (Nat.le_refl _) (.cells #[.int .i64 x] 3))).grown hgr3 hrow hgl HBL.out
     have O4:OG 3 1 clI w3 w.heap.size v' (xs++[x]):=by
      unfold OG
      rw [List.length_append,HXL.out,List.flatMap_append,List.flatMap_singleton]
      exact hown3
     have HX:=hide (And.intro hsc' (And.intro O4 (And.intro R4 T4)))
     clear hsc' O4 R4 T4 T3 R1 T2 hO hown3 hgr3 hrow HR1 HO1
     go_roundw
     case rel=>exact ⟨k+1,xs++[x],r',by omega,by go_num,HX.out.1,HX.out.2.1,HX.out.2.2.1,HX.out.2.2.2⟩
     case measure=>simp [intOf];omega
  ·obtain rfl:k=m:=by omega
   obtain ⟨a,c,rfl⟩:=og_shape O
   have HX:=hide (And.intro hp (And.intro O (And.intro R T)))
   clear hp O R T
   go_wp2
   go_ret
   exact RP.ofSome HX.out.1 HX.out.2.2.2 ⟨a,c,rfl,HX.out.2.1⟩ HX.out.2.2.1
theorem takenIcount_rd (g b n cap:Nat)(zs:List Int)(m:Nat)(r0:List Int)(w:World)(h:RdI w g b n cap zs r0)(hm:m≤1048576):
 Calls Tryz.prog 260 #[.int .i64 m,.func (.func 259) #[.pointer (some ⟨g,0,none⟩)] #[]] w (RP w g b n cap zs (isL (OG 3 1 clI) w.heap.size) (pM (pN 2) m r0)):=by
 obtain ⟨i0,hi,hz0,hz1,hz2⟩:=info_parts infoI
 have hgl:g<w.heap.size:=by obtain ⟨_,_,_,_,hb,_⟩:=h.pos;exact hb.lt
 have hbl:n≠0→b<w.heap.size:=fun hn=>by
  obtain ⟨_,_,_,h4,_⟩:=h.bs
  obtain ⟨b',off,e,hc⟩:=h4 hn
  simp at e
  have:=World.block_lt_of_cell? w _ (hc 0 (by omega))
  simpa [e.1] using this
 have HF:=hide (fun w r h=>count_rd g b n cap zs r w h)
 have HBL:=hide hbl
 clear hbl
 go_enter Tryz.func260,Tryz.ntmps260
 go_wp2_with fail
 go_loopw [5,7] (fun x i wr=>∃ (k:Nat) (xs:List Int) (r:List Int),k≤m∧i=.int .i64 k∧pM (pN 2) k r0=some (xs,r)∧OG 3 1 clI wr w.heap.size x xs∧RdI wr g b n cap zs r∧Turn (fun j=>j=g) w wr) (fun _ i _=>m - (intOf i).toNat)
 case atStart=>exact ⟨0,[],r0,Nat.zero_le _,rfl,rfl,og_nil _ _ _ _ _,h,Turn.refl _ _⟩
 case round=>
  obtain ⟨k,xs,r,hk,rfl,hp,O,R,T⟩:=hrel
  have hxl:=pM_len hp
  by_cases hlt:k<m
  ·have hlt':(k:Int)<(m:Int):=by omega
   have hsc:=pM_succ hp
   have HC:=hide (HF.out wr r R)
   have hO:=O
   obtain ⟨a,c,rfl⟩:=og_shape O
   rw [hxl] at hO ⊢
   have HXL:=hide hxl
   clear hxl
   go_wp2_with fail
   refine HC.out.mono ?_
   intro e w1 H
   cases hq:(pN 2) r with
   | none=>
     obtain ⟨T1,rfl⟩:=H.none hq
     have hN:pM (pN 2) m r0=none:=by
      rw [hq] at hsc
      have:=pM_none (k:=k+1) hsc (m - (k+1))
      rwa [show k+1+(m - (k+1))=m by omega] at this
     unfold panicE
     go_wp2
     exact ⟨rfl,RP.ofNone hN (T.trans (T1.mono (fun j hj=>hj)))⟩
   | some x=>
     obtain ⟨x,r'⟩:=x
     obtain ⟨T1,v,rfl,hv,R1⟩:=H.some hq
     rw [hq] at hsc
     have hsc':pM (pN 2) (k+1) r0=some (xs++[x],r'):=hsc
     have O1:=hO.turn T1 (fun j hj=>by omega)
     have T2:=T.trans (T1.mono (fun j hj=>hj))
     obtain rfl:v=.int .i64 x:=hv
     have HO1:=hide (show (w1.alloc (.cells #[.int .i64 x] 3)).ownsRow w.heap.size 3 1 (.slice a k c) k (xs.flatMap clI) by have:=O1.below ((Below.refl _ _).alloc (Nat.le_refl _) (.cells #[.int .i64 x] 3));unfold OG at this;rw [HXL.out] at this;exact this)
     have HR1:=hide (And.intro R1 (And.intro T2 (And.intro hsc' hO)))
     have hsz:=T2.size
     clear R1 T1 T2 T R O O1 hsc hsc' H HC hq hp hO
     go_wp2_with (at_builtin;refine wpList_append_own _ rfl _ _ 24 rfl w.heap.size 3 i0 (.int .i64 0) 1 8 Tryz.underlying24 hi hz0 hz1 hz2 rfl (by decide) (.slice a k c) k (xs.flatMap clI) rfl HO1.out ⟨w1.heap.size,0,none⟩ 1 1 (clI x) rfl rfl (cells_new w1 _ _ (clI x) rfl) (by intro u hu;simp [clI] at hu;first | (subst hu;rfl) | (rcases hu with rfl | rfl | rfl <;> rfl)) (by unfold maxLen;omega) (by omega) (by simp;omega) ?_;intro v' w3 hown3 hgr3 _)
     obtain ⟨R1,T2,hsc',hO⟩:=HR1.out
     have T3:Turn (fun j=>j=g) w (w1.alloc (.cells #[.int .i64 x] 3)):=T2.trans (turn_alloc _ _)
     have hrow:∀ j,(Value.slice a k c).ownBlock=some j→w.heap.size≤j:=fun j hj=>(hO.lt j hj).1
     have T4:=turn_grown T3 hgr3 hrow
     have R4:=(R1.below ((Below.refl _ _).alloc (Nat.le_refl _) (.cells #[.int .i64 x] 3))).grown hgr3 hrow hgl HBL.out
     have O4:OG 3 1 clI w3 w.heap.size v' (xs++[x]):=by
      unfold OG
      rw [List.length_append,HXL.out,List.flatMap_append,List.flatMap_singleton]
      exact hown3
     have HX:=hide (And.intro hsc' (And.intro O4 (And.intro R4 T4)))
     clear hsc' O4 R4 T4 T3 R1 T2 hO hown3 hgr3 hrow HR1 HO1
     go_roundw
     case rel=>exact ⟨k+1,xs++[x],r',by omega,by go_num,HX.out.1,HX.out.2.1,HX.out.2.2.1,HX.out.2.2.2⟩
     case measure=>simp [intOf];omega
  ·obtain rfl:k=m:=by omega
   obtain ⟨a,c,rfl⟩:=og_shape O
   have HX:=hide (And.intro hp (And.intro O (And.intro R T)))
   clear hp O R T
   go_wp2
   go_ret
   exact RP.ofSome HX.out.1 HX.out.2.2.2 ⟨a,c,rfl,HX.out.2.1⟩ HX.out.2.2.1
theorem takenTtext_rd (g b n cap:Nat)(zs:List Int)(m:Nat)(r0:List Int)(w:World)(h:RdI w g b n cap zs r0)(hm:m≤1048576):
 Calls Tryz.prog 261 #[.int .i64 m,.func (.func 254) #[.pointer (some ⟨g,0,none⟩)] #[]] w (RP w g b n cap zs (isL (OG 9 1 clT) w.heap.size) (pM (pT) m r0)):=by
 obtain ⟨i0,hi,hz0,hz1,hz2⟩:=info_parts infoT
 have hgl:g<w.heap.size:=by obtain ⟨_,_,_,_,hb,_⟩:=h.pos;exact hb.lt
 have hbl:n≠0→b<w.heap.size:=fun hn=>by
  obtain ⟨_,_,_,h4,_⟩:=h.bs
  obtain ⟨b',off,e,hc⟩:=h4 hn
  simp at e
  have:=World.block_lt_of_cell? w _ (hc 0 (by omega))
  simpa [e.1] using this
 have HF:=hide (fun w r h=>text_rd g b n cap zs r w h)
 have HBL:=hide hbl
 clear hbl
 go_enter Tryz.func261,Tryz.ntmps261
 go_wp2_with fail
 go_loopw [5,7] (fun x i wr=>∃ (k:Nat) (xs:List ByteArray) (r:List Int),k≤m∧i=.int .i64 k∧pM (pT) k r0=some (xs,r)∧OG 9 1 clT wr w.heap.size x xs∧RdI wr g b n cap zs r∧Turn (fun j=>j=g) w wr) (fun _ i _=>m - (intOf i).toNat)
 case atStart=>exact ⟨0,[],r0,Nat.zero_le _,rfl,rfl,og_nil _ _ _ _ _,h,Turn.refl _ _⟩
 case round=>
  obtain ⟨k,xs,r,hk,rfl,hp,O,R,T⟩:=hrel
  have hxl:=pM_len hp
  by_cases hlt:k<m
  ·have hlt':(k:Int)<(m:Int):=by omega
   have hsc:=pM_succ hp
   have HC:=hide (HF.out wr r R)
   have hO:=O
   obtain ⟨a,c,rfl⟩:=og_shape O
   rw [hxl] at hO ⊢
   have HXL:=hide hxl
   clear hxl
   go_wp2_with fail
   refine HC.out.mono ?_
   intro e w1 H
   cases hq:(pT) r with
   | none=>
     obtain ⟨T1,rfl⟩:=H.none hq
     have hN:pM (pT) m r0=none:=by
      rw [hq] at hsc
      have:=pM_none (k:=k+1) hsc (m - (k+1))
      rwa [show k+1+(m - (k+1))=m by omega] at this
     unfold panicE
     go_wp2
     exact ⟨rfl,RP.ofNone hN (T.trans (T1.mono (fun j hj=>hj)))⟩
   | some x=>
     obtain ⟨x,r'⟩:=x
     obtain ⟨T1,v,rfl,hv,R1⟩:=H.some hq
     rw [hq] at hsc
     have hsc':pM (pT) (k+1) r0=some (xs++[x],r'):=hsc
     have O1:=hO.turn T1 (fun j hj=>by omega)
     have T2:=T.trans (T1.mono (fun j hj=>hj))
     obtain rfl:v=.string x:=hv
     have HO1:=hide (show (w1.alloc (.cells #[.string x] 9)).ownsRow w.heap.size 9 1 (.slice a k c) k (xs.flatMap clT) by have:=O1.below ((Below.refl _ _).alloc (Nat.le_refl _) (.cells #[.string x] 9));unfold OG at this;rw [HXL.out] at this;exact this)
     have HR1:=hide (And.intro R1 (And.intro T2 (And.intro hsc' hO)))
     have hsz:=T2.size
     clear R1 T1 T2 T R O O1 hsc hsc' H HC hq hp hO
     go_wp2_with (at_builtin;refine wpList_append_own _ rfl _ _ 94 rfl w.heap.size 9 i0 (.string ⟨#[]⟩) 1 16 Tryz.underlying94 hi hz0 hz1 hz2 rfl (by decide) (.slice a k c) k (xs.flatMap clT) rfl HO1.out ⟨w1.heap.size,0,none⟩ 1 1 (clT x) rfl rfl (cells_new w1 _ _ (clT x) rfl) (by intro u hu;simp [clT] at hu;first | (subst hu;rfl) | (rcases hu with rfl | rfl | rfl <;> rfl)) (by unfold maxLen;omega) (by omega) (by simp;omega) ?_;intro v' w3 hown3 hgr3 _)
     obtain ⟨R1,T2,hsc',hO⟩:=HR1.out
     have T3:Turn (fun j=>j=g) w (w1.alloc (.cells #[.string x] 9)):=T2.trans (turn_alloc _ _)
     have hrow:∀ j,(Value.slice a k c).ownBlock=some j→w.heap.size≤j:=fun j hj=>(hO.lt j hj).1
     have T4:=turn_grown T3 hgr3 hrow
     have R4:=(R1.below ((Below.refl _ _).alloc (Nat.le_refl _) (.cells #[.string x] 9))).grown hgr3 hrow hgl HBL.out
     have O4:OG 9 1 clT w3 w.heap.size v' (xs++[x]):=by
      unfold OG
      rw [List.length_append,HXL.out,List.flatMap_append,List.flatMap_singleton]
      exact hown3
     have HX:=hide (And.intro hsc' (And.intro O4 (And.intro R4 T4)))
     clear hsc' O4 R4 T4 T3 R1 T2 hO hown3 hgr3 hrow HR1 HO1
     go_roundw
     case rel=>exact ⟨k+1,xs++[x],r',by omega,by go_num,HX.out.1,HX.out.2.1,HX.out.2.2.1,HX.out.2.2.2⟩
     case measure=>simp [intOf];omega
  ·obtain rfl:k=m:=by omega
   obtain ⟨a,c,rfl⟩:=og_shape O
   have HX:=hide (And.intro hp (And.intro O (And.intro R T)))
   clear hp O R T
   go_wp2
   go_ret
   exact RP.ofSome HX.out.1 HX.out.2.2.2 ⟨a,c,rfl,HX.out.2.1⟩ HX.out.2.2.1
theorem RdI.lts {W:World}{g b n cap:Nat}{zs r:List Int}(h:RdI W g b n cap zs r):g<W.heap.size∧(n≠0→b<W.heap.size):=by
 refine ⟨by obtain ⟨_,_,_,_,hb,_⟩:=h.pos;exact hb.lt,fun hn=>?_⟩
 obtain ⟨_,_,_,h4,_⟩:=h.bs
 obtain ⟨b',off,e,hc⟩:=h4 hn
 simp at e
 have:=World.block_lt_of_cell? W _ (hc 0 (by omega))
 simpa [e.1] using this
theorem RdI.other {W:World}{g b n cap k i:Nat}{zs r:List Int}{v:Value}(h:RdI W g b n cap zs r)(hk:k≠g)(hb:n≠0→b≠k):RdI (W.setCell ⟨k,i,none⟩ v) g b n cap zs r:=by
 obtain ⟨k',a,p1,p2,p3,p4⟩:=h.pos
 refine ⟨⟨k',a,p1,p2,p3.other _ _ (fun e=>hk e.symm),p4⟩,?_,h.ne,h.small⟩
 by_cases hn:n=0
 ·subst hn
  obtain ⟨b1,b2,b3,b4,b5⟩:=h.bs
  exact ⟨b1,b2,b3,fun e=>absurd rfl e,b5⟩
 ·exact turn_bs (turn_set W k i v) h.bs (fun j hj b' off e=>by simp at e;rw [hj,← e.1];exact hb hn)
structure Es (w W:World)(g b n cap:Nat)(zs r:List Int)(t:TypeId)(z cs:Array Value):Prop where
 rd:RdI W g b n cap zs r
 tu:Turn (fun j=>j=g) w W
 k1:Blk W w.heap.size z t
 k2:Blk W (w.heap.size+1) cs t
 lo:g<w.heap.size∧(n≠0→b<w.heap.size)
theorem Es.call {w W W':World}{g b n cap:Nat}{zs r r':List Int}{t:TypeId}{z cs:Array Value}(h:Es w W g b n cap zs r t z cs)(T:Turn (fun j=>j=g) W W')(R:RdI W' g b n cap zs r'):Es w W' g b n cap zs r' t z cs:=
 ⟨R,h.tu.trans T,turn_blk T h.k1 (by have:=h.lo.1;omega),turn_blk T h.k2 (by have:=h.lo.1;omega),h.lo⟩
theorem Es.set {w W:World}{g b n cap:Nat}{zs r:List Int}{t:TypeId}{z cs:Array Value}(h:Es w W g b n cap zs r t z cs)(i:Nat)(v:Value):Es w (W.setCell ⟨w.heap.size+1,i,none⟩ v) g b n cap zs r t z (cs.setIfInBounds i v):=
 ⟨h.rd.other (by have:=h.lo.1;omega) (fun hn=>by have:=h.lo.2 hn;omega),turn_new' h.tu (by omega) _ _,h.k1.other _ _ (by show w.heap.size≠w.heap.size+1;omega),h.k2.set i v,h.lo⟩
theorem Es.new {w:World}{g b n cap:Nat}{zs r:List Int}{t:TypeId}{z:Array Value}(h:RdI w g b n cap zs r):Es w ((w.alloc (.cells z t)).alloc (.cells z t)) g b n cap zs r t z z:=by
 have b1:Below w.heap.size w (w.alloc (.cells z t)):=(Below.refl _ _).alloc (Nat.le_refl _) _
 have b2:Below (w.alloc (.cells z t)).heap.size (w.alloc (.cells z t)) ((w.alloc (.cells z t)).alloc (.cells z t)):=(Below.refl _ _).alloc (Nat.le_refl _) _
 have e:(w.alloc (.cells z t)).heap.size=w.heap.size+1:=by simp
 refine ⟨(h.below b1).below b2,turn_below (b1.trans (b2.mono b1.size)),(Blk.new w z t).below b2,?_,h.lts⟩
 have:=Blk.new (w.alloc (.cells z t)) z t
 rwa [e] at this
def isX (x:Ex)(v:Value)(w:World):Prop:=v=.agg #[.string x.1,.int .i64 x.2.1,.int .i64 x.2.2]
theorem pN_range {s:Nat}{zs r:List Int}{x:Int}(hz:∀ z ∈ zs,0≤z∧z≤255)(hs:s≤4)(h:pN s zs=some (x,r)):0≤x∧x≤4294967295∧(s≤2→x≤65535):=by
 unfold pN at h
 split at h
 ·rename_i hl
  simp at h
  rw [← h.1]
  have hr:∀ z ∈ zs.take s,0≤z∧z≤255:=fun z hz'=>hz z (List.mem_of_mem_take hz')
  have:=low_small _ hr (by rw [List.length_take];omega)
  refine ⟨this.1,this.2,fun h2=>?_⟩
  have h3:=(low_range _ hr).2
  have h4:(zs.take s).length≤2:=by rw [List.length_take];omega
  have h5:(256:Int)^(zs.take s).length≤65536:=by
   have:(zs.take s).length=0∨(zs.take s).length=1∨(zs.take s).length=2:=by omega
   rcases this with e | e | e <;> rw [e] <;> decide
  omega
 ·simp at h
theorem export_rd (g b n cap:Nat)(zs r:List Int)(w:World)(h:RdI w g b n cap zs r):
 Calls Tryz.prog 263 #[.pointer (some ⟨g,0,none⟩)] w (RP w g b n cap zs isX (pX r)):=by
 have E0:=Es.new (t:=207) (z:=#[.string ⟨#[]⟩,.int .i64 0,.int .i64 0]) h
 clear h
 have HN:=hide (fun w r h=>number_rd g b n cap zs r 1 w h (Or.inl rfl))
 have HX:Hid (pX r=(pT r).bind fun x=>(pN 1 x.2).bind fun y=>(pN 2 y.2).map fun z=>((x.1,y.1 - 1,z.1),z.2)):=rfl
 go_enter Tryz.func263,Tryz.ntmps263
 go_wp2_with fail
 refine (text_rd g b n cap zs r _ E0.rd).mono ?_
 intro e w1 H
 cases hp:pT r with
 | none=>
   obtain ⟨T1,rfl⟩:=H.none hp
   have E1:=E0.tu.trans T1
   unfold panicE
   go_wp2
   exact ⟨rfl,RP.ofNone (by rw [HX.out,hp];rfl) E1⟩
 | some x=>
   obtain ⟨x,r1⟩:=x
   obtain ⟨T1,v,rfl,hv,R1⟩:=H.some hp
   obtain rfl:v=.string x:=hv
   have E1:=(E0.call T1 R1).set 0 (.string x)
   have q0:=(E0.call T1 R1).k2.cell 0
   have f0:=(E0.call T1 R1).k2.frozen 0
   simp at q0
   clear E0 H T1 R1
   go_wp2_with fail
   refine (HN.out _ r1 E1.rd).mono ?_
   intro e w2 H
   cases hq:pN 1 r1 with
   | none=>
     obtain ⟨T2,rfl⟩:=H.none hq
     have E2:=E1.tu.trans T2
     unfold panicE
     go_wp2
     exact ⟨rfl,RP.ofNone (by rw [HX.out,hp];show (pN 1 r1).bind _=none;rw [hq];rfl) E2⟩
   | some y=>
     obtain ⟨y,r2⟩:=y
     obtain ⟨T2,v,rfl,hv,R2⟩:=H.some hq
     obtain rfl:v=.int .i64 y:=hv
     have hy:=pN_range E1.rd.range (by omega) hq
     have E2:=(E1.call T2 R2).set 1 (.int .i64 (y - 1))
     have q1:=(E1.call T2 R2).k2.cell 1
     have f1:=(E1.call T2 R2).k2.frozen 1
     simp at q1
     clear E1 H T2 R2 q0 f0
     obtain ⟨hy0,hy1,_⟩:=hy
     go_wp2_with fail
     refine (count_rd g b n cap zs r2 _ E2.rd).mono ?_
     intro e w3 H
     cases hs:pN 2 r2 with
     | none=>
       obtain ⟨T3,rfl⟩:=H.none hs
       have E3:=E2.tu.trans T3
       unfold panicE
       go_wp2
       exact ⟨rfl,RP.ofNone (by rw [HX.out,hp];show (pN 1 r1).bind _=none;rw [hq];show (pN 2 r2).map _=none;rw [hs];rfl) E3⟩
     | some z=>
       obtain ⟨z,r3⟩:=z
       obtain ⟨T3,v,rfl,hv,R3⟩:=H.some hs
       obtain rfl:v=.int .i64 z:=hv
       have E2':=E2.call T3 R3
       have E3:=E2'.set 2 (.int .i64 z)
       have q2:=E2'.k2.cell 2
       have f2:=E2'.k2.frozen 2
       have u0:=E3.k2.cell 0
       have u1:=E3.k2.cell 1
       have u2:=E3.k2.cell 2
       have s0:=E3.k1.cell 0
       have s1:=E3.k1.cell 1
       have s2:=E3.k1.cell 2
       have sf0:=E3.k1.frozen 0
       have sf1:=E3.k1.frozen 1
       have sf2:=E3.k1.frozen 2
       simp at q2 u0 u1 u2 s0 s1 s2
       have HE:=hide E3
       clear E2 E2' E3 H T3 R3 q1 f1
       go_wp2
       obtain ⟨lo1,lo2⟩:=HE.out.lo
       have F1:=HE.out.rd.other (k:=w.heap.size) (i:=0) (v:=.string x) (by omega) (fun hn=>by have:=lo2 hn;omega)
       have F2:=F1.other (k:=w.heap.size) (i:=1) (v:=.int .i64 (y - 1)) (by omega) (fun hn=>by have:=lo2 hn;omega)
       have F3:=F2.other (k:=w.heap.size) (i:=2) (v:=.int .i64 z) (by omega) (fun hn=>by have:=lo2 hn;omega)
       have T3:=turn_new' (turn_new' (turn_new' HE.out.tu (Nat.le_refl _) 0 (.string x)) (Nat.le_refl _) 1 (.int .i64 (y - 1))) (Nat.le_refl _) 2 (.int .i64 z)
       have k3:=((HE.out.k1.set 0 (.string x)).set 1 (.int .i64 (y - 1))).set 2 (.int .i64 z)
       simp at k3
       obtain ⟨t0,t1,t2,_⟩:=k3.three
       refine bodyPost_ret_by (v:=.agg #[.string x,.int .i64 (y - 1),.int .i64 z]) ?_ rfl (RP.ofSome (x:=(x,y - 1,z)) (r:=r3) (by rw [HX.out,hp];show (pN 1 r1).bind _=_;rw [hq];show (pN 2 r2).map _=_;rw [hs];rfl) T3 rfl F3)
       simp only [results,Tryz.results263]
       simp [go_sem,t0,t1,t2]
theorem takenXexport_rd (g b n cap:Nat)(zs:List Int)(m:Nat)(r0:List Int)(w:World)(h:RdI w g b n cap zs r0)(hm:m≤1048576):
 Calls Tryz.prog 262 #[.int .i64 m,.func (.func 263) #[.pointer (some ⟨g,0,none⟩)] #[]] w (RP w g b n cap zs (isL (OG 207 3 clX) w.heap.size) (pM (pX) m r0)):=by
 obtain ⟨i0,hi,hz0,hz1,hz2⟩:=info_parts infoX
 have hgl:g<w.heap.size:=by obtain ⟨_,_,_,_,hb,_⟩:=h.pos;exact hb.lt
 have hbl:n≠0→b<w.heap.size:=fun hn=>by
  obtain ⟨_,_,_,h4,_⟩:=h.bs
  obtain ⟨b',off,e,hc⟩:=h4 hn
  simp at e
  have:=World.block_lt_of_cell? w _ (hc 0 (by omega))
  simpa [e.1] using this
 have HF:=hide (fun w r h=>export_rd g b n cap zs r w h)
 have HBL:=hide hbl
 clear hbl
 go_enter Tryz.func262,Tryz.ntmps262
 go_wp2_with fail
 go_loopw [5,7] (fun x i wr=>∃ (k:Nat) (xs:List Ex) (r:List Int),k≤m∧i=.int .i64 k∧pM (pX) k r0=some (xs,r)∧OG 207 3 clX wr w.heap.size x xs∧RdI wr g b n cap zs r∧Turn (fun j=>j=g) w wr) (fun _ i _=>m - (intOf i).toNat)
 case atStart=>exact ⟨0,[],r0,Nat.zero_le _,rfl,rfl,og_nil _ _ _ _ _,h,Turn.refl _ _⟩
 case round=>
  obtain ⟨k,xs,r,hk,rfl,hp,O,R,T⟩:=hrel
  have hxl:=pM_len hp
  by_cases hlt:k<m
  ·have hlt':(k:Int)<(m:Int):=by omega
   have hsc:=pM_succ hp
   have HC:=hide (HF.out wr r R)
   have hO:=O
   obtain ⟨a,c,rfl⟩:=og_shape O
   rw [hxl] at hO ⊢
   have HXL:=hide hxl
   clear hxl
   go_wp2_with fail
   refine HC.out.mono ?_
   intro e w1 H
   cases hq:(pX) r with
   | none=>
     obtain ⟨T1,rfl⟩:=H.none hq
     have hN:pM (pX) m r0=none:=by
      rw [hq] at hsc
      have:=pM_none (k:=k+1) hsc (m - (k+1))
      rwa [show k+1+(m - (k+1))=m by omega] at this
     unfold panicE
     go_wp2
     exact ⟨rfl,RP.ofNone hN (T.trans (T1.mono (fun j hj=>hj)))⟩
   | some x=>
     obtain ⟨x,r'⟩:=x
     obtain ⟨T1,v,rfl,hv,R1⟩:=H.some hq
     rw [hq] at hsc
     have hsc':pM (pX) (k+1) r0=some (xs++[x],r'):=hsc
     have O1:=hO.turn T1 (fun j hj=>by omega)
     have T2:=T.trans (T1.mono (fun j hj=>hj))
     obtain rfl:v=.agg #[.string x.1,.int .i64 x.2.1,.int .i64 x.2.2]:=hv
     have HO1:=hide (show (w1.alloc (.cells #[.string x.1,.int .i64 x.2.1,.int .i64 x.2.2] 207)).ownsRow w.heap.size 207 3 (.slice a k c) k (xs.flatMap clX) by have:=O1.below ((Below.refl _ _).alloc (Nat.le_refl _) (.cells #[.string x.1,.int .i64 x.2.1,.int .i64 x.2.2] 207));unfold OG at this;rw [HXL.out] at this;exact this)
     have HR1:=hide (And.intro R1 (And.intro T2 (And.intro hsc' hO)))
     have hsz:=T2.size
     clear R1 T1 T2 T R O O1 hsc hsc' H HC hq hp hO
     go_wp2_with (at_builtin;refine wpList_append_own _ rfl _ _ 102 rfl w.heap.size 207 i0 (.agg #[.string ⟨#[]⟩,.int .i64 0,.int .i64 0]) 3 32 Tryz.underlying102 hi hz0 hz1 hz2 rfl (by decide) (.slice a k c) k (xs.flatMap clX) rfl HO1.out ⟨w1.heap.size,0,none⟩ 1 1 (clX x) rfl rfl (cells_new w1 _ _ (clX x) rfl) (by intro u hu;simp [clX] at hu;first | (subst hu;rfl) | (rcases hu with rfl | rfl | rfl <;> rfl)) (by unfold maxLen;omega) (by omega) (by simp;omega) ?_;intro v' w3 hown3 hgr3 _)
     obtain ⟨R1,T2,hsc',hO⟩:=HR1.out
     have T3:Turn (fun j=>j=g) w (w1.alloc (.cells #[.string x.1,.int .i64 x.2.1,.int .i64 x.2.2] 207)):=T2.trans (turn_alloc _ _)
     have hrow:∀ j,(Value.slice a k c).ownBlock=some j→w.heap.size≤j:=fun j hj=>(hO.lt j hj).1
     have T4:=turn_grown T3 hgr3 hrow
     have R4:=(R1.below ((Below.refl _ _).alloc (Nat.le_refl _) (.cells #[.string x.1,.int .i64 x.2.1,.int .i64 x.2.2] 207))).grown hgr3 hrow hgl HBL.out
     have O4:OG 207 3 clX w3 w.heap.size v' (xs++[x]):=by
      unfold OG
      rw [List.length_append,HXL.out,List.flatMap_append,List.flatMap_singleton]
      exact hown3
     have HX:=hide (And.intro hsc' (And.intro O4 (And.intro R4 T4)))
     clear hsc' O4 R4 T4 T3 R1 T2 hO hown3 hgr3 hrow HR1 HO1
     go_roundw
     case rel=>exact ⟨k+1,xs++[x],r',by omega,by go_num,HX.out.1,HX.out.2.1,HX.out.2.2.1,HX.out.2.2.2⟩
     case measure=>simp [intOf];omega
  ·obtain rfl:k=m:=by omega
   obtain ⟨a,c,rfl⟩:=og_shape O
   have HX:=hide (And.intro hp (And.intro O (And.intro R T)))
   clear hp O R T
   go_wp2
   go_ret
   exact RP.ofSome HX.out.1 HX.out.2.2.2 ⟨a,c,rfl,HX.out.2.1⟩ HX.out.2.2.1
theorem words_rd (g b n cap:Nat)(zs r:List Int)(w:World)(h:RdI w g b n cap zs r):
 Calls Tryz.prog 255 #[.pointer (some ⟨g,0,none⟩)] w (RP w g b n cap zs (isL (OG 3 1 clI) w.heap.size) (pL r)):=by
 have HX:Hid (pL r=(pN 2 r).bind fun x=>pM (pN 4) x.1.toNat x.2):=rfl
 have hmf:∀ (fn:Fn) (first cap:Array Value) (w:World),(Instr.makeFunc fn first cap).run Tryz.prog w=.ok (.func fn first cap) w:=fun _ _ _ _=>rfl
 have HC:=hide (count_rd g b n cap zs r w h)
 have hrg:=h.range
 go_enter Tryz.func255,Tryz.ntmps255
 go_wp2_with fail
 refine HC.out.mono ?_
 intro e w1 H
 cases hp:pN 2 r with
 | none=>
   obtain ⟨T1,rfl⟩:=H.none hp
   unfold panicE
   go_wp2
   exact ⟨rfl,RP.ofNone (by rw [HX.out,hp];rfl) T1⟩
 | some x=>
   obtain ⟨x,r1⟩:=x
   obtain ⟨T1,v,rfl,hv,R1⟩:=H.some hp
   obtain rfl:v=.int .i64 x:=hv
   have hx:=pN_range hrg (by omega) hp
   obtain ⟨m,rfl⟩:∃ m:Nat,x=(m:Int):=⟨x.toNat,by omega⟩
   have hm:m≤65535:=by have:=hx.2.2 (by omega);omega
   have HX2:=hide (show pL r=pM (pN 4) m r1 by rw [HX.out,hp];show pM (pN 4) ((m:Int).toNat) r1=_;rw [Int.toNat_natCast])
   have HT:=hide (takenIword_rd g b n cap zs m r1 w1 R1 (by omega))
   clear HC H hp hrg hx
   go_wp2_with fail
   refine HT.out.mono ?_
   intro e w2 H
   cases hq:pM (pN 4) m r1 with
   | none=>
     obtain ⟨T2,rfl⟩:=H.none hq
     unfold panicE
     go_wp2
     exact ⟨rfl,RP.ofNone (HX2.out.trans hq) (T1.trans T2)⟩
   | some y=>
     obtain ⟨y,r2⟩:=y
     obtain ⟨T2,v,rfl,⟨a,c,rfl,O⟩,R2⟩:=H.some hq
     have HF:=hide (And.intro (T1.trans T2) (And.intro (O.mono T1.size) R2))
     clear T1 T2 O R1 R2 H HT
     go_wp2
     go_ret
     exact RP.ofSome (HX2.out.trans hq) HF.out.1 ⟨a,c,rfl,HF.out.2.1⟩ HF.out.2.2
def isLB (base:Nat)(xs:List (List Int))(v:Value)(w:World):Prop:=∃ bl:List Bk,bl.map (fun B=>B.2.2.2)=xs∧∃ a c,v=.slice a bl.length c∧OBk w base v bl
theorem takenB_rd (g b n cap:Nat)(zs:List Int)(m:Nat)(r0:List Int)(w:World)(h:RdI w g b n cap zs r0)(hm:m≤1048576):
 Calls Tryz.prog 256 #[.int .i64 m,.func (.func 255) #[.pointer (some ⟨g,0,none⟩)] #[]] w (RP w g b n cap zs (isLB w.heap.size) (pM pL m r0)):=by
 obtain ⟨i0,hi,hz0,hz1,hz2⟩:=info_parts infoB
 obtain ⟨hgl,hbl⟩:=h.lts
 have HF:=hide (fun w r h=>words_rd g b n cap zs r w h)
 have HBL:=hide hbl
 clear hbl
 go_enter Tryz.func256,Tryz.ntmps256
 go_wp2_with fail
 go_loopw [5,7] (fun x i wr=>∃ (k:Nat) (bl:List Bk) (r:List Int),k≤m∧i=.int .i64 k∧pM pL k r0=some (bl.map (fun B=>B.2.2.2),r)∧OBk wr w.heap.size x bl∧RdI wr g b n cap zs r∧Turn (fun j=>j=g) w wr) (fun _ i _=>m - (intOf i).toNat)
 case atStart=>exact ⟨0,[],r0,Nat.zero_le _,rfl,rfl,obk_nil _ _,h,Turn.refl _ _⟩
 case round=>
  obtain ⟨k,bl,r,hk,rfl,hp,O,R,T⟩:=hrel
  have hxl:bl.length=k:=by have:=pM_len hp;simpa using this
  by_cases hlt:k<m
  ·have hlt':(k:Int)<(m:Int):=by omega
   have hsc:=pM_succ hp
   have HC:=hide (HF.out wr r R)
   have hO:=O
   obtain ⟨a,c,rfl⟩:=obk_shape O
   rw [hxl] at hO ⊢
   have HXL:=hide hxl
   clear hxl
   go_wp2_with fail
   refine HC.out.mono ?_
   intro e w1 H
   cases hq:pL r with
   | none=>
     obtain ⟨T1,rfl⟩:=H.none hq
     have hN:pM pL m r0=none:=by
      rw [hq] at hsc
      have:=pM_none (k:=k+1) hsc (m - (k+1))
      rwa [show k+1+(m - (k+1))=m by omega] at this
     unfold panicE
     go_wp2
     exact ⟨rfl,RP.ofNone hN (T.trans (T1.mono (fun j hj=>hj)))⟩
   | some x=>
     obtain ⟨x,r'⟩:=x
     obtain ⟨T1,v,rfl,⟨A,C,rfl,OX⟩,R1⟩:=H.some hq
     rw [hq] at hsc
     have hsc':pM pL (k+1) r0=some ((bl++[((A,x.length,C,x):Bk)]).map (fun B=>B.2.2.2),r'):=by rw [List.map_append];exact hsc
     have hlo:∀ B ∈ bl,∀ j,(Value.slice B.1 B.2.1 B.2.2.1).ownBlock=some j→j<wr.heap.size:=fun B hB j hj=>((hO.rows B hB).2.lt j hj).2
     have O1:=hO.turn T1 (fun j hj=>by omega)
     have T2:=T.trans (T1.mono (fun j hj=>hj))
     have al:Below w1.heap.size w1 (w1.alloc (.cells #[.slice A x.length C] 24)):=(Below.refl _ _).alloc (Nat.le_refl _) _
     have O2:OBk (w1.alloc (.cells #[.slice A x.length C] 24)) w.heap.size (.slice a k c) bl:=O1.turn (S:=fun _=>False) (turn_below al) (fun j hj=>absurd hj id)
     have HO1:=hide (show (w1.alloc (.cells #[.slice A x.length C] 24)).ownsRow w.heap.size 24 1 (.slice a k c) k (bl.map fun B=>Value.slice B.1 B.2.1 B.2.2.1) by have:=O2.head;rw [HXL.out] at this;exact this)
     have HR1:=hide (And.intro R1 (And.intro T2 (And.intro hsc' (And.intro O2 (And.intro (OX.below al) (And.intro hlo T.size))))))
     have hsz:=T2.size
     clear R1 T1 T2 T R O O1 O2 OX hsc hsc' H HC hq hp hO hlo al
     go_wp2_with (at_builtin;refine wpList_append_own _ rfl _ _ 93 rfl w.heap.size 24 i0 (.slice none 0 0) 1 24 Tryz.underlying93 hi hz0 hz1 hz2 rfl (by decide) (.slice a k c) k (bl.map fun B=>Value.slice B.1 B.2.1 B.2.2.1) rfl HO1.out ⟨w1.heap.size,0,none⟩ 1 1 [.slice A x.length C] rfl rfl (cells_new w1 _ _ [.slice A x.length C] rfl) (by intro u hu;simp at hu;subst hu;rfl) (by unfold maxLen;omega) (by omega) (by simp;omega) ?_;intro v' w3 hown3 hgr3 _)
     obtain ⟨R1,T2,hsc',O2,OX,hlo,hTs⟩:=HR1.out
     have T3:Turn (fun j=>j=g) w (w1.alloc (.cells #[.slice A x.length C] 24)):=T2.trans (turn_alloc _ _)
     have hrow:∀ j,(Value.slice a k c).ownBlock=some j→w.heap.size≤j:=fun j hj=>(O2.lt j hj).1
     have T4:=turn_grown T3 hgr3 hrow
     have R4:=(R1.below ((Below.refl _ _).alloc (Nat.le_refl _) (.cells #[.slice A x.length C] 24))).grown hgr3 hrow hgl HBL.out
     have O4:=O2.push HXL.out OX hTs hlo hown3 hgr3
     have HX:=hide (And.intro hsc' (And.intro O4 (And.intro R4 T4)))
     clear hsc' O4 R4 T4 T3 R1 T2 O2 OX hown3 hgr3 hrow HR1 HO1 hlo hTs
     go_roundw
     case rel=>exact ⟨k+1,bl++[(A,x.length,C,x)],r',by omega,by go_num,HX.out.1,HX.out.2.1,HX.out.2.2.1,HX.out.2.2.2⟩
     case measure=>simp [intOf];omega
  ·obtain rfl:k=m:=by omega
   obtain ⟨a,c,rfl⟩:=obk_shape O
   have HX:=hide (And.intro hp (And.intro O (And.intro R T)))
   clear hp O R T hxl
   go_wp2
   go_ret
   exact RP.ofSome HX.out.1 HX.out.2.2.2 ⟨bl,rfl,a,c,rfl,HX.out.2.1⟩ HX.out.2.2.1
def Byt (zs:List Int):Prop:=∀ z ∈ zs,0≤z∧z≤255
theorem Byt.drop {zs:List Int}(h:Byt zs)(k:Nat):Byt (zs.drop k):=fun z hz=>h z (List.mem_of_mem_drop hz)
theorem Byt.take {zs:List Int}(h:Byt zs)(k:Nat):Byt (zs.take k):=fun z hz=>h z (List.mem_of_mem_take hz)
def Gives {α:Type}(p:List Int→Option (α × List Int))(Q:α→Prop):Prop:=∀ zs x r,Byt zs→p zs=some (x,r)→Q x∧Byt r
theorem gives_pN (s:Nat)(hs:s≤4):Gives (pN s) (fun x=>0≤x∧x≤4294967295∧(s≤2→x≤65535)):=fun zs x r hz h=>by
 refine ⟨pN_range hz hs h,?_⟩
 obtain ⟨k,_,rfl⟩:=tails_pN s zs x r h
 exact hz.drop k
theorem gives_pN1:Gives (pN 1) (fun x=>0≤x∧x≤255):=fun zs x r hz h=>by
 refine ⟨?_,((gives_pN 1 (by omega)) zs x r hz h).2⟩
 unfold pN at h
 split at h
 ·rename_i hl
  simp at h
  rw [← h.1,low1 hl]
  have:zs.getD 0 0 ∈ zs:=by simp [List.getD_eq_getElem?_getD,show 0<zs.length by omega]
  exact hz _ this
 ·simp at h
theorem gives_pB (n:Nat):Gives (pB n) (fun x=>x.length=n∧Byt x):=fun zs x r hz h=>by
 unfold pB at h
 split at h
 ·rename_i hl
  simp at h
  rw [← h.1,← h.2]
  exact ⟨⟨by rw [List.length_take];omega,hz.take n⟩,hz.drop n⟩
 ·simp at h
theorem gives_bind {α β:Type}{p:List Int→Option (α × List Int)}{f:α × List Int→Option (β × List Int)}{Q:α→Prop}{R:β→Prop}(hp:Gives p Q)(hf:∀ x r y r',Q x→Byt r→f (x,r)=some (y,r')→R y∧Byt r'):Gives (fun zs=>(p zs).bind f) R:=fun zs y r' hz h=>by
 cases e:p zs with
 | none=>simp only [e] at h;simp at h
 | some x=>
   obtain ⟨x,r⟩:=x
   simp only [e] at h
   obtain ⟨hq,hr⟩:=hp zs x r hz e
   exact hf x r y r' hq hr h
theorem gives_pM {α:Type}{p:List Int→Option (α × List Int)}{Q:α→Prop}(hp:Gives p Q):∀ k,Gives (pM p k) (fun xs=>∀ x ∈ xs,Q x)
 | 0=>fun zs xs r hz h=>by
   have h':some (([]:List α),zs)=some (xs,r):=h
   simp at h'
   obtain ⟨rfl,rfl⟩:=h'
   exact ⟨by simp,hz⟩
 | k+1=>gives_bind (gives_pM hp k) fun xs r ys r' hx hr h=>by
   cases e:p r with
   | none=>simp only [e] at h;simp at h
   | some y=>
     obtain ⟨y,r2⟩:=y
     simp only [e,Option.map_some] at h
     simp at h
     obtain ⟨hq,hb⟩:=hp r y r2 hr e
     rw [← h.1,← h.2]
     refine ⟨fun z hz=>?_,hb⟩
     rcases List.mem_append.1 hz with h' | h'
     ·exact hx z h'
     ·simp at h';rw [h'];exact hq
theorem strOf_size (x:List Int):(strOf x).size=x.length:=by
 show (x.map fun z=>UInt8.ofNat z.toNat).toArray.size=_
 simp
theorem gives_pT:Gives pT (fun s=>s.size≤255):=gives_bind gives_pN1 fun n r s r' hn hr h=>by
 cases e:pB n.toNat r with
 | none=>simp only [e] at h;simp at h
 | some y=>
   obtain ⟨y,r2⟩:=y
   simp only [e,Option.map_some] at h
   simp at h
   obtain ⟨⟨hl,_⟩,hb⟩:=gives_pB n.toNat r y r2 hr e
   rw [← h.1,← h.2]
   refine ⟨?_,hb⟩
   rw [strOf_size]
   omega
def Wd (x:Int):Prop:=0≤x∧x≤4294967295
theorem gives_pL:Gives pL (fun xs=>xs.length≤65535∧∀ x ∈ xs,Wd x):=gives_bind (gives_pN 2 (by omega)) fun n r xs r' hn hr h=>by
 obtain ⟨h1,h2⟩:=gives_pM (gives_pN 4 (by omega)) n.toNat r xs r' hr h
 have hl:=pM_len h
 have:=hn.2.2 (by omega)
 exact ⟨⟨by omega,fun x hx=>⟨(h1 x hx).1,(h1 x hx).2.1⟩⟩,h2⟩
theorem gives_pX:Gives pX (fun x=>x.1.size≤255∧-1≤x.2.1∧x.2.1≤254∧0≤x.2.2∧x.2.2≤65535):=gives_bind gives_pT fun s r x r' hs hr h=>by
 refine (gives_bind (R:=fun x:Ex=>x.1.size≤255∧-1≤x.2.1∧x.2.1≤254∧0≤x.2.2∧x.2.2≤65535) (f:=fun y=>(pN 2 y.2).map fun z=>((s,y.1 - 1,z.1),z.2)) gives_pN1 (fun y r y2 r2 hy hr h=>?_)) r x r' hr h
 cases e:pN 2 r with
 | none=>simp only [e] at h;simp at h
 | some z=>
   obtain ⟨z,r3⟩:=z
   simp only [e,Option.map_some] at h
   simp at h
   obtain ⟨hz,hb⟩:=gives_pN 2 (by omega) r z r3 hr e
   rw [← h.1,← h.2]
   exact ⟨⟨hs,by show -1≤y - 1;omega,by show y - 1≤254;omega,hz.1,hz.2.2 (by omega)⟩,hb⟩
structure PmR (P:PMod):Prop where
 n:P.nm.size≤255
 t:P.tz.length≤65535∧∀ x ∈ P.tz,Wd x
 b:P.bl.length≤255∧∀ l ∈ P.bl,l.length≤65535∧∀ x ∈ l,Wd x
 d:P.dz.length≤65535∧Byt P.dz
 s:0≤P.bss∧P.bss≤65535
 r:P.rz.length≤255∧∀ x ∈ P.rz,0≤x∧x≤65535
 i:P.ss.length≤255∧∀ s ∈ P.ss,s.size≤255
 e:P.es.length≤255∧∀ x ∈ P.es,x.1.size≤255∧-1≤x.2.1∧x.2.1≤254∧0≤x.2.2∧x.2.2≤65535
theorem pm_of {zs r:List Int}{P:PMod}(hz:Byt zs)(h:pMod zs=some (P,r)):PmR P∧Byt r:=by
 unfold pMod at h
 simp only [Option.bind_eq_some_iff,Option.map_eq_some_iff] at h
 obtain ⟨⟨a,r1⟩,h1,⟨b,r2⟩,h2,⟨nb,r3⟩,h3,⟨c,r4⟩,h4,⟨nd,r5⟩,h5,⟨d,r6⟩,h6,⟨e,r7⟩,h7,⟨nr,r8⟩,h8,⟨f,r9⟩,h9,⟨ni,r10⟩,h10,⟨i,r11⟩,h11,⟨ne,r12⟩,h12,⟨x,r13⟩,h13,hE⟩:=h
 simp only at h2 h3 h4 h5 h6 h7 h8 h9 h10 h11 h12 h13 hE
 obtain ⟨q1,z1⟩:=gives_pT _ _ _ hz h1
 obtain ⟨q2,z2⟩:=gives_pL _ _ _ z1 h2
 obtain ⟨q3,z3⟩:=gives_pN1 _ _ _ z2 h3
 obtain ⟨q4,z4⟩:=gives_pM gives_pL _ _ _ _ z3 h4
 obtain ⟨q5,z5⟩:=gives_pN 2 (by omega) _ _ _ z4 h5
 obtain ⟨q6,z6⟩:=gives_pB _ _ _ _ z5 h6
 obtain ⟨q7,z7⟩:=gives_pN 2 (by omega) _ _ _ z6 h7
 obtain ⟨q8,z8⟩:=gives_pN1 _ _ _ z7 h8
 obtain ⟨q9,z9⟩:=gives_pM (gives_pN 2 (by omega)) _ _ _ _ z8 h9
 obtain ⟨q10,z10⟩:=gives_pN1 _ _ _ z9 h10
 obtain ⟨q11,z11⟩:=gives_pM gives_pT _ _ _ _ z10 h11
 obtain ⟨q12,z12⟩:=gives_pN1 _ _ _ z11 h12
 obtain ⟨q13,z13⟩:=gives_pM gives_pX _ _ _ _ z12 h13
 have l4:=pM_len h4
 have l9:=pM_len h9
 have l11:=pM_len h11
 have l13:=pM_len h13
 simp at hE
 obtain ⟨rfl,rfl⟩:=hE
 have b5:=q5.2.2 (by omega)
 have b7:=q7.2.2 (by omega)
 exact ⟨⟨q1,q2,⟨by show c.length≤255;omega,q4⟩,⟨by show d.length≤65535;omega,q6.2⟩,⟨q7.1,b7⟩,⟨by show f.length≤255;omega,fun x hx=>⟨(q9 x hx).1,(q9 x hx).2.2 (by omega)⟩⟩,⟨by show i.length≤255;omega,q11⟩,⟨by show x.length≤255;omega,q13⟩⟩,z13⟩
theorem rnd_rnd (x:Int):rnd (rnd x)=rnd x:=by unfold rnd;omega
theorem rnd_whole {x:Int}(h:x % 32=0):rnd x=x:=by unfold rnd;omega
def alF (x:Int):Array Value:=#[.int .i64 x,.func (.func 187) #[] #[]]
def alR (x:Int):Array Value:=#[.int .i64 x,.func (.func 229) #[] #[]]
structure Lo (w W:World)(s c k d fx rx:Int)(cs:Array Value):Prop where
 be:Below w.heap.size w W
 k0:Blk W w.heap.size #[.int .i64 s,.int .i64 c,.int .i64 k,.int .i64 d] 44
 k1:Blk W (w.heap.size+1) zL 36
 k2:Blk W (w.heap.size+2) (alF fx) 266
 k3:Blk W (w.heap.size+3) (alR rx) 268
 k4:Blk W (w.heap.size+4) cs 36
theorem Lo.sz {w W:World}{s c k d fx rx:Int}{cs:Array Value}(h:Lo w W s c k d fx rx cs):w.heap.size+5≤W.heap.size:=h.k4.lt
theorem Lo.below {w W W':World}{s c k d fx rx:Int}{cs:Array Value}(h:Lo w W s c k d fx rx cs)(hb:Below W.heap.size W W'):Lo w W' s c k d fx rx cs:=⟨h.be.trans (hb.mono h.be.size),h.k0.below hb,h.k1.below hb,h.k2.below hb,h.k3.below hb,h.k4.below hb⟩
theorem Lo.set {w W:World}{s c k d fx rx:Int}{cs:Array Value}(h:Lo w W s c k d fx rx cs)(i:Nat)(v:Value):Lo w (W.setCell ⟨w.heap.size+4,i,none⟩ v) s c k d fx rx (cs.setIfInBounds i v):=by
 have t:=turn_set W (w.heap.size+4) i v
 exact ⟨below_turn h.be t (fun k hk=>by omega) h.be.size,turn_blk t h.k0 (by omega),turn_blk t h.k1 (by omega),turn_blk t h.k2 (by omega),turn_blk t h.k3 (by omega),h.k4.set i v⟩
theorem Lo.other {w W:World}{s c k d fx rx:Int}{cs:Array Value}(h:Lo w W s c k d fx rx cs){g:Nat}(hg:w.heap.size+5≤g)(i:Nat)(v:Value):Lo w (W.setCell ⟨g,i,none⟩ v) s c k d fx rx cs:=by
 have t:=turn_set W g i v
 exact ⟨below_turn h.be t (fun k hk=>by omega) h.be.size,turn_blk t h.k0 (by omega),turn_blk t h.k1 (by omega),turn_blk t h.k2 (by omega),turn_blk t h.k3 (by omega),turn_blk t h.k4 (by omega)⟩
theorem Lo.callF {w W W':World}{s c k d fx rx fx':Int}{cs:Array Value}(h:Lo w W s c k d fx rx cs)(t:Turn (fun j=>j=w.heap.size+2) W W')(k2:Blk W' (w.heap.size+2) (alF fx') 266):Lo w W' s c k d fx' rx cs:=
 ⟨below_turn h.be t (fun k hk=>by omega) h.be.size,turn_blk t h.k0 (by omega),turn_blk t h.k1 (by omega),k2,turn_blk t h.k3 (by omega),turn_blk t h.k4 (by omega)⟩
theorem Lo.callR {w W W':World}{s c k d fx rx rx':Int}{cs:Array Value}(h:Lo w W s c k d fx rx cs)(t:Turn (fun j=>j=w.heap.size+3) W W')(k3:Blk W' (w.heap.size+3) (alR rx') 268):Lo w W' s c k d fx rx' cs:=
 ⟨below_turn h.be t (fun k hk=>by omega) h.be.size,turn_blk t h.k0 (by omega),turn_blk t h.k1 (by omega),turn_blk t h.k2 (by omega),k3,turn_blk t h.k4 (by omega)⟩
theorem Lo.grown {w W W':World}{s c k d fx rx:Int}{cs:Array Value}{row:Option Nat}(h:Lo w W s c k d fx rx cs)(hg:W.grownBy W' row)(hr:∀ j,row=some j→w.heap.size+5≤j):Lo w W' s c k d fx rx cs:=by
 have t:Turn (fun j=>row=some j) W W':=⟨hg.os,hg.tape,hg.output,hg.size,fun j hj hs=>hg.block j hj (fun e=>hs e.symm)⟩
 exact ⟨below_turn h.be t (fun j hj=>by have:=hr j hj;omega) h.be.size,turn_blk t h.k0 (fun e=>by have:=hr _ e;omega),turn_blk t h.k1 (fun e=>by have:=hr _ e;omega),turn_blk t h.k2 (fun e=>by have:=hr _ e;omega),turn_blk t h.k3 (fun e=>by have:=hr _ e;omega),turn_blk t h.k4 (fun e=>by have:=hr _ e;omega)⟩
theorem lo_new (w:World)(s c k d:Int):Lo w (((((w.alloc (.cells #[.int .i64 s,.int .i64 c,.int .i64 k,.int .i64 d] 44)).alloc (.cells #[.slice none 0 0,.int .i64 0,.slice none 0 0,.int .i64 0,.int .i64 0,.slice none 0 0] 36)).alloc (.cells #[.int .i64 0,.func (.func 187) #[] #[]] 266)).alloc (.cells #[.int .i64 65536,.func (.func 229) #[] #[]] 268)).alloc (.cells #[.slice none 0 0,.int .i64 0,.slice none 0 0,.int .i64 0,.int .i64 0,.slice none 0 0] 36)) s c k d 0 65536 zL:=by
 have k0:=Blk.new w #[.int .i64 s,.int .i64 c,.int .i64 k,.int .i64 d] 44
 have b0:Below w.heap.size w (w.alloc (.cells #[.int .i64 s,.int .i64 c,.int .i64 k,.int .i64 d] 44)):=(Below.refl _ _).alloc (Nat.le_refl _) _
 have s0:(w.alloc (.cells #[.int .i64 s,.int .i64 c,.int .i64 k,.int .i64 d] 44)).heap.size=w.heap.size+1:=by simp
 generalize w.alloc (.cells #[.int .i64 s,.int .i64 c,.int .i64 k,.int .i64 d] 44)=W0 at *
 have k1:=Blk.new W0 #[.slice none 0 0,.int .i64 0,.slice none 0 0,.int .i64 0,.int .i64 0,.slice none 0 0] 36
 have b1:Below W0.heap.size W0 (W0.alloc (.cells #[.slice none 0 0,.int .i64 0,.slice none 0 0,.int .i64 0,.int .i64 0,.slice none 0 0] 36)):=(Below.refl _ _).alloc (Nat.le_refl _) _
 have s1:(W0.alloc (.cells #[.slice none 0 0,.int .i64 0,.slice none 0 0,.int .i64 0,.int .i64 0,.slice none 0 0] 36)).heap.size=w.heap.size+2:=by simp [s0]
 rw [s0] at k1
 generalize W0.alloc (.cells #[.slice none 0 0,.int .i64 0,.slice none 0 0,.int .i64 0,.int .i64 0,.slice none 0 0] 36)=W1 at *
 have k2:=Blk.new W1 #[.int .i64 0,.func (.func 187) #[] #[]] 266
 have b2:Below W1.heap.size W1 (W1.alloc (.cells #[.int .i64 0,.func (.func 187) #[] #[]] 266)):=(Below.refl _ _).alloc (Nat.le_refl _) _
 have s2:(W1.alloc (.cells #[.int .i64 0,.func (.func 187) #[] #[]] 266)).heap.size=w.heap.size+3:=by simp [s1]
 rw [s1] at k2
 generalize W1.alloc (.cells #[.int .i64 0,.func (.func 187) #[] #[]] 266)=W2 at *
 have k3:=Blk.new W2 #[.int .i64 65536,.func (.func 229) #[] #[]] 268
 have b3:Below W2.heap.size W2 (W2.alloc (.cells #[.int .i64 65536,.func (.func 229) #[] #[]] 268)):=(Below.refl _ _).alloc (Nat.le_refl _) _
 have s3:(W2.alloc (.cells #[.int .i64 65536,.func (.func 229) #[] #[]] 268)).heap.size=w.heap.size+4:=by simp [s2]
 rw [s2] at k3
 generalize W2.alloc (.cells #[.int .i64 65536,.func (.func 229) #[] #[]] 268)=W3 at *
 have k4:=Blk.new W3 #[.slice none 0 0,.int .i64 0,.slice none 0 0,.int .i64 0,.int .i64 0,.slice none 0 0] 36
 have b4:Below W3.heap.size W3 (W3.alloc (.cells #[.slice none 0 0,.int .i64 0,.slice none 0 0,.int .i64 0,.int .i64 0,.slice none 0 0] 36)):=(Below.refl _ _).alloc (Nat.le_refl _) _
 rw [s3] at k4
 have c34:=b4
 have c24:=b3.trans (c34.mono (by omega))
 have c14:=b2.trans (c24.mono (by omega))
 have c04:=b1.trans (c14.mono (by omega))
 exact ⟨b0.trans (c04.mono (by omega)),k0.below c04,k1.below c14,k2.below c24,k3.below c34,k4⟩
theorem flat_clG:∀ (xs:List Tg) (i:Nat),i<xs.length→(xs.flatMap clG)[i * 3]?=some (.int .i64 (xs.getD i zT).1)∧(xs.flatMap clG)[i * 3+1]?=some (.int .i64 (xs.getD i zT).2.1)∧(xs.flatMap clG)[i * 3+2]?=some (.int .i64 (xs.getD i zT).2.2)
 | [],i,h=>by simp at h
 | x :: xs,0,h=>by simp [clG]
 | x :: xs,i+1,h=>by
   obtain ⟨h1,h2,h3⟩:=flat_clG xs i (by simpa using h)
   rw [show (i+1) * 3=i * 3+1+1+1 by omega]
   simp only [List.flatMap_cons,clG,List.cons_append,List.nil_append,List.getElem?_cons_succ]
   exact ⟨h1,h2,h3⟩
theorem ogG_at {w:World}{base n c:Nat}{a:Option Addr}{xs:List Tg}(h:OG 71 3 clG w base (.slice a n c) xs)(m:Nat)(hm:m<n):∃ g,a=some ⟨g,0,none⟩∧w.cell? ⟨g,m * 3,none⟩=some (.int .i64 (xs.getD m zT).1)∧w.cell? ⟨g,m * 3+1,none⟩=some (.int .i64 (xs.getD m zT).2.1)∧w.cell? ⟨g,m * 3+2,none⟩=some (.int .i64 (xs.getD m zT).2.2):=by
 obtain ⟨hl,_,_,h4⟩:=og_parts h
 obtain ⟨g,hg,hc⟩:=h4 (by omega)
 obtain ⟨e0,e1,e2⟩:=flat_clG xs m (by omega)
 exact ⟨g,hg,hc _ _ e0,hc _ _ e1,hc _ _ e2⟩
def zTB:TB:=([],none,0)
theorem otg_at {w:World}{base lo n c:Nat}{a:Option Addr}{ts:List TB}(h:OTg w base lo (.slice a n c) ts)(i:Nat)(hi:i<n):∃ g,a=some ⟨g,0,none⟩∧w.cell? ⟨g,i,none⟩=some (svT (ts.getD i zTB))∧OG 71 3 clG w lo (svT (ts.getD i zTB)) (ts.getD i zTB).1:=by
 obtain ⟨hl,_,_,h4⟩:=og_parts h.head
 obtain ⟨g,hg,hc⟩:=h4 (by omega)
 refine ⟨g,hg,hc i _ ?_,h.rows _ (by simp [List.getD_eq_getElem?_getD,show i<ts.length by omega])⟩
 rw [show ts.flatMap clTB=ts.map svT from flat_one _ _]
 simp [List.getD_eq_getElem?_getD,show i<ts.length by omega]
def zPB:PB:=(⟨0,[],0,0⟩,none,0)
theorem flat_clP:∀ (xs:List PB) (i:Nat),i<xs.length→(xs.flatMap clP)[i * 4]?=some (.int .i64 (xs.getD i zPB).1.text)∧(xs.flatMap clP)[i * 4+1]?=some (svP (xs.getD i zPB))∧(xs.flatMap clP)[i * 4+2]?=some (.int .i64 (xs.getD i zPB).1.data)∧(xs.flatMap clP)[i * 4+3]?=some (.int .i64 (xs.getD i zPB).1.size)
 | [],i,h=>by simp at h
 | x :: xs,0,h=>by simp [clP]
 | x :: xs,i+1,h=>by
   obtain ⟨h1,h2,h3,h4⟩:=flat_clP xs i (by simpa using h)
   rw [show (i+1) * 4=i * 4+1+1+1+1 by omega]
   simp only [List.flatMap_cons,clP,List.cons_append,List.nil_append,List.getElem?_cons_succ]
   exact ⟨h1,h2,h3,h4⟩
theorem opl_at {w:World}{base lo n c:Nat}{a:Option Addr}{xs:List PB}(h:OPl w base lo (.slice a n c) xs)(i:Nat)(hi:i<n):∃ g,a=some ⟨g,0,none⟩∧w.cell? ⟨g,i * 4,none⟩=some (.int .i64 (xs.getD i zPB).1.text)∧w.cell? ⟨g,i * 4+1,none⟩=some (svP (xs.getD i zPB))∧w.cell? ⟨g,i * 4+2,none⟩=some (.int .i64 (xs.getD i zPB).1.data)∧w.cell? ⟨g,i * 4+3,none⟩=some (.int .i64 (xs.getD i zPB).1.size)∧OG 3 1 clI w lo (svP (xs.getD i zPB)) (xs.getD i zPB).1.banks:=by
 obtain ⟨hl,_,_,h4⟩:=og_parts h.head
 obtain ⟨g,hg,hc⟩:=h4 (by omega)
 obtain ⟨e0,e1,e2,e3⟩:=flat_clP xs i (by omega)
 exact ⟨g,hg,hc _ _ e0,hc _ _ e1,hc _ _ e2,hc _ _ e3,h.rows _ (by simp [List.getD_eq_getElem?_getD,show i<xs.length by omega])⟩
structure LayR (L:Lay):Prop where
 p:∀ x ∈ L.places,∀ z ∈ x.banks,wfi z
 s:∀ z ∈ L.slots,wfi z
 n:L.places.length≤1048576∧L.targets.length≤1048576∧∀ x ∈ L.targets,x.length≤1048576
def bankF (xs:List Nat)(bl:List Bk)(i:Nat):Option Addr × Nat × Nat:=(some ⟨xs.getD i 0,0,none⟩,(bl.getD i zB).2.1,(bl.getD i zB).2.1)
theorem sumB_bank (xs:List Nat)(bl:List Bk):∀ n,sumB (bankF xs bl) n=upS (fun j=>(bl.getD j zB).2.1) n
 | 0=>rfl
 | n+1=>by show sumB (bankF xs bl) n+_=upS _ n+_;rw [sumB_bank xs bl n];rfl
def TgS (w:World)(a:Option Addr)(n cap:Nat)(zs:List Tg):Prop:=
 zs.length=n∧n≤maxLen∧(n≠0→∃ b off,a=some ⟨b,off,none⟩∧∀ i,i<n→w.cell? ⟨b,off+i * 3,none⟩=some (.int .i64 (zs.getD i zT).1)∧w.cell? ⟨b,off+i * 3+1,none⟩=some (.int .i64 (zs.getD i zT).2.1)∧w.cell? ⟨b,off+i * 3+2,none⟩=some (.int .i64 (zs.getD i zT).2.2))∧n≤cap
theorem cell_below {w w':World}(hb:Below w.heap.size w w'){b o:Nat}{v:Value}(h:w.cell? ⟨b,o,none⟩=some v):w'.cell? ⟨b,o,none⟩=some v:=(hb.cell (World.block_lt_of_cell? w _ h)).trans h
theorem TgS.below {w w':World}{a:Option Addr}{n cap:Nat}{zs:List Tg}(h:TgS w a n cap zs)(hb:Below w.heap.size w w'):TgS w' a n cap zs:=by
 obtain ⟨h1,h2,h3,h4⟩:=h
 refine ⟨h1,h2,fun hn=>?_,h4⟩
 obtain ⟨b,off,e,hc⟩:=h3 hn
 exact ⟨b,off,e,fun i hi=>⟨cell_below hb (hc i hi).1,cell_below hb (hc i hi).2.1,cell_below hb (hc i hi).2.2⟩⟩
theorem TgS.at {w:World}{a:Option Addr}{n cap:Nat}{zs:List Tg}(h:TgS w a n cap zs)(i:Nat)(hi:i<n):∃ b off,a=some ⟨b,off,none⟩∧w.cell? ⟨b,off+i * 3,none⟩=some (.int .i64 (zs.getD i zT).1)∧w.cell? ⟨b,off+i * 3+1,none⟩=some (.int .i64 (zs.getD i zT).2.1)∧w.cell? ⟨b,off+i * 3+2,none⟩=some (.int .i64 (zs.getD i zT).2.2):=by
 obtain ⟨b,off,e,hc⟩:=h.2.2.1 (by omega)
 exact ⟨b,off,e,hc i hi⟩
def TsS (w:World)(a:Option Addr)(n cap:Nat)(ts:List TB):Prop:=
 ts.length=n∧n≤maxLen∧(n≠0→∃ b off,a=some ⟨b,off,none⟩∧∀ i,i<n→w.cell? ⟨b,off+i,none⟩=some (svT (ts.getD i zTB)))∧(∀ i,i<n→TgS w (ts.getD i zTB).2.1 (ts.getD i zTB).1.length (ts.getD i zTB).2.2 (ts.getD i zTB).1)∧n≤cap
theorem TsS.below {w w':World}{a:Option Addr}{n cap:Nat}{ts:List TB}(h:TsS w a n cap ts)(hb:Below w.heap.size w w'):TsS w' a n cap ts:=by
 obtain ⟨h1,h2,h3,h4,h5⟩:=h
 refine ⟨h1,h2,fun hn=>?_,fun i hi=>(h4 i hi).below hb,h5⟩
 obtain ⟨b,off,e,hc⟩:=h3 hn
 exact ⟨b,off,e,fun i hi=>cell_below hb (hc i hi)⟩
theorem TsS.at {w:World}{a:Option Addr}{n cap:Nat}{ts:List TB}(h:TsS w a n cap ts)(i:Nat)(hi:i<n):∃ b off,a=some ⟨b,off,none⟩∧w.cell? ⟨b,off+i,none⟩=some (svT (ts.getD i zTB)):=by
 obtain ⟨b,off,e,hc⟩:=h.2.2.1 (by omega)
 exact ⟨b,off,e,hc i hi⟩
def PlS (w:World)(a:Option Addr)(n cap:Nat)(xs:List PB):Prop:=
 xs.length=n∧n≤maxLen∧(n≠0→∃ b off,a=some ⟨b,off,none⟩∧∀ i,i<n→w.cell? ⟨b,off+i * 4,none⟩=some (.int .i64 (xs.getD i zPB).1.text)∧w.cell? ⟨b,off+i * 4+1,none⟩=some (svP (xs.getD i zPB))∧w.cell? ⟨b,off+i * 4+2,none⟩=some (.int .i64 (xs.getD i zPB).1.data)∧w.cell? ⟨b,off+i * 4+3,none⟩=some (.int .i64 (xs.getD i zPB).1.size))∧(∀ i,i<n→IS w (xs.getD i zPB).2.1 (xs.getD i zPB).1.banks.length (xs.getD i zPB).2.2 (xs.getD i zPB).1.banks)∧n≤cap
theorem PlS.below {w w':World}{a:Option Addr}{n cap:Nat}{xs:List PB}(h:PlS w a n cap xs)(hb:Below w.heap.size w w'):PlS w' a n cap xs:=by
 obtain ⟨h1,h2,h3,h4,h5⟩:=h
 refine ⟨h1,h2,fun hn=>?_,fun i hi=>(h4 i hi).below hb,h5⟩
 obtain ⟨b,off,e,hc⟩:=h3 hn
 exact ⟨b,off,e,fun i hi=>⟨cell_below hb (hc i hi).1,cell_below hb (hc i hi).2.1,cell_below hb (hc i hi).2.2.1,cell_below hb (hc i hi).2.2.2⟩⟩
theorem PlS.at {w:World}{a:Option Addr}{n cap:Nat}{xs:List PB}(h:PlS w a n cap xs)(i:Nat)(hi:i<n):∃ b off,a=some ⟨b,off,none⟩∧w.cell? ⟨b,off+i * 4,none⟩=some (.int .i64 (xs.getD i zPB).1.text)∧w.cell? ⟨b,off+i * 4+1,none⟩=some (svP (xs.getD i zPB))∧w.cell? ⟨b,off+i * 4+2,none⟩=some (.int .i64 (xs.getD i zPB).1.data)∧w.cell? ⟨b,off+i * 4+3,none⟩=some (.int .i64 (xs.getD i zPB).1.size):=by
 obtain ⟨b,off,e,hc⟩:=h.2.2.1 (by omega)
 exact ⟨b,off,e,hc i hi⟩
structure LyT (w:World)(L:Lay)(a0:Option Addr)(c0:Nat)(xs:List PB)(a2:Option Addr)(c2:Nat)(a5:Option Addr)(c5:Nat)(ts:List TB):Prop where
 p:PlS w a0 xs.length c0 xs
 ps:xs.map (fun x=>x.1)=L.places
 s:IS w a2 L.slots.length c2 L.slots
 t:TsS w a5 ts.length c5 ts
 tt:ts.map (fun x=>x.1)=L.targets
 v:wfi L.stack∧wfi L.flash∧wfi L.ram
theorem LyT.below {w w':World}{L:Lay}{a0:Option Addr}{c0:Nat}{xs:List PB}{a2:Option Addr}{c2:Nat}{a5:Option Addr}{c5:Nat}{ts:List TB}(h:LyT w L a0 c0 xs a2 c2 a5 c5 ts)(hb:Below w.heap.size w w'):LyT w' L a0 c0 xs a2 c2 a5 c5 ts:=⟨h.p.below hb,h.ps,h.s.below hb,h.t.below hb,h.tt,h.v⟩
theorem take_succ_eq {α:Type}(z:α)(xs ys:List α)(k:Nat)(h:xs.take k=ys.take k)(hx:k<xs.length)(hy:k<ys.length)(he:xs.getD k z=ys.getD k z):xs.take (k+1)=ys.take (k+1):=by
 rw [List.take_succ_eq_append_getElem hx,List.take_succ_eq_append_getElem hy,h]
 simp [List.getD_eq_getElem?_getD,hx,hy] at he
 rw [he]
theorem l5SameNums_any (a a':Option Addr)(n cap n' cap':Nat)(xs ys:List Int)(w:World)(h:IS w a n cap xs)(h':IS w a' n' cap' ys):
 Calls Tryz.prog 79 #[.slice a n cap,.slice a' n' cap'] w fun e w'=>e=.returned (.bool (decide (xs=ys)))∧Below w.heap.size w w':=by
 obtain ⟨hl,hmx,hr,hc,_⟩:=h
 obtain ⟨hl',hmx',hr',hc',_⟩:=h'
 unfold maxLen at hmx hmx'
 by_cases hn:n=n'
 ·subst hn
  have hne:((n:Int) != (n:Int))=false:=by simp
  by_cases hn0:n=0
  ·subst hn0
   obtain rfl:xs=[]:=List.eq_nil_of_length_eq_zero hl
   obtain rfl:ys=[]:=List.eq_nil_of_length_eq_zero hl'
   clear hc hc'
   go_enter Tryz.func79,Tryz.ntmps79
   go_wp2
   go_loop [5] (fun i=>i=.int .i64 0) (fun _=>0)
   case atStart=>rfl
   case round=>
    obtain rfl:=hrel
    go_wp2
    go_ret
    exact ⟨rfl,Below.refl _ _⟩
  ·obtain ⟨b,off,rfl,hd⟩:=hc hn0
   obtain ⟨b',off',rfl,hd'⟩:=hc' hn0
   clear hc hc'
   go_enter Tryz.func79,Tryz.ntmps79
   go_wp2
   go_loopw [5] (fun i wr=>∃ k:Nat,k≤n∧i=.int .i64 k∧xs.take k=ys.take k∧Below w.heap.size w wr) (fun i _=>n - (intOf i).toNat)
   case atStart=>exact ⟨0,Nat.zero_le _,rfl,by simp,Below.refl _ _⟩
   case round=>
    obtain ⟨k,hk,rfl,hT,hB⟩:=hrel
    by_cases hlt:k<n
    ·have hlt':(k:Int)<(n:Int):=by omega
     have hck:wr.cell? ⟨b,off+k,none⟩=some (.int .i64 (xs.getD k 0)):=(hB.cell (World.block_lt_of_cell? w _ (hd k hlt))).trans (hd k hlt)
     have hck':wr.cell? ⟨b',off'+k,none⟩=some (.int .i64 (ys.getD k 0)):=(hB.cell (World.block_lt_of_cell? w _ (hd' k hlt))).trans (hd' k hlt)
     by_cases he:xs.getD k 0=ys.getD k 0
     ·have hS:=take_eq_succI xs ys k hT (by omega) (by omega) he
      have HS:Hid (xs.take (k+1)=ys.take (k+1)):=hS
      rw [he] at hck
      clear hS hT hd hd' he
      generalize ys.getD k 0=z at *
      have hz:(z != z)=false:=by simp
      go_wp2
      go_quiet (fail)
      go_wp2
      go_roundw
      case rel=>exact ⟨k+1,by omega,by go_num,HS.out,below_drewN hB _⟩
      case measure=>simp [intOf];omega
     ·have hf:Hid (decide (xs=ys)=false):=by
       show _=_
       simp
       intro e
       exact he (by rw [e])
      have hz:(xs.getD k 0 != ys.getD k 0)=true:=by simpa using he
      clear hT hd hd' he
      generalize ys.getD k 0=z at *
      generalize xs.getD k 0=z' at *
      go_wp2
      go_quiet (fail)
      go_wp2
      go_ret
      exact ⟨ret_bool hf.out.symm,below_drewN hB _⟩
    ·have hf:Hid (decide (xs=ys)=true):=by
      show _=_
      simp
      rw [List.take_of_length_le (by omega),List.take_of_length_le (by omega)] at hT
      exact hT
     clear hT hd hd'
     go_wp2
     go_ret
     exact ⟨ret_bool hf.out.symm,hB⟩
 ·have hf:Hid (decide (xs=ys)=false):=by
   show _=_
   simp
   intro e
   rw [e] at hl
   omega
  have hne:((n:Int) != (n':Int))=true:=by simp;omega
  clear hc hc'
  go_enter Tryz.func79,Tryz.ntmps79
  go_wp2
  go_ret
  exact ⟨ret_bool hf.out.symm,Below.refl _ _⟩
theorem sliceEqI_any (a a':Option Addr)(n cap n' cap':Nat)(xs ys:List Int)(w:World)(h:IS w a n cap xs)(h':IS w a' n' cap' ys):
 Calls Tryz.prog 204 #[.slice a n cap,.slice a' n' cap'] w fun e w'=>e=.returned (.bool (decide (xs=ys)))∧Below w.heap.size w w':=by
 obtain ⟨hl,hmx,hr,hc,_⟩:=h
 obtain ⟨hl',hmx',hr',hc',_⟩:=h'
 unfold maxLen at hmx hmx'
 by_cases hn:n=n'
 ·subst hn
  have hne:((n:Int) != (n:Int))=false:=by simp
  by_cases hn0:n=0
  ·subst hn0
   obtain rfl:xs=[]:=List.eq_nil_of_length_eq_zero hl
   obtain rfl:ys=[]:=List.eq_nil_of_length_eq_zero hl'
   clear hc hc'
   go_enter Tryz.func204,Tryz.ntmps204
   go_wp2
   go_loop [13] (fun i=>i=.int .i64 0) (fun _=>0)
   case atStart=>rfl
   case round=>
    obtain rfl:=hrel
    go_wp2
    go_ret
    exact ⟨rfl,Below.refl _ _⟩
  ·obtain ⟨b,off,rfl,hd⟩:=hc hn0
   obtain ⟨b',off',rfl,hd'⟩:=hc' hn0
   clear hc hc'
   go_enter Tryz.func204,Tryz.ntmps204
   go_wp2
   go_loopw [13] (fun i wr=>∃ k:Nat,k≤n∧i=.int .i64 k∧xs.take k=ys.take k∧Below w.heap.size w wr) (fun i _=>n - (intOf i).toNat)
   case atStart=>exact ⟨0,Nat.zero_le _,rfl,by simp,Below.refl _ _⟩
   case round=>
    obtain ⟨k,hk,rfl,hT,hB⟩:=hrel
    by_cases hlt:k<n
    ·have hlt':(k:Int)<(n:Int):=by omega
     have hck:wr.cell? ⟨b,off+k,none⟩=some (.int .i64 (xs.getD k 0)):=(hB.cell (World.block_lt_of_cell? w _ (hd k hlt))).trans (hd k hlt)
     have hck':wr.cell? ⟨b',off'+k,none⟩=some (.int .i64 (ys.getD k 0)):=(hB.cell (World.block_lt_of_cell? w _ (hd' k hlt))).trans (hd' k hlt)
     by_cases he:xs.getD k 0=ys.getD k 0
     ·have hS:=take_eq_succI xs ys k hT (by omega) (by omega) he
      have HS:Hid (xs.take (k+1)=ys.take (k+1)):=hS
      rw [he] at hck
      clear hS hT hd hd' he
      generalize ys.getD k 0=z at *
      have hz:(z != z)=false:=by simp
      go_wp2
      go_quiet (fail)
      go_wp2
      go_roundw
      case rel=>exact ⟨k+1,by omega,by go_num,HS.out,below_drewN hB _⟩
      case measure=>simp [intOf];omega
     ·have hf:Hid (decide (xs=ys)=false):=by
       show _=_
       simp
       intro e
       exact he (by rw [e])
      have hz:(xs.getD k 0 != ys.getD k 0)=true:=by simpa using he
      clear hT hd hd' he
      generalize ys.getD k 0=z at *
      generalize xs.getD k 0=z' at *
      go_wp2
      go_quiet (fail)
      go_wp2
      go_ret
      exact ⟨ret_bool hf.out.symm,below_drewN hB _⟩
    ·have hf:Hid (decide (xs=ys)=true):=by
      show _=_
      simp
      rw [List.take_of_length_le (by omega),List.take_of_length_le (by omega)] at hT
      exact hT
     clear hT hd hd'
     go_wp2
     go_ret
     exact ⟨ret_bool hf.out.symm,hB⟩
 ·have hf:Hid (decide (xs=ys)=false):=by
   show _=_
   simp
   intro e
   rw [e] at hl
   omega
  have hne:((n:Int) != (n':Int))=true:=by simp;omega
  clear hc hc'
  go_enter Tryz.func204,Tryz.ntmps204
  go_wp2
  go_ret
  exact ⟨ret_bool hf.out.symm,Below.refl _ _⟩
end Go.Proofs.YtngdgogjlpjjpaeGreat
