import Derived.Test.YtngdgogjlpjjpadGreatP16
import Derived.Test.YtngdgogjlpjjpadGreatP17
namespace Go.Proofs.YtngdgogjlpjjpadGreat
open Go.RowKit
set_option linter.unusedVariables false
set_option linter.unusedSimpArgs false
set_option maxRecDepth 100000
def sq {α:Type} (F:Nat→List α × Nat) (l:List α) (k:Nat):Nat→List α × Nat
 | 0=>(l,k)
 | i+1=>((sq F l k i).1++(F (sq F l k i).2).1,(F (sq F l k i).2).2)
theorem sq_len {α:Type} {F:Nat→List α × Nat} {m:Nat} (h:∀ k,(F k).1.length≤m) (l:List α) (k:Nat):∀ i,(sq F l k i).1.length≤l.length+i * m
 | 0=>by simp [sq]
 | i+1=>by
   have h1:=sq_len h l k i
   have h2:=h (sq F l k i).2
   simp only [sq,List.length_append]
   rw [Nat.add_mul]
   omega
theorem sq_all {α:Type} {F:Nat→List α × Nat} {Q:α→Prop} (h:∀ k,∀ x ∈ (F k).1,Q x) (l:List α) (hl:∀ x ∈ l,Q x) (k:Nat):∀ i,∀ x ∈ (sq F l k i).1,Q x
 | 0=>by simpa [sq] using hl
 | i+1=>by
   intro x hx
   simp only [sq,List.mem_append] at hx
   rcases hx with hx | hx
   ·exact sq_all h l hl k i x hx
   ·exact h _ x hx
def CodeFn (zs:List Int) (k:Nat) (ys:List Int) (k':Nat):Prop:=∀ (w:World) (r:Nat) (a:Option Addr) (n c:Nat) (h:Dst w w r a n c zs k),Calls Tryz.prog 198 #[.pointer (some ⟨r,0,none⟩)] w fun e w'=>∃ v,e=.returned v∧Dl w w' r a n c zs k' v ys
set_option maxHeartbeats 4000000 in
theorem l4Code_fn (zs:List Int) (hz:∀ j,0≤zs.getD j 0∧zs.getD j 0≤255) (k:Nat):∃ y:List Int × Nat,((1≤y.1.length∧y.1.length≤40)∧∀ z ∈ y.1,0≤z∧z≤4294967295)∧CodeFn zs k y.1 y.2:=by
 obtain ⟨F,hF⟩:=Classical.axiomOfChoice (l4Part_fn zs hz)
 obtain ⟨K,E1,z0,z1⟩:=draw_of hz k
 have L0:Hid (([opW 2 2 0 0,opW 3 2 0 2]:List Int)=[opW 2 2 0 0,opW 3 2 0 2]):=rfl
 have hl:=sq_len (fun j=>(hF j).1.1) [opW 2 2 0 0,opW 3 2 0 2] (k+1)
 have ha:=sq_all (fun j=>(hF j).1.2) [opW 2 2 0 0,opW 3 2 0 2] (by intro z hz;simp at hz;rcases hz with rfl | rfl <;> exact opW_rng _ _ _ _) (k+1)
 obtain ⟨m,hm⟩:∃ m:Nat,(m:Int)=1+K % 5:=⟨(1+K % 5).toNat,by omega⟩
 have hm5:m≤5:=by omega
 have fin:∀ (x:Int),(0≤x∧x≤4294967295)→((1≤((sq F [opW 2 2 0 0,opW 3 2 0 2] (k+1) m).1++[x]).length∧((sq F [opW 2 2 0 0,opW 3 2 0 2] (k+1) m).1++[x]).length≤40)∧∀ z ∈ (sq F [opW 2 2 0 0,opW 3 2 0 2] (k+1) m).1++[x],0≤z∧z≤4294967295):=fun x hx=>by
  have h1:=hl m
  simp only [List.length_cons,List.length_nil] at h1
  refine ⟨by simp;omega,fun z hz=>?_⟩
  rcases List.mem_append.1 hz with hz | hz
  ·exact ha m z hz
  ·simp at hz;subst hz;exact hx
 have walk:∀ (x:Int),(K % 16=15∧x=opW 20 0 0 (-1 - K / 16))∨(K % 16≠15∧x=opW 25 0 0 0)→CodeFn zs k ((sq F [opW 2 2 0 0,opW 3 2 0 2] (k+1) m).1++[x]) (sq F [opW 2 2 0 0,opW 3 2 0 2] (k+1) m).2:=fun x hx=>by
  intro w r a n c h
  have HP:=hide (fun j=>(hF j).2)
  have HL:=hide hl
  clear hF ha fin L0 hl
  have HX:=hide hx
  go_enter Tryz.func198,Tryz.ntmps198
  go_wp2_with fail
  refine (h.next K E1).mono ?_
  rintro e w1 ⟨rfl,d1,_⟩
  clear h
  go_wp2_with fail
  refine (l4Op_is _ _ _ _ _ 2 2 0 0 rfl rfl rfl rfl (by omega)).mono ?_
  rintro e w2 ⟨rfl,hb2⟩
  go_wp2_with fail
  refine (l4Op_is _ _ _ _ _ 3 2 0 2 rfl rfl rfl rfl (by omega)).mono ?_
  rintro e w3 ⟨rfl,hb3⟩
  have d3:=(d1.below hb2).below hb3
  have hs3:=d3.sz
  have D:=Dl.mk (d3.below ((Below.refl _ _).alloc (Nat.le_refl _) (.cells (([opW 2 2 0 0,opW 3 2 0 2]:List Int).flatMap clI).toArray 3))) (og_mk 3 1 clI w3 w.heap.size hs3 [opW 2 2 0 0,opW 3 2 0 2] _ rfl rfl (by unfold maxLen;simp))
  have HD:=hide D
  clear D d3 d1 hb2 hb3
  go_wp2
  go_loopw [4,5] (fun o i wr=>∃ (j:Nat),j≤m∧i=.int .i64 j∧Dl w wr r a n c zs (sq F [opW 2 2 0 0,opW 3 2 0 2] (k+1) j).2 o (sq F [opW 2 2 0 0,opW 3 2 0 2] (k+1) j).1) (fun _ i _=>m - (intOf i).toNat)
  case atStart=>exact ⟨0,Nat.zero_le _,rfl,HD.out⟩
  case round=>
   obtain ⟨j,hj,rfl,D⟩:=hrel
   clear HD
   by_cases hlt:j<m
   ·have hlt':(j:Int)<1+K % 5:=by omega
    have hll:=HL.out j
    simp only [List.length_cons,List.length_nil] at hll
    have HC:=hide (HP.out _ _ _ _ _ _ _ _ _ D (by omega))
    clear hll
    go_wp2_with fail
    refine HC.out.mono ?_
    rintro e wa ⟨v',rfl,D'⟩
    have HD':=hide D'
    clear D' D HC
    go_wp2
    go_roundw
    case rel=>exact ⟨j+1,by omega,by go_num,HD'.out⟩
    case measure=>simp [intOf];omega
   ·have hlt':¬ (j:Int)<1+K % 5:=by omega
    have ejm:j=m:=by omega
    have hll:=HL.out j
    simp only [List.length_cons,List.length_nil] at hll
    rw [ejm] at D hll
    clear ejm
    rcases hx with ⟨hc,rfl⟩ | ⟨hc,rfl⟩
    ·go_wp2_with fail
     refine (l4Op_is _ _ _ _ _ 20 0 0 (-1 - K / 16) rfl rfl rfl (by first | rfl | omega) (by omega)).mono ?_
     rintro e u0 ⟨rfl,hb⟩
     have D':=D.below hb
     clear D hb
     have HL':=hide (D'.below ((Below.refl _ _).alloc (Nat.le_refl _) (.cells (([opW 20 0 0 (-1 - K / 16)]:List Int).flatMap clI).toArray 3)))
     have HN:=hide (newsL u0 u0.heap.size [opW 20 0 0 (-1 - K / 16)] _ rfl rfl)
     clear D'
     go_wp2_with (at_builtin;refine list_dl HL'.out rfl _ _ rfl rfl ⟨u0.heap.size,0,none⟩ 1 1 rfl rfl HN.out (by omega) ?_;intro v' w' L')
     go_wp2
     go_ret
     exact ⟨_,rfl,L'⟩
    ·go_wp2_with fail
     refine (l4Op_is _ _ _ _ _ 25 0 0 0 rfl rfl rfl rfl (by omega)).mono ?_
     rintro e u0 ⟨rfl,hb⟩
     have D':=D.below hb
     clear D hb
     have HL':=hide (D'.below ((Below.refl _ _).alloc (Nat.le_refl _) (.cells (([opW 25 0 0 0]:List Int).flatMap clI).toArray 3)))
     have HN:=hide (newsL u0 u0.heap.size [opW 25 0 0 0] _ rfl rfl)
     clear D'
     go_wp2_with (at_builtin;refine list_dl HL'.out rfl _ _ rfl rfl ⟨u0.heap.size,0,none⟩ 1 1 rfl rfl HN.out (by omega) ?_;intro v' w' L')
     go_wp2
     go_ret
     exact ⟨_,rfl,L'⟩
 by_cases hc:K % 16=15
 ·exact ⟨(_,_),fin _ (opW_rng 20 0 0 (-1 - K / 16)),walk _ (.inl ⟨hc,rfl⟩)⟩
 ·exact ⟨(_,_),fin _ (opW_rng 25 0 0 0),walk _ (.inr ⟨hc,rfl⟩)⟩
def nmN:Nat→ByteArray
 | 0=>⟨#[109,97]⟩
 | 1=>⟨#[108,105,98]⟩
 | 2=>⟨#[97,117,120]⟩
 | _=>⟨#[122,122]⟩
def exN:Nat→ByteArray
 | 0=>⟨#[103,111]⟩
 | 1=>⟨#[98,97]⟩
 | 2=>⟨#[98,98]⟩
 | 3=>⟨#[98,99]⟩
 | _=>⟨#[98,100]⟩
set_option maxHeartbeats 1000000 in
theorem l4Name_any (i:Nat) (hi:i≤3) (w:World):Calls Tryz.prog 197 #[.int .i64 i] w fun e w'=>e=.returned (.string (nmN i))∧Below w.heap.size w w':=by
 have hB:∀ o,Below w.heap.size w (w.alloc o):=fun o=>(Below.refl _ _).alloc (Nat.le_refl _) _
 have HB:=hide hB
 clear hB
 rcases (show i=0∨i=1∨i=2∨i=3 by omega) with rfl | rfl | rfl | rfl
 all_goals
  go_enter Tryz.func197,Tryz.ntmps197
  go_wp2
  go_ret
  exact ⟨rfl,HB.out _⟩
set_option maxHeartbeats 1000000 in
theorem l4Export_any (i:Int) (h0:-1≤i) (h1:i≤3) (w:World):Calls Tryz.prog 196 #[.int .i64 i] w fun e w'=>e=.returned (.string (exN (i+1).toNat))∧Below w.heap.size w w':=by
 have hB:∀ o,Below w.heap.size w (w.alloc o):=fun o=>(Below.refl _ _).alloc (Nat.le_refl _) _
 have HB:=hide hB
 clear hB
 rcases (show i=-1∨i=0∨i=1∨i=2∨i=3 by omega) with rfl | rfl | rfl | rfl | rfl
 all_goals
  clear h0 h1
  go_enter Tryz.func196,Tryz.ntmps196
  go_wp2
  go_ret
  exact ⟨rfl,HB.out _⟩
structure DmR (i:Nat) (P:PMod):Prop where
 n:P.nm=nmN i
 t:(1≤P.tz.length∧P.tz.length≤40)∧∀ z ∈ P.tz,0≤z∧z≤4294967295
 b:P.bl.length≤3∧∀ l ∈ P.bl,l.length≤40∧∀ z ∈ l,0≤z∧z≤4294967295
 d:P.dz.length≤16∧Byt P.dz
 s:0≤P.bss∧P.bss≤63
 r:P.rz=[]∨P.rz=[0]
 i:P.ss=[]
 e:P.es.length≤4∧∀ x ∈ P.es,x.1.size≤2∧-1≤x.2.1∧x.2.1≤3∧x.2.2=0
def ModFn (zs:List Int) (k i:Nat) (P:PMod) (k':Nat):Prop:=∀ (w:World) (r:Nat) (a:Option Addr) (n c:Nat) (h:Dst w w r a n c zs k),Calls Tryz.prog 137 #[.pointer (some ⟨r,0,none⟩),.int .i64 i] w fun e w'=>∃ M:Ma,e=.returned (.agg (modV P M.a1 M.c1 M.a2 M.c2 M.bl M.a3 M.c3 M.a5 M.c5 M.a6 M.c6 M.a7 M.c7))∧Dst w w' r a n c zs k'∧MO w' w.heap.size P M∧∃ db,M.a3=some ⟨db,0,none⟩
theorem modl_end {W:World} {q:Nat} {cs:Array Value} (k1:Blk W q cs 49) (hs:cs.size=8) (v0 v1 v2 v3 v4 v5 v6 v7:Value) (Q:Ending→World→Prop) (tmps:Array Value) (h4:tmps[4]?=some (.pointer (some ⟨q,0,none⟩))) (hQ:Q (.returned (.agg #[v0,v1,v2,v3,v4,v5,v6,v7])) (st8 W q v0 v1 v2 v3 v4 v5 v6 v7)):
 bodyPost Tryz.prog Tryz.f137 Q Exit.ret ⟨tmps,[]⟩ (st8 W q v0 v1 v2 v3 v4 v5 v6 v7):=by
 obtain ⟨t0,t1,t2,t3,t4,t5,t6,t7⟩:=(blk_st8 k1 hs v0 v1 v2 v3 v4 v5 v6 v7).eight'
 refine bodyPost_ret_by (v:=.agg #[v0,v1,v2,v3,v4,v5,v6,v7]) ?_ rfl hQ
 simp [results,Tryz.results137,go_sem,h4,t0,t1,t2,t3,t4,t5,t6,t7]
structure MR (w W:World) (r:Nat) (a:Option Addr) (n c:Nat) (zs:List Int) (k g q:Nat) (P:PMod) (M:Ma):Prop where
 m:MB w W r a n c zs k g P M
 res:Blk W q z8 49
 hq:w.heap.size≤q
 ne:q≠g
theorem MR.below {w W W':World} {r:Nat} {a:Option Addr} {n c:Nat} {zs:List Int} {k g q:Nat} {P:PMod} {M:Ma} (h:MR w W r a n c zs k g q P M) (hb:Below W.heap.size W W'):MR w W' r a n c zs k g q P M:=⟨h.m.below hb,h.res.below hb,h.hq,h.ne⟩
theorem MR.drew {w W:World} {r:Nat} {a:Option Addr} {n c:Nat} {zs:List Int} {k g q:Nat} {P:PMod} {M:Ma} (h:MR w W r a n c zs k g q P M):MR w W.drew r a n c zs k g q P M:=h.below (Below.refl _ _).drew
theorem MR.turn {w W W':World} {r:Nat} {a:Option Addr} {n c:Nat} {zs:List Int} {k k' g q:Nat} {P:PMod} {M:Ma} (h:MR w W r a n c zs k g q P M) (ht:Turn (fun j=>j=r) W W') (d:Dst w W' r a n c zs k'):MR w W' r a n c zs k' g q P M:=⟨h.m.turn ht d,turn_blk ht h.res (by have:=h.hq;have:=h.m.d.lt;omega),h.hq,h.ne⟩
theorem MR.next {w W:World} {r:Nat} {a:Option Addr} {n c:Nat} {zs:List Int} {k g q:Nat} {P:PMod} {M:Ma} (h:MR w W r a n c zs k g q P M) (x:Int) (hx:Hid (zs.getD k 0=x)):
 Calls Tryz.prog 51 #[.pointer (some ⟨r,0,none⟩)] W fun e w'=>e=.returned (.int .i64 x)∧MR w w' r a n c zs (k+1) g q P M:=
 (h.m.d.next x hx).mono fun e w' ⟨he,hd,ht⟩=>⟨he,h.turn ht hd⟩
theorem MR.two {w W:World} {r:Nat} {a:Option Addr} {n c:Nat} {zs:List Int} {k g q:Nat} {P:PMod} {M:Ma} (h:MR w W r a n c zs k g q P M) (i:Nat) (v:Value) (hv:(modV P M.a1 M.c1 M.a2 M.c2 M.bl M.a3 M.c3 M.a5 M.c5 M.a6 M.c6 M.a7 M.c7)[i]?=some v):W.cell? ⟨g,i,none⟩=some v∧W.frozen? ⟨g,i,none⟩=false:=⟨by rw [h.m.box.cell];exact hv,h.m.box.frozen i⟩
theorem MR.put {w W W':World} {r:Nat} {a:Option Addr} {n c:Nat} {zs:List Int} {k g q i:Nat} {P P':PMod} {M M':Ma} {v v':Value} {base sz m:Nat} {t:TypeId} {xs:List Value} (h:MR w W r a n c zs k g q P M) (ho:W.ownsRow w.heap.size t sz v m xs) (hne:t≠49) (hg:W.grownBy W' v.ownBlock) (o:MO W' w.heap.size P' M') (ds:∃ db,M'.a3=some ⟨db,0,none⟩) (e:(modV P M.a1 M.c1 M.a2 M.c2 M.bl M.a3 M.c3 M.a5 M.c5 M.a6 M.c6 M.a7 M.c7).setIfInBounds i v'=modV P' M'.a1 M'.c1 M'.a2 M'.c2 M'.bl M'.a3 M'.c3 M'.a5 M'.c5 M'.a6 M'.c6 M'.a7 M'.c7):MR w (W'.setCell ⟨g,i,none⟩ v') r a n c zs k g q P' M':=
 ⟨MB.put (h.m.d.grown hg (fun j hj=>(World.ownsRow.lt ho j hj).1)) h.m.hg (box_grown h.m.box ho hg hne) o ds e,turn_blk (turn_set W' g i v') (box_grown h.res ho hg hne) h.ne,h.hq,h.ne⟩
end Go.Proofs.YtngdgogjlpjjpadGreat
