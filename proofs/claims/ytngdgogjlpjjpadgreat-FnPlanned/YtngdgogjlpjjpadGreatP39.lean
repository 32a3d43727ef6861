import Derived.Test.YtngdgogjlpjjpadGreatP15
import Derived.Test.YtngdgogjlpjjpadGreatP31
import Derived.Test.YtngdgogjlpjjpadGreatP38
namespace Go.Proofs.YtngdgogjlpjjpadGreat
open Go.RowKit
set_option linter.unusedVariables false
set_option linter.unusedSimpArgs false
set_option maxRecDepth 100000
def sq {α:Type} (F:Nat→List α × Nat) (l:List α) (k:Nat):Nat→List α × Nat
 | 0=>(l,k)
 | i+1=>((sq F l k i).1++(F (sq F l k i).2).1,(F (sq F l k i).2).2)
theorem sq_len {α:Type} {F:Nat→List α × Nat} {m:Nat} (h:∀ k,(F k).1.length≤m) (l:List α) (k:Nat):∀ i,(sq F l k i).1.length≤l.length+i * m
 | 0=>by simp [sq]
 | i+1=>by
   have h1:=sq_len h l k i
   have h2:=h (sq F l k i).2
   simp only [sq,List.length_append]
   rw [Nat.add_mul]
   omega
theorem sq_all {α:Type} {F:Nat→List α × Nat} {Q:α→Prop} (h:∀ k,∀ x ∈ (F k).1,Q x) (l:List α) (hl:∀ x ∈ l,Q x) (k:Nat):∀ i,∀ x ∈ (sq F l k i).1,Q x
 | 0=>by simpa [sq] using hl
 | i+1=>by
   intro x hx
   simp only [sq,List.mem_append] at hx
   rcases hx with hx | hx
   ·exact sq_all h l hl k i x hx
   ·exact h _ x hx
def CodeFn (zs:List Int) (k:Nat) (ys:List Int) (k':Nat):Prop:=∀ (w:World) (r:Nat) (a:Option Addr) (n c:Nat) (h:Dst w w r a n c zs k),Calls Tryz.prog 198 #[.pointer (some ⟨r,0,none⟩)] w fun e w'=>∃ v,e=.returned v∧Dl w w' r a n c zs k' v ys
set_option maxHeartbeats 4000000 in
theorem l4Code_fn (zs:List Int) (hz:∀ j,0≤zs.getD j 0∧zs.getD j 0≤255) (k:Nat):∃ y:List Int × Nat,((1≤y.1.length∧y.1.length≤40)∧∀ z ∈ y.1,0≤z∧z≤4294967295)∧CodeFn zs k y.1 y.2:=by
 obtain ⟨F,hF⟩:=Classical.axiomOfChoice (l4Part_fn zs hz)
 obtain ⟨K,E1,z0,z1⟩:=draw_of hz k
 have L0:Hid (([opW 2 2 0 0,opW 3 2 0 2]:List Int)=[opW 2 2 0 0,opW 3 2 0 2]):=rfl
 have hl:=sq_len (fun j=>(hF j).1.1) [opW 2 2 0 0,opW 3 2 0 2] (k+1)
 have ha:=sq_all (fun j=>(hF j).1.2) [opW 2 2 0 0,opW 3 2 0 2] (by intro z hz;simp at hz;rcases hz with rfl | rfl <;> exact opW_rng _ _ _ _) (k+1)
 obtain ⟨m,hm⟩:∃ m:Nat,(m:Int)=1+K % 5:=⟨(1+K % 5).toNat,by omega⟩
 have hm5:m≤5:=by omega
 have fin:∀ (x:Int),(0≤x∧x≤4294967295)→((1≤((sq F [opW 2 2 0 0,opW 3 2 0 2] (k+1) m).1++[x]).length∧((sq F [opW 2 2 0 0,opW 3 2 0 2] (k+1) m).1++[x]).length≤40)∧∀ z ∈ (sq F [opW 2 2 0 0,opW 3 2 0 2] (k+1) m).1++[x],0≤z∧z≤4294967295):=fun x hx=>by
  have h1:=hl m
  simp only [List.length_cons,List.length_nil] at h1
  refine ⟨by simp;omega,fun z hz=>?_⟩
  rcases List.mem_append.1 hz with hz | hz
  ·exact ha m z hz
  ·simp at hz;subst hz;exact hx
 have walk:∀ (x:Int),(K % 16=15∧x=opW 20 0 0 (-1 - K / 16))∨(K % 16≠15∧x=opW 25 0 0 0)→CodeFn zs k ((sq F [opW 2 2 0 0,opW 3 2 0 2] (k+1) m).1++[x]) (sq F [opW 2 2 0 0,opW 3 2 0 2] (k+1) m).2:=fun x hx=>by
  intro w r a n c h
  have HP:=hide (fun j=>(hF j).2)
  have HL:=hide hl
  clear hF ha fin L0 hl
  have HX:=hide hx
  go_enter Tryz.func198,Tryz.ntmps198
  go_wp2_with fail
  refine (h.next K E1).mono ?_
  rintro e w1 ⟨rfl,d1,_⟩
  clear h
  go_wp2_with fail
  refine (l4Op_is _ _ _ _ _ 2 2 0 0 rfl rfl rfl rfl (by omega)).mono ?_
  rintro e w2 ⟨rfl,hb2⟩
  go_wp2_with fail
  refine (l4Op_is _ _ _ _ _ 3 2 0 2 rfl rfl rfl rfl (by omega)).mono ?_
  rintro e w3 ⟨rfl,hb3⟩
  have d3:=(d1.below hb2).below hb3
  have hs3:=d3.sz
  have D:=Dl.mk (d3.below ((Below.refl _ _).alloc (Nat.le_refl _) (.cells (([opW 2 2 0 0,opW 3 2 0 2]:List Int).flatMap clI).toArray 3))) (og_mk 3 1 clI w3 w.heap.size hs3 [opW 2 2 0 0,opW 3 2 0 2] _ rfl rfl (by unfold maxLen;simp))
  have HD:=hide D
  clear D d3 d1 hb2 hb3
  go_wp2
  go_loopw [4,5] (fun o i wr=>∃ (j:Nat),j≤m∧i=.int .i64 j∧Dl w wr r a n c zs (sq F [opW 2 2 0 0,opW 3 2 0 2] (k+1) j).2 o (sq F [opW 2 2 0 0,opW 3 2 0 2] (k+1) j).1) (fun _ i _=>m - (intOf i).toNat)
  case atStart=>exact ⟨0,Nat.zero_le _,rfl,HD.out⟩
  case round=>
   obtain ⟨j,hj,rfl,D⟩:=hrel
   clear HD
   by_cases hlt:j<m
   ·have hlt':(j:Int)<1+K % 5:=by omega
    have hll:=HL.out j
    simp only [List.length_cons,List.length_nil] at hll
    have HC:=hide (HP.out _ _ _ _ _ _ _ _ _ D (by omega))
    clear hll
    go_wp2_with fail
    refine HC.out.mono ?_
    rintro e wa ⟨v',rfl,D'⟩
    have HD':=hide D'
    clear D' D HC
    go_wp2
    go_roundw
    case rel=>exact ⟨j+1,by omega,by go_num,HD'.out⟩
    case measure=>simp [intOf];omega
   ·have hlt':¬ (j:Int)<1+K % 5:=by omega
    have ejm:j=m:=by omega
    have hll:=HL.out j
    simp only [List.length_cons,List.length_nil] at hll
    rw [ejm] at D hll
    clear ejm
    rcases hx with ⟨hc,rfl⟩ | ⟨hc,rfl⟩
    ·go_wp2_with fail
     refine (l4Op_is _ _ _ _ _ 20 0 0 (-1 - K / 16) rfl rfl rfl (by first | rfl | omega) (by omega)).mono ?_
     rintro e u0 ⟨rfl,hb⟩
     have D':=D.below hb
     clear D hb
     have HL':=hide (D'.below ((Below.refl _ _).alloc (Nat.le_refl _) (.cells (([opW 20 0 0 (-1 - K / 16)]:List Int).flatMap clI).toArray 3)))
     have HN:=hide (newsL u0 u0.heap.size [opW 20 0 0 (-1 - K / 16)] _ rfl rfl)
     clear D'
     go_wp2_with (at_builtin;refine list_dl HL'.out rfl _ _ rfl rfl ⟨u0.heap.size,0,none⟩ 1 1 rfl rfl HN.out (by omega) ?_;intro v' w' L')
     go_wp2
     go_ret
     exact ⟨_,rfl,L'⟩
    ·go_wp2_with fail
     refine (l4Op_is _ _ _ _ _ 25 0 0 0 rfl rfl rfl rfl (by omega)).mono ?_
     rintro e u0 ⟨rfl,hb⟩
     have D':=D.below hb
     clear D hb
     have HL':=hide (D'.below ((Below.refl _ _).alloc (Nat.le_refl _) (.cells (([opW 25 0 0 0]:List Int).flatMap clI).toArray 3)))
     have HN:=hide (newsL u0 u0.heap.size [opW 25 0 0 0] _ rfl rfl)
     clear D'
     go_wp2_with (at_builtin;refine list_dl HL'.out rfl _ _ rfl rfl ⟨u0.heap.size,0,none⟩ 1 1 rfl rfl HN.out (by omega) ?_;intro v' w' L')
     go_wp2
     go_ret
     exact ⟨_,rfl,L'⟩
 by_cases hc:K % 16=15
 ·exact ⟨(_,_),fin _ (opW_rng 20 0 0 (-1 - K / 16)),walk _ (.inl ⟨hc,rfl⟩)⟩
 ·exact ⟨(_,_),fin _ (opW_rng 25 0 0 0),walk _ (.inr ⟨hc,rfl⟩)⟩
def nmN:Nat→ByteArray
 | 0=>⟨#[109,97]⟩
 | 1=>⟨#[108,105,98]⟩
 | 2=>⟨#[97,117,120]⟩
 | _=>⟨#[122,122]⟩
def exN:Nat→ByteArray
 | 0=>⟨#[103,111]⟩
 | 1=>⟨#[98,97]⟩
 | 2=>⟨#[98,98]⟩
 | 3=>⟨#[98,99]⟩
 | _=>⟨#[98,100]⟩
set_option maxHeartbeats 1000000 in
theorem l4Name_any (i:Nat) (hi:i≤3) (w:World):Calls Tryz.prog 197 #[.int .i64 i] w fun e w'=>e=.returned (.string (nmN i))∧Below w.heap.size w w':=by
 have hB:∀ o,Below w.heap.size w (w.alloc o):=fun o=>(Below.refl _ _).alloc (Nat.le_refl _) _
 have HB:=hide hB
 clear hB
 rcases (show i=0∨i=1∨i=2∨i=3 by omega) with rfl | rfl | rfl | rfl
 all_goals
  go_enter Tryz.func197,Tryz.ntmps197
  go_wp2
  go_ret
  exact ⟨rfl,HB.out _⟩
set_option maxHeartbeats 1000000 in
theorem l4Export_any (i:Int) (h0:-1≤i) (h1:i≤3) (w:World):Calls Tryz.prog 196 #[.int .i64 i] w fun e w'=>e=.returned (.string (exN (i+1).toNat))∧Below w.heap.size w w':=by
 have hB:∀ o,Below w.heap.size w (w.alloc o):=fun o=>(Below.refl _ _).alloc (Nat.le_refl _) _
 have HB:=hide hB
 clear hB
 rcases (show i=-1∨i=0∨i=1∨i=2∨i=3 by omega) with rfl | rfl | rfl | rfl | rfl
 all_goals
  clear h0 h1
  go_enter Tryz.func196,Tryz.ntmps196
  go_wp2
  go_ret
  exact ⟨rfl,HB.out _⟩
theorem ModO.turn {S:Nat→Prop} {W W':World} {base:Nat} {P:PMod} {a1:Option Addr} {c1:Nat} {a2:Option Addr} {c2:Nat} {bl:List Bk} {a3:Option Addr} {c3:Nat} {a5:Option Addr} {c5:Nat} {a6:Option Addr} {c6:Nat} {a7:Option Addr} {c7:Nat} (h:ModO W base P a1 c1 a2 c2 bl a3 c3 a5 c5 a6 c6 a7 c7) (t:Turn S W W') (hS:∀ k,S k→¬ base≤k):ModO W' base P a1 c1 a2 c2 bl a3 c3 a5 c5 a6 c6 a7 c7:=
 ⟨h.t.turn t hS,h.b.turn t hS,h.bls,turn_ob t h.d (fun k hk s=>hS k s (h.d.lt k hk).1),h.r.turn t hS,h.i.turn t hS,h.e.turn t hS,h.tb,h.tr,h.br⟩
theorem ModO.mono {W:World} {base base':Nat} {P:PMod} {a1:Option Addr} {c1:Nat} {a2:Option Addr} {c2:Nat} {bl:List Bk} {a3:Option Addr} {c3:Nat} {a5:Option Addr} {c5:Nat} {a6:Option Addr} {c6:Nat} {a7:Option Addr} {c7:Nat} (h:ModO W base P a1 c1 a2 c2 bl a3 c3 a5 c5 a6 c6 a7 c7) (hb:base'≤base):ModO W base' P a1 c1 a2 c2 bl a3 c3 a5 c5 a6 c6 a7 c7:=
 ⟨h.t.mono hb,h.b.mono hb,h.bls,h.d.mono hb,h.r.mono hb,h.i.mono hb,h.e.mono hb,h.tb,h.tr,h.br⟩
theorem turn_st8 (W:World) (k:Nat) (v0 v1 v2 v3 v4 v5 v6 v7:Value):Turn (fun j=>j=k) W (st8 W k v0 v1 v2 v3 v4 v5 v6 v7):=
 ((((((((turn_set W k 0 v0).trans (turn_set _ k 1 v1)).trans (turn_set _ k 2 v2)).trans (turn_set _ k 3 v3)).trans (turn_set _ k 4 v4)).trans (turn_set _ k 5 v5)).trans (turn_set _ k 6 v6)).trans (turn_set _ k 7 v7))
theorem blk_st8 {W:World} {k:Nat} {t:TypeId} {cs:Array Value} (h:Blk W k cs t) (hs:cs.size=8) (v0 v1 v2 v3 v4 v5 v6 v7:Value):Blk (st8 W k v0 v1 v2 v3 v4 v5 v6 v7) k #[v0,v1,v2,v3,v4,v5,v6,v7] t:=by
 obtain ⟨z0,z1,z2,z3,z4,z5,z6,z7,rfl⟩:=array8' hs
 have k:=(((((((h.set 0 v0).set 1 v1).set 2 v2).set 3 v3).set 4 v4).set 5 v5).set 6 v6).set 7 v7
 have e:(((((((#[z0,z1,z2,z3,z4,z5,z6,z7].setIfInBounds 0 v0).setIfInBounds 1 v1).setIfInBounds 2 v2).setIfInBounds 3 v3).setIfInBounds 4 v4).setIfInBounds 5 v5).setIfInBounds 6 v6).setIfInBounds 7 v7=#[v0,v1,v2,v3,v4,v5,v6,v7]:=by simp
 rw [e] at k
 exact k
structure Pf (w W:World) (ms:Array Value) (x:Value):Prop where
 m:Blk W w.heap.size ms 49
 s:ms.size=8
 c:Blk W (w.heap.size+1) #[x] 3
 b:Below w.heap.size w W
theorem Pf.turn {w W W':World} {ms:Array Value} {x:Value} (h:Pf w W ms x) (t:Turn (fun j=>j=w.heap.size+2) W W'):Pf w W' ms x:=
 ⟨turn_blk t h.m (by omega),h.s,turn_blk t h.c (by omega),below_turn h.b t (fun k hk=>by omega) h.b.size⟩
theorem Pf.below {w W W':World} {ms:Array Value} {x:Value} (h:Pf w W ms x) (hb:Below W.heap.size W W'):Pf w W' ms x:=
 ⟨h.m.below hb,h.s,h.c.below hb,h.b.trans (hb.mono h.b.size)⟩
theorem z8_cells {W:World} {k:Nat} (h:Blk W k z8 49):W.cell? ⟨k,0,none⟩=some (.string ⟨#[]⟩)∧W.cell? ⟨k,1,none⟩=some (.slice none 0 0)∧W.cell? ⟨k,2,none⟩=some (.slice none 0 0)∧W.cell? ⟨k,3,none⟩=some (.slice none 0 0)∧W.cell? ⟨k,4,none⟩=some (.int .i64 0)∧W.cell? ⟨k,5,none⟩=some (.slice none 0 0)∧W.cell? ⟨k,6,none⟩=some (.slice none 0 0)∧W.cell? ⟨k,7,none⟩=some (.slice none 0 0):=Blk.eight' h
structure DmR (i:Nat) (P:PMod):Prop where
 n:P.nm=nmN i
 t:(1≤P.tz.length∧P.tz.length≤40)∧∀ z ∈ P.tz,0≤z∧z≤4294967295
 b:P.bl.length≤3∧∀ l ∈ P.bl,l.length≤40∧∀ z ∈ l,0≤z∧z≤4294967295
 d:P.dz.length≤16∧Byt P.dz
 s:0≤P.bss∧P.bss≤63
 r:P.rz=[]∨P.rz=[0]
 i:P.ss=[]
 e:P.es.length≤4∧∀ x ∈ P.es,x.1.size≤2∧-1≤x.2.1∧x.2.1≤3∧x.2.2=0
def ModFn (zs:List Int) (k i:Nat) (P:PMod) (k':Nat):Prop:=∀ (w:World) (r:Nat) (a:Option Addr) (n c:Nat) (h:Dst w w r a n c zs k),Calls Tryz.prog 137 #[.pointer (some ⟨r,0,none⟩),.int .i64 i] w fun e w'=>∃ M:Ma,e=.returned (.agg (modV P M.a1 M.c1 M.a2 M.c2 M.bl M.a3 M.c3 M.a5 M.c5 M.a6 M.c6 M.a7 M.c7))∧Dst w w' r a n c zs k'∧MO w' w.heap.size P M∧∃ db,M.a3=some ⟨db,0,none⟩
theorem modl_end {W:World} {q:Nat} {cs:Array Value} (k1:Blk W q cs 49) (hs:cs.size=8) (v0 v1 v2 v3 v4 v5 v6 v7:Value) (Q:Ending→World→Prop) (tmps:Array Value) (h4:tmps[4]?=some (.pointer (some ⟨q,0,none⟩))) (hQ:Q (.returned (.agg #[v0,v1,v2,v3,v4,v5,v6,v7])) (st8 W q v0 v1 v2 v3 v4 v5 v6 v7)):
 bodyPost Tryz.prog Tryz.f137 Q Exit.ret ⟨tmps,[]⟩ (st8 W q v0 v1 v2 v3 v4 v5 v6 v7):=by
 obtain ⟨t0,t1,t2,t3,t4,t5,t6,t7⟩:=(blk_st8 k1 hs v0 v1 v2 v3 v4 v5 v6 v7).eight'
 refine bodyPost_ret_by (v:=.agg #[v0,v1,v2,v3,v4,v5,v6,v7]) ?_ rfl hQ
 simp [results,Tryz.results137,go_sem,h4,t0,t1,t2,t3,t4,t5,t6,t7]
structure MR (w W:World) (r:Nat) (a:Option Addr) (n c:Nat) (zs:List Int) (k g q:Nat) (P:PMod) (M:Ma):Prop where
 m:MB w W r a n c zs k g P M
 res:Blk W q z8 49
 hq:w.heap.size≤q
 ne:q≠g
theorem MR.below {w W W':World} {r:Nat} {a:Option Addr} {n c:Nat} {zs:List Int} {k g q:Nat} {P:PMod} {M:Ma} (h:MR w W r a n c zs k g q P M) (hb:Below W.heap.size W W'):MR w W' r a n c zs k g q P M:=⟨h.m.below hb,h.res.below hb,h.hq,h.ne⟩
theorem MR.drew {w W:World} {r:Nat} {a:Option Addr} {n c:Nat} {zs:List Int} {k g q:Nat} {P:PMod} {M:Ma} (h:MR w W r a n c zs k g q P M):MR w W.drew r a n c zs k g q P M:=h.below (Below.refl _ _).drew
theorem MR.turn {w W W':World} {r:Nat} {a:Option Addr} {n c:Nat} {zs:List Int} {k k' g q:Nat} {P:PMod} {M:Ma} (h:MR w W r a n c zs k g q P M) (ht:Turn (fun j=>j=r) W W') (d:Dst w W' r a n c zs k'):MR w W' r a n c zs k' g q P M:=⟨h.m.turn ht d,turn_blk ht h.res (by have:=h.hq;have:=h.m.d.lt;omega),h.hq,h.ne⟩
theorem MR.next {w W:World} {r:Nat} {a:Option Addr} {n c:Nat} {zs:List Int} {k g q:Nat} {P:PMod} {M:Ma} (h:MR w W r a n c zs k g q P M) (x:Int) (hx:Hid (zs.getD k 0=x)):
 Calls Tryz.prog 51 #[.pointer (some ⟨r,0,none⟩)] W fun e w'=>e=.returned (.int .i64 x)∧MR w w' r a n c zs (k+1) g q P M:=
 (h.m.d.next x hx).mono fun e w' ⟨he,hd,ht⟩=>⟨he,h.turn ht hd⟩
theorem MR.two {w W:World} {r:Nat} {a:Option Addr} {n c:Nat} {zs:List Int} {k g q:Nat} {P:PMod} {M:Ma} (h:MR w W r a n c zs k g q P M) (i:Nat) (v:Value) (hv:(modV P M.a1 M.c1 M.a2 M.c2 M.bl M.a3 M.c3 M.a5 M.c5 M.a6 M.c6 M.a7 M.c7)[i]?=some v):W.cell? ⟨g,i,none⟩=some v∧W.frozen? ⟨g,i,none⟩=false:=⟨by rw [h.m.box.cell];exact hv,h.m.box.frozen i⟩
theorem MR.put {w W W':World} {r:Nat} {a:Option Addr} {n c:Nat} {zs:List Int} {k g q i:Nat} {P P':PMod} {M M':Ma} {v v':Value} {base sz m:Nat} {t:TypeId} {xs:List Value} (h:MR w W r a n c zs k g q P M) (ho:W.ownsRow w.heap.size t sz v m xs) (hne:t≠49) (hg:W.grownBy W' v.ownBlock) (o:MO W' w.heap.size P' M') (ds:∃ db,M'.a3=some ⟨db,0,none⟩) (e:(modV P M.a1 M.c1 M.a2 M.c2 M.bl M.a3 M.c3 M.a5 M.c5 M.a6 M.c6 M.a7 M.c7).setIfInBounds i v'=modV P' M'.a1 M'.c1 M'.a2 M'.c2 M'.bl M'.a3 M'.c3 M'.a5 M'.c5 M'.a6 M'.c6 M'.a7 M'.c7):MR w (W'.setCell ⟨g,i,none⟩ v') r a n c zs k g q P' M':=
 ⟨MB.put (h.m.d.grown hg (fun j hj=>(World.ownsRow.lt ho j hj).1)) h.m.hg (box_grown h.m.box ho hg hne) o ds e,turn_blk (turn_set W' g i v') (box_grown h.res ho hg hne) h.ne,h.hq,h.ne⟩
theorem al_below (W:World) (o:Obj):Below W.heap.size W (W.alloc o):=(Below.refl _ _).alloc (Nat.le_refl _) _
theorem MR.code {w W:World} {r:Nat} {a:Option Addr} {n c:Nat} {zs:List Int} {k g q:Nat} {P:PMod} {M:Ma} (h:MR w W r a n c zs k g q P M) {ys:List Int} {k':Nat} (CF:CodeFn zs k ys k'):
 Calls Tryz.prog 198 #[.pointer (some ⟨r,0,none⟩)] W fun e w'=>∃ A C,e=.returned (.slice A ys.length C)∧OG 3 1 clI w' W.heap.size (.slice A ys.length C) ys∧MR w w' r a n c zs k' g q P M:=
 (CF W r a n c h.m.d.fresh).mono fun e w' ⟨v,he,L⟩=>by
   obtain ⟨A,C,rfl⟩:=og_shape L.o
   exact ⟨A,C,he,L.o,h.turn L.d.t (h.m.d.trans L.d)⟩
theorem MR.cell4 {w W:World} {r:Nat} {a:Option Addr} {n c:Nat} {zs:List Int} {k g q:Nat} {P:PMod} {M:Ma} {W':World} (h:MR w W r a n c zs k g q P M) {t:TypeId} {sz m base:Nat} {v u:Value} {xs:List Value} (ho:W.ownsRow base t sz v m xs) (hg:W.grownBy W' v.ownBlock) (hne:t≠49) (i:Nat) (hu:(modV P M.a1 M.c1 M.a2 M.c2 M.bl M.a3 M.c3 M.a5 M.c5 M.a6 M.c6 M.a7 M.c7)[i]?=some u):W'.cell? ⟨g,i,none⟩=some u∧W'.frozen? ⟨g,i,none⟩=false:=by
 have b:=box_grown h.m.box ho hg hne
 exact ⟨by rw [b.cell];exact hu,b.frozen i⟩
theorem MR.bank {w W:World} {r:Nat} {a:Option Addr} {n c:Nat} {zs:List Int} {k g q:Nat} {P:PMod} {M:Ma} {wa w4:World} {k' g4 c4:Nat} {A:Option Addr} {Cp:Nat} {x:List Int} (h:MR w W r a n c zs k g q P M) (hA:MR w wa r a n c zs k' g q P M) (ox:OG 3 1 clI wa W.heap.size (.slice A x.length Cp) x)
 (hown:w4.ownsRow w.heap.size 29 1 (.slice (some ⟨g4,0,none⟩) (M.bl.length+1) c4) (M.bl.length+1) (M.bl.map (fun B=>Value.slice B.1 B.2.1 B.2.2.1)++[.slice A x.length Cp])) (hg:(wa.alloc (.cells #[.slice A x.length Cp] 29)).grownBy w4 (Value.slice M.a2 M.bl.length M.c2).ownBlock):
 MR w (w4.setCell ⟨g,2,none⟩ (.slice (some ⟨g4,0,none⟩) (M.bl.length+1) c4)) r a n c zs k' g q { P with bl:=P.bl++[x] } { M with a2:=some ⟨g4,0,none⟩,c2:=c4,bl:=M.bl++[(A,x.length,Cp,x)] }:=by
 have al:=al_below wa (.cells #[.slice A x.length Cp] 29)
 have hL:=hA.below al
 have mo:=hL.m.o.grow_b (v':=.slice none 0 0) (ox.below al) h.m.d.sz (fun B hB j hj=>((h.m.o.b.rows B hB).2.lt j hj).2) (fun j hj=>(h.m.o.t.lt j hj).2) (fun j hj=>(h.m.o.r.lt j hj).2) hown hg
 exact MR.put (base:=w.heap.size) hL hL.m.o.b.head (by decide) hg mo hA.m.ds (by show _=_;simp [modV])
theorem MR.data {w W:World} {r:Nat} {a:Option Addr} {n c:Nat} {zs:List Int} {k g q:Nat} {P:PMod} {M:Ma} {w4:World} {g4 c4:Nat} {x:Int} (h:MR w W r a n c zs k g q P M) (hx:0≤x∧x≤255)
 (hown:w4.ownsRow w.heap.size 5 1 (.slice (some ⟨g4,0,none⟩) (P.dz.length+1) c4) (P.dz.length+1) (P.dz.map (Value.int .u8)++[.int .u8 x])) (hg:W.grownBy w4 (Value.slice M.a3 P.dz.length M.c3).ownBlock):
 MR w (w4.setCell ⟨g,3,none⟩ (.slice (some ⟨g4,0,none⟩) (P.dz.length+1) c4)) r a n c zs k g q { P with dz:=P.dz++[x] } { M with a3:=some ⟨g4,0,none⟩,c3:=c4 }:=by
 have mo:=h.m.o.grow_d (X:=[x]) rfl ⟨by rw [List.length_append,List.map_append];exact hown,fun z hz=>by rcases List.mem_append.1 hz with hz | hz;exact h.m.o.d.2 z hz;simp at hz;subst hz;exact hx⟩ hg
 exact MR.put (base:=w.heap.size) h h.m.o.d.1 (by decide) hg mo ⟨g4,rfl⟩ (by show _=_;simp [modV])
theorem MR.reloc {w W:World} {r:Nat} {a:Option Addr} {n c:Nat} {zs:List Int} {k g q:Nat} {P:PMod} {M:Ma} {w4:World} {g4 c4:Nat} {x:Int} (h:MR w W r a n c zs k g q P M)
 (hown:w4.ownsRow w.heap.size 3 1 (.slice (some ⟨g4,0,none⟩) (P.rz.length+1) c4) (P.rz.length+1) (P.rz.flatMap clI++clI x)) (hg:W.grownBy w4 (Value.slice M.a5 P.rz.length M.c5).ownBlock) (hat:(Value.slice M.a5 P.rz.length M.c5).ownBlock=some g4∨g4=W.heap.size):
 MR w (w4.setCell ⟨g,5,none⟩ (.slice (some ⟨g4,0,none⟩) (P.rz.length+1) c4)) r a n c zs k g q { P with rz:=P.rz++[x] } { M with a5:=some ⟨g4,0,none⟩,c5:=c4 }:=by
 have mo:=h.m.o.grow_r (X:=[x]) rfl (by unfold OG;rw [List.length_append,List.flatMap_append];exact hown) hg hat
 exact MR.put (base:=w.heap.size) h h.m.o.r (by decide) hg mo h.m.ds (by show _=_;simp [modV])
theorem MR.text {w W:World} {r:Nat} {a:Option Addr} {n c:Nat} {zs:List Int} {k g q:Nat} {P:PMod} {M:Ma} {w4:World} {g4 c4:Nat} {x:Int} (h:MR w W r a n c zs k g q P M)
 (hown:w4.ownsRow w.heap.size 3 1 (.slice (some ⟨g4,0,none⟩) (P.tz.length+1) c4) (P.tz.length+1) (P.tz.flatMap clI++clI x)) (hg:W.grownBy w4 (Value.slice M.a1 P.tz.length M.c1).ownBlock) (hat:(Value.slice M.a1 P.tz.length M.c1).ownBlock=some g4∨g4=W.heap.size):
 MR w (w4.setCell ⟨g,1,none⟩ (.slice (some ⟨g4,0,none⟩) (P.tz.length+1) c4)) r a n c zs k g q { P with tz:=P.tz++[x] } { M with a1:=some ⟨g4,0,none⟩,c1:=c4 }:=by
 have mo:=h.m.o.grow_t (X:=[x]) rfl (by unfold OG;rw [List.length_append,List.flatMap_append];exact hown) hg hat
 exact MR.put (base:=w.heap.size) h h.m.o.t (by decide) hg mo h.m.ds (by show _=_;simp [modV])
theorem MR.imp {w W:World} {r:Nat} {a:Option Addr} {n c:Nat} {zs:List Int} {k g q:Nat} {P:PMod} {M:Ma} {w4:World} {g4 c4:Nat} {x:ByteArray} (h:MR w W r a n c zs k g q P M)
 (hown:w4.ownsRow w.heap.size 9 1 (.slice (some ⟨g4,0,none⟩) (P.ss.length+1) c4) (P.ss.length+1) (P.ss.flatMap clT++clT x)) (hg:W.grownBy w4 (Value.slice M.a6 P.ss.length M.c6).ownBlock):
 MR w (w4.setCell ⟨g,6,none⟩ (.slice (some ⟨g4,0,none⟩) (P.ss.length+1) c4)) r a n c zs k g q { P with ss:=P.ss++[x] } { M with a6:=some ⟨g4,0,none⟩,c6:=c4 }:=by
 have mo:=h.m.o.grow_i (X:=[x]) rfl (by unfold OG;rw [List.length_append,List.flatMap_append];exact hown) hg
 exact MR.put (base:=w.heap.size) h h.m.o.i (by decide) hg mo h.m.ds (by show _=_;simp [modV])
theorem MR.exp {w W:World} {r:Nat} {a:Option Addr} {n c:Nat} {zs:List Int} {k g q:Nat} {P:PMod} {M:Ma} {w4:World} {g4 c4:Nat} {x:Ex} (h:MR w W r a n c zs k g q P M)
 (hown:w4.ownsRow w.heap.size 210 3 (.slice (some ⟨g4,0,none⟩) (P.es.length+1) c4) (P.es.length+1) (P.es.flatMap clX++clX x)) (hg:W.grownBy w4 (Value.slice M.a7 P.es.length M.c7).ownBlock):
 MR w (w4.setCell ⟨g,7,none⟩ (.slice (some ⟨g4,0,none⟩) (P.es.length+1) c4)) r a n c zs k g q { P with es:=P.es++[x] } { M with a7:=some ⟨g4,0,none⟩,c7:=c4 }:=by
 have mo:=h.m.o.grow_e (X:=[x]) rfl (by unfold OG;rw [List.length_append,List.flatMap_append];exact hown) hg
 exact MR.put (base:=w.heap.size) h h.m.o.e (by decide) hg mo h.m.ds (by show _=_;simp [modV])
theorem mr_new {w w4:World} {r:Nat} {a:Option Addr} {n c:Nat} {zs:List Int} {k:Nat} {a1:Option Addr} {c1:Nat} {T:List Int} (D:Dst w w4 r a n c zs k) (O:OG 3 1 clI w4 w.heap.size (.slice a1 T.length c1) T) (R:Blk w4 w.heap.size z8 49) (nm:ByteArray) (bss:Int):
 MR w ((((((w4.alloc (.cells #[] 29)).alloc (.cells #[] 5)).alloc (.cells #[] 3)).alloc (.cells #[] 9)).alloc (.cells #[] 210)).alloc (.cells #[.string nm,.slice a1 T.length c1,.slice (some ⟨w4.heap.size,0,none⟩) 0 0,.slice (some ⟨w4.heap.size+1,0,none⟩) 0 0,.int .i64 bss,.slice (some ⟨w4.heap.size+1+1,0,none⟩) 0 0,.slice (some ⟨w4.heap.size+1+1+1,0,none⟩) 0 0,.slice (some ⟨w4.heap.size+1+1+1+1,0,none⟩) 0 0] 49)) r a n c zs k (w4.heap.size+5) w.heap.size ⟨nm,T,[],[],bss,[],[],[]⟩ ⟨a1,c1,some ⟨w4.heap.size,0,none⟩,0,[],some ⟨w4.heap.size+1,0,none⟩,0,some ⟨w4.heap.size+1+1,0,none⟩,0,some ⟨w4.heap.size+1+1+1,0,none⟩,0,some ⟨w4.heap.size+1+1+1+1,0,none⟩,0⟩:=by
 have hs:=D.sz
 have hlt:=R.lt
 have o2:=og_mk 29 1 (fun B:Bk=>[Value.slice B.1 B.2.1 B.2.2.1]) w4 w.heap.size hs [] #[] rfl rfl (by unfold maxLen;simp)
 have b1:=al_below w4 (.cells #[] 29)
 have s1:(w4.alloc (.cells #[] 29)).heap.size=w4.heap.size+1:=by simp
 generalize w4.alloc (.cells #[] 29)=u1 at *
 have o3:=og_mk 5 1 (fun z:Int=>[Value.int .u8 z]) u1 w.heap.size (by omega) [] #[] rfl rfl (by unfold maxLen;simp)
 have b2:=al_below u1 (.cells #[] 5)
 have s2:(u1.alloc (.cells #[] 5)).heap.size=w4.heap.size+1+1:=by simp [s1]
 rw [s1] at o3
 generalize u1.alloc (.cells #[] 5)=u2 at *
 have o5:=og_mk 3 1 clI u2 w.heap.size (by omega) [] #[] rfl rfl (by unfold maxLen;simp)
 have b3:=al_below u2 (.cells #[] 3)
 have s3:(u2.alloc (.cells #[] 3)).heap.size=w4.heap.size+1+1+1:=by simp [s2]
 rw [s2] at o5
 generalize u2.alloc (.cells #[] 3)=u3 at *
 have o6:=og_mk 9 1 clT u3 w.heap.size (by omega) [] #[] rfl rfl (by unfold maxLen;simp)
 have b4:=al_below u3 (.cells #[] 9)
 have s4:(u3.alloc (.cells #[] 9)).heap.size=w4.heap.size+1+1+1+1:=by simp [s3]
 rw [s3] at o6
 generalize u3.alloc (.cells #[] 9)=u4 at *
 have o7:=og_mk 210 3 clX u4 w.heap.size (by omega) [] #[] rfl rfl (by unfold maxLen;simp)
 have b5:=al_below u4 (.cells #[] 210)
 have s5:(u4.alloc (.cells #[] 210)).heap.size=w4.heap.size+1+1+1+1+1:=by simp [s4]
 rw [s4] at o7
 generalize u4.alloc (.cells #[] 210)=u5 at *
 have bx:=Blk.new u5 #[.string nm,.slice a1 T.length c1,.slice (some ⟨w4.heap.size,0,none⟩) 0 0,.slice (some ⟨w4.heap.size+1,0,none⟩) 0 0,.int .i64 bss,.slice (some ⟨w4.heap.size+1+1,0,none⟩) 0 0,.slice (some ⟨w4.heap.size+1+1+1,0,none⟩) 0 0,.slice (some ⟨w4.heap.size+1+1+1+1,0,none⟩) 0 0] 49
 have b6:=al_below u5 (.cells #[.string nm,.slice a1 T.length c1,.slice (some ⟨w4.heap.size,0,none⟩) 0 0,.slice (some ⟨w4.heap.size+1,0,none⟩) 0 0,.int .i64 bss,.slice (some ⟨w4.heap.size+1+1,0,none⟩) 0 0,.slice (some ⟨w4.heap.size+1+1+1,0,none⟩) 0 0,.slice (some ⟨w4.heap.size+1+1+1+1,0,none⟩) 0 0] 49)
 rw [s5] at bx
 refine ⟨⟨(((((D.below b1).below b2).below b3).below b4).below b5).below b6,bx,by omega,?_,⟨_,rfl⟩⟩,(((((R.below b1).below b2).below b3).below b4).below b5).below b6,Nat.le_refl _,by omega⟩
 refine ⟨(((((O.below b1).below b2).below b3).below b4).below b5).below b6,⟨?_,by simp,by simp⟩,rfl,⟨?_,by simp⟩,((o5.below b4).below b5).below b6,(o6.below b5).below b6,o7.below b6,by simp,?_,by simp⟩
 ·exact ((((o2.below b2).below b3).below b4).below b5).below b6
 ·exact (((o3.below b3).below b4).below b5).below b6
 ·intro j hj e
  have:=(O.lt j hj).2
  have e':some (w4.heap.size+1+1)=some j:=e
  injection e' with e'
  omega
end Go.Proofs.YtngdgogjlpjjpadGreat
