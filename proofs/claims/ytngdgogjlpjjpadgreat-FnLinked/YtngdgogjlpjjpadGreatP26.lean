import Derived.Test.YtngdgogjlpjjpadGreatP25
namespace Go.Proofs.YtngdgogjlpjjpadGreat
open Go.RowKit
set_option linter.unusedVariables false
set_option linter.unusedSimpArgs false
set_option maxRecDepth 100000
def rowU (U:Nat→Prop) (a:Option Addr):Prop:=∀ j,(Value.slice a 0 0).ownBlock=some j→U j
theorem own_z (a:Option Addr) (n c:Nat):(Value.slice a n c).ownBlock=(Value.slice a 0 0).ownBlock:=by cases a <;> rfl
structure Ru (U:Nat→Prop) (M:Ma):Prop where
 t:rowU U M.a1
 b:rowU U M.a2
 r:rowU U M.a5
 i:rowU U M.a6
 e:rowU U M.a7
structure MRU (U:Nat→Prop) (W0 w W:World) (r:Nat) (a:Option Addr) (n c:Nat) (zs:List Int) (k g q:Nat) (P:PMod) (M:Ma):Prop extends MR w W r a n c zs k g q P M where
 u:Turn (fun j=>j=r∨U j) W0 W
 ug:U g
 uq:U q
 un:∀ j,W0.heap.size≤j→U j
 ur:Ru U M
theorem MRU.step {U:Nat→Prop} {W0 w W:World} {r:Nat} {a:Option Addr} {n c:Nat} {zs:List Int} {k g q:Nat} {P:PMod} {M:Ma} {W':World} {k':Nat} {P':PMod} {M':Ma} (h:MRU U W0 w W r a n c zs k g q P M) (h':MR w W' r a n c zs k' g q P' M') (t:Turn (fun j=>j=r∨U j) W W') (ur':Ru U M'):MRU U W0 w W' r a n c zs k' g q P' M':=⟨h',h.u.trans t,h.ug,h.uq,h.un,ur'⟩
theorem MRU.below {U:Nat→Prop} {W0 w W:World} {r:Nat} {a:Option Addr} {n c:Nat} {zs:List Int} {k g q:Nat} {P:PMod} {M:Ma} {W':World} (h:MRU U W0 w W r a n c zs k g q P M) (hb:Below W.heap.size W W'):MRU U W0 w W' r a n c zs k g q P M:=h.step (MR.below h.toMR hb) (turn_below hb) h.ur
theorem MRU.drew {U:Nat→Prop} {W0 w W:World} {r:Nat} {a:Option Addr} {n c:Nat} {zs:List Int} {k g q:Nat} {P:PMod} {M:Ma} (h:MRU U W0 w W r a n c zs k g q P M):MRU U W0 w W.drew r a n c zs k g q P M:=h.below (Below.refl _ _).drew
theorem MRU.next {U:Nat→Prop} {W0 w W:World} {r:Nat} {a:Option Addr} {n c:Nat} {zs:List Int} {k g q:Nat} {P:PMod} {M:Ma} (h:MRU U W0 w W r a n c zs k g q P M) (x:Int) (hx:Hid (zs.getD k 0=x)):
 Calls Tryz.prog 51 #[.pointer (some ⟨r,0,none⟩)] W fun e w'=>e=.returned (.int .i64 x)∧MRU U W0 w w' r a n c zs (k+1) g q P M:=
 (h.m.d.next x hx).mono fun e w' ⟨he,hd,ht⟩=>⟨he,h.step (MR.turn h.toMR ht hd) (ht.mono (fun j hj=>.inl hj)) h.ur⟩
theorem MRU.tset {U:Nat→Prop} {W0 w W:World} {r:Nat} {a:Option Addr} {n c:Nat} {zs:List Int} {k g q:Nat} {P:PMod} {M:Ma} (h:MRU U W0 w W r a n c zs k g q P M) (i:Nat) (v:Value):Turn (fun j=>j=r∨U j) W (W.setCell ⟨g,i,none⟩ v):=(turn_set W g i v).mono (fun j hj=>.inr (by subst hj;exact h.ug))
theorem MRU.tgr {U:Nat→Prop} {W0 w W:World} {r:Nat} {a:Option Addr} {n c:Nat} {zs:List Int} {k g q:Nat} {P:PMod} {M:Ma} {w4:World} {A:Option Addr} {nn cc:Nat} (h:MRU U W0 w W r a n c zs k g q P M) (hA:rowU U A) (hg:W.grownBy w4 (Value.slice A nn cc).ownBlock) (i:Nat) (v:Value):Turn (fun j=>j=r∨U j) W (w4.setCell ⟨g,i,none⟩ v):=
 ((grown_trn hg).mono (fun j hj=>.inr (hA j (by rw [← own_z A nn cc];exact hj)))).trans ((turn_set w4 g i v).mono (fun j hj=>.inr (by subst hj;exact h.ug)))
theorem MRU.row4 {U:Nat→Prop} {W0 w W:World} {r:Nat} {a:Option Addr} {n c:Nat} {zs:List Int} {k g q:Nat} {P:PMod} {M:Ma} (h:MRU U W0 w W r a n c zs k g q P M) {A:Option Addr} {nn cc g4:Nat} (hA:rowU U A) (hat:(Value.slice A nn cc).ownBlock=some g4∨g4=W.heap.size):rowU U (some ⟨g4,0,none⟩):=fun j hj=>by
 injection hj with hj
 subst hj
 rcases hat with e | e
 ·exact hA _ (by rw [← own_z A nn cc];exact e)
 ·exact (show U g4 from h.un _ (by have:=h.u.size;omega))
theorem MRU.rown {U:Nat→Prop} {W0 w W:World} {r:Nat} {a:Option Addr} {n c:Nat} {zs:List Int} {k g q:Nat} {P:PMod} {M:Ma} (h:MRU U W0 w W r a n c zs k g q P M) {g4:Nat} (hg:W0.heap.size≤g4):rowU U (some ⟨g4,0,none⟩):=fun j hj=>by
 injection hj with hj
 subst hj
 exact h.un _ hg
theorem MRU.setnm {U:Nat→Prop} {W0 w W:World} {r:Nat} {a:Option Addr} {n c:Nat} {zs:List Int} {k g q:Nat} {P:PMod} {M:Ma} (h:MRU U W0 w W r a n c zs k g q P M) (nm:ByteArray):MRU U W0 w (W.setCell ⟨g,0,none⟩ (.string nm)) r a n c zs k g q { P with nm:=nm } M:=h.step (MR.setnm h.toMR nm) (h.tset _ _) h.ur
theorem MRU.setbss {U:Nat→Prop} {W0 w W:World} {r:Nat} {a:Option Addr} {n c:Nat} {zs:List Int} {k g q:Nat} {P:PMod} {M:Ma} (h:MRU U W0 w W r a n c zs k g q P M) (x:Int):MRU U W0 w (W.setCell ⟨g,4,none⟩ (.int .i64 x)) r a n c zs k g q { P with bss:=x } M:=h.step (MR.setbss h.toMR x) (h.tset _ _) h.ur
theorem MRU.newtext {U:Nat→Prop} {W0 w W:World} {r:Nat} {a:Option Addr} {n c:Nat} {zs:List Int} {k g q:Nat} {P:PMod} {M:Ma} (h:MRU U W0 w W r a n c zs k g q P M) (m:Nat) (hm:m≤1000):MRU U W0 w ((W.alloc (.cells (zin m) 3)).setCell ⟨g,1,none⟩ (.slice (some ⟨W.heap.size,0,none⟩) m m)) r a n c zs k g q { P with tz:=List.replicate m 0 } { M with a1:=some ⟨W.heap.size,0,none⟩,c1:=m }:=
 h.step (MR.newtext h.toMR m hm) ((turn_below (al_below W _)).trans ((h.below (al_below W (.cells (zin m) 3))).tset _ _)) ⟨h.rown h.u.size,h.ur.b,h.ur.r,h.ur.i,h.ur.e⟩
theorem MRU.newdata {U:Nat→Prop} {W0 w W:World} {r:Nat} {a:Option Addr} {n c:Nat} {zs:List Int} {k g q:Nat} {P:PMod} {M:Ma} (h:MRU U W0 w W r a n c zs k g q P M) (m:Nat) (hm:m≤1000):MRU U W0 w ((W.alloc (.cells (zb8 m) 5)).setCell ⟨g,3,none⟩ (.slice (some ⟨W.heap.size,0,none⟩) m m)) r a n c zs k g q { P with dz:=List.replicate m 0 } { M with a3:=some ⟨W.heap.size,0,none⟩,c3:=m }:=
 h.step (MR.newdata h.toMR m hm) ((turn_below (al_below W _)).trans ((h.below (al_below W (.cells (zb8 m) 5))).tset _ _)) ⟨h.ur.t,h.ur.b,h.ur.r,h.ur.i,h.ur.e⟩
theorem MRU.text {U:Nat→Prop} {W0 w W:World} {r:Nat} {a:Option Addr} {n c:Nat} {zs:List Int} {k g q:Nat} {P:PMod} {M:Ma} {w4:World} {g4 c4:Nat} {x:Int} (h:MRU U W0 w W r a n c zs k g q P M)
 (hown:w4.ownsRow w.heap.size 3 1 (.slice (some ⟨g4,0,none⟩) (P.tz.length+1) c4) (P.tz.length+1) (P.tz.flatMap clI++clI x)) (hg:W.grownBy w4 (Value.slice M.a1 P.tz.length M.c1).ownBlock) (hat:(Value.slice M.a1 P.tz.length M.c1).ownBlock=some g4∨g4=W.heap.size):
 MRU U W0 w (w4.setCell ⟨g,1,none⟩ (.slice (some ⟨g4,0,none⟩) (P.tz.length+1) c4)) r a n c zs k g q { P with tz:=P.tz++[x] } { M with a1:=some ⟨g4,0,none⟩,c1:=c4 }:=
 h.step (MR.text h.toMR hown hg hat) (h.tgr h.ur.t hg _ _) ⟨h.row4 h.ur.t hat,h.ur.b,h.ur.r,h.ur.i,h.ur.e⟩
theorem MRU.reloc {U:Nat→Prop} {W0 w W:World} {r:Nat} {a:Option Addr} {n c:Nat} {zs:List Int} {k g q:Nat} {P:PMod} {M:Ma} {w4:World} {g4 c4:Nat} {x:Int} (h:MRU U W0 w W r a n c zs k g q P M)
 (hown:w4.ownsRow w.heap.size 3 1 (.slice (some ⟨g4,0,none⟩) (P.rz.length+1) c4) (P.rz.length+1) (P.rz.flatMap clI++clI x)) (hg:W.grownBy w4 (Value.slice M.a5 P.rz.length M.c5).ownBlock) (hat:(Value.slice M.a5 P.rz.length M.c5).ownBlock=some g4∨g4=W.heap.size):
 MRU U W0 w (w4.setCell ⟨g,5,none⟩ (.slice (some ⟨g4,0,none⟩) (P.rz.length+1) c4)) r a n c zs k g q { P with rz:=P.rz++[x] } { M with a5:=some ⟨g4,0,none⟩,c5:=c4 }:=
 h.step (MR.reloc h.toMR hown hg hat) (h.tgr h.ur.r hg _ _) ⟨h.ur.t,h.ur.b,h.row4 h.ur.r hat,h.ur.i,h.ur.e⟩
theorem MRU.imp {U:Nat→Prop} {W0 w W:World} {r:Nat} {a:Option Addr} {n c:Nat} {zs:List Int} {k g q:Nat} {P:PMod} {M:Ma} {w4:World} {g4 c4:Nat} {x:ByteArray} (h:MRU U W0 w W r a n c zs k g q P M)
 (hown:w4.ownsRow w.heap.size 9 1 (.slice (some ⟨g4,0,none⟩) (P.ss.length+1) c4) (P.ss.length+1) (P.ss.flatMap clT++clT x)) (hg:W.grownBy w4 (Value.slice M.a6 P.ss.length M.c6).ownBlock) (hat:(Value.slice M.a6 P.ss.length M.c6).ownBlock=some g4∨g4=W.heap.size):
 MRU U W0 w (w4.setCell ⟨g,6,none⟩ (.slice (some ⟨g4,0,none⟩) (P.ss.length+1) c4)) r a n c zs k g q { P with ss:=P.ss++[x] } { M with a6:=some ⟨g4,0,none⟩,c6:=c4 }:=
 h.step (MR.imp h.toMR hown hg) (h.tgr h.ur.i hg _ _) ⟨h.ur.t,h.ur.b,h.ur.r,h.row4 h.ur.i hat,h.ur.e⟩
theorem MRU.exp {U:Nat→Prop} {W0 w W:World} {r:Nat} {a:Option Addr} {n c:Nat} {zs:List Int} {k g q:Nat} {P:PMod} {M:Ma} {w4:World} {g4 c4:Nat} {x:Ex} (h:MRU U W0 w W r a n c zs k g q P M)
 (hown:w4.ownsRow w.heap.size 210 3 (.slice (some ⟨g4,0,none⟩) (P.es.length+1) c4) (P.es.length+1) (P.es.flatMap clX++clX x)) (hg:W.grownBy w4 (Value.slice M.a7 P.es.length M.c7).ownBlock) (hat:(Value.slice M.a7 P.es.length M.c7).ownBlock=some g4∨g4=W.heap.size):
 MRU U W0 w (w4.setCell ⟨g,7,none⟩ (.slice (some ⟨g4,0,none⟩) (P.es.length+1) c4)) r a n c zs k g q { P with es:=P.es++[x] } { M with a7:=some ⟨g4,0,none⟩,c7:=c4 }:=
 h.step (MR.exp h.toMR hown hg) (h.tgr h.ur.e hg _ _) ⟨h.ur.t,h.ur.b,h.ur.r,h.ur.i,h.row4 h.ur.e hat⟩
theorem MRU.bankX {U:Nat→Prop} {W0 w W X w4:World} {r:Nat} {a:Option Addr} {n c:Nat} {zs:List Int} {k g q:Nat} {P:PMod} {M:Ma} {g4 c4 lo:Nat} {A:Option Addr} {Cp m:Nat} {x:List Int} (h:MRU U W0 w W r a n c zs k g q P M) (hX:MRU U W0 w X r a n c zs k g q P M) (hm:x.length=m) (ox:OG 3 1 clI X lo (.slice A m Cp) x) (hlo:W.heap.size≤lo)
 (hown:w4.ownsRow w.heap.size 29 1 (.slice (some ⟨g4,0,none⟩) (M.bl.length+1) c4) (M.bl.length+1) (M.bl.map (fun B=>Value.slice B.1 B.2.1 B.2.2.1)++[.slice A m Cp])) (hg:X.grownBy w4 (Value.slice M.a2 M.bl.length M.c2).ownBlock) (hat:(Value.slice M.a2 M.bl.length M.c2).ownBlock=some g4∨g4=X.heap.size):
 MRU U W0 w (w4.setCell ⟨g,2,none⟩ (.slice (some ⟨g4,0,none⟩) (M.bl.length+1) c4)) r a n c zs k g q { P with bl:=P.bl++[x] } { M with a2:=some ⟨g4,0,none⟩,c2:=c4,bl:=M.bl++[(A,x.length,Cp,x)] }:=
 hX.step (MR.bankX h.toMR hX.toMR hm ox hlo hown hg) (hX.tgr h.ur.b hg _ _) ⟨h.ur.t,hX.row4 h.ur.b hat,h.ur.r,h.ur.i,h.ur.e⟩
theorem MRU.newbanks {U:Nat→Prop} {W0 w W X:World} {r:Nat} {a:Option Addr} {n c:Nat} {zs:List Int} {k g q m cp:Nat} {P:PMod} {M:Ma} {g4:Nat} {bl:List Bk} (h:MRU U W0 w W r a n c zs k g q P M) (hX:MRU U W0 w X r a n c zs k g q P M) (hb:OBk X W.heap.size (.slice (some ⟨g4,0,none⟩) m cp) bl) (hm:bl.length=m) (ls:List (List Int)) (hl:bl.map (fun B=>B.2.2.2)=ls):
 MRU U W0 w (X.setCell ⟨g,2,none⟩ (.slice (some ⟨g4,0,none⟩) m cp)) r a n c zs k g q { P with bl:=ls } { M with a2:=some ⟨g4,0,none⟩,c2:=cp,bl:=bl }:=
 hX.step (MR.newbanks h.toMR hX.toMR hb hm ls hl) (hX.tset _ _) ⟨h.ur.t,hX.rown (Nat.le_trans h.u.size (hb.head.lt _ rfl).1),h.ur.r,h.ur.i,h.ur.e⟩
def SpU (zs:List Int) (k:Nat) (P P':PMod) (k':Nat):Prop:=∀ (U:Nat→Prop) (w W:World) (r:Nat) (a:Option Addr) (n c:Nat) (M:Ma) (D:Dst w W r a n c zs k) (o:MO W w.heap.size P M) (ds:∃ db,M.a3=some ⟨db,0,none⟩) (hU:∀ j,W.heap.size≤j→U j) (hR:Ru U M),Calls Tryz.prog 136 #[.pointer (some ⟨r,0,none⟩),.agg #[.string P.nm,.slice M.a1 P.tz.length M.c1,.slice M.a2 M.bl.length M.c2,.slice M.a3 P.dz.length M.c3,.int .i64 P.bss,.slice M.a5 P.rz.length M.c5,.slice M.a6 P.ss.length M.c6,.slice M.a7 P.es.length M.c7]] W (fun e w'=>MoP w r a n c zs P' k' e w'∧Turn (fun j=>j=r∨U j) W w')
theorem SpU.fn {zs:List Int} {k:Nat} {P P':PMod} {k':Nat} (h:SpU zs k P P' k'):SpFn zs k P P' k':=fun w W r a n c M D o ds=>(h (fun _=>True) w W r a n c M D o ds (fun _ _=>trivial) ⟨fun _ _=>trivial,fun _ _=>trivial,fun _ _=>trivial,fun _ _=>trivial,fun _ _=>trivial⟩).mono fun e w' h=>h.1
theorem mru_spoil {U:Nat→Prop} {w W:World} {r:Nat} {a:Option Addr} {n c:Nat} {zs:List Int} {k:Nat} {P:PMod} {M:Ma} (D:Dst w W r a n c zs k) (o:MO W w.heap.size P M) (ds:∃ db,M.a3=some ⟨db,0,none⟩) (hU:∀ j,W.heap.size≤j→U j) (hR:Ru U M):
 MRU U W w ((W.alloc (.cells #[.string P.nm,.slice M.a1 P.tz.length M.c1,.slice M.a2 M.bl.length M.c2,.slice M.a3 P.dz.length M.c3,.int .i64 P.bss,.slice M.a5 P.rz.length M.c5,.slice M.a6 P.ss.length M.c6,.slice M.a7 P.es.length M.c7] 49)).alloc (.cells #[.string ⟨#[]⟩,.slice none 0 0,.slice none 0 0,.slice none 0 0,.int .i64 0,.slice none 0 0,.slice none 0 0,.slice none 0 0] 49)) r a n c zs k W.heap.size (W.heap.size+1) P M:=
 ⟨mr_spoil D o ds,(turn_below (al_below W _)).trans (turn_below (al_below _ _)),hU _ (Nat.le_refl _),hU _ (Nat.le_succ _),hU,hR⟩
theorem spu_fin {U:Nat→Prop} {W0 w W:World} {r:Nat} {a:Option Addr} {n c:Nat} {zs:List Int} {k g q:Nat} {P:PMod} {M:Ma} (h:MRU U W0 w W r a n c zs k g q P M) (v0 v1 v2 v3 v4 v5 v6 v7:Value) (e:#[v0,v1,v2,v3,v4,v5,v6,v7]=modV P M.a1 M.c1 M.a2 M.c2 M.bl M.a3 M.c3 M.a5 M.c5 M.a6 M.c6 M.a7 M.c7):MoP w r a n c zs P k (.returned (.agg #[v0,v1,v2,v3,v4,v5,v6,v7])) (st8 W q v0 v1 v2 v3 v4 v5 v6 v7)∧Turn (fun j=>j=r∨U j) W0 (st8 W q v0 v1 v2 v3 v4 v5 v6 v7):=
 ⟨spl_fin h.toMR v0 v1 v2 v3 v4 v5 v6 v7 e,h.u.trans ((turn_st8 W q _ _ _ _ _ _ _ _).mono (fun j hj=>.inr (by subst hj;exact h.uq)))⟩
set_option maxHeartbeats 2000000 in
theorem sp0_0 (zs:List Int) (k:Nat) (K V:Int) (E1:Hid (zs.getD k 0=K)) (E2:Hid (zs.getD (k+1) 0=V)) (z0:0≤K) (z1:K≤255) (y0:0≤V) (y1:V≤255) (P:PMod) (DP:DnR P) (c0:K % 12=0) (c1:V % 4=0):SpU zs k P { P with nm:=⟨#[]⟩ } (k+2):=by
 intro U w W r a n c M D o ds hU hR
 have R0:=mru_spoil D o ds hU hR
 have hs0:=D.sz
 clear D o ds hU hR
 go_enter Tryz.func136,Tryz.ntmps136
 go_wp2_with fail
 refine (R0.next K E1).mono ?_
 rintro e w1 ⟨rfl,R1⟩
 clear R0
 go_wp2_with fail
 refine (R1.next V E2).mono ?_
 rintro e w2 ⟨rfl,R2⟩
 clear R1 E1 E2
 have R3:=R2.below (al_below w2 (.cells #[.string ⟨#[]⟩,.string ⟨#[65]⟩,.string ⟨#[97,98,99,100,101,102,103,104,105,106,107,108]⟩,.string ⟨#[97,98,99,100,101,102,103,104,105,106,107,108,109]⟩] 9))
 obtain ⟨b0,b1,b2,b3,b4,b5,b6,b7⟩:=R3.m.box.eight'
 obtain ⟨f0,f1,f2,f3,f4,f5,f6,f7⟩:=R3.m.box.froz
 obtain ⟨r0,r1,r2,r3,r4,r5,r6,r7⟩:=z8_cells R3.res
 obtain ⟨s0,s1,s2,s3,s4,s5,s6,s7⟩:=R3.res.froz
 have HF:=hide (R3.setnm ⟨#[]⟩)
 clear R2 R3
 go_wp2
 refine spl_end HF.out.res rfl _ _ _ _ _ _ _ _ _ _ rfl ?_
 exact spu_fin HF.out _ _ _ _ _ _ _ _ rfl
set_option maxHeartbeats 2000000 in
theorem sp0_1 (zs:List Int) (k:Nat) (K V:Int) (E1:Hid (zs.getD k 0=K)) (E2:Hid (zs.getD (k+1) 0=V)) (z0:0≤K) (z1:K≤255) (y0:0≤V) (y1:V≤255) (P:PMod) (DP:DnR P) (c0:K % 12=0) (c1:V % 4=1):SpU zs k P { P with nm:=⟨#[65]⟩ } (k+2):=by
 intro U w W r a n c M D o ds hU hR
 have R0:=mru_spoil D o ds hU hR
 have hs0:=D.sz
 clear D o ds hU hR
 go_enter Tryz.func136,Tryz.ntmps136
 go_wp2_with fail
 refine (R0.next K E1).mono ?_
 rintro e w1 ⟨rfl,R1⟩
 clear R0
 go_wp2_with fail
 refine (R1.next V E2).mono ?_
 rintro e w2 ⟨rfl,R2⟩
 clear R1 E1 E2
 have R3:=R2.below (al_below w2 (.cells #[.string ⟨#[]⟩,.string ⟨#[65]⟩,.string ⟨#[97,98,99,100,101,102,103,104,105,106,107,108]⟩,.string ⟨#[97,98,99,100,101,102,103,104,105,106,107,108,109]⟩] 9))
 obtain ⟨b0,b1,b2,b3,b4,b5,b6,b7⟩:=R3.m.box.eight'
 obtain ⟨f0,f1,f2,f3,f4,f5,f6,f7⟩:=R3.m.box.froz
 obtain ⟨r0,r1,r2,r3,r4,r5,r6,r7⟩:=z8_cells R3.res
 obtain ⟨s0,s1,s2,s3,s4,s5,s6,s7⟩:=R3.res.froz
 have HF:=hide (R3.setnm ⟨#[65]⟩)
 clear R2 R3
 go_wp2
 refine spl_end HF.out.res rfl _ _ _ _ _ _ _ _ _ _ rfl ?_
 exact spu_fin HF.out _ _ _ _ _ _ _ _ rfl
set_option maxHeartbeats 2000000 in
theorem sp0_2 (zs:List Int) (k:Nat) (K V:Int) (E1:Hid (zs.getD k 0=K)) (E2:Hid (zs.getD (k+1) 0=V)) (z0:0≤K) (z1:K≤255) (y0:0≤V) (y1:V≤255) (P:PMod) (DP:DnR P) (c0:K % 12=0) (c1:V % 4=2):SpU zs k P { P with nm:=⟨#[97,98,99,100,101,102,103,104,105,106,107,108]⟩ } (k+2):=by
 intro U w W r a n c M D o ds hU hR
 have R0:=mru_spoil D o ds hU hR
 have hs0:=D.sz
 clear D o ds hU hR
 go_enter Tryz.func136,Tryz.ntmps136
 go_wp2_with fail
 refine (R0.next K E1).mono ?_
 rintro e w1 ⟨rfl,R1⟩
 clear R0
 go_wp2_with fail
 refine (R1.next V E2).mono ?_
 rintro e w2 ⟨rfl,R2⟩
 clear R1 E1 E2
 have R3:=R2.below (al_below w2 (.cells #[.string ⟨#[]⟩,.string ⟨#[65]⟩,.string ⟨#[97,98,99,100,101,102,103,104,105,106,107,108]⟩,.string ⟨#[97,98,99,100,101,102,103,104,105,106,107,108,109]⟩] 9))
 obtain ⟨b0,b1,b2,b3,b4,b5,b6,b7⟩:=R3.m.box.eight'
 obtain ⟨f0,f1,f2,f3,f4,f5,f6,f7⟩:=R3.m.box.froz
 obtain ⟨r0,r1,r2,r3,r4,r5,r6,r7⟩:=z8_cells R3.res
 obtain ⟨s0,s1,s2,s3,s4,s5,s6,s7⟩:=R3.res.froz
 have HF:=hide (R3.setnm ⟨#[97,98,99,100,101,102,103,104,105,106,107,108]⟩)
 clear R2 R3
 go_wp2
 refine spl_end HF.out.res rfl _ _ _ _ _ _ _ _ _ _ rfl ?_
 exact spu_fin HF.out _ _ _ _ _ _ _ _ rfl
set_option maxHeartbeats 2000000 in
theorem sp0_3 (zs:List Int) (k:Nat) (K V:Int) (E1:Hid (zs.getD k 0=K)) (E2:Hid (zs.getD (k+1) 0=V)) (z0:0≤K) (z1:K≤255) (y0:0≤V) (y1:V≤255) (P:PMod) (DP:DnR P) (c0:K % 12=0) (c1:V % 4=3):SpU zs k P { P with nm:=⟨#[97,98,99,100,101,102,103,104,105,106,107,108,109]⟩ } (k+2):=by
 intro U w W r a n c M D o ds hU hR
 have R0:=mru_spoil D o ds hU hR
 have hs0:=D.sz
 clear D o ds hU hR
 go_enter Tryz.func136,Tryz.ntmps136
 go_wp2_with fail
 refine (R0.next K E1).mono ?_
 rintro e w1 ⟨rfl,R1⟩
 clear R0
 go_wp2_with fail
 refine (R1.next V E2).mono ?_
 rintro e w2 ⟨rfl,R2⟩
 clear R1 E1 E2
 have R3:=R2.below (al_below w2 (.cells #[.string ⟨#[]⟩,.string ⟨#[65]⟩,.string ⟨#[97,98,99,100,101,102,103,104,105,106,107,108]⟩,.string ⟨#[97,98,99,100,101,102,103,104,105,106,107,108,109]⟩] 9))
 obtain ⟨b0,b1,b2,b3,b4,b5,b6,b7⟩:=R3.m.box.eight'
 obtain ⟨f0,f1,f2,f3,f4,f5,f6,f7⟩:=R3.m.box.froz
 obtain ⟨r0,r1,r2,r3,r4,r5,r6,r7⟩:=z8_cells R3.res
 obtain ⟨s0,s1,s2,s3,s4,s5,s6,s7⟩:=R3.res.froz
 have HF:=hide (R3.setnm ⟨#[97,98,99,100,101,102,103,104,105,106,107,108,109]⟩)
 clear R2 R3
 go_wp2
 refine spl_end HF.out.res rfl _ _ _ _ _ _ _ _ _ _ rfl ?_
 exact spu_fin HF.out _ _ _ _ _ _ _ _ rfl
set_option maxHeartbeats 2000000 in
theorem sp5_0 (zs:List Int) (k:Nat) (K V:Int) (E1:Hid (zs.getD k 0=K)) (E2:Hid (zs.getD (k+1) 0=V)) (z0:0≤K) (z1:K≤255) (y0:0≤V) (y1:V≤255) (P:PMod) (DP:DnR P) (c0:K % 12=5) (c1:V % 3=0):SpU zs k P { P with bss:=-1 } (k+2):=by
 intro U w W r a n c M D o ds hU hR
 have R0:=mru_spoil D o ds hU hR
 have hs0:=D.sz
 clear D o ds hU hR
 go_enter Tryz.func136,Tryz.ntmps136
 go_wp2_with fail
 refine (R0.next K E1).mono ?_
 rintro e w1 ⟨rfl,R1⟩
 clear R0
 go_wp2_with fail
 refine (R1.next V E2).mono ?_
 rintro e w2 ⟨rfl,R2⟩
 clear R1 E1 E2
 have R3:=R2.below (al_below w2 (.cells #[.int .i64 (-1),.int .i64 512,.int .i64 513] 3))
 obtain ⟨b0,b1,b2,b3,b4,b5,b6,b7⟩:=R3.m.box.eight'
 obtain ⟨f0,f1,f2,f3,f4,f5,f6,f7⟩:=R3.m.box.froz
 obtain ⟨r0,r1,r2,r3,r4,r5,r6,r7⟩:=z8_cells R3.res
 obtain ⟨s0,s1,s2,s3,s4,s5,s6,s7⟩:=R3.res.froz
 have HF:=hide (R3.setbss (-1))
 clear R2 R3
 go_wp2
 refine spl_end HF.out.res rfl _ _ _ _ _ _ _ _ _ _ rfl ?_
 exact spu_fin HF.out _ _ _ _ _ _ _ _ rfl
set_option maxHeartbeats 2000000 in
theorem sp5_1 (zs:List Int) (k:Nat) (K V:Int) (E1:Hid (zs.getD k 0=K)) (E2:Hid (zs.getD (k+1) 0=V)) (z0:0≤K) (z1:K≤255) (y0:0≤V) (y1:V≤255) (P:PMod) (DP:DnR P) (c0:K % 12=5) (c1:V % 3=1):SpU zs k P { P with bss:=512 } (k+2):=by
 intro U w W r a n c M D o ds hU hR
 have R0:=mru_spoil D o ds hU hR
 have hs0:=D.sz
 clear D o ds hU hR
 go_enter Tryz.func136,Tryz.ntmps136
 go_wp2_with fail
 refine (R0.next K E1).mono ?_
 rintro e w1 ⟨rfl,R1⟩
 clear R0
 go_wp2_with fail
 refine (R1.next V E2).mono ?_
 rintro e w2 ⟨rfl,R2⟩
 clear R1 E1 E2
 have R3:=R2.below (al_below w2 (.cells #[.int .i64 (-1),.int .i64 512,.int .i64 513] 3))
 obtain ⟨b0,b1,b2,b3,b4,b5,b6,b7⟩:=R3.m.box.eight'
 obtain ⟨f0,f1,f2,f3,f4,f5,f6,f7⟩:=R3.m.box.froz
 obtain ⟨r0,r1,r2,r3,r4,r5,r6,r7⟩:=z8_cells R3.res
 obtain ⟨s0,s1,s2,s3,s4,s5,s6,s7⟩:=R3.res.froz
 have HF:=hide (R3.setbss (512))
 clear R2 R3
 go_wp2
 refine spl_end HF.out.res rfl _ _ _ _ _ _ _ _ _ _ rfl ?_
 exact spu_fin HF.out _ _ _ _ _ _ _ _ rfl
set_option maxHeartbeats 2000000 in
theorem sp5_2 (zs:List Int) (k:Nat) (K V:Int) (E1:Hid (zs.getD k 0=K)) (E2:Hid (zs.getD (k+1) 0=V)) (z0:0≤K) (z1:K≤255) (y0:0≤V) (y1:V≤255) (P:PMod) (DP:DnR P) (c0:K % 12=5) (c1:V % 3=2):SpU zs k P { P with bss:=513 } (k+2):=by
 intro U w W r a n c M D o ds hU hR
 have R0:=mru_spoil D o ds hU hR
 have hs0:=D.sz
 clear D o ds hU hR
 go_enter Tryz.func136,Tryz.ntmps136
 go_wp2_with fail
 refine (R0.next K E1).mono ?_
 rintro e w1 ⟨rfl,R1⟩
 clear R0
 go_wp2_with fail
 refine (R1.next V E2).mono ?_
 rintro e w2 ⟨rfl,R2⟩
 clear R1 E1 E2
 have R3:=R2.below (al_below w2 (.cells #[.int .i64 (-1),.int .i64 512,.int .i64 513] 3))
 obtain ⟨b0,b1,b2,b3,b4,b5,b6,b7⟩:=R3.m.box.eight'
 obtain ⟨f0,f1,f2,f3,f4,f5,f6,f7⟩:=R3.m.box.froz
 obtain ⟨r0,r1,r2,r3,r4,r5,r6,r7⟩:=z8_cells R3.res
 obtain ⟨s0,s1,s2,s3,s4,s5,s6,s7⟩:=R3.res.froz
 have HF:=hide (R3.setbss (513))
 clear R2 R3
 go_wp2
 refine spl_end HF.out.res rfl _ _ _ _ _ _ _ _ _ _ rfl ?_
 exact spu_fin HF.out _ _ _ _ _ _ _ _ rfl
set_option maxHeartbeats 2000000 in
theorem sp1_0 (zs:List Int) (k:Nat) (K V:Int) (E1:Hid (zs.getD k 0=K)) (E2:Hid (zs.getD (k+1) 0=V)) (z0:0≤K) (z1:K≤255) (y0:0≤V) (y1:V≤255) (P:PMod) (DP:DnR P) (c0:K % 12=1) (c1:V % 2=0):SpU zs k P { P with tz:=List.replicate 200 0 } (k+2):=by
 intro U w W r a n c M D o ds hU hR
 have R0:=mru_spoil D o ds hU hR
 have hs0:=D.sz
 clear D o ds hU hR
 go_enter Tryz.func136,Tryz.ntmps136
 go_wp2_with fail
 refine (R0.next K E1).mono ?_
 rintro e w1 ⟨rfl,R1⟩
 clear R0
 go_wp2_with fail
 refine (R1.next V E2).mono ?_
 rintro e w2 ⟨rfl,R2⟩
 clear R1 E1 E2
 have hmk:∀ W:World,(Instr.makeSlice 29 (.int .i64 200) (.int .i64 200)).run Tryz.prog W=.ok (.slice (some ⟨W.heap.size,0,none⟩) 200 200) (W.alloc (.cells (zin 200) 3)):=fun W=>mkI 200 (by omega) W
 have R3:=R2.below (al_below w2 (.cells (zin 200) 3))
 obtain ⟨b0,b1,b2,b3,b4,b5,b6,b7⟩:=R3.m.box.eight'
 obtain ⟨f0,f1,f2,f3,f4,f5,f6,f7⟩:=R3.m.box.froz
 obtain ⟨r0,r1,r2,r3,r4,r5,r6,r7⟩:=z8_cells R3.res
 obtain ⟨s0,s1,s2,s3,s4,s5,s6,s7⟩:=R3.res.froz
 have HF:=hide (R2.newtext 200 (by omega))
 clear R2 R3
 go_wp2
 refine spl_end HF.out.res rfl _ _ _ _ _ _ _ _ _ _ rfl ?_
 exact spu_fin HF.out _ _ _ _ _ _ _ _ rfl
set_option maxHeartbeats 2000000 in
theorem sp1_1 (zs:List Int) (k:Nat) (K V:Int) (E1:Hid (zs.getD k 0=K)) (E2:Hid (zs.getD (k+1) 0=V)) (z0:0≤K) (z1:K≤255) (y0:0≤V) (y1:V≤255) (P:PMod) (DP:DnR P) (c0:K % 12=1) (c1:V % 2=1):SpU zs k P { P with tz:=List.replicate 201 0 } (k+2):=by
 intro U w W r a n c M D o ds hU hR
 have R0:=mru_spoil D o ds hU hR
 have hs0:=D.sz
 clear D o ds hU hR
 go_enter Tryz.func136,Tryz.ntmps136
 go_wp2_with fail
 refine (R0.next K E1).mono ?_
 rintro e w1 ⟨rfl,R1⟩
 clear R0
 go_wp2_with fail
 refine (R1.next V E2).mono ?_
 rintro e w2 ⟨rfl,R2⟩
 clear R1 E1 E2
 have hmk:∀ W:World,(Instr.makeSlice 29 (.int .i64 201) (.int .i64 201)).run Tryz.prog W=.ok (.slice (some ⟨W.heap.size,0,none⟩) 201 201) (W.alloc (.cells (zin 201) 3)):=fun W=>mkI 201 (by omega) W
 have R3:=R2.below (al_below w2 (.cells (zin 201) 3))
 obtain ⟨b0,b1,b2,b3,b4,b5,b6,b7⟩:=R3.m.box.eight'
 obtain ⟨f0,f1,f2,f3,f4,f5,f6,f7⟩:=R3.m.box.froz
 obtain ⟨r0,r1,r2,r3,r4,r5,r6,r7⟩:=z8_cells R3.res
 obtain ⟨s0,s1,s2,s3,s4,s5,s6,s7⟩:=R3.res.froz
 have HF:=hide (R2.newtext 201 (by omega))
 clear R2 R3
 go_wp2
 refine spl_end HF.out.res rfl _ _ _ _ _ _ _ _ _ _ rfl ?_
 exact spu_fin HF.out _ _ _ _ _ _ _ _ rfl
set_option maxHeartbeats 2000000 in
theorem sp4_0 (zs:List Int) (k:Nat) (K V:Int) (E1:Hid (zs.getD k 0=K)) (E2:Hid (zs.getD (k+1) 0=V)) (z0:0≤K) (z1:K≤255) (y0:0≤V) (y1:V≤255) (P:PMod) (DP:DnR P) (c0:K % 12=4) (c1:V % 2=0):SpU zs k P { P with dz:=List.replicate 512 0 } (k+2):=by
 intro U w W r a n c M D o ds hU hR
 have R0:=mru_spoil D o ds hU hR
 have hs0:=D.sz
 clear D o ds hU hR
 go_enter Tryz.func136,Tryz.ntmps136
 go_wp2_with fail
 refine (R0.next K E1).mono ?_
 rintro e w1 ⟨rfl,R1⟩
 clear R0
 go_wp2_with fail
 refine (R1.next V E2).mono ?_
 rintro e w2 ⟨rfl,R2⟩
 clear R1 E1 E2
 have hmk:∀ W:World,(Instr.makeSlice 22 (.int .i64 512) (.int .i64 512)).run Tryz.prog W=.ok (.slice (some ⟨W.heap.size,0,none⟩) 512 512) (W.alloc (.cells (zb8 512) 5)):=fun W=>mk8 512 (by omega) W
 have R3:=R2.below (al_below w2 (.cells (zb8 512) 5))
 obtain ⟨b0,b1,b2,b3,b4,b5,b6,b7⟩:=R3.m.box.eight'
 obtain ⟨f0,f1,f2,f3,f4,f5,f6,f7⟩:=R3.m.box.froz
 obtain ⟨r0,r1,r2,r3,r4,r5,r6,r7⟩:=z8_cells R3.res
 obtain ⟨s0,s1,s2,s3,s4,s5,s6,s7⟩:=R3.res.froz
 have HF:=hide (R2.newdata 512 (by omega))
 clear R2 R3
 go_wp2
 refine spl_end HF.out.res rfl _ _ _ _ _ _ _ _ _ _ rfl ?_
 exact spu_fin HF.out _ _ _ _ _ _ _ _ rfl
set_option maxHeartbeats 2000000 in
theorem sp4_1 (zs:List Int) (k:Nat) (K V:Int) (E1:Hid (zs.getD k 0=K)) (E2:Hid (zs.getD (k+1) 0=V)) (z0:0≤K) (z1:K≤255) (y0:0≤V) (y1:V≤255) (P:PMod) (DP:DnR P) (c0:K % 12=4) (c1:V % 2=1):SpU zs k P { P with dz:=List.replicate 513 0 } (k+2):=by
 intro U w W r a n c M D o ds hU hR
 have R0:=mru_spoil D o ds hU hR
 have hs0:=D.sz
 clear D o ds hU hR
 go_enter Tryz.func136,Tryz.ntmps136
 go_wp2_with fail
 refine (R0.next K E1).mono ?_
 rintro e w1 ⟨rfl,R1⟩
 clear R0
 go_wp2_with fail
 refine (R1.next V E2).mono ?_
 rintro e w2 ⟨rfl,R2⟩
 clear R1 E1 E2
 have hmk:∀ W:World,(Instr.makeSlice 22 (.int .i64 513) (.int .i64 513)).run Tryz.prog W=.ok (.slice (some ⟨W.heap.size,0,none⟩) 513 513) (W.alloc (.cells (zb8 513) 5)):=fun W=>mk8 513 (by omega) W
 have R3:=R2.below (al_below w2 (.cells (zb8 513) 5))
 obtain ⟨b0,b1,b2,b3,b4,b5,b6,b7⟩:=R3.m.box.eight'
 obtain ⟨f0,f1,f2,f3,f4,f5,f6,f7⟩:=R3.m.box.froz
 obtain ⟨r0,r1,r2,r3,r4,r5,r6,r7⟩:=z8_cells R3.res
 obtain ⟨s0,s1,s2,s3,s4,s5,s6,s7⟩:=R3.res.froz
 have HF:=hide (R2.newdata 513 (by omega))
 clear R2 R3
 go_wp2
 refine spl_end HF.out.res rfl _ _ _ _ _ _ _ _ _ _ rfl ?_
 exact spu_fin HF.out _ _ _ _ _ _ _ _ rfl
end Go.Proofs.YtngdgogjlpjjpadGreat
