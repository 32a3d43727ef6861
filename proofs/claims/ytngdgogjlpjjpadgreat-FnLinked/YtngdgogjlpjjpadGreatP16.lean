import Derived.Test.YtngdgogjlpjjpadGreatP15
namespace Go.Proofs.YtngdgogjlpjjpadGreat
open Go.RowKit
set_option linter.unusedVariables false
set_option linter.unusedSimpArgs false
set_option maxRecDepth 100000
def PartFn (zs:List Int) (k:Nat) (ys:List Int) (k':Nat):Prop:=∀ (w W:World) (r:Nat) (a:Option Addr) (n c:Nat) (v:Value) (xs:List Int) (h:Dl w W r a n c zs k v xs) (hx:xs.length≤100),Calls Tryz.prog 266 #[.pointer (some ⟨r,0,none⟩),v] W fun e w'=>∃ v',e=.returned v'∧Dl w w' r a n c zs k' v' (xs++ys)
theorem newsL (W:World) (g:Nat) (l:List Int) (cs:Array Value) (hcs:cs=(l.flatMap clI).toArray) (hg:g=W.heap.size):∀ j u,(l.flatMap clI)[j]?=some u→(W.alloc (.cells cs 3)).cell? ((⟨g,0,none⟩:Addr).add j)=some u:=by
 subst hg
 exact cells_new W cs 3 _ hcs
set_option maxHeartbeats 2000000 in
theorem part_b0 (zs:List Int) (k:Nat) (K V:Int) (E1:Hid (zs.getD k 0=K)) (E2:Hid (zs.getD (k+1) 0=V)) (z0:0≤K) (z1:K≤255) (y0:0≤V) (y1:V≤255) (c0:K % 16<3):PartFn zs k [opW 2 0 0 (V),opW 17 0 2 (0)] (k+2):=by
 intro w W r a n c v xs h hx
 obtain ⟨av,cv,rfl⟩:=og_shape h.o
 go_enter Tryz.func266,Tryz.ntmps266
 go_wp2_with fail
 refine (h.d.next K E1).mono ?_
 rintro e w1 ⟨rfl,d1,t1⟩
 have o1:=h.o.turn t1 (fun j hj=>by have:=h.d.lt;omega)
 clear h t1
 go_wp2_with fail
 refine (d1.next V E2).mono ?_
 rintro e w2 ⟨rfl,d2,t2⟩
 have L:=Dl.mk d2 (o1.turn t2 (fun j hj=>by have:=d1.lt;omega))
 clear d1 o1 t2 d2 E1 E2
 rw [Nat.add_assoc] at L
 go_wp2_with fail
 refine (l4Op_is _ _ _ _ _ (2) (0) (0) (V) (by first | rfl | omega) (by first | rfl | omega) (by first | rfl | omega) (by first | rfl | omega) (by omega)).mono ?_
 rintro e u0 ⟨rfl,hb0⟩
 replace L:=L.below hb0
 clear hb0
 go_wp2_with fail
 refine (l4Op_is _ _ _ _ _ (17) (0) (2) (0) (by first | rfl | omega) (by first | rfl | omega) (by first | rfl | omega) (by first | rfl | omega) (by omega)).mono ?_
 rintro e u1 ⟨rfl,hb1⟩
 replace L:=L.below hb1
 clear hb1
 have HL:=hide (L.below ((Below.refl _ _).alloc (Nat.le_refl _) (.cells (([opW 2 0 0 (V),opW 17 0 2 (0)]:List Int).flatMap clI).toArray 3)))
 have HN:=hide (newsL u1 u1.heap.size [opW 2 0 0 (V),opW 17 0 2 (0)] _ rfl rfl)
 clear L
 go_wp2_with (at_builtin;refine list_dl HL.out rfl _ _ rfl rfl ⟨u1.heap.size,0,none⟩ 2 2 rfl rfl HN.out (by omega) ?_;intro v' w' L')
 go_wp2
 go_ret
 exact ⟨_,rfl,L'⟩
set_option maxHeartbeats 2000000 in
theorem part_b1 (zs:List Int) (k:Nat) (K V:Int) (E1:Hid (zs.getD k 0=K)) (E2:Hid (zs.getD (k+1) 0=V)) (z0:0≤K) (z1:K≤255) (y0:0≤V) (y1:V≤255) (c0:¬ K % 16<3) (c1:K % 16<7):PartFn zs k [opW 24 0 0 (V % 3)] (k+2):=by
 intro w W r a n c v xs h hx
 obtain ⟨av,cv,rfl⟩:=og_shape h.o
 go_enter Tryz.func266,Tryz.ntmps266
 go_wp2_with fail
 refine (h.d.next K E1).mono ?_
 rintro e w1 ⟨rfl,d1,t1⟩
 have o1:=h.o.turn t1 (fun j hj=>by have:=h.d.lt;omega)
 clear h t1
 go_wp2_with fail
 refine (d1.next V E2).mono ?_
 rintro e w2 ⟨rfl,d2,t2⟩
 have L:=Dl.mk d2 (o1.turn t2 (fun j hj=>by have:=d1.lt;omega))
 clear d1 o1 t2 d2 E1 E2
 rw [Nat.add_assoc] at L
 go_wp2_with fail
 refine (l4Op_is _ _ _ _ _ (24) (0) (0) (V % 3) (by first | rfl | omega) (by first | rfl | omega) (by first | rfl | omega) (by first | rfl | omega) (by omega)).mono ?_
 rintro e u0 ⟨rfl,hb0⟩
 replace L:=L.below hb0
 clear hb0
 have HL:=hide (L.below ((Below.refl _ _).alloc (Nat.le_refl _) (.cells (([opW 24 0 0 (V % 3)]:List Int).flatMap clI).toArray 3)))
 have HN:=hide (newsL u0 u0.heap.size [opW 24 0 0 (V % 3)] _ rfl rfl)
 clear L
 go_wp2_with (at_builtin;refine list_dl HL.out rfl _ _ rfl rfl ⟨u0.heap.size,0,none⟩ 1 1 rfl rfl HN.out (by omega) ?_;intro v' w' L')
 go_wp2
 go_ret
 exact ⟨_,rfl,L'⟩
set_option maxHeartbeats 2000000 in
theorem part_b2 (zs:List Int) (k:Nat) (K V:Int) (E1:Hid (zs.getD k 0=K)) (E2:Hid (zs.getD (k+1) 0=V)) (z0:0≤K) (z1:K≤255) (y0:0≤V) (y1:V≤255) (c0:¬ K % 16<7) (c1:K % 16<9):PartFn zs k [opW 16 1 7 (V % 4 * 4),opW 6 1 1 (V / 16),opW 19 1 7 (V % 4 * 4),opW 17 1 2 (0)] (k+2):=by
 intro w W r a n c v xs h hx
 obtain ⟨av,cv,rfl⟩:=og_shape h.o
 go_enter Tryz.func266,Tryz.ntmps266
 go_wp2_with fail
 refine (h.d.next K E1).mono ?_
 rintro e w1 ⟨rfl,d1,t1⟩
 have o1:=h.o.turn t1 (fun j hj=>by have:=h.d.lt;omega)
 clear h t1
 go_wp2_with fail
 refine (d1.next V E2).mono ?_
 rintro e w2 ⟨rfl,d2,t2⟩
 have L:=Dl.mk d2 (o1.turn t2 (fun j hj=>by have:=d1.lt;omega))
 clear d1 o1 t2 d2 E1 E2
 rw [Nat.add_assoc] at L
 go_wp2_with fail
 refine (l4Op_is _ _ _ _ _ (16) (1) (7) (V % 4 * 4) (by first | rfl | omega) (by first | rfl | omega) (by first | rfl | omega) (by first | rfl | omega) (by omega)).mono ?_
 rintro e u0 ⟨rfl,hb0⟩
 replace L:=L.below hb0
 clear hb0
 go_wp2_with fail
 refine (l4Op_is _ _ _ _ _ (6) (1) (1) (V / 16) (by first | rfl | omega) (by first | rfl | omega) (by first | rfl | omega) (by first | rfl | omega) (by omega)).mono ?_
 rintro e u1 ⟨rfl,hb1⟩
 replace L:=L.below hb1
 clear hb1
 go_wp2_with fail
 refine (l4Op_is _ _ _ _ _ (19) (1) (7) (V % 4 * 4) (by first | rfl | omega) (by first | rfl | omega) (by first | rfl | omega) (by first | rfl | omega) (by omega)).mono ?_
 rintro e u2 ⟨rfl,hb2⟩
 replace L:=L.below hb2
 clear hb2
 go_wp2_with fail
 refine (l4Op_is _ _ _ _ _ (17) (1) (2) (0) (by first | rfl | omega) (by first | rfl | omega) (by first | rfl | omega) (by first | rfl | omega) (by omega)).mono ?_
 rintro e u3 ⟨rfl,hb3⟩
 replace L:=L.below hb3
 clear hb3
 have HL:=hide (L.below ((Below.refl _ _).alloc (Nat.le_refl _) (.cells (([opW 16 1 7 (V % 4 * 4),opW 6 1 1 (V / 16),opW 19 1 7 (V % 4 * 4),opW 17 1 2 (0)]:List Int).flatMap clI).toArray 3)))
 have HN:=hide (newsL u3 u3.heap.size [opW 16 1 7 (V % 4 * 4),opW 6 1 1 (V / 16),opW 19 1 7 (V % 4 * 4),opW 17 1 2 (0)] _ rfl rfl)
 clear L
 go_wp2_with (at_builtin;refine list_dl HL.out rfl _ _ rfl rfl ⟨u3.heap.size,0,none⟩ 4 4 rfl rfl HN.out (by omega) ?_;intro v' w' L')
 go_wp2
 go_ret
 exact ⟨_,rfl,L'⟩
set_option maxHeartbeats 2000000 in
theorem part_b3 (zs:List Int) (k:Nat) (K V:Int) (E1:Hid (zs.getD k 0=K)) (E2:Hid (zs.getD (k+1) 0=V)) (z0:0≤K) (z1:K≤255) (y0:0≤V) (y1:V≤255) (c0:K % 16=9):PartFn zs k [opW 6 6 6 (-4),opW 19 0 6 (0),opW 2 0 0 (V),opW 16 3 6 (0),opW 6 6 6 (4),opW 17 3 2 (0)] (k+2):=by
 intro w W r a n c v xs h hx
 obtain ⟨av,cv,rfl⟩:=og_shape h.o
 go_enter Tryz.func266,Tryz.ntmps266
 go_wp2_with fail
 refine (h.d.next K E1).mono ?_
 rintro e w1 ⟨rfl,d1,t1⟩
 have o1:=h.o.turn t1 (fun j hj=>by have:=h.d.lt;omega)
 clear h t1
 go_wp2_with fail
 refine (d1.next V E2).mono ?_
 rintro e w2 ⟨rfl,d2,t2⟩
 have L:=Dl.mk d2 (o1.turn t2 (fun j hj=>by have:=d1.lt;omega))
 clear d1 o1 t2 d2 E1 E2
 rw [Nat.add_assoc] at L
 go_wp2_with fail
 refine (l4Op_is _ _ _ _ _ (6) (6) (6) (-4) (by first | rfl | omega) (by first | rfl | omega) (by first | rfl | omega) (by first | rfl | omega) (by omega)).mono ?_
 rintro e u0 ⟨rfl,hb0⟩
 replace L:=L.below hb0
 clear hb0
 go_wp2_with fail
 refine (l4Op_is _ _ _ _ _ (19) (0) (6) (0) (by first | rfl | omega) (by first | rfl | omega) (by first | rfl | omega) (by first | rfl | omega) (by omega)).mono ?_
 rintro e u1 ⟨rfl,hb1⟩
 replace L:=L.below hb1
 clear hb1
 go_wp2_with fail
 refine (l4Op_is _ _ _ _ _ (2) (0) (0) (V) (by first | rfl | omega) (by first | rfl | omega) (by first | rfl | omega) (by first | rfl | omega) (by omega)).mono ?_
 rintro e u2 ⟨rfl,hb2⟩
 replace L:=L.below hb2
 clear hb2
 go_wp2_with fail
 refine (l4Op_is _ _ _ _ _ (16) (3) (6) (0) (by first | rfl | omega) (by first | rfl | omega) (by first | rfl | omega) (by first | rfl | omega) (by omega)).mono ?_
 rintro e u3 ⟨rfl,hb3⟩
 replace L:=L.below hb3
 clear hb3
 go_wp2_with fail
 refine (l4Op_is _ _ _ _ _ (6) (6) (6) (4) (by first | rfl | omega) (by first | rfl | omega) (by first | rfl | omega) (by first | rfl | omega) (by omega)).mono ?_
 rintro e u4 ⟨rfl,hb4⟩
 replace L:=L.below hb4
 clear hb4
 go_wp2_with fail
 refine (l4Op_is _ _ _ _ _ (17) (3) (2) (0) (by first | rfl | omega) (by first | rfl | omega) (by first | rfl | omega) (by first | rfl | omega) (by omega)).mono ?_
 rintro e u5 ⟨rfl,hb5⟩
 replace L:=L.below hb5
 clear hb5
 have HL:=hide (L.below ((Below.refl _ _).alloc (Nat.le_refl _) (.cells (([opW 6 6 6 (-4),opW 19 0 6 (0),opW 2 0 0 (V),opW 16 3 6 (0),opW 6 6 6 (4),opW 17 3 2 (0)]:List Int).flatMap clI).toArray 3)))
 have HN:=hide (newsL u5 u5.heap.size [opW 6 6 6 (-4),opW 19 0 6 (0),opW 2 0 0 (V),opW 16 3 6 (0),opW 6 6 6 (4),opW 17 3 2 (0)] _ rfl rfl)
 clear L
 go_wp2_with (at_builtin;refine list_dl HL.out rfl _ _ rfl rfl ⟨u5.heap.size,0,none⟩ 6 6 rfl rfl HN.out (by omega) ?_;intro v' w' L')
 go_wp2
 go_ret
 exact ⟨_,rfl,L'⟩
set_option maxHeartbeats 2000000 in
theorem part_b4 (zs:List Int) (k:Nat) (K V:Int) (E1:Hid (zs.getD k 0=K)) (E2:Hid (zs.getD (k+1) 0=V)) (z0:0≤K) (z1:K≤255) (y0:0≤V) (y1:V≤255) (c0:K % 16=10):PartFn zs k [opW 23 0 0 (V % 9 - 2)] (k+2):=by
 intro w W r a n c v xs h hx
 obtain ⟨av,cv,rfl⟩:=og_shape h.o
 go_enter Tryz.func266,Tryz.ntmps266
 go_wp2_with fail
 refine (h.d.next K E1).mono ?_
 rintro e w1 ⟨rfl,d1,t1⟩
 have o1:=h.o.turn t1 (fun j hj=>by have:=h.d.lt;omega)
 clear h t1
 go_wp2_with fail
 refine (d1.next V E2).mono ?_
 rintro e w2 ⟨rfl,d2,t2⟩
 have L:=Dl.mk d2 (o1.turn t2 (fun j hj=>by have:=d1.lt;omega))
 clear d1 o1 t2 d2 E1 E2
 rw [Nat.add_assoc] at L
 go_wp2_with fail
 refine (l4Op_is _ _ _ _ _ (23) (0) (0) (V % 9 - 2) (by first | rfl | omega) (by first | rfl | omega) (by first | rfl | omega) (by first | rfl | omega) (by omega)).mono ?_
 rintro e u0 ⟨rfl,hb0⟩
 replace L:=L.below hb0
 clear hb0
 have HL:=hide (L.below ((Below.refl _ _).alloc (Nat.le_refl _) (.cells (([opW 23 0 0 (V % 9 - 2)]:List Int).flatMap clI).toArray 3)))
 have HN:=hide (newsL u0 u0.heap.size [opW 23 0 0 (V % 9 - 2)] _ rfl rfl)
 clear L
 go_wp2_with (at_builtin;refine list_dl HL.out rfl _ _ rfl rfl ⟨u0.heap.size,0,none⟩ 1 1 rfl rfl HN.out (by omega) ?_;intro v' w' L')
 go_wp2
 go_ret
 exact ⟨_,rfl,L'⟩
set_option maxHeartbeats 2000000 in
theorem part_b5 (zs:List Int) (k:Nat) (K V:Int) (E1:Hid (zs.getD k 0=K)) (E2:Hid (zs.getD (k+1) 0=V)) (z0:0≤K) (z1:K≤255) (y0:0≤V) (y1:V≤255) (c0:K % 16=11):PartFn zs k [opW 21 (V % 4) 0 (V / 16 % 4)] (k+2):=by
 intro w W r a n c v xs h hx
 obtain ⟨av,cv,rfl⟩:=og_shape h.o
 go_enter Tryz.func266,Tryz.ntmps266
 go_wp2_with fail
 refine (h.d.next K E1).mono ?_
 rintro e w1 ⟨rfl,d1,t1⟩
 have o1:=h.o.turn t1 (fun j hj=>by have:=h.d.lt;omega)
 clear h t1
 go_wp2_with fail
 refine (d1.next V E2).mono ?_
 rintro e w2 ⟨rfl,d2,t2⟩
 have L:=Dl.mk d2 (o1.turn t2 (fun j hj=>by have:=d1.lt;omega))
 clear d1 o1 t2 d2 E1 E2
 rw [Nat.add_assoc] at L
 go_wp2_with fail
 refine (l4Op_is _ _ _ _ _ (21) (V % 4) (0) (V / 16 % 4) (by first | rfl | omega) (by first | rfl | omega) (by first | rfl | omega) (by first | rfl | omega) (by omega)).mono ?_
 rintro e u0 ⟨rfl,hb0⟩
 replace L:=L.below hb0
 clear hb0
 have HL:=hide (L.below ((Below.refl _ _).alloc (Nat.le_refl _) (.cells (([opW 21 (V % 4) 0 (V / 16 % 4)]:List Int).flatMap clI).toArray 3)))
 have HN:=hide (newsL u0 u0.heap.size [opW 21 (V % 4) 0 (V / 16 % 4)] _ rfl rfl)
 clear L
 go_wp2_with (at_builtin;refine list_dl HL.out rfl _ _ rfl rfl ⟨u0.heap.size,0,none⟩ 1 1 rfl rfl HN.out (by omega) ?_;intro v' w' L')
 go_wp2
 go_ret
 exact ⟨_,rfl,L'⟩
set_option maxHeartbeats 2000000 in
theorem part_b6 (zs:List Int) (k:Nat) (K V:Int) (E1:Hid (zs.getD k 0=K)) (E2:Hid (zs.getD (k+1) 0=V)) (z0:0≤K) (z1:K≤255) (y0:0≤V) (y1:V≤255) (c0:K % 16=12):PartFn zs k [opW 16 1 7 (0),opW 14 0 1 (V % 8),opW 17 0 2 (0)] (k+2):=by
 intro w W r a n c v xs h hx
 obtain ⟨av,cv,rfl⟩:=og_shape h.o
 go_enter Tryz.func266,Tryz.ntmps266
 go_wp2_with fail
 refine (h.d.next K E1).mono ?_
 rintro e w1 ⟨rfl,d1,t1⟩
 have o1:=h.o.turn t1 (fun j hj=>by have:=h.d.lt;omega)
 clear h t1
 go_wp2_with fail
 refine (d1.next V E2).mono ?_
 rintro e w2 ⟨rfl,d2,t2⟩
 have L:=Dl.mk d2 (o1.turn t2 (fun j hj=>by have:=d1.lt;omega))
 clear d1 o1 t2 d2 E1 E2
 rw [Nat.add_assoc] at L
 go_wp2_with fail
 refine (l4Op_is _ _ _ _ _ (16) (1) (7) (0) (by first | rfl | omega) (by first | rfl | omega) (by first | rfl | omega) (by first | rfl | omega) (by omega)).mono ?_
 rintro e u0 ⟨rfl,hb0⟩
 replace L:=L.below hb0
 clear hb0
 go_wp2_with fail
 refine (l4Op_is _ _ _ _ _ (14) (0) (1) (V % 8) (by first | rfl | omega) (by first | rfl | omega) (by first | rfl | omega) (by first | rfl | omega) (by omega)).mono ?_
 rintro e u1 ⟨rfl,hb1⟩
 replace L:=L.below hb1
 clear hb1
 go_wp2_with fail
 refine (l4Op_is _ _ _ _ _ (17) (0) (2) (0) (by first | rfl | omega) (by first | rfl | omega) (by first | rfl | omega) (by first | rfl | omega) (by omega)).mono ?_
 rintro e u2 ⟨rfl,hb2⟩
 replace L:=L.below hb2
 clear hb2
 have HL:=hide (L.below ((Below.refl _ _).alloc (Nat.le_refl _) (.cells (([opW 16 1 7 (0),opW 14 0 1 (V % 8),opW 17 0 2 (0)]:List Int).flatMap clI).toArray 3)))
 have HN:=hide (newsL u2 u2.heap.size [opW 16 1 7 (0),opW 14 0 1 (V % 8),opW 17 0 2 (0)] _ rfl rfl)
 clear L
 go_wp2_with (at_builtin;refine list_dl HL.out rfl _ _ rfl rfl ⟨u2.heap.size,0,none⟩ 3 3 rfl rfl HN.out (by omega) ?_;intro v' w' L')
 go_wp2
 go_ret
 exact ⟨_,rfl,L'⟩
set_option maxHeartbeats 2000000 in
theorem part_b7 (zs:List Int) (k:Nat) (K V:Int) (E1:Hid (zs.getD k 0=K)) (E2:Hid (zs.getD (k+1) 0=V)) (z0:0≤K) (z1:K≤255) (y0:0≤V) (y1:V≤255) (c0:K % 16=13) (c1:200<V):PartFn zs k [opW 19 0 7 (V * 8)] (k+2):=by
 intro w W r a n c v xs h hx
 obtain ⟨av,cv,rfl⟩:=og_shape h.o
 go_enter Tryz.func266,Tryz.ntmps266
 go_wp2_with fail
 refine (h.d.next K E1).mono ?_
 rintro e w1 ⟨rfl,d1,t1⟩
 have o1:=h.o.turn t1 (fun j hj=>by have:=h.d.lt;omega)
 clear h t1
 go_wp2_with fail
 refine (d1.next V E2).mono ?_
 rintro e w2 ⟨rfl,d2,t2⟩
 have L:=Dl.mk d2 (o1.turn t2 (fun j hj=>by have:=d1.lt;omega))
 clear d1 o1 t2 d2 E1 E2
 rw [Nat.add_assoc] at L
 go_wp2_with fail
 refine (l4Op_is _ _ _ _ _ (19) (0) (7) (V * 8) (by first | rfl | omega) (by first | rfl | omega) (by first | rfl | omega) (by first | rfl | omega) (by omega)).mono ?_
 rintro e u0 ⟨rfl,hb0⟩
 replace L:=L.below hb0
 clear hb0
 have HL:=hide (L.below ((Below.refl _ _).alloc (Nat.le_refl _) (.cells (([opW 19 0 7 (V * 8)]:List Int).flatMap clI).toArray 3)))
 have HN:=hide (newsL u0 u0.heap.size [opW 19 0 7 (V * 8)] _ rfl rfl)
 clear L
 go_wp2_with (at_builtin;refine list_dl HL.out rfl _ _ rfl rfl ⟨u0.heap.size,0,none⟩ 1 1 rfl rfl HN.out (by omega) ?_;intro v' w' L')
 go_wp2
 go_ret
 exact ⟨_,rfl,L'⟩
set_option maxHeartbeats 2000000 in
theorem part_b8 (zs:List Int) (k:Nat) (K V:Int) (E1:Hid (zs.getD k 0=K)) (E2:Hid (zs.getD (k+1) 0=V)) (z0:0≤K) (z1:K≤255) (y0:0≤V) (y1:V≤255) (c0:K % 16=14):PartFn zs k [opW 14 3 6 (V % 8 - 8),opW 17 3 2 (0),opW 20 0 0 (V / 32 % 3)] (k+2):=by
 intro w W r a n c v xs h hx
 obtain ⟨av,cv,rfl⟩:=og_shape h.o
 go_enter Tryz.func266,Tryz.ntmps266
 go_wp2_with fail
 refine (h.d.next K E1).mono ?_
 rintro e w1 ⟨rfl,d1,t1⟩
 have o1:=h.o.turn t1 (fun j hj=>by have:=h.d.lt;omega)
 clear h t1
 go_wp2_with fail
 refine (d1.next V E2).mono ?_
 rintro e w2 ⟨rfl,d2,t2⟩
 have L:=Dl.mk d2 (o1.turn t2 (fun j hj=>by have:=d1.lt;omega))
 clear d1 o1 t2 d2 E1 E2
 rw [Nat.add_assoc] at L
 go_wp2_with fail
 refine (l4Op_is _ _ _ _ _ (14) (3) (6) (V % 8 - 8) (by first | rfl | omega) (by first | rfl | omega) (by first | rfl | omega) (by first | rfl | omega) (by omega)).mono ?_
 rintro e u0 ⟨rfl,hb0⟩
 replace L:=L.below hb0
 clear hb0
 go_wp2_with fail
 refine (l4Op_is _ _ _ _ _ (17) (3) (2) (0) (by first | rfl | omega) (by first | rfl | omega) (by first | rfl | omega) (by first | rfl | omega) (by omega)).mono ?_
 rintro e u1 ⟨rfl,hb1⟩
 replace L:=L.below hb1
 clear hb1
 go_wp2_with fail
 refine (l4Op_is _ _ _ _ _ (20) (0) (0) (V / 32 % 3) (by first | rfl | omega) (by first | rfl | omega) (by first | rfl | omega) (by first | rfl | omega) (by omega)).mono ?_
 rintro e u2 ⟨rfl,hb2⟩
 replace L:=L.below hb2
 clear hb2
 have HL:=hide (L.below ((Below.refl _ _).alloc (Nat.le_refl _) (.cells (([opW 14 3 6 (V % 8 - 8),opW 17 3 2 (0),opW 20 0 0 (V / 32 % 3)]:List Int).flatMap clI).toArray 3)))
 have HN:=hide (newsL u2 u2.heap.size [opW 14 3 6 (V % 8 - 8),opW 17 3 2 (0),opW 20 0 0 (V / 32 % 3)] _ rfl rfl)
 clear L
 go_wp2_with (at_builtin;refine list_dl HL.out rfl _ _ rfl rfl ⟨u2.heap.size,0,none⟩ 3 3 rfl rfl HN.out (by omega) ?_;intro v' w' L')
 go_wp2
 go_ret
 exact ⟨_,rfl,L'⟩
set_option maxHeartbeats 2000000 in
theorem part_b9 (zs:List Int) (k:Nat) (K V:Int) (E1:Hid (zs.getD k 0=K)) (E2:Hid (zs.getD (k+1) 0=V)) (z0:0≤K) (z1:K≤255) (y0:0≤V) (y1:V≤255) (c0:(K % 16=13∧¬ 200<V)∨K % 16=15) (x:Int) (k':Nat) (R:RndD zs (k+2) x k'):PartFn zs k [x] k':=by
 intro w W r a n c v xs h hx
 obtain ⟨av,cv,rfl⟩:=og_shape h.o
 go_enter Tryz.func266,Tryz.ntmps266
 go_wp2_with fail
 refine (h.d.next K E1).mono ?_
 rintro e w1 ⟨rfl,d1,t1⟩
 have o1:=h.o.turn t1 (fun j hj=>by have:=h.d.lt;omega)
 clear h t1
 go_wp2_with fail
 refine (d1.next V E2).mono ?_
 rintro e w2 ⟨rfl,d2,t2⟩
 have L:=Dl.mk d2 (o1.turn t2 (fun j hj=>by have:=d1.lt;omega))
 clear d1 o1 t2 d2 E1 E2
 rw [Nat.add_assoc] at L
 have HR:=hide (R _ _ _ _ _ _ L.d)
 clear R
 rcases c0 with ⟨c0,c1⟩ | c0 <;> go_wp2_with fail
 all_goals
  refine HR.out.mono ?_
  rintro e u0 ⟨rfl,d3,t3⟩
  have L3:=Dl.mk d3 (L.o.turn t3 (fun j hj=>by have:=L.d.lt;omega))
  clear L d3 t3 HR
  have HL:=hide (L3.below ((Below.refl _ _).alloc (Nat.le_refl _) (.cells (([x]:List Int).flatMap clI).toArray 3)))
  have HN:=hide (newsL u0 u0.heap.size [x] _ rfl rfl)
  clear L3
  go_wp2_with (at_builtin;refine list_dl HL.out rfl _ _ rfl rfl ⟨u0.heap.size,0,none⟩ 1 1 rfl rfl HN.out (by omega) ?_;intro v' w' L')
  go_wp2
  go_ret
  exact ⟨_,rfl,L'⟩
theorem l4Part_fn (zs:List Int) (hz:∀ j,0≤zs.getD j 0∧zs.getD j 0≤255) (k:Nat):∃ y:List Int × Nat,(y.1.length≤6∧∀ z ∈ y.1,0≤z∧z≤4294967295)∧PartFn zs k y.1 y.2:=by
 obtain ⟨K,E1,z0,z1⟩:=draw_of hz k
 obtain ⟨V,E2,y0,y1⟩:=draw_of hz (k+1)
 have hw:∀ {l:List Int},l.length≤6→(∀ z ∈ l,∃ o d x i,z=opW o d x i)→l.length≤6∧∀ z ∈ l,0≤z∧z≤4294967295:=fun h1 h2=>⟨h1,fun z hz=>by obtain ⟨o,d,x,i,rfl⟩:=h2 z hz;exact opW_rng o d x i⟩
 have hj:K % 16<3∨(¬ K % 16<3∧K % 16<7)∨(¬ K % 16<7∧K % 16<9)∨K % 16=9∨K % 16=10∨K % 16=11∨K % 16=12∨(K % 16=13∧200<V)∨K % 16=14∨((K % 16=13∧¬ 200<V)∨K % 16=15):=by omega
 rcases hj with c0 | ⟨c0,c1⟩ | ⟨c0,c1⟩ | c0 | c0 | c0 | c0 | ⟨c0,c1⟩ | c0 | c0
 ·exact ⟨(_,k+2),hw (by simp) (by intro z hz;simp at hz;rcases hz with rfl | rfl <;> exact ⟨_,_,_,_,rfl⟩),part_b0 zs k K V E1 E2 z0 z1 y0 y1 c0⟩
 ·exact ⟨(_,k+2),hw (by simp) (by intro z hz;simp at hz;subst hz <;> exact ⟨_,_,_,_,rfl⟩),part_b1 zs k K V E1 E2 z0 z1 y0 y1 c0 c1⟩
 ·exact ⟨(_,k+2),hw (by simp) (by intro z hz;simp at hz;rcases hz with rfl | rfl | rfl | rfl <;> exact ⟨_,_,_,_,rfl⟩),part_b2 zs k K V E1 E2 z0 z1 y0 y1 c0 c1⟩
 ·exact ⟨(_,k+2),hw (by simp) (by intro z hz;simp at hz;rcases hz with rfl | rfl | rfl | rfl | rfl | rfl <;> exact ⟨_,_,_,_,rfl⟩),part_b3 zs k K V E1 E2 z0 z1 y0 y1 c0⟩
 ·exact ⟨(_,k+2),hw (by simp) (by intro z hz;simp at hz;subst hz <;> exact ⟨_,_,_,_,rfl⟩),part_b4 zs k K V E1 E2 z0 z1 y0 y1 c0⟩
 ·exact ⟨(_,k+2),hw (by simp) (by intro z hz;simp at hz;subst hz <;> exact ⟨_,_,_,_,rfl⟩),part_b5 zs k K V E1 E2 z0 z1 y0 y1 c0⟩
 ·exact ⟨(_,k+2),hw (by simp) (by intro z hz;simp at hz;rcases hz with rfl | rfl | rfl <;> exact ⟨_,_,_,_,rfl⟩),part_b6 zs k K V E1 E2 z0 z1 y0 y1 c0⟩
 ·exact ⟨(_,k+2),hw (by simp) (by intro z hz;simp at hz;subst hz <;> exact ⟨_,_,_,_,rfl⟩),part_b7 zs k K V E1 E2 z0 z1 y0 y1 c0 c1⟩
 ·exact ⟨(_,k+2),hw (by simp) (by intro z hz;simp at hz;rcases hz with rfl | rfl | rfl <;> exact ⟨_,_,_,_,rfl⟩),part_b8 zs k K V E1 E2 z0 z1 y0 y1 c0⟩
 ·obtain ⟨x,k',hx,R⟩:=rnd_fn zs (k+2) hz
  exact ⟨([x],k'),⟨by simp,fun z hz=>by simp at hz;subst hz;exact hx⟩,part_b9 zs k K V E1 E2 z0 z1 y0 y1 c0 x k' R⟩
end Go.Proofs.YtngdgogjlpjjpadGreat
