import Derived.Test.YtngdgogjlpjjpadGreatP13
import Derived.Test.YtngdgogjlpjjpadGreatP31
import Derived.Test.YtngdgogjlpjjpadGreatP37
namespace Go.Proofs.YtngdgogjlpjjpadGreat
open Go.RowKit
set_option linter.unusedVariables false
set_option linter.unusedSimpArgs false
set_option maxRecDepth 100000
def PartFn (zs:List Int) (k:Nat) (ys:List Int) (k':Nat):Prop:=∀ (w W:World) (r:Nat) (a:Option Addr) (n c:Nat) (v:Value) (xs:List Int) (h:Dl w W r a n c zs k v xs) (hx:xs.length≤100),Calls Tryz.prog 266 #[.pointer (some ⟨r,0,none⟩),v] W fun e w'=>∃ v',e=.returned v'∧Dl w w' r a n c zs k' v' (xs++ys)
theorem newsL (W:World) (g:Nat) (l:List Int) (cs:Array Value) (hcs:cs=(l.flatMap clI).toArray) (hg:g=W.heap.size):∀ j u,(l.flatMap clI)[j]?=some u→(W.alloc (.cells cs 3)).cell? ((⟨g,0,none⟩:Addr).add j)=some u:=by
 subst hg
 exact cells_new W cs 3 _ hcs
set_option maxHeartbeats 2000000 in
theorem part_b0 (zs:List Int) (k:Nat) (K V:Int) (E1:Hid (zs.getD k 0=K)) (E2:Hid (zs.getD (k+1) 0=V)) (z0:0≤K) (z1:K≤255) (y0:0≤V) (y1:V≤255) (c0:K % 16<3):PartFn zs k [opW 2 0 0 (V),opW 17 0 2 (0)] (k+2):=by
 intro w W r a n c v xs h hx
 obtain ⟨av,cv,rfl⟩:=og_shape h.o
 go_enter Tryz.func266,Tryz.ntmps266
 go_wp2_with fail
 refine (h.d.next K E1).mono ?_
 rintro e w1 ⟨rfl,d1,t1⟩
 have o1:=h.o.turn t1 (fun j hj=>by have:=h.d.lt;omega)
 clear h t1
 go_wp2_with fail
 refine (d1.next V E2).mono ?_
 rintro e w2 ⟨rfl,d2,t2⟩
 have L:=Dl.mk d2 (o1.turn t2 (fun j hj=>by have:=d1.lt;omega))
 clear d1 o1 t2 d2 E1 E2
 rw [Nat.add_assoc] at L
 go_wp2_with fail
 refine (l4Op_is _ _ _ _ _ (2) (0) (0) (V) (by first | rfl | omega) (by first | rfl | omega) (by first | rfl | omega) (by first | rfl | omega) (by omega)).mono ?_
 rintro e u0 ⟨rfl,hb0⟩
 replace L:=L.below hb0
 clear hb0
 go_wp2_with fail
 refine (l4Op_is _ _ _ _ _ (17) (0) (2) (0) (by first | rfl | omega) (by first | rfl | omega) (by first | rfl | omega) (by first | rfl | omega) (by omega)).mono ?_
 rintro e u1 ⟨rfl,hb1⟩
 replace L:=L.below hb1
 clear hb1
 have HL:=hide (L.below ((Below.refl _ _).alloc (Nat.le_refl _) (.cells (([opW 2 0 0 (V),opW 17 0 2 (0)]:List Int).flatMap clI).toArray 3)))
 have HN:=hide (newsL u1 u1.heap.size [opW 2 0 0 (V),opW 17 0 2 (0)] _ rfl rfl)
 clear L
 go_wp2_with (at_builtin;refine list_dl HL.out rfl _ _ rfl rfl ⟨u1.heap.size,0,none⟩ 2 2 rfl rfl HN.out (by omega) ?_;intro v' w' L')
 go_wp2
 go_ret
 exact ⟨_,rfl,L'⟩
set_option maxHeartbeats 2000000 in
theorem part_b1 (zs:List Int) (k:Nat) (K V:Int) (E1:Hid (zs.getD k 0=K)) (E2:Hid (zs.getD (k+1) 0=V)) (z0:0≤K) (z1:K≤255) (y0:0≤V) (y1:V≤255) (c0:¬ K % 16<3) (c1:K % 16<7):PartFn zs k [opW 24 0 0 (V % 3)] (k+2):=by
 intro w W r a n c v xs h hx
 obtain ⟨av,cv,rfl⟩:=og_shape h.o
 go_enter Tryz.func266,Tryz.ntmps266
 go_wp2_with fail
 refine (h.d.next K E1).mono ?_
 rintro e w1 ⟨rfl,d1,t1⟩
 have o1:=h.o.turn t1 (fun j hj=>by have:=h.d.lt;omega)
 clear h t1
 go_wp2_with fail
 refine (d1.next V E2).mono ?_
 rintro e w2 ⟨rfl,d2,t2⟩
 have L:=Dl.mk d2 (o1.turn t2 (fun j hj=>by have:=d1.lt;omega))
 clear d1 o1 t2 d2 E1 E2
 rw [Nat.add_assoc] at L
 go_wp2_with fail
 refine (l4Op_is _ _ _ _ _ (24) (0) (0) (V % 3) (by first | rfl | omega) (by first | rfl | omega) (by first | rfl | omega) (by first | rfl | omega) (by omega)).mono ?_
 rintro e u0 ⟨rfl,hb0⟩
 replace L:=L.below hb0
 clear hb0
 have HL:=hide (L.below ((Below.refl _ _).alloc (Nat.le_refl _) (.cells (([opW 24 0 0 (V % 3)]:List Int).flatMap clI).toArray 3)))
 have HN:=hide (newsL u0 u0.heap.size [opW 24 0 0 (V % 3)] _ rfl rfl)
 clear L
 go_wp2_with (at_builtin;refine list_dl HL.out rfl _ _ rfl rfl ⟨u0.heap.size,0,none⟩ 1 1 rfl rfl HN.out (by omega) ?_;intro v' w' L')
 go_wp2
 go_ret
 exact ⟨_,rfl,L'⟩
set_option maxHeartbeats 2000000 in
theorem part_b2 (zs:List Int) (k:Nat) (K V:Int) (E1:Hid (zs.getD k 0=K)) (E2:Hid (zs.getD (k+1) 0=V)) (z0:0≤K) (z1:K≤255) (y0:0≤V) (y1:V≤255) (c0:¬ K % 16<7) (c1:K % 16<9):PartFn zs k [opW 16 1 7 (V % 4 * 4),opW 6 1 1 (V / 16),opW 19 1 7 (V % 4 * 4),opW 17 1 2 (0)] (k+2):=by
 intro w W r a n c v xs h hx
 obtain ⟨av,cv,rfl⟩:=og_shape h.o
 go_enter Tryz.func266,Tryz.ntmps266
 go_wp2_with fail
 refine (h.d.next K E1).mono ?_
 rintro e w1 ⟨rfl,d1,t1⟩
 have o1:=h.o.turn t1 (fun j hj=>by have:=h.d.lt;omega)
 clear h t1
 go_wp2_with fail
 refine (d1.next V E2).mono ?_
 rintro e w2 ⟨rfl,d2,t2⟩
 have L:=Dl.mk d2 (o1.turn t2 (fun j hj=>by have:=d1.lt;omega))
 clear d1 o1 t2 d2 E1 E2
 rw [Nat.add_assoc] at L
 go_wp2_with fail
 refine (l4Op_is _ _ _ _ _ (16) (1) (7) (V % 4 * 4) (by first | rfl | omega) (by first | rfl | omega) (by first | rfl | omega) (by first | rfl | omega) (by omega)).mono ?_
 rintro e u0 ⟨rfl,hb0⟩
 replace L:=L.below hb0
 clear hb0
 go_wp2_with fail
 refine (l4Op_is _ _ _ _ _ (6) (1) (1) (V / 16) (by first | rfl | omega) (by first | rfl | omega) (by first | rfl | omega) (by first | rfl | omega) (by omega)).mono ?_
 rintro e u1 ⟨rfl,hb1⟩
 replace L:=L.below hb1
 clear hb1
 go_wp2_with fail
 refine (l4Op_is _ _ _ _ _ (19) (1) (7) (V % 4 * 4) (by first | rfl | omega) (by first | rfl | omega) (by first | rfl | omega) (by first | rfl | omega) (by omega)).mono ?_
 rintro e u2 ⟨rfl,hb2⟩
 replace L:=L.below hb2
 clear hb2
 go_wp2_with fail
 refine (l4Op_is _ _ _ _ _ (17) (1) (2) (0) (by first | rfl | omega) (by first | rfl | omega) (by first | rfl | omega) (by first | rfl | omega) (by omega)).mono ?_
 rintro e u3 ⟨rfl,hb3⟩
 replace L:=L.below hb3
 clear hb3
 have HL:=hide (L.below ((Below.refl _ _).alloc (Nat.le_refl _) (.cells (([opW 16 1 7 (V % 4 * 4),opW 6 1 1 (V / 16),opW 19 1 7 (V % 4 * 4),opW 17 1 2 (0)]:List Int).flatMap clI).toArray 3)))
 have HN:=hide (newsL u3 u3.heap.size [opW 16 1 7 (V % 4 * 4),opW 6 1 1 (V / 16),opW 19 1 7 (V % 4 * 4),opW 17 1 2 (0)] _ rfl rfl)
 clear L
 go_wp2_with (at_builtin;refine list_dl HL.out rfl _ _ rfl rfl ⟨u3.heap.size,0,none⟩ 4 4 rfl rfl HN.out (by omega) ?_;intro v' w' L')
 go_wp2
 go_ret
 exact ⟨_,rfl,L'⟩
set_option maxHeartbeats 2000000 in
theorem part_b3 (zs:List Int) (k:Nat) (K V:Int) (E1:Hid (zs.getD k 0=K)) (E2:Hid (zs.getD (k+1) 0=V)) (z0:0≤K) (z1:K≤255) (y0:0≤V) (y1:V≤255) (c0:K % 16=9):PartFn zs k [opW 6 6 6 (-4),opW 19 0 6 (0),opW 2 0 0 (V),opW 16 3 6 (0),opW 6 6 6 (4),opW 17 3 2 (0)] (k+2):=by
 intro w W r a n c v xs h hx
 obtain ⟨av,cv,rfl⟩:=og_shape h.o
 go_enter Tryz.func266,Tryz.ntmps266
 go_wp2_with fail
 refine (h.d.next K E1).mono ?_
 rintro e w1 ⟨rfl,d1,t1⟩
 have o1:=h.o.turn t1 (fun j hj=>by have:=h.d.lt;omega)
 clear h t1
 go_wp2_with fail
 refine (d1.next V E2).mono ?_
 rintro e w2 ⟨rfl,d2,t2⟩
 have L:=Dl.mk d2 (o1.turn t2 (fun j hj=>by have:=d1.lt;omega))
 clear d1 o1 t2 d2 E1 E2
 rw [Nat.add_assoc] at L
 go_wp2_with fail
 refine (l4Op_is _ _ _ _ _ (6) (6) (6) (-4) (by first | rfl | omega) (by first | rfl | omega) (by first | rfl | omega) (by first | rfl | omega) (by omega)).mono ?_
 rintro e u0 ⟨rfl,hb0⟩
 replace L:=L.below hb0
 clear hb0
 go_wp2_with fail
 refine (l4Op_is _ _ _ _ _ (19) (0) (6) (0) (by first | rfl | omega) (by first | rfl | omega) (by first | rfl | omega) (by first | rfl | omega) (by omega)).mono ?_
 rintro e u1 ⟨rfl,hb1⟩
 replace L:=L.below hb1
 clear hb1
 go_wp2_with fail
 refine (l4Op_is _ _ _ _ _ (2) (0) (0) (V) (by first | rfl | omega) (by first | rfl | omega) (by first | rfl | omega) (by first | rfl | omega) (by omega)).mono ?_
 rintro e u2 ⟨rfl,hb2⟩
 replace L:=L.below hb2
 clear hb2
 go_wp2_with fail
 refine (l4Op_is _ _ _ _ _ (16) (3) (6) (0) (by first | rfl | omega) (by first | rfl | omega) (by first | rfl | omega) (by first | rfl | omega) (by omega)).mono ?_
 rintro e u3 ⟨rfl,hb3⟩
 replace L:=L.below hb3
 clear hb3
 go_wp2_with fail
 refine (l4Op_is _ _ _ _ _ (6) (6) (6) (4) (by first | rfl | omega) (by first | rfl | omega) (by first | rfl | omega) (by first | rfl | omega) (by omega)).mono ?_
 rintro e u4 ⟨rfl,hb4⟩
 replace L:=L.below hb4
 clear hb4
 go_wp2_with fail
 refine (l4Op_is _ _ _ _ _ (17) (3) (2) (0) (by first | rfl | omega) (by first | rfl | omega) (by first | rfl | omega) (by first | rfl | omega) (by omega)).mono ?_
 rintro e u5 ⟨rfl,hb5⟩
 replace L:=L.below hb5
 clear hb5
 have HL:=hide (L.below ((Below.refl _ _).alloc (Nat.le_refl _) (.cells (([opW 6 6 6 (-4),opW 19 0 6 (0),opW 2 0 0 (V),opW 16 3 6 (0),opW 6 6 6 (4),opW 17 3 2 (0)]:List Int).flatMap clI).toArray 3)))
 have HN:=hide (newsL u5 u5.heap.size [opW 6 6 6 (-4),opW 19 0 6 (0),opW 2 0 0 (V),opW 16 3 6 (0),opW 6 6 6 (4),opW 17 3 2 (0)] _ rfl rfl)
 clear L
 go_wp2_with (at_builtin;refine list_dl HL.out rfl _ _ rfl rfl ⟨u5.heap.size,0,none⟩ 6 6 rfl rfl HN.out (by omega) ?_;intro v' w' L')
 go_wp2
 go_ret
 exact ⟨_,rfl,L'⟩
set_option maxHeartbeats 2000000 in
theorem part_b4 (zs:List Int) (k:Nat) (K V:Int) (E1:Hid (zs.getD k 0=K)) (E2:Hid (zs.getD (k+1) 0=V)) (z0:0≤K) (z1:K≤255) (y0:0≤V) (y1:V≤255) (c0:K % 16=10):PartFn zs k [opW 23 0 0 (V % 9 - 2)] (k+2):=by
 intro w W r a n c v xs h hx
 obtain ⟨av,cv,rfl⟩:=og_shape h.o
 go_enter Tryz.func266,Tryz.ntmps266
 go_wp2_with fail
 refine (h.d.next K E1).mono ?_
 rintro e w1 ⟨rfl,d1,t1⟩
 have o1:=h.o.turn t1 (fun j hj=>by have:=h.d.lt;omega)
 clear h t1
 go_wp2_with fail
 refine (d1.next V E2).mono ?_
 rintro e w2 ⟨rfl,d2,t2⟩
 have L:=Dl.mk d2 (o1.turn t2 (fun j hj=>by have:=d1.lt;omega))
 clear d1 o1 t2 d2 E1 E2
 rw [Nat.add_assoc] at L
 go_wp2_with fail
 refine (l4Op_is _ _ _ _ _ (23) (0) (0) (V % 9 - 2) (by first | rfl | omega) (by first | rfl | omega) (by first | rfl | omega) (by first | rfl | omega) (by omega)).mono ?_
 rintro e u0 ⟨rfl,hb0⟩
 replace L:=L.below hb0
 clear hb0
 have HL:=hide (L.below ((Below.refl _ _).alloc (Nat.le_refl _) (.cells (([opW 23 0 0 (V % 9 - 2)]:List Int).flatMap clI).toArray 3)))
 have HN:=hide (newsL u0 u0.heap.size [opW 23 0 0 (V % 9 - 2)] _ rfl rfl)
 clear L
 go_wp2_with (at_builtin;refine list_dl HL.out rfl _ _ rfl rfl ⟨u0.heap.size,0,none⟩ 1 1 rfl rfl HN.out (by omega) ?_;intro v' w' L')
 go_wp2
 go_ret
 exact ⟨_,rfl,L'⟩
set_option maxHeartbeats 2000000 in
theorem part_b5 (zs:List Int) (k:Nat) (K V:Int) (E1:Hid (zs.getD k 0=K)) (E2:Hid (zs.getD (k+1) 0=V)) (z0:0≤K) (z1:K≤255) (y0:0≤V) (y1:V≤255) (c0:K % 16=11):PartFn zs k [opW 21 (V % 4) 0 (V / 16 % 4)] (k+2):=by
 intro w W r a n c v xs h hx
 obtain ⟨av,cv,rfl⟩:=og_shape h.o
 go_enter Tryz.func266,Tryz.ntmps266
 go_wp2_with fail
 refine (h.d.next K E1).mono ?_
 rintro e w1 ⟨rfl,d1,t1⟩
 have o1:=h.o.turn t1 (fun j hj=>by have:=h.d.lt;omega)
 clear h t1
 go_wp2_with fail
 refine (d1.next V E2).mono ?_
 rintro e w2 ⟨rfl,d2,t2⟩
 have L:=Dl.mk d2 (o1.turn t2 (fun j hj=>by have:=d1.lt;omega))
 clear d1 o1 t2 d2 E1 E2
 rw [Nat.add_assoc] at L
 go_wp2_with fail
 refine (l4Op_is _ _ _ _ _ (21) (V % 4) (0) (V / 16 % 4) (by first | rfl | omega) (by first | rfl | omega) (by first | rfl | omega) (by first | rfl | omega) (by omega)).mono ?_
 rintro e u0 ⟨rfl,hb0⟩
 replace L:=L.below hb0
 clear hb0
 have HL:=hide (L.below ((Below.refl _ _).alloc (Nat.le_refl _) (.cells (([opW 21 (V % 4) 0 (V / 16 % 4)]:List Int).flatMap clI).toArray 3)))
 have HN:=hide (newsL u0 u0.heap.size [opW 21 (V % 4) 0 (V / 16 % 4)] _ rfl rfl)
 clear L
 go_wp2_with (at_builtin;refine list_dl HL.out rfl _ _ rfl rfl ⟨u0.heap.size,0,none⟩ 1 1 rfl rfl HN.out (by omega) ?_;intro v' w' L')
 go_wp2
 go_ret
 exact ⟨_,rfl,L'⟩
set_option maxHeartbeats 2000000 in
theorem part_b6 (zs:List Int) (k:Nat) (K V:Int) (E1:Hid (zs.getD k 0=K)) (E2:Hid (zs.getD (k+1) 0=V)) (z0:0≤K) (z1:K≤255) (y0:0≤V) (y1:V≤255) (c0:K % 16=12):PartFn zs k [opW 16 1 7 (0),opW 14 0 1 (V % 8),opW 17 0 2 (0)] (k+2):=by
 intro w W r a n c v xs h hx
 obtain ⟨av,cv,rfl⟩:=og_shape h.o
 go_enter Tryz.func266,Tryz.ntmps266
 go_wp2_with fail
 refine (h.d.next K E1).mono ?_
 rintro e w1 ⟨rfl,d1,t1⟩
 have o1:=h.o.turn t1 (fun j hj=>by have:=h.d.lt;omega)
 clear h t1
 go_wp2_with fail
 refine (d1.next V E2).mono ?_
 rintro e w2 ⟨rfl,d2,t2⟩
 have L:=Dl.mk d2 (o1.turn t2 (fun j hj=>by have:=d1.lt;omega))
 clear d1 o1 t2 d2 E1 E2
 rw [Nat.add_assoc] at L
 go_wp2_with fail
 refine (l4Op_is _ _ _ _ _ (16) (1) (7) (0) (by first | rfl | omega) (by first | rfl | omega) (by first | rfl | omega) (by first | rfl | omega) (by omega)).mono ?_
 rintro e u0 ⟨rfl,hb0⟩
 replace L:=L.below hb0
 clear hb0
 go_wp2_with fail
 refine (l4Op_is _ _ _ _ _ (14) (0) (1) (V % 8) (by first | rfl | omega) (by first | rfl | omega) (by first | rfl | omega) (by first | rfl | omega) (by omega)).mono ?_
 rintro e u1 ⟨rfl,hb1⟩
 replace L:=L.below hb1
 clear hb1
 go_wp2_with fail
 refine (l4Op_is _ _ _ _ _ (17) (0) (2) (0) (by first | rfl | omega) (by first | rfl | omega) (by first | rfl | omega) (by first | rfl | omega) (by omega)).mono ?_
 rintro e u2 ⟨rfl,hb2⟩
 replace L:=L.below hb2
 clear hb2
 have HL:=hide (L.below ((Below.refl _ _).alloc (Nat.le_refl _) (.cells (([opW 16 1 7 (0),opW 14 0 1 (V % 8),opW 17 0 2 (0)]:List Int).flatMap clI).toArray 3)))
 have HN:=hide (newsL u2 u2.heap.size [opW 16 1 7 (0),opW 14 0 1 (V % 8),opW 17 0 2 (0)] _ rfl rfl)
 clear L
 go_wp2_with (at_builtin;refine list_dl HL.out rfl _ _ rfl rfl ⟨u2.heap.size,0,none⟩ 3 3 rfl rfl HN.out (by omega) ?_;intro v' w' L')
 go_wp2
 go_ret
 exact ⟨_,rfl,L'⟩
set_option maxHeartbeats 2000000 in
theorem part_b7 (zs:List Int) (k:Nat) (K V:Int) (E1:Hid (zs.getD k 0=K)) (E2:Hid (zs.getD (k+1) 0=V)) (z0:0≤K) (z1:K≤255) (y0:0≤V) (y1:V≤255) (c0:K % 16=13) (c1:200<V):PartFn zs k [opW 19 0 7 (V * 8)] (k+2):=by
 intro w W r a n c v xs h hx
 obtain ⟨av,cv,rfl⟩:=og_shape h.o
 go_enter Tryz.func266,Tryz.ntmps266
 go_wp2_with fail
 refine (h.d.next K E1).mono ?_
 rintro e w1 ⟨rfl,d1,t1⟩
 have o1:=h.o.turn t1 (fun j hj=>by have:=h.d.lt;omega)
 clear h t1
 go_wp2_with fail
 refine (d1.next V E2).mono ?_
 rintro e w2 ⟨rfl,d2,t2⟩
 have L:=Dl.mk d2 (o1.turn t2 (fun j hj=>by have:=d1.lt;omega))
 clear d1 o1 t2 d2 E1 E2
 rw [Nat.add_assoc] at L
 go_wp2_with fail
 refine (l4Op_is _ _ _ _ _ (19) (0) (7) (V * 8) (by first | rfl | omega) (by first | rfl | omega) (by first | rfl | omega) (by first | rfl | omega) (by omega)).mono ?_
 rintro e u0 ⟨rfl,hb0⟩
 replace L:=L.below hb0
 clear hb0
 have HL:=hide (L.below ((Below.refl _ _).alloc (Nat.le_refl _) (.cells (([opW 19 0 7 (V * 8)]:List Int).flatMap clI).toArray 3)))
 have HN:=hide (newsL u0 u0.heap.size [opW 19 0 7 (V * 8)] _ rfl rfl)
 clear L
 go_wp2_with (at_builtin;refine list_dl HL.out rfl _ _ rfl rfl ⟨u0.heap.size,0,none⟩ 1 1 rfl rfl HN.out (by omega) ?_;intro v' w' L')
 go_wp2
 go_ret
 exact ⟨_,rfl,L'⟩
set_option maxHeartbeats 2000000 in
theorem part_b8 (zs:List Int) (k:Nat) (K V:Int) (E1:Hid (zs.getD k 0=K)) (E2:Hid (zs.getD (k+1) 0=V)) (z0:0≤K) (z1:K≤255) (y0:0≤V) (y1:V≤255) (c0:K % 16=14):PartFn zs k [opW 14 3 6 (V % 8 - 8),opW 17 3 2 (0),opW 20 0 0 (V / 32 % 3)] (k+2):=by
 intro w W r a n c v xs h hx
 obtain ⟨av,cv,rfl⟩:=og_shape h.o
 go_enter Tryz.func266,Tryz.ntmps266
 go_wp2_with fail
 refine (h.d.next K E1).mono ?_
 rintro e w1 ⟨rfl,d1,t1⟩
 have o1:=h.o.turn t1 (fun j hj=>by have:=h.d.lt;omega)
 clear h t1
 go_wp2_with fail
 refine (d1.next V E2).mono ?_
 rintro e w2 ⟨rfl,d2,t2⟩
 have L:=Dl.mk d2 (o1.turn t2 (fun j hj=>by have:=d1.lt;omega))
 clear d1 o1 t2 d2 E1 E2
 rw [Nat.add_assoc] at L
 go_wp2_with fail
 refine (l4Op_is _ _ _ _ _ (14) (3) (6) (V % 8 - 8) (by first | rfl | omega) (by first | rfl | omega) (by first | rfl | omega) (by first | rfl | omega) (by omega)).mono ?_
 rintro e u0 ⟨rfl,hb0⟩
 replace L:=L.below hb0
 clear hb0
 go_wp2_with fail
 refine (l4Op_is _ _ _ _ _ (17) (3) (2) (0) (by first | rfl | omega) (by first | rfl | omega) (by first | rfl | omega) (by first | rfl | omega) (by omega)).mono ?_
 rintro e u1 ⟨rfl,hb1⟩
 replace L:=L.below hb1
 clear hb1
 go_wp2_with fail
 refine (l4Op_is _ _ _ _ _ (20) (0) (0) (V / 32 % 3) (by first | rfl | omega) (by first | rfl | omega) (by first | rfl | omega) (by first | rfl | omega) (by omega)).mono ?_
 rintro e u2 ⟨rfl,hb2⟩
 replace L:=L.below hb2
 clear hb2
 have HL:=hide (L.below ((Below.refl _ _).alloc (Nat.le_refl _) (.cells (([opW 14 3 6 (V % 8 - 8),opW 17 3 2 (0),opW 20 0 0 (V / 32 % 3)]:List Int).flatMap clI).toArray 3)))
 have HN:=hide (newsL u2 u2.heap.size [opW 14 3 6 (V % 8 - 8),opW 17 3 2 (0),opW 20 0 0 (V / 32 % 3)] _ rfl rfl)
 clear L
 go_wp2_with (at_builtin;refine list_dl HL.out rfl _ _ rfl rfl ⟨u2.heap.size,0,none⟩ 3 3 rfl rfl HN.out (by omega) ?_;intro v' w' L')
 go_wp2
 go_ret
 exact ⟨_,rfl,L'⟩
set_option maxHeartbeats 2000000 in
theorem part_b9 (zs:List Int) (k:Nat) (K V:Int) (E1:Hid (zs.getD k 0=K)) (E2:Hid (zs.getD (k+1) 0=V)) (z0:0≤K) (z1:K≤255) (y0:0≤V) (y1:V≤255) (c0:(K % 16=13∧¬ 200<V)∨K % 16=15) (x:Int) (k':Nat) (R:RndD zs (k+2) x k'):PartFn zs k [x] k':=by
 intro w W r a n c v xs h hx
 obtain ⟨av,cv,rfl⟩:=og_shape h.o
 go_enter Tryz.func266,Tryz.ntmps266
 go_wp2_with fail
 refine (h.d.next K E1).mono ?_
 rintro e w1 ⟨rfl,d1,t1⟩
 have o1:=h.o.turn t1 (fun j hj=>by have:=h.d.lt;omega)
 clear h t1
 go_wp2_with fail
 refine (d1.next V E2).mono ?_
 rintro e w2 ⟨rfl,d2,t2⟩
 have L:=Dl.mk d2 (o1.turn t2 (fun j hj=>by have:=d1.lt;omega))
 clear d1 o1 t2 d2 E1 E2
 rw [Nat.add_assoc] at L
 have HR:=hide (R _ _ _ _ _ _ L.d)
 clear R
 rcases c0 with ⟨c0,c1⟩ | c0 <;> go_wp2_with fail
 all_goals
  refine HR.out.mono ?_
  rintro e u0 ⟨rfl,d3,t3⟩
  have L3:=Dl.mk d3 (L.o.turn t3 (fun j hj=>by have:=L.d.lt;omega))
  clear L d3 t3 HR
  have HL:=hide (L3.below ((Below.refl _ _).alloc (Nat.le_refl _) (.cells (([x]:List Int).flatMap clI).toArray 3)))
  have HN:=hide (newsL u0 u0.heap.size [x] _ rfl rfl)
  clear L3
  go_wp2_with (at_builtin;refine list_dl HL.out rfl _ _ rfl rfl ⟨u0.heap.size,0,none⟩ 1 1 rfl rfl HN.out (by omega) ?_;intro v' w' L')
  go_wp2
  go_ret
  exact ⟨_,rfl,L'⟩
theorem l4Part_fn (zs:List Int) (hz:∀ j,0≤zs.getD j 0∧zs.getD j 0≤255) (k:Nat):∃ y:List Int × Nat,(y.1.length≤6∧∀ z ∈ y.1,0≤z∧z≤4294967295)∧PartFn zs k y.1 y.2:=by
 obtain ⟨K,E1,z0,z1⟩:=draw_of hz k
 obtain ⟨V,E2,y0,y1⟩:=draw_of hz (k+1)
 have hw:∀ {l:List Int},l.length≤6→(∀ z ∈ l,∃ o d x i,z=opW o d x i)→l.length≤6∧∀ z ∈ l,0≤z∧z≤4294967295:=fun h1 h2=>⟨h1,fun z hz=>by obtain ⟨o,d,x,i,rfl⟩:=h2 z hz;exact opW_rng o d x i⟩
 have hj:K % 16<3∨(¬ K % 16<3∧K % 16<7)∨(¬ K % 16<7∧K % 16<9)∨K % 16=9∨K % 16=10∨K % 16=11∨K % 16=12∨(K % 16=13∧200<V)∨K % 16=14∨((K % 16=13∧¬ 200<V)∨K % 16=15):=by omega
 rcases hj with c0 | ⟨c0,c1⟩ | ⟨c0,c1⟩ | c0 | c0 | c0 | c0 | ⟨c0,c1⟩ | c0 | c0
 ·exact ⟨(_,k+2),hw (by simp) (by intro z hz;simp at hz;rcases hz with rfl | rfl <;> exact ⟨_,_,_,_,rfl⟩),part_b0 zs k K V E1 E2 z0 z1 y0 y1 c0⟩
 ·exact ⟨(_,k+2),hw (by simp) (by intro z hz;simp at hz;subst hz <;> exact ⟨_,_,_,_,rfl⟩),part_b1 zs k K V E1 E2 z0 z1 y0 y1 c0 c1⟩
 ·exact ⟨(_,k+2),hw (by simp) (by intro z hz;simp at hz;rcases hz with rfl | rfl | rfl | rfl <;> exact ⟨_,_,_,_,rfl⟩),part_b2 zs k K V E1 E2 z0 z1 y0 y1 c0 c1⟩
 ·exact ⟨(_,k+2),hw (by simp) (by intro z hz;simp at hz;rcases hz with rfl | rfl | rfl | rfl | rfl | rfl <;> exact ⟨_,_,_,_,rfl⟩),part_b3 zs k K V E1 E2 z0 z1 y0 y1 c0⟩
 ·exact ⟨(_,k+2),hw (by simp) (by intro z hz;simp at hz;subst hz <;> exact ⟨_,_,_,_,rfl⟩),part_b4 zs k K V E1 E2 z0 z1 y0 y1 c0⟩
 ·exact ⟨(_,k+2),hw (by simp) (by intro z hz;simp at hz;subst hz <;> exact ⟨_,_,_,_,rfl⟩),part_b5 zs k K V E1 E2 z0 z1 y0 y1 c0⟩
 ·exact ⟨(_,k+2),hw (by simp) (by intro z hz;simp at hz;rcases hz with rfl | rfl | rfl <;> exact ⟨_,_,_,_,rfl⟩),part_b6 zs k K V E1 E2 z0 z1 y0 y1 c0⟩
 ·exact ⟨(_,k+2),hw (by simp) (by intro z hz;simp at hz;subst hz <;> exact ⟨_,_,_,_,rfl⟩),part_b7 zs k K V E1 E2 z0 z1 y0 y1 c0 c1⟩
 ·exact ⟨(_,k+2),hw (by simp) (by intro z hz;simp at hz;rcases hz with rfl | rfl | rfl <;> exact ⟨_,_,_,_,rfl⟩),part_b8 zs k K V E1 E2 z0 z1 y0 y1 c0⟩
 ·obtain ⟨x,k',hx,R⟩:=rnd_fn zs (k+2) hz
  exact ⟨([x],k'),⟨by simp,fun z hz=>by simp at hz;subst hz;exact hx⟩,part_b9 zs k K V E1 E2 z0 z1 y0 y1 c0 x k' R⟩
theorem og_mk {α:Type} (t:TypeId) (sz:Nat) (f:α→List Value) (W:World) (base:Nat) (hb:base≤W.heap.size) (xs:List α) (cs:Array Value) (hcs:cs=(xs.flatMap f).toArray) (hl:(xs.flatMap f).length=xs.length * sz) (hm:xs.length≤maxLen):OG t sz f (W.alloc (.cells cs t)) base (.slice (some ⟨W.heap.size,0,none⟩) xs.length xs.length) xs:=by
 subst hcs
 exact ⟨hl,.inr ⟨W.heap.size,xs.length,_,rfl,hb,heap_alloc_new W _,Nat.le_refl _,hm,by rw [List.size_toArray];exact hl,by rw [← hl];exact List.take_length⟩⟩
theorem ne_kind {W:World} {base base' n n' sz sz':Nat} {t t':TypeId} {v v':Value} {xs xs':List Value} (h:W.ownsRow base t sz v n xs) (h':W.ownsRow base' t' sz' v' n' xs') (hne:t≠t'):v.ownBlock=none∨v.ownBlock≠v'.ownBlock:=by
 cases e:v.ownBlock with
 | none=>exact .inl rfl
 | some j=>
   refine .inr (fun e'=>?_)
   obtain ⟨c1,k1⟩:=own_kind h e
   obtain ⟨c2,k2⟩:=own_kind h' e'.symm
   exact hne (blk_kind k1 k2)
theorem ne_some {v v':Value} (h:∀ k,v.ownBlock=some k→v'.ownBlock≠some k):v'.ownBlock=none∨v'.ownBlock≠v.ownBlock:=by
 cases e:v'.ownBlock with
 | none=>exact .inl rfl
 | some j=>exact .inr (fun e'=>h j e'.symm e)
theorem ne_some' {v v':Value} (h:∀ k,v.ownBlock=some k→v'.ownBlock≠some k):v.ownBlock=none∨v.ownBlock≠v'.ownBlock:=by
 cases e:v.ownBlock with
 | none=>exact .inl rfl
 | some j=>exact .inr (fun e'=>h j e e'.symm)
theorem OBk.grown {W W':World} {base:Nat} {v:Value} {bl:List Bk} {row:Option Nat} (h:OBk W base v bl) (hg:W.grownBy W' row) (h1:v.ownBlock=none∨v.ownBlock≠row) (h2:∀ B ∈ bl,(Value.slice B.1 B.2.1 B.2.2.1).ownBlock=none∨(Value.slice B.1 B.2.1 B.2.2.1).ownBlock≠row):OBk W' base v bl:=
 ⟨World.ownsRow.kept h.head hg h1,fun B hB=>⟨(h.rows B hB).1,(h.rows B hB).2.grown hg (h2 B hB)⟩,h.apart⟩
theorem OB.grown' {W W':World} {base:Nat} {v:Value} {zs:List Int} {row:Option Nat} (h:OB W base v zs) (hg:W.grownBy W' row) (hk:v.ownBlock=none∨v.ownBlock≠row):OB W' base v zs:=⟨World.ownsRow.kept h.1 hg hk,h.2⟩
structure Ma where
 a1:Option Addr
 c1:Nat
 a2:Option Addr
 c2:Nat
 bl:List Bk
 a3:Option Addr
 c3:Nat
 a5:Option Addr
 c5:Nat
 a6:Option Addr
 c6:Nat
 a7:Option Addr
 c7:Nat
abbrev MO (W:World) (base:Nat) (P:PMod) (M:Ma):Prop:=ModO W base P M.a1 M.c1 M.a2 M.c2 M.bl M.a3 M.c3 M.a5 M.c5 M.a6 M.c6 M.a7 M.c7
theorem MO.grow_r {W W':World} {base g m c:Nat} {P:PMod} {M:Ma} {X:List Int} (h:MO W base P M) (hm:X.length=m) (O:OG 3 1 clI W' base (.slice (some ⟨g,0,none⟩) (P.rz.length+m) c) (P.rz++X)) (hg:W.grownBy W' (Value.slice M.a5 P.rz.length M.c5).ownBlock) (hat:(Value.slice M.a5 P.rz.length M.c5).ownBlock=some g∨g=W.heap.size):
 MO W' base { P with rz:=P.rz++X } { M with a5:=some ⟨g,0,none⟩,c5:=c } where
 t:=h.t.grown hg (ne_some' h.tr)
 b:=h.b.grown hg (ne_kind h.b.head h.r (by decide)) (fun B hB=>ne_some (fun k hk=>h.br k hk B hB))
 bls:=h.bls
 d:=h.d.grown' hg (ne_kind h.d.1 h.r (by decide))
 r:=by rw [List.length_append,hm];exact O
 i:=h.i.grown hg (ne_kind h.i h.r (by decide))
 e:=h.e.grown hg (ne_kind h.e h.r (by decide))
 tb:=h.tb
 tr:=fun k hk e=>by
  have e':some g=some k:=e
  injection e' with e'
  subst e'
  rcases hat with e2 | e2
  ·exact h.tr _ hk e2
  ·have:=(h.t.lt _ hk).2;omega
 br:=fun k hk B hB e=>by
  have e':some g=some k:=hk
  injection e' with e'
  subst e'
  rcases hat with e2 | e2
  ·exact h.br _ e2 B hB e
  ·have:=((h.b.rows B hB).2.lt _ e).2;omega
theorem MO.grow_t {W W':World} {base g m c:Nat} {P:PMod} {M:Ma} {X:List Int} (h:MO W base P M) (hm:X.length=m) (O:OG 3 1 clI W' base (.slice (some ⟨g,0,none⟩) (P.tz.length+m) c) (P.tz++X)) (hg:W.grownBy W' (Value.slice M.a1 P.tz.length M.c1).ownBlock) (hat:(Value.slice M.a1 P.tz.length M.c1).ownBlock=some g∨g=W.heap.size):
 MO W' base { P with tz:=P.tz++X } { M with a1:=some ⟨g,0,none⟩,c1:=c } where
 t:=by rw [List.length_append,hm];exact O
 b:=h.b.grown hg (ne_kind h.b.head h.t (by decide)) (fun B hB=>ne_some (fun k hk=>h.tb k hk B hB))
 bls:=h.bls
 d:=h.d.grown' hg (ne_kind h.d.1 h.t (by decide))
 r:=h.r.grown hg (ne_some h.tr)
 i:=h.i.grown hg (ne_kind h.i h.t (by decide))
 e:=h.e.grown hg (ne_kind h.e h.t (by decide))
 tb:=fun k hk B hB e=>by
  have e':some g=some k:=hk
  injection e' with e'
  subst e'
  rcases hat with e2 | e2
  ·exact h.tb _ e2 B hB e
  ·have:=((h.b.rows B hB).2.lt _ e).2;omega
 tr:=fun k hk e=>by
  have e':some g=some k:=hk
  injection e' with e'
  subst e'
  rcases hat with e2 | e2
  ·exact h.tr _ e2 e
  ·have:=(h.r.lt _ e).2;omega
 br:=h.br
theorem MO.grow_i {W W':World} {base g m c:Nat} {P:PMod} {M:Ma} {X:List ByteArray} (h:MO W base P M) (hm:X.length=m) (O:OG 9 1 clT W' base (.slice (some ⟨g,0,none⟩) (P.ss.length+m) c) (P.ss++X)) (hg:W.grownBy W' (Value.slice M.a6 P.ss.length M.c6).ownBlock):
 MO W' base { P with ss:=P.ss++X } { M with a6:=some ⟨g,0,none⟩,c6:=c } where
 t:=h.t.grown hg (ne_kind h.t h.i (by decide))
 b:=h.b.grown hg (ne_kind h.b.head h.i (by decide)) (fun B hB=>ne_kind (h.b.rows B hB).2 h.i (by decide))
 bls:=h.bls
 d:=h.d.grown' hg (ne_kind h.d.1 h.i (by decide))
 r:=h.r.grown hg (ne_kind h.r h.i (by decide))
 i:=by rw [List.length_append,hm];exact O
 e:=h.e.grown hg (ne_kind h.e h.i (by decide))
 tb:=h.tb
 tr:=h.tr
 br:=h.br
theorem MO.grow_e {W W':World} {base g m c:Nat} {P:PMod} {M:Ma} {X:List Ex} (h:MO W base P M) (hm:X.length=m) (O:OG 210 3 clX W' base (.slice (some ⟨g,0,none⟩) (P.es.length+m) c) (P.es++X)) (hg:W.grownBy W' (Value.slice M.a7 P.es.length M.c7).ownBlock):
 MO W' base { P with es:=P.es++X } { M with a7:=some ⟨g,0,none⟩,c7:=c } where
 t:=h.t.grown hg (ne_kind h.t h.e (by decide))
 b:=h.b.grown hg (ne_kind h.b.head h.e (by decide)) (fun B hB=>ne_kind (h.b.rows B hB).2 h.e (by decide))
 bls:=h.bls
 d:=h.d.grown' hg (ne_kind h.d.1 h.e (by decide))
 r:=h.r.grown hg (ne_kind h.r h.e (by decide))
 i:=h.i.grown hg (ne_kind h.i h.e (by decide))
 e:=by rw [List.length_append,hm];exact O
 tb:=h.tb
 tr:=h.tr
 br:=h.br
theorem MO.grow_d {W W':World} {base g m c:Nat} {P:PMod} {M:Ma} {X:List Int} (h:MO W base P M) (hm:X.length=m) (O:OB W' base (.slice (some ⟨g,0,none⟩) (P.dz.length+m) c) (P.dz++X)) (hg:W.grownBy W' (Value.slice M.a3 P.dz.length M.c3).ownBlock):
 MO W' base { P with dz:=P.dz++X } { M with a3:=some ⟨g,0,none⟩,c3:=c } where
 t:=h.t.grown hg (ne_kind h.t h.d.1 (by decide))
 b:=h.b.grown hg (ne_kind h.b.head h.d.1 (by decide)) (fun B hB=>ne_kind (h.b.rows B hB).2 h.d.1 (by decide))
 bls:=h.bls
 d:=by rw [List.length_append,hm];exact O
 r:=h.r.grown hg (ne_kind h.r h.d.1 (by decide))
 i:=h.i.grown hg (ne_kind h.i h.d.1 (by decide))
 e:=h.e.grown hg (ne_kind h.e h.d.1 (by decide))
 tb:=h.tb
 tr:=h.tr
 br:=h.br
theorem MO.grow_b {W W':World} {base g c lo:Nat} {P:PMod} {M:Ma} {A:Option Addr} {C:Nat} {x:List Int} {v':Value} (h:MO W base P M) (hx:OG 3 1 clI W lo (.slice A x.length C) x) (hb:base≤lo) (hlo:∀ B ∈ M.bl,∀ j,(Value.slice B.1 B.2.1 B.2.2.1).ownBlock=some j→j<lo) (ht:∀ j,(Value.slice M.a1 P.tz.length M.c1).ownBlock=some j→j<lo) (hr:∀ j,(Value.slice M.a5 P.rz.length M.c5).ownBlock=some j→j<lo)
 (hown:W'.ownsRow base 29 1 (.slice (some ⟨g,0,none⟩) (M.bl.length+1) c) (M.bl.length+1) (M.bl.map (fun B=>Value.slice B.1 B.2.1 B.2.2.1)++[.slice A x.length C])) (hg:W.grownBy W' (Value.slice M.a2 M.bl.length M.c2).ownBlock):
 MO W' base { P with bl:=P.bl++[x] } { M with a2:=some ⟨g,0,none⟩,c2:=c,bl:=M.bl++[(A,x.length,C,x)] } where
 t:=h.t.grown hg (ne_kind h.t h.b.head (by decide))
 b:=by
  have:=h.b.push (lo:=lo) rfl hx hb hlo hown hg
  show OBk W' base (.slice (some ⟨g,0,none⟩) (M.bl++[((A,x.length,C,x):Bk)]).length c) (M.bl++[(A,x.length,C,x)])
  rw [List.length_append]
  exact this
 bls:=by
  show (M.bl++[((A,x.length,C,x):Bk)]).map (fun B=>B.2.2.2)=P.bl++[x]
  rw [List.map_append,h.bls]
  rfl
 d:=h.d.grown' hg (ne_kind h.d.1 h.b.head (by decide))
 r:=h.r.grown hg (ne_kind h.r h.b.head (by decide))
 i:=h.i.grown hg (ne_kind h.i h.b.head (by decide))
 e:=h.e.grown hg (ne_kind h.e h.b.head (by decide))
 tb:=fun k hk B hB e=>by
  rcases List.mem_append.1 hB with hB | hB
  ·exact h.tb k hk B hB e
  ·simp at hB
   subst hB
   have:=(hx.lt _ e).1
   have:=ht _ hk
   omega
 tr:=h.tr
 br:=fun k hk B hB e=>by
  rcases List.mem_append.1 hB with hB | hB
  ·exact h.br k hk B hB e
  ·simp at hB
   subst hB
   have:=(hx.lt _ e).1
   have:=hr _ hk
   omega
theorem MO.kept {S:Nat→Prop} {W W':World} {base:Nat} {P:PMod} {M:Ma} (h:MO W base P M) (ht:Turn S W W') (hS:∀ k,S k→k<base∨∃ cs,Blk W k cs 49):MO W' base P M:=by
 have key:∀ {t:TypeId} {sz n:Nat} {v:Value} {xs:List Value},W.ownsRow base t sz v n xs→t≠49→∀ k,v.ownBlock=some k→¬ S k:=fun ho hne k hk s=>by
  rcases hS k s with hs | ⟨cs,hs⟩
  ·have:=(World.ownsRow.lt ho k hk).1;omega
  ·obtain ⟨c1,k1⟩:=own_kind ho hk
   exact hne (blk_kind k1 hs)
 have row:∀ {t:TypeId} {sz n:Nat} {v:Value} {xs:List Value},W.ownsRow base t sz v n xs→t≠49→W'.ownsRow base t sz v n xs:=fun {t} {sz} {n} {v} {xs} ho hne=>by
  have hk:=key ho hne
  obtain ⟨hl,h0 | ⟨g,cap,cur,hv,hg,hh,h1,h2,h3,h4⟩⟩:=ho
  ·exact ⟨hl,.inl h0⟩
  ·exact ⟨hl,.inr ⟨g,cap,cur,hv,hg,turn_blk (w:=W) ht hh (hk g (by rw [hv];rfl)),h1,h2,h3,h4⟩⟩
 exact ⟨row h.t (by decide),⟨row h.b.head (by decide),fun B hB=>⟨(h.b.rows B hB).1,row (h.b.rows B hB).2 (by decide)⟩,h.b.apart⟩,h.bls,⟨row h.d.1 (by decide),h.d.2⟩,row h.r (by decide),row h.i (by decide),row h.e (by decide),h.tb,h.tr,h.br⟩
structure MB (w W:World) (r:Nat) (a:Option Addr) (n c:Nat) (zs:List Int) (k g:Nat) (P:PMod) (M:Ma):Prop where
 d:Dst w W r a n c zs k
 box:Blk W g (modV P M.a1 M.c1 M.a2 M.c2 M.bl M.a3 M.c3 M.a5 M.c5 M.a6 M.c6 M.a7 M.c7) 49
 hg:w.heap.size≤g
 o:MO W w.heap.size P M
 ds:∃ db,M.a3=some ⟨db,0,none⟩
theorem Dst.below' {w W W':World} {r:Nat} {a:Option Addr} {n c:Nat} {zs:List Int} {k:Nat} (h:Dst w W r a n c zs k) (hb:Below W.heap.size W W'):Dst w W' r a n c zs k:=h.below hb
theorem MB.turn {w W W':World} {r:Nat} {a:Option Addr} {n c:Nat} {zs:List Int} {k k' g:Nat} {P:PMod} {M:Ma} (h:MB w W r a n c zs k g P M) (ht:Turn (fun j=>j=r) W W') (d:Dst w W' r a n c zs k'):MB w W' r a n c zs k' g P M:=
 ⟨d,turn_blk ht h.box (by have:=h.hg;have:=h.d.lt;omega),h.hg,h.o.kept ht (fun j hj=>.inl (by subst hj;exact h.d.lt)),h.ds⟩
theorem MB.below {w W W':World} {r:Nat} {a:Option Addr} {n c:Nat} {zs:List Int} {k g:Nat} {P:PMod} {M:Ma} (h:MB w W r a n c zs k g P M) (hb:Below W.heap.size W W'):MB w W' r a n c zs k g P M:=
 ⟨h.d.below hb,h.box.below hb,h.hg,h.o.kept (S:=fun _=>False) (turn_below hb) (fun j hj=>absurd hj id),h.ds⟩
theorem MB.next {w W:World} {r:Nat} {a:Option Addr} {n c:Nat} {zs:List Int} {k g:Nat} {P:PMod} {M:Ma} (h:MB w W r a n c zs k g P M) (x:Int) (hx:Hid (zs.getD k 0=x)):
 Calls Tryz.prog 51 #[.pointer (some ⟨r,0,none⟩)] W fun e w'=>e=.returned (.int .i64 x)∧MB w w' r a n c zs (k+1) g P M:=
 (h.d.next x hx).mono fun e w' ⟨he,hd,ht⟩=>⟨he,h.turn ht hd⟩
theorem box_grown {W W':World} {g n sz base:Nat} {t:TypeId} {v:Value} {xs:List Value} {cs:Array Value} (hb:Blk W g cs 49) (ho:W.ownsRow base t sz v n xs) (hg:W.grownBy W' v.ownBlock) (hne:t≠49):Blk W' g cs 49:=
 grown_blk hg hb (fun e=>by
  obtain ⟨c1,k1⟩:=own_kind ho e.symm
  exact hne (blk_kind k1 hb))
theorem MB.put {w W:World} {r:Nat} {a:Option Addr} {n c:Nat} {zs:List Int} {k g i:Nat} {v:Value} {cs:Array Value} {P:PMod} {M:Ma} (d:Dst w W r a n c zs k) (hg:w.heap.size≤g) (box:Blk W g cs 49) (o:MO W w.heap.size P M) (ds:∃ db,M.a3=some ⟨db,0,none⟩) (e:cs.setIfInBounds i v=modV P M.a1 M.c1 M.a2 M.c2 M.bl M.a3 M.c3 M.a5 M.c5 M.a6 M.c6 M.a7 M.c7):MB w (W.setCell ⟨g,i,none⟩ v) r a n c zs k g P M:=
 ⟨d.set hg i v,by rw [← e];exact box.set i v,hg,o.kept (turn_set W g i v) (fun j hj=>.inr (by subst hj;exact ⟨_,box⟩)),ds⟩
theorem wd_wfi {x:Int} (h:Wd x):wfi x:=by unfold Wd at h;unfold wfi;omega
theorem ModO.md {W:World} {base:Nat} {P:PMod} {a1:Option Addr} {c1:Nat} {a2:Option Addr} {c2:Nat} {bl:List Bk} {a3:Option Addr} {c3:Nat} {a5:Option Addr} {c5:Nat} {a6:Option Addr} {c6:Nat} {a7:Option Addr} {c7:Nat} (h:ModO W base P a1 c1 a2 c2 bl a3 c3 a5 c5 a6 c6 a7 c7) (R:PmR P):
 MD W P.nm a1 P.tz.length c1 P.tz a2 bl.length c2 bl a3 P.dz.length c3 P.dz P.bss a5 P.rz.length c5 P.rz a6 P.ss.length c6 P.ss a7 P.es.length c7 P.es where
 n:=by have:=R.n;omega
 t:=og_is h.t (fun z hz=>wd_wfi (R.t.2 z hz))
 b:=obk_bks h.b (fun B hB z hz=>by
  have hm:B.2.2.2 ∈ P.bl:=by rw [← h.bls];exact List.mem_map.2 ⟨B,hB,rfl⟩
  exact wd_wfi ((R.b.2 _ hm).2 z hz))
 d:=h.d.bs
 s:=by have:=R.s;unfold wfi;omega
 r:=og_is h.r (fun z hz=>by have:=R.r.2 z hz;unfold wfi;omega)
 i:=og_ss h.i (fun s hs=>by have:=R.i.2 s hs;omega)
 e:=og_es h.e (fun s hs=>by have:=(R.e.2 s hs).1;omega)
theorem ModO.mdo {W:World} {base:Nat} {P:PMod} {a1:Option Addr} {c1:Nat} {a2:Option Addr} {c2:Nat} {bl:List Bk} {a3:Option Addr} {c3:Nat} {a5:Option Addr} {c5:Nat} {a6:Option Addr} {c6:Nat} {a7:Option Addr} {c7:Nat} (h:ModO W base P a1 c1 a2 c2 bl a3 c3 a5 c5 a6 c6 a7 c7):
 mdo P.nm P.tz.length P.tz bl.length bl P.dz.length P.bss P.rz.length P.rz P.ss.length P.ss P.es.length P.es=mdoP P:=by
 have hl:bl.length=P.bl.length:=by rw [← h.bls,List.length_map]
 unfold mdoP
 rw [← hl]
 refine mdo_bks (by rw [hl];simp [bkOf]) (fun i hi=>?_)
 have hm:bl.getD i zB ∈ bl:=by simp [List.getD_eq_getElem?_getD,hi]
 have e:(bkOf P.bl).getD i zB=(none,(bl.getD i zB).2.2.2.length,(bl.getD i zB).2.2.2.length,(bl.getD i zB).2.2.2):=by
  rw [← h.bls]
  simp [bkOf,List.getD_eq_getElem?_getD,hi]
 rw [e]
 exact ⟨(h.b.rows _ hm).1,rfl⟩
end Go.Proofs.YtngdgogjlpjjpadGreat
