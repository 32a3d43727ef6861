import Derived.Test.YtcimaholejajpaaGreatF18
set_option linter.all false
set_option maxHeartbeats 4000000
namespace Go.Proofs.YtcimaholejajpaaGreat
open Go.RowKit
open Go.Proofs.Tryz
set_option maxRecDepth 100000
variable {M:Ma}{P:PMod}{W W' w w4:World}{a:Option Addr}{c c4 g g4 k k' m n q r sz:Nat}{v:Value}{x:Int}{xs:List Value}{zs:List Int}
def fU (zs:qi)(k:Nat)(ys:qi)(k':Nat):Prop:=∀ (w W:qw) (r:Nat) (a:qO) (n c:Nat) (v:Value) (xs:qi) (h:Dl w W r a n c zs k v xs) (hx:xs.length<=100),qC 151 #[.pointer (qP r),v] W fun e w'=>∃ v',e=.returned v'/\Dl w w' r a n c zs k' v' (xs++ys)
theorem jA (W:qw)(g:Nat)(l:qi)(cs:Array Value)(hcs:cs=(l.flatMap clI).toArray)(hg:g=W.heap.size):∀ j u,(l.flatMap clI)[j]?=some u->(W.alloc (.cells cs 3)).cell? (((qR g 0):Addr).add j)=some u:=by
 subst hg;exact aN W cs 3 _ hcs
theorem aJl (zs:qi)(k:Nat)(K V:Int)(E1:Hid (zs.getD k 0=K))(E2:Hid (zs.getD (k+1) 0=V))(z0:0<=K)(z1:K<=255)(y0:0<=V)(y1:V<=255)(c0:K%16<3):fU zs k [opW 2 0 0 (V),opW 17 0 2 (0)] (k+2):=by
 intro w W r a n c v xs h hx;obtain ⟨av,cv,rfl⟩:=aO h.o;go_enter func151,ntmps151
 go_wp2_with fail
 refine (h.d.next K E1).mono ?_;rintro e w1 ⟨rfl,d1,t1⟩;have o1:=h.o.turn t1 (fun j hj=>by have:=h.d.lt;omega);clear h t1;go_wp2_with fail
 refine (d1.next V E2).mono ?_;rintro e w2 ⟨rfl,d2,t2⟩;have L:=Dl.mk d2 (o1.turn t2 (fun j hj=>by have:=d1.lt;omega));clear d1 o1 t2 d2 E1 E2;rw [Nat.add_assoc] at L;go_wp2_with fail
 refine (bD _ _ _ _ _ (2) (0) (0) (V) (by first|rfl|omega) (by first|rfl|omega) (by first|rfl|omega) (by first|rfl|omega) (by omega)).mono ?_;rintro e u0 ⟨rfl,hb0⟩;replace L:=L.bw hb0;clear hb0;go_wp2_with fail
 refine (bD _ _ _ _ _ (17) (0) (2) (0) (by first|rfl|omega) (by first|rfl|omega) (by first|rfl|omega) (by first|rfl|omega) (by omega)).mono ?_;rintro e u1 ⟨rfl,hb1⟩;replace L:=L.bw hb1;clear hb1;have HL:=zh (L.bw (brf.alloc aL (.cells (([opW 2 0 0 (V),opW 17 0 2 (0)]:qi).flatMap clI).toArray 3)));have HN:=zh (jA u1 u1.heap.size [opW 2 0 0 (V),opW 17 0 2 (0)] _ rfl rfl);clear L;go_wp2_with (at_builtin;refine dD HL.o rfl _ _ rfl rfl (qR u1.heap.size 0) 2 2 rfl rfl HN.o (by omega) ?_;intro v' w' L')
 go_wp2;go_ret;exact ⟨_,rfl,L'⟩
theorem aJk (zs:qi)(k:Nat)(K V:Int)(E1:Hid (zs.getD k 0=K))(E2:Hid (zs.getD (k+1) 0=V))(z0:0<=K)(z1:K<=255)(y0:0<=V)(y1:V<=255)(c0:¬ K%16<3)(c1:K%16<7):fU zs k [opW 24 0 0 (V%3)] (k+2):=by
 intro w W r a n c v xs h hx;obtain ⟨av,cv,rfl⟩:=aO h.o;go_enter func151,ntmps151
 go_wp2_with fail
 refine (h.d.next K E1).mono ?_;rintro e w1 ⟨rfl,d1,t1⟩;have o1:=h.o.turn t1 (fun j hj=>by have:=h.d.lt;omega);clear h t1;go_wp2_with fail
 refine (d1.next V E2).mono ?_;rintro e w2 ⟨rfl,d2,t2⟩;have L:=Dl.mk d2 (o1.turn t2 (fun j hj=>by have:=d1.lt;omega));clear d1 o1 t2 d2 E1 E2;rw [Nat.add_assoc] at L;go_wp2_with fail
 refine (bD _ _ _ _ _ (24) (0) (0) (V%3) (by first|rfl|omega) (by first|rfl|omega) (by first|rfl|omega) (by first|rfl|omega) (by omega)).mono ?_;rintro e u0 ⟨rfl,hb0⟩;replace L:=L.bw hb0;clear hb0;have HL:=zh (L.bw (brf.alloc aL (.cells (([opW 24 0 0 (V%3)]:qi).flatMap clI).toArray 3)));have HN:=zh (jA u0 u0.heap.size [opW 24 0 0 (V%3)] _ rfl rfl);clear L;go_wp2_with (at_builtin;refine dD HL.o rfl _ _ rfl rfl (qR u0.heap.size 0) 1 1 rfl rfl HN.o (by omega) ?_;intro v' w' L')
 go_wp2;go_ret;exact ⟨_,rfl,L'⟩
theorem aJj (zs:qi)(k:Nat)(K V:Int)(E1:Hid (zs.getD k 0=K))(E2:Hid (zs.getD (k+1) 0=V))(z0:0<=K)(z1:K<=255)(y0:0<=V)(y1:V<=255)(c0:¬ K%16<7)(c1:K%16<9):fU zs k [opW 16 1 7 (V%4*4),opW 6 1 1 (V/16),opW 19 1 7 (V%4*4),opW 17 1 2 (0)] (k+2):=by
 intro w W r a n c v xs h hx;obtain ⟨av,cv,rfl⟩:=aO h.o;go_enter func151,ntmps151
 go_wp2_with fail
 refine (h.d.next K E1).mono ?_;rintro e w1 ⟨rfl,d1,t1⟩;have o1:=h.o.turn t1 (fun j hj=>by have:=h.d.lt;omega);clear h t1;go_wp2_with fail
 refine (d1.next V E2).mono ?_;rintro e w2 ⟨rfl,d2,t2⟩;have L:=Dl.mk d2 (o1.turn t2 (fun j hj=>by have:=d1.lt;omega));clear d1 o1 t2 d2 E1 E2;rw [Nat.add_assoc] at L;go_wp2_with fail
 refine (bD _ _ _ _ _ (16) (1) (7) (V%4*4) (by first|rfl|omega) (by first|rfl|omega) (by first|rfl|omega) (by first|rfl|omega) (by omega)).mono ?_;rintro e u0 ⟨rfl,hb0⟩;replace L:=L.bw hb0;clear hb0;go_wp2_with fail
 refine (bD _ _ _ _ _ (6) (1) (1) (V/16) (by first|rfl|omega) (by first|rfl|omega) (by first|rfl|omega) (by first|rfl|omega) (by omega)).mono ?_;rintro e u1 ⟨rfl,hb1⟩;replace L:=L.bw hb1;clear hb1;go_wp2_with fail
 refine (bD _ _ _ _ _ (19) (1) (7) (V%4*4) (by first|rfl|omega) (by first|rfl|omega) (by first|rfl|omega) (by first|rfl|omega) (by omega)).mono ?_;rintro e u2 ⟨rfl,hb2⟩;replace L:=L.bw hb2;clear hb2;go_wp2_with fail
 refine (bD _ _ _ _ _ (17) (1) (2) (0) (by first|rfl|omega) (by first|rfl|omega) (by first|rfl|omega) (by first|rfl|omega) (by omega)).mono ?_;rintro e u3 ⟨rfl,hb3⟩;replace L:=L.bw hb3;clear hb3;have HL:=zh (L.bw (brf.alloc aL (.cells (([opW 16 1 7 (V%4*4),opW 6 1 1 (V/16),opW 19 1 7 (V%4*4),opW 17 1 2 (0)]:qi).flatMap clI).toArray 3)));have HN:=zh (jA u3 u3.heap.size [opW 16 1 7 (V%4*4),opW 6 1 1 (V/16),opW 19 1 7 (V%4*4),opW 17 1 2 (0)] _ rfl rfl);clear L;go_wp2_with (at_builtin;refine dD HL.o rfl _ _ rfl rfl (qR u3.heap.size 0) 4 4 rfl rfl HN.o (by omega) ?_;intro v' w' L')
 go_wp2;go_ret;exact ⟨_,rfl,L'⟩
theorem aJi (zs:qi)(k:Nat)(K V:Int)(E1:Hid (zs.getD k 0=K))(E2:Hid (zs.getD (k+1) 0=V))(z0:0<=K)(z1:K<=255)(y0:0<=V)(y1:V<=255)(c0:K%16=9):fU zs k [opW 6 6 6 (-4),opW 19 0 6 (0),opW 2 0 0 (V),opW 16 3 6 (0),opW 6 6 6 (4),opW 17 3 2 (0)] (k+2):=by
 intro w W r a n c v xs h hx;obtain ⟨av,cv,rfl⟩:=aO h.o;go_enter func151,ntmps151
 go_wp2_with fail
 refine (h.d.next K E1).mono ?_;rintro e w1 ⟨rfl,d1,t1⟩;have o1:=h.o.turn t1 (fun j hj=>by have:=h.d.lt;omega);clear h t1;go_wp2_with fail
 refine (d1.next V E2).mono ?_;rintro e w2 ⟨rfl,d2,t2⟩;have L:=Dl.mk d2 (o1.turn t2 (fun j hj=>by have:=d1.lt;omega));clear d1 o1 t2 d2 E1 E2;rw [Nat.add_assoc] at L;go_wp2_with fail
 refine (bD _ _ _ _ _ (6) (6) (6) (-4) (by first|rfl|omega) (by first|rfl|omega) (by first|rfl|omega) (by first|rfl|omega) (by omega)).mono ?_;rintro e u0 ⟨rfl,hb0⟩;replace L:=L.bw hb0;clear hb0;go_wp2_with fail
 refine (bD _ _ _ _ _ (19) (0) (6) (0) (by first|rfl|omega) (by first|rfl|omega) (by first|rfl|omega) (by first|rfl|omega) (by omega)).mono ?_;rintro e u1 ⟨rfl,hb1⟩;replace L:=L.bw hb1;clear hb1;go_wp2_with fail
 refine (bD _ _ _ _ _ (2) (0) (0) (V) (by first|rfl|omega) (by first|rfl|omega) (by first|rfl|omega) (by first|rfl|omega) (by omega)).mono ?_;rintro e u2 ⟨rfl,hb2⟩;replace L:=L.bw hb2;clear hb2;go_wp2_with fail
 refine (bD _ _ _ _ _ (16) (3) (6) (0) (by first|rfl|omega) (by first|rfl|omega) (by first|rfl|omega) (by first|rfl|omega) (by omega)).mono ?_;rintro e u3 ⟨rfl,hb3⟩;replace L:=L.bw hb3;clear hb3;go_wp2_with fail
 refine (bD _ _ _ _ _ (6) (6) (6) (4) (by first|rfl|omega) (by first|rfl|omega) (by first|rfl|omega) (by first|rfl|omega) (by omega)).mono ?_;rintro e u4 ⟨rfl,hb4⟩;replace L:=L.bw hb4;clear hb4;go_wp2_with fail
 refine (bD _ _ _ _ _ (17) (3) (2) (0) (by first|rfl|omega) (by first|rfl|omega) (by first|rfl|omega) (by first|rfl|omega) (by omega)).mono ?_;rintro e u5 ⟨rfl,hb5⟩;replace L:=L.bw hb5;clear hb5;have HL:=zh (L.bw (brf.alloc aL (.cells (([opW 6 6 6 (-4),opW 19 0 6 (0),opW 2 0 0 (V),opW 16 3 6 (0),opW 6 6 6 (4),opW 17 3 2 (0)]:qi).flatMap clI).toArray 3)));have HN:=zh (jA u5 u5.heap.size [opW 6 6 6 (-4),opW 19 0 6 (0),opW 2 0 0 (V),opW 16 3 6 (0),opW 6 6 6 (4),opW 17 3 2 (0)] _ rfl rfl);clear L;go_wp2_with (at_builtin;refine dD HL.o rfl _ _ rfl rfl (qR u5.heap.size 0) 6 6 rfl rfl HN.o (by omega) ?_;intro v' w' L')
 go_wp2;go_ret;exact ⟨_,rfl,L'⟩
theorem aJh (zs:qi)(k:Nat)(K V:Int)(E1:Hid (zs.getD k 0=K))(E2:Hid (zs.getD (k+1) 0=V))(z0:0<=K)(z1:K<=255)(y0:0<=V)(y1:V<=255)(c0:K%16=10):fU zs k [opW 23 0 0 (V%9-2)] (k+2):=by
 intro w W r a n c v xs h hx;obtain ⟨av,cv,rfl⟩:=aO h.o;go_enter func151,ntmps151
 go_wp2_with fail
 refine (h.d.next K E1).mono ?_;rintro e w1 ⟨rfl,d1,t1⟩;have o1:=h.o.turn t1 (fun j hj=>by have:=h.d.lt;omega);clear h t1;go_wp2_with fail
 refine (d1.next V E2).mono ?_;rintro e w2 ⟨rfl,d2,t2⟩;have L:=Dl.mk d2 (o1.turn t2 (fun j hj=>by have:=d1.lt;omega));clear d1 o1 t2 d2 E1 E2;rw [Nat.add_assoc] at L;go_wp2_with fail
 refine (bD _ _ _ _ _ (23) (0) (0) (V%9-2) (by first|rfl|omega) (by first|rfl|omega) (by first|rfl|omega) (by first|rfl|omega) (by omega)).mono ?_;rintro e u0 ⟨rfl,hb0⟩;replace L:=L.bw hb0;clear hb0;have HL:=zh (L.bw (brf.alloc aL (.cells (([opW 23 0 0 (V%9-2)]:qi).flatMap clI).toArray 3)));have HN:=zh (jA u0 u0.heap.size [opW 23 0 0 (V%9-2)] _ rfl rfl);clear L;go_wp2_with (at_builtin;refine dD HL.o rfl _ _ rfl rfl (qR u0.heap.size 0) 1 1 rfl rfl HN.o (by omega) ?_;intro v' w' L')
 go_wp2;go_ret;exact ⟨_,rfl,L'⟩
theorem aJg (zs:qi)(k:Nat)(K V:Int)(E1:Hid (zs.getD k 0=K))(E2:Hid (zs.getD (k+1) 0=V))(z0:0<=K)(z1:K<=255)(y0:0<=V)(y1:V<=255)(c0:K%16=11):fU zs k [opW 21 (V%4) 0 (V/16%4)] (k+2):=by
 intro w W r a n c v xs h hx;obtain ⟨av,cv,rfl⟩:=aO h.o;go_enter func151,ntmps151
 go_wp2_with fail
 refine (h.d.next K E1).mono ?_;rintro e w1 ⟨rfl,d1,t1⟩;have o1:=h.o.turn t1 (fun j hj=>by have:=h.d.lt;omega);clear h t1;go_wp2_with fail
 refine (d1.next V E2).mono ?_;rintro e w2 ⟨rfl,d2,t2⟩;have L:=Dl.mk d2 (o1.turn t2 (fun j hj=>by have:=d1.lt;omega));clear d1 o1 t2 d2 E1 E2;rw [Nat.add_assoc] at L;go_wp2_with fail
 refine (bD _ _ _ _ _ (21) (V%4) (0) (V/16%4) (by first|rfl|omega) (by first|rfl|omega) (by first|rfl|omega) (by first|rfl|omega) (by omega)).mono ?_;rintro e u0 ⟨rfl,hb0⟩;replace L:=L.bw hb0;clear hb0;have HL:=zh (L.bw (brf.alloc aL (.cells (([opW 21 (V%4) 0 (V/16%4)]:qi).flatMap clI).toArray 3)));have HN:=zh (jA u0 u0.heap.size [opW 21 (V%4) 0 (V/16%4)] _ rfl rfl);clear L;go_wp2_with (at_builtin;refine dD HL.o rfl _ _ rfl rfl (qR u0.heap.size 0) 1 1 rfl rfl HN.o (by omega) ?_;intro v' w' L')
 go_wp2;go_ret;exact ⟨_,rfl,L'⟩
theorem aJf (zs:qi)(k:Nat)(K V:Int)(E1:Hid (zs.getD k 0=K))(E2:Hid (zs.getD (k+1) 0=V))(z0:0<=K)(z1:K<=255)(y0:0<=V)(y1:V<=255)(c0:K%16=12):fU zs k [opW 16 1 7 (0),opW 14 0 1 (V%8),opW 17 0 2 (0)] (k+2):=by
 intro w W r a n c v xs h hx;obtain ⟨av,cv,rfl⟩:=aO h.o;go_enter func151,ntmps151
 go_wp2_with fail
 refine (h.d.next K E1).mono ?_;rintro e w1 ⟨rfl,d1,t1⟩;have o1:=h.o.turn t1 (fun j hj=>by have:=h.d.lt;omega);clear h t1;go_wp2_with fail
 refine (d1.next V E2).mono ?_;rintro e w2 ⟨rfl,d2,t2⟩;have L:=Dl.mk d2 (o1.turn t2 (fun j hj=>by have:=d1.lt;omega));clear d1 o1 t2 d2 E1 E2;rw [Nat.add_assoc] at L;go_wp2_with fail
 refine (bD _ _ _ _ _ (16) (1) (7) (0) (by first|rfl|omega) (by first|rfl|omega) (by first|rfl|omega) (by first|rfl|omega) (by omega)).mono ?_;rintro e u0 ⟨rfl,hb0⟩;replace L:=L.bw hb0;clear hb0;go_wp2_with fail
 refine (bD _ _ _ _ _ (14) (0) (1) (V%8) (by first|rfl|omega) (by first|rfl|omega) (by first|rfl|omega) (by first|rfl|omega) (by omega)).mono ?_;rintro e u1 ⟨rfl,hb1⟩;replace L:=L.bw hb1;clear hb1;go_wp2_with fail
 refine (bD _ _ _ _ _ (17) (0) (2) (0) (by first|rfl|omega) (by first|rfl|omega) (by first|rfl|omega) (by first|rfl|omega) (by omega)).mono ?_;rintro e u2 ⟨rfl,hb2⟩;replace L:=L.bw hb2;clear hb2;have HL:=zh (L.bw (brf.alloc aL (.cells (([opW 16 1 7 (0),opW 14 0 1 (V%8),opW 17 0 2 (0)]:qi).flatMap clI).toArray 3)));have HN:=zh (jA u2 u2.heap.size [opW 16 1 7 (0),opW 14 0 1 (V%8),opW 17 0 2 (0)] _ rfl rfl);clear L;go_wp2_with (at_builtin;refine dD HL.o rfl _ _ rfl rfl (qR u2.heap.size 0) 3 3 rfl rfl HN.o (by omega) ?_;intro v' w' L')
 go_wp2;go_ret;exact ⟨_,rfl,L'⟩
theorem aJe (zs:qi)(k:Nat)(K V:Int)(E1:Hid (zs.getD k 0=K))(E2:Hid (zs.getD (k+1) 0=V))(z0:0<=K)(z1:K<=255)(y0:0<=V)(y1:V<=255)(c0:K%16=13)(c1:200<V):fU zs k [opW 19 0 7 (V*8)] (k+2):=by
 intro w W r a n c v xs h hx;obtain ⟨av,cv,rfl⟩:=aO h.o;go_enter func151,ntmps151
 go_wp2_with fail
 refine (h.d.next K E1).mono ?_;rintro e w1 ⟨rfl,d1,t1⟩;have o1:=h.o.turn t1 (fun j hj=>by have:=h.d.lt;omega);clear h t1;go_wp2_with fail
 refine (d1.next V E2).mono ?_;rintro e w2 ⟨rfl,d2,t2⟩;have L:=Dl.mk d2 (o1.turn t2 (fun j hj=>by have:=d1.lt;omega));clear d1 o1 t2 d2 E1 E2;rw [Nat.add_assoc] at L;go_wp2_with fail
 refine (bD _ _ _ _ _ (19) (0) (7) (V*8) (by first|rfl|omega) (by first|rfl|omega) (by first|rfl|omega) (by first|rfl|omega) (by omega)).mono ?_;rintro e u0 ⟨rfl,hb0⟩;replace L:=L.bw hb0;clear hb0;have HL:=zh (L.bw (brf.alloc aL (.cells (([opW 19 0 7 (V*8)]:qi).flatMap clI).toArray 3)));have HN:=zh (jA u0 u0.heap.size [opW 19 0 7 (V*8)] _ rfl rfl);clear L;go_wp2_with (at_builtin;refine dD HL.o rfl _ _ rfl rfl (qR u0.heap.size 0) 1 1 rfl rfl HN.o (by omega) ?_;intro v' w' L')
 go_wp2;go_ret;exact ⟨_,rfl,L'⟩
theorem aJd (zs:qi)(k:Nat)(K V:Int)(E1:Hid (zs.getD k 0=K))(E2:Hid (zs.getD (k+1) 0=V))(z0:0<=K)(z1:K<=255)(y0:0<=V)(y1:V<=255)(c0:K%16=14):fU zs k [opW 14 3 6 (V%8-8),opW 17 3 2 (0),opW 20 0 0 (V/32%3)] (k+2):=by
 intro w W r a n c v xs h hx;obtain ⟨av,cv,rfl⟩:=aO h.o;go_enter func151,ntmps151
 go_wp2_with fail
 refine (h.d.next K E1).mono ?_;rintro e w1 ⟨rfl,d1,t1⟩;have o1:=h.o.turn t1 (fun j hj=>by have:=h.d.lt;omega);clear h t1;go_wp2_with fail
 refine (d1.next V E2).mono ?_;rintro e w2 ⟨rfl,d2,t2⟩;have L:=Dl.mk d2 (o1.turn t2 (fun j hj=>by have:=d1.lt;omega));clear d1 o1 t2 d2 E1 E2;rw [Nat.add_assoc] at L;go_wp2_with fail
 refine (bD _ _ _ _ _ (14) (3) (6) (V%8-8) (by first|rfl|omega) (by first|rfl|omega) (by first|rfl|omega) (by first|rfl|omega) (by omega)).mono ?_;rintro e u0 ⟨rfl,hb0⟩;replace L:=L.bw hb0;clear hb0;go_wp2_with fail
 refine (bD _ _ _ _ _ (17) (3) (2) (0) (by first|rfl|omega) (by first|rfl|omega) (by first|rfl|omega) (by first|rfl|omega) (by omega)).mono ?_;rintro e u1 ⟨rfl,hb1⟩;replace L:=L.bw hb1;clear hb1;go_wp2_with fail
 refine (bD _ _ _ _ _ (20) (0) (0) (V/32%3) (by first|rfl|omega) (by first|rfl|omega) (by first|rfl|omega) (by first|rfl|omega) (by omega)).mono ?_;rintro e u2 ⟨rfl,hb2⟩;replace L:=L.bw hb2;clear hb2;have HL:=zh (L.bw (brf.alloc aL (.cells (([opW 14 3 6 (V%8-8),opW 17 3 2 (0),opW 20 0 0 (V/32%3)]:qi).flatMap clI).toArray 3)));have HN:=zh (jA u2 u2.heap.size [opW 14 3 6 (V%8-8),opW 17 3 2 (0),opW 20 0 0 (V/32%3)] _ rfl rfl);clear L;go_wp2_with (at_builtin;refine dD HL.o rfl _ _ rfl rfl (qR u2.heap.size 0) 3 3 rfl rfl HN.o (by omega) ?_;intro v' w' L')
 go_wp2;go_ret;exact ⟨_,rfl,L'⟩
theorem aJc (zs:qi)(k:Nat)(K V:Int)(E1:Hid (zs.getD k 0=K))(E2:Hid (zs.getD (k+1) 0=V))(z0:0<=K)(z1:K<=255)(y0:0<=V)(y1:V<=255)(c0:(K%16=13/\¬ 200<V)\/K%16=15)(x:Int)(k':Nat)(R:aOb zs (k+2) x k'):fU zs k [x] k':=by
 intro w W r a n c v xs h hx;obtain ⟨av,cv,rfl⟩:=aO h.o;go_enter func151,ntmps151
 go_wp2_with fail
 refine (h.d.next K E1).mono ?_;rintro e w1 ⟨rfl,d1,t1⟩;have o1:=h.o.turn t1 (fun j hj=>by have:=h.d.lt;omega);clear h t1;go_wp2_with fail
 refine (d1.next V E2).mono ?_;rintro e w2 ⟨rfl,d2,t2⟩;have L:=Dl.mk d2 (o1.turn t2 (fun j hj=>by have:=d1.lt;omega));clear d1 o1 t2 d2 E1 E2;rw [Nat.add_assoc] at L;have HR:=zh (R _ _ _ _ _ _ L.d);clear R;rcases c0 with ⟨c0,c1⟩|c0<;>go_wp2_with fail
 all_goals
  refine HR.o.mono ?_;rintro e u0 ⟨rfl,d3,t3⟩;have L3:=Dl.mk d3 (L.o.turn t3 (fun j hj=>by have:=L.d.lt;omega));clear L d3 t3 HR;have HL:=zh (L3.bw (brf.alloc aL (.cells (([x]:qi).flatMap clI).toArray 3)));have HN:=zh (jA u0 u0.heap.size [x] _ rfl rfl);clear L3;go_wp2_with (at_builtin;refine dD HL.o rfl _ _ rfl rfl (qR u0.heap.size 0) 1 1 rfl rfl HN.o (by omega) ?_;intro v' w' L')
  go_wp2;go_ret;exact ⟨_,rfl,L'⟩
theorem aFb (zs:qi)(hz:∀ j,0<=zs.getD j 0/\zs.getD j 0<=255)(k:Nat):∃ y:List Int×Nat,(y.1.length<=6/\∀ z∈y.1,0<=z/\z<=4294967295)/\fU zs k y.1 y.2:=by
 obtain ⟨K,E1,z0,z1⟩:=aR hz k;obtain ⟨V,E2,y0,y1⟩:=aR hz (k+1);have hw:∀ {l:qi},l.length<=6->(∀ z∈l,∃ o d x i,z=opW o d x i)->l.length<=6/\∀ z∈l,0<=z/\z<=4294967295:=fun h1 h2=>⟨h1,fun z hz=>by obtain ⟨o,d,x,i,rfl⟩:=h2 z hz;exact oZ o d x i⟩;have hj:K%16<3\/(¬ K%16<3/\K%16<7)\/(¬ K%16<7/\K%16<9)\/K%16=9\/K%16=10\/K%16=11\/K%16=12\/(K%16=13/\200<V)\/K%16=14\/((K%16=13/\¬ 200<V)\/K%16=15):=by omega
 rcases hj with c0|⟨c0,c1⟩|⟨c0,c1⟩|c0|c0|c0|c0|⟨c0,c1⟩|c0|c0
 .exact ⟨(_,k+2),hw (by simp) (by intro z hz;simp at hz;rcases hz with rfl|rfl<;>exact ⟨_,_,_,_,rfl⟩),aJl zs k K V E1 E2 z0 z1 y0 y1 c0⟩
 .exact ⟨(_,k+2),hw (by simp) (by intro z hz;simp at hz;subst hz<;>exact ⟨_,_,_,_,rfl⟩),aJk zs k K V E1 E2 z0 z1 y0 y1 c0 c1⟩
 .exact ⟨(_,k+2),hw (by simp) (by intro z hz;simp at hz;rcases hz with rfl|rfl|rfl|rfl<;>exact ⟨_,_,_,_,rfl⟩),aJj zs k K V E1 E2 z0 z1 y0 y1 c0 c1⟩
 .exact ⟨(_,k+2),hw (by simp) (by intro z hz;simp at hz;rcases hz with rfl|rfl|rfl|rfl|rfl|rfl<;>exact ⟨_,_,_,_,rfl⟩),aJi zs k K V E1 E2 z0 z1 y0 y1 c0⟩
 .exact ⟨(_,k+2),hw (by simp) (by intro z hz;simp at hz;subst hz<;>exact ⟨_,_,_,_,rfl⟩),aJh zs k K V E1 E2 z0 z1 y0 y1 c0⟩
 .exact ⟨(_,k+2),hw (by simp) (by intro z hz;simp at hz;subst hz<;>exact ⟨_,_,_,_,rfl⟩),aJg zs k K V E1 E2 z0 z1 y0 y1 c0⟩
 .exact ⟨(_,k+2),hw (by simp) (by intro z hz;simp at hz;rcases hz with rfl|rfl|rfl<;>exact ⟨_,_,_,_,rfl⟩),aJf zs k K V E1 E2 z0 z1 y0 y1 c0⟩
 .exact ⟨(_,k+2),hw (by simp) (by intro z hz;simp at hz;subst hz<;>exact ⟨_,_,_,_,rfl⟩),aJe zs k K V E1 E2 z0 z1 y0 y1 c0 c1⟩
 .exact ⟨(_,k+2),hw (by simp) (by intro z hz;simp at hz;rcases hz with rfl|rfl|rfl<;>exact ⟨_,_,_,_,rfl⟩),aJd zs k K V E1 E2 z0 z1 y0 y1 c0⟩
 .obtain ⟨x,k',hx,R⟩:=aL5 zs (k+2) hz;exact ⟨([x],k'),⟨by simp,fun z hz=>by simp at hz;subst hz;exact hx⟩,aJc zs k K V E1 E2 z0 z1 y0 y1 c0 x k' R⟩
def sq {α:Type}(F:Nat->List α×Nat)(l:List α)(k:Nat):Nat->List α×Nat
 | 0=>(l,k)
 | i+1=>((sq F l k i).1++(F (sq F l k i).2).1,(F (sq F l k i).2).2)
theorem aF2 {α:Type}{F:Nat->List α×Nat}{m:Nat}(h:∀ k,(F k).1.length<=m)(l:List α)(k:Nat):∀ i,(sq F l k i).1.length<=l.length+i*m
 | 0=>by simp [sq]
 | i+1=>by
   have h1:=aF2 h l k i;have h2:=h (sq F l k i).2;simp only [sq,xI];rw [Nat.add_mul];omega
theorem aBs {α:Type}{F:Nat->List α×Nat}{Q:α->Prop}(h:∀ k,∀ x∈(F k).1,Q x)(l:List α)(hl:∀ x∈l,Q x)(k:Nat):∀ i,∀ x∈(sq F l k i).1,Q x
 | 0=>by simpa [sq] using hl
 | i+1=>by
   intro x hx;simp only [sq,List.mem_append] at hx;rcases hx with hx|hx
   .exact aBs h l hl k i x hx
   .exact h _ x hx
def zN (zs:qi)(k:Nat)(ys:qi)(k':Nat):Prop:=∀ (w:qw) (r:Nat) (a:qO) (n c:Nat) (h:Dst w w r a n c zs k),qC 118 #[.pointer (qP r)] w fun e w'=>∃ v,e=.returned v/\Dl w w' r a n c zs k' v ys
theorem aFc (zs:qi)(hz:∀ j,0<=zs.getD j 0/\zs.getD j 0<=255)(k:Nat):∃ y:List Int×Nat,((1<=y.1.length/\y.1.length<=40)/\∀ z∈y.1,0<=z/\z<=4294967295)/\zN zs k y.1 y.2:=by
 obtain ⟨F,hF⟩:=Classical.axiomOfChoice (aFb zs hz);obtain ⟨K,E1,z0,z1⟩:=aR hz k;have L0:Zh (([opW 2 2 0 0,opW 3 2 0 2]:qi)=[opW 2 2 0 0,opW 3 2 0 2]):=rfl;have hl:=aF2 (fun j=>(hF j).1.1) [opW 2 2 0 0,opW 3 2 0 2] (k+1);have ha:=aBs (fun j=>(hF j).1.2) [opW 2 2 0 0,opW 3 2 0 2] (by intro z hz;simp at hz;rcases hz with rfl|rfl<;>exact oZ _ _ _ _) (k+1);obtain ⟨m,hm⟩:∃ m:Nat,(m:Int)=1+K%5:=⟨(1+K%5).toNat,by omega⟩;have hm5:m<=5:=by omega
 have fin:∀ (x:Int),(0<=x/\x<=4294967295)->((1<=((sq F [opW 2 2 0 0,opW 3 2 0 2] (k+1) m).1++[x]).length/\((sq F [opW 2 2 0 0,opW 3 2 0 2] (k+1) m).1++[x]).length<=40)/\∀ z∈(sq F [opW 2 2 0 0,opW 3 2 0 2] (k+1) m).1++[x],0<=z/\z<=4294967295):=fun x hx=>by
  have h1:=hl m;simp only [List.length_cons,List.length_nil] at h1;refine ⟨by simp;omega,fun z hz=>?_⟩;rcases List.mem_append.1 hz with hz|hz
  .exact ha m z hz
  .simp at hz;subst hz;exact hx
 have walk:∀ (x:Int),(K%16=15/\x=opW 20 0 0 (-1-K/16))\/(K%16≠15/\x=opW 25 0 0 0)->zN zs k ((sq F [opW 2 2 0 0,opW 3 2 0 2] (k+1) m).1++[x]) (sq F [opW 2 2 0 0,opW 3 2 0 2] (k+1) m).2:=fun x hx=>by
  intro w r a n c h;have HP:=zh (fun j=>(hF j).2);have HL:=zh hl;clear hF ha fin L0 hl;have HX:=zh hx;go_enter func118,ntmps118
  go_wp2_with fail
  refine (h.next K E1).mono ?_;rintro e w1 ⟨rfl,d1,_⟩;clear h;go_wp2_with fail
  refine (bD _ _ _ _ _ 2 2 0 0 rfl rfl rfl rfl (by omega)).mono ?_;rintro e w2 ⟨rfl,hb2⟩;go_wp2_with fail
  refine (bD _ _ _ _ _ 3 2 0 2 rfl rfl rfl rfl (by omega)).mono ?_;rintro e w3 ⟨rfl,hb3⟩;have d3:=(d1.bw hb2).bw hb3;have hs3:=d3.sz;have D:=Dl.mk (d3.bw (brf.alloc aL (.cells (([opW 2 2 0 0,opW 3 2 0 2]:qi).flatMap clI).toArray 3))) (rK 3 1 clI w3 w.heap.size hs3 [opW 2 2 0 0,opW 3 2 0 2] _ rfl rfl (by unfold maxLen;simp));have HD:=zh D;clear D d3 d1 hb2 hb3;go_wp2;go_loopw [4,5] (fun o i wr=>∃ (j:Nat),j<=m/\i=qI j/\Dl w wr r a n c zs (sq F [opW 2 2 0 0,opW 3 2 0 2] (k+1) j).2 o (sq F [opW 2 2 0 0,opW 3 2 0 2] (k+1) j).1) (fun _ i _=>m-(intOf i).toNat)
  .exact ⟨0,xC _,rfl,HD.o⟩
  .obtain ⟨j,hj,rfl,D⟩:=hrel;clear HD;by_cases hlt:j<m
   .have hlt':(j:Int)<1+K%5:=by omega
    have hll:=HL.o j;simp only [List.length_cons,List.length_nil] at hll;have HC:=zh (HP.o _ _ _ _ _ _ _ _ _ D (by omega));clear hll;go_wp2_with fail
    refine HC.o.mono ?_;rintro e wa ⟨v',rfl,D'⟩;have HD':=zh D';clear D' D HC;go_wp2
    go_roundw
    .exact ⟨j+1,by omega,by go_num,HD'.o⟩
    .simp [intOf];omega
   .have hlt':¬ (j:Int)<1+K%5:=by omega
    have ejm:j=m:=by omega
    have hll:=HL.o j;simp only [List.length_cons,List.length_nil] at hll;rw [ejm] at D hll;clear ejm;rcases hx with ⟨hc,rfl⟩|⟨hc,rfl⟩
    .go_wp2_with fail
     refine (bD _ _ _ _ _ 20 0 0 (-1-K/16) rfl rfl rfl (by first|rfl|omega) (by omega)).mono ?_;rintro e u0 ⟨rfl,hb⟩;have D':=D.bw hb;clear D hb;have HL':=zh (D'.bw (brf.alloc aL (.cells (([opW 20 0 0 (-1-K/16)]:qi).flatMap clI).toArray 3)));have HN:=zh (jA u0 u0.heap.size [opW 20 0 0 (-1-K/16)] _ rfl rfl);clear D';go_wp2_with (at_builtin;refine dD HL'.o rfl _ _ rfl rfl (qR u0.heap.size 0) 1 1 rfl rfl HN.o (by omega) ?_;intro v' w' L')
     go_wp2;go_ret;exact ⟨_,rfl,L'⟩
    .go_wp2_with fail
     refine (bD _ _ _ _ _ 25 0 0 0 rfl rfl rfl rfl (by omega)).mono ?_;rintro e u0 ⟨rfl,hb⟩;have D':=D.bw hb;clear D hb;have HL':=zh (D'.bw (brf.alloc aL (.cells (([opW 25 0 0 0]:qi).flatMap clI).toArray 3)));have HN:=zh (jA u0 u0.heap.size [opW 25 0 0 0] _ rfl rfl);clear D';go_wp2_with (at_builtin;refine dD HL'.o rfl _ _ rfl rfl (qR u0.heap.size 0) 1 1 rfl rfl HN.o (by omega) ?_;intro v' w' L')
     go_wp2;go_ret;exact ⟨_,rfl,L'⟩
 by_cases hc:K%16=15
 .exact ⟨(_,_),fin _ (oZ 20 0 0 (-1-K/16)),walk _ (.inl ⟨hc,rfl⟩)⟩
 .exact ⟨(_,_),fin _ (oZ 25 0 0 0),walk _ (.inr ⟨hc,rfl⟩)⟩
def nmN:Nat->ByteArray
 | 0=>⟨#[109,97]⟩
 | 1=>⟨#[108,105,98]⟩
 | 2=>⟨#[97,117,120]⟩
 | _=>⟨#[122,122]⟩
def exN:Nat->ByteArray
 | 0=>⟨#[103,111]⟩
 | 1=>⟨#[98,97]⟩
 | 2=>⟨#[98,98]⟩
 | 3=>⟨#[98,99]⟩
 | _=>⟨#[98,100]⟩
theorem aCf (i:Nat)(hi:i<=3)(w:qw):qC 117 #[qI i] w (qB w (.string (nmN i))):=by
 have hB:∀ o,qY w (w.alloc o):=fun o=>bal;have HB:=zh hB;clear hB;rcases (show i=0\/i=1\/i=2\/i=3 by omega) with rfl|rfl|rfl|rfl
 all_goals
  go_enter func117,ntmps117
  go_wp2;go_ret;exact ⟨rfl,HB.o _⟩
theorem eZ (i:Int)(h0:-1<=i)(h1:i<=3)(w:qw):qC 66 #[qI i] w (qB w (.string (exN (i+1).toNat))):=by
 have hB:∀ o,qY w (w.alloc o):=fun o=>bal;have HB:=zh hB;clear hB;rcases (show i=-1\/i=0\/i=1\/i=2\/i=3 by omega) with rfl|rfl|rfl|rfl|rfl
 all_goals
  clear h0 h1;go_enter func66,ntmps66
  go_wp2;go_ret;exact ⟨rfl,HB.o _⟩
structure DmR (i:Nat)(P:PMod):Prop where
 n:P.nm=nmN i
 t:(1<=P.tz.length/\P.tz.length<=40)/\∀ z∈P.tz,0<=z/\z<=4294967295
 b:P.bl.length<=3/\∀ l∈P.bl,l.length<=40/\∀ z∈l,0<=z/\z<=4294967295
 d:P.dz.length<=16/\Byt P.dz
 s:0<=P.bss/\P.bss<=63
 r:P.rz=[]\/P.rz=[0]
 i:P.ss=[]
 e:P.es.length<=4/\∀ x∈P.es,x.1.size<=2/\-1<=x.2.1/\x.2.1<=3/\x.2.2=0
def aEe (zs:List Int)(k i:Nat)(P:PMod)(k':Nat):Prop:=∀ (w:World) (r:Nat) (a:Option Addr) (n c:Nat) (h:Dst w w r a n c zs k),Calls prog 65 #[.pointer (some ⟨r,0,none⟩),.int .i64 i] w fun e w'=>∃ M:Ma,e=.returned (.agg (fL P M.a1 M.c1 M.a2 M.c2 M.bl M.a3 M.c3 M.a5 M.c5 M.a6 M.c6 M.a7 M.c7))/\Dst w w' r a n c zs k'/\MO w' w.heap.size P M/\∃ db,M.a3=some ⟨db,0,none⟩
theorem rU {cs:Array Value}(k1:Blk W q cs 53)(hs:cs.size=8)(v0 v1 v2 v3 v4 v5 v6 v7:Value)(Q:Ending->World->Prop)(tmps:Array Value)(h4:tmps[4]?=some (.pointer (some ⟨q,0,none⟩)))(hQ:Q (.returned (.agg #[v0,v1,v2,v3,v4,v5,v6,v7])) (st8 W q v0 v1 v2 v3 v4 v5 v6 v7)):
 bodyPost prog f65 Q Exit.ret ⟨tmps,[]⟩ (st8 W q v0 v1 v2 v3 v4 v5 v6 v7):=by
 obtain ⟨t0,t1,t2,t3,t4,t5,t6,t7⟩:=(kD k1 hs v0 v1 v2 v3 v4 v5 v6 v7).eight';refine bodyPost_ret_by (v:=.agg #[v0,v1,v2,v3,v4,v5,v6,v7]) ?_ rfl hQ;simp [results,results65,go_sem,h4,t0,t1,t2,t3,t4,t5,t6,t7]
structure MR (w W:World)(r:Nat)(a:Option Addr)(n c:Nat)(zs:List Int)(k g q:Nat)(P:PMod)(M:Ma):Prop where
 m:MB w W r a n c zs k g P M
 res:Blk W q z8 53
 hq:w.heap.size<=q
 ne:q≠g
theorem MR.bw (h:MR w W r a n c zs k g q P M)(hb:Below W.heap.size W W'):MR w W' r a n c zs k g q P M:=⟨h.m.bw hb,h.res.bw hb,h.hq,h.ne⟩
theorem MR.drew (h:MR w W r a n c zs k g q P M):MR w W.drew r a n c zs k g q P M:=h.bw (Below.refl _ _).drew
theorem MR.turn (h:MR w W r a n c zs k g q P M)(ht:Turn (fun j=>j=r) W W')(d:Dst w W' r a n c zs k'):MR w W' r a n c zs k' g q P M:=⟨h.m.turn ht d,aA ht h.res (by have:=h.hq;have:=h.m.d.lt;omega),h.hq,h.ne⟩
theorem MR.next (h:MR w W r a n c zs k g q P M)(x:Int)(hx:Hid (zs.getD k 0=x)):
 Calls prog 10 #[.pointer (some ⟨r,0,none⟩)] W fun e w'=>e=.returned (.int .i64 x)/\MR w w' r a n c zs (k+1) g q P M:=
 (h.m.d.next x hx).mono fun e w' ⟨he,hd,ht⟩=>⟨he,h.turn ht hd⟩
theorem MR.two (h:MR w W r a n c zs k g q P M)(i:Nat)(v:Value)(hv:(fL P M.a1 M.c1 M.a2 M.c2 M.bl M.a3 M.c3 M.a5 M.c5 M.a6 M.c6 M.a7 M.c7)[i]?=some v):W.cell? ⟨g,i,none⟩=some v/\W.frozen? ⟨g,i,none⟩=false:=⟨by rw [h.m.box.cell];exact hv,h.m.box.frozen i⟩
theorem MR.put {i:Nat}{P':PMod}{M':Ma}{v':Value}{base:Nat}{t:TypeId}(h:MR w W r a n c zs k g q P M)(ho:W.ownsRow w.heap.size t sz v m xs)(hne:t≠53)(hg:W.grownBy W' v.ownBlock)(o:MO W' w.heap.size P' M')(ds:∃ db,M'.a3=some ⟨db,0,none⟩)(e:(fL P M.a1 M.c1 M.a2 M.c2 M.bl M.a3 M.c3 M.a5 M.c5 M.a6 M.c6 M.a7 M.c7).setIfInBounds i v'=fL P' M'.a1 M'.c1 M'.a2 M'.c2 M'.bl M'.a3 M'.c3 M'.a5 M'.c5 M'.a6 M'.c6 M'.a7 M'.c7):MR w (W'.setCell ⟨g,i,none⟩ v') r a n c zs k g q P' M':=
 ⟨MB.put (h.m.d.grown hg (fun j hj=>(World.ownsRow.lt ho j hj).1)) h.m.hg (jZ h.m.box ho hg hne) o ds e,aA (aC W' g i v') (jZ h.res ho hg hne) h.ne,h.hq,h.ne⟩
theorem aU (W:World)(o:Obj):Below W.heap.size W (W.alloc o):=(Below.refl _ _).alloc (Nat.le_refl _) _
theorem MR.code (h:MR w W r a n c zs k g q P M){ys:List Int}(CF:zN zs k ys k'):
 Calls prog 118 #[.pointer (some ⟨r,0,none⟩)] W fun e w'=>∃ A C,e=.returned (.slice A ys.length C)/\OG 3 1 clI w' W.heap.size (.slice A ys.length C) ys/\MR w w' r a n c zs k' g q P M:=
 (CF W r a n c h.m.d.fresh).mono fun e w' ⟨v,he,L⟩=>by
   obtain ⟨A,C,rfl⟩:=aO L.o;exact ⟨A,C,he,L.o,h.turn L.d.t (h.m.d.trans L.d)⟩
theorem MR.cell4 (h:MR w W r a n c zs k g q P M){t:TypeId}{base:Nat}{u:Value}(ho:W.ownsRow base t sz v m xs)(hg:W.grownBy W' v.ownBlock)(hne:t≠53)(i:Nat)(hu:(fL P M.a1 M.c1 M.a2 M.c2 M.bl M.a3 M.c3 M.a5 M.c5 M.a6 M.c6 M.a7 M.c7)[i]?=some u):W'.cell? ⟨g,i,none⟩=some u/\W'.frozen? ⟨g,i,none⟩=false:=by
 have b:=jZ h.m.box ho hg hne;exact ⟨by rw [b.cell];exact hu,b.frozen i⟩
theorem MR.bank {wa:World}{A:Option Addr}{Cp:Nat}{x:List Int}(h:MR w W r a n c zs k g q P M)(hA:MR w wa r a n c zs k' g q P M)(ox:OG 3 1 clI wa W.heap.size (.slice A x.length Cp) x)
 (hown:w4.ownsRow w.heap.size 29 1 (.slice (some ⟨g4,0,none⟩) (M.bl.length+1) c4) (M.bl.length+1) (M.bl.map (fun B=>Value.slice B.1 B.2.1 B.2.2.1)++[.slice A x.length Cp])) (hg:(wa.alloc (.cells #[.slice A x.length Cp] 29)).grownBy w4 (Value.slice M.a2 M.bl.length M.c2).ownBlock):
 MR w (w4.setCell ⟨g,2,none⟩ (.slice (some ⟨g4,0,none⟩) (M.bl.length+1) c4)) r a n c zs k' g q { P with bl:=P.bl++[x] } { M with a2:=some ⟨g4,0,none⟩,c2:=c4,bl:=M.bl++[(A,x.length,Cp,x)] }:=by
 have al:=aU wa (.cells #[.slice A x.length Cp] 29);have hL:=hA.bw al;have mo:=hL.m.o.grow_b (v':=.slice none 0 0) (ox.bw al) h.m.d.sz (fun B hB j hj=>((h.m.o.b.rows B hB).2.lt j hj).2) (fun j hj=>(h.m.o.t.lt j hj).2) (fun j hj=>(h.m.o.r.lt j hj).2) hown hg;exact MR.put (base:=w.heap.size) hL hL.m.o.b.head (by decide) hg mo hA.m.ds (by show _=_;simp [fL])
theorem MR.data (h:MR w W r a n c zs k g q P M)(hx:0<=x/\x<=255)
 (hown:w4.ownsRow w.heap.size 5 1 (.slice (some ⟨g4,0,none⟩) (P.dz.length+1) c4) (P.dz.length+1) (P.dz.map (Value.int .u8)++[.int .u8 x])) (hg:W.grownBy w4 (Value.slice M.a3 P.dz.length M.c3).ownBlock):
 MR w (w4.setCell ⟨g,3,none⟩ (.slice (some ⟨g4,0,none⟩) (P.dz.length+1) c4)) r a n c zs k g q { P with dz:=P.dz++[x] } { M with a3:=some ⟨g4,0,none⟩,c3:=c4 }:=by
 have mo:=h.m.o.grow_d (X:=[x]) rfl ⟨by rw [List.length_append,List.map_append];exact hown,fun z hz=>by rcases List.mem_append.1 hz with hz|hz;exact h.m.o.d.2 z hz;simp at hz;subst hz;exact hx⟩ hg;exact MR.put (base:=w.heap.size) h h.m.o.d.1 (by decide) hg mo ⟨g4,rfl⟩ (by show _=_;simp [fL])
theorem MR.reloc (h:MR w W r a n c zs k g q P M)
 (hown:w4.ownsRow w.heap.size 3 1 (.slice (some ⟨g4,0,none⟩) (P.rz.length+1) c4) (P.rz.length+1) (P.rz.flatMap clI++clI x)) (hg:W.grownBy w4 (Value.slice M.a5 P.rz.length M.c5).ownBlock) (hat:(Value.slice M.a5 P.rz.length M.c5).ownBlock=some g4\/g4=W.heap.size):
 MR w (w4.setCell ⟨g,5,none⟩ (.slice (some ⟨g4,0,none⟩) (P.rz.length+1) c4)) r a n c zs k g q { P with rz:=P.rz++[x] } { M with a5:=some ⟨g4,0,none⟩,c5:=c4 }:=by
 have mo:=h.m.o.grow_r (X:=[x]) rfl (by unfold OG;rw [List.length_append,List.flatMap_append];exact hown) hg hat;exact MR.put (base:=w.heap.size) h h.m.o.r (by decide) hg mo h.m.ds (by show _=_;simp [fL])
theorem MR.exp {x:Ex}(h:MR w W r a n c zs k g q P M)
 (hown:w4.ownsRow w.heap.size 91 3 (.slice (some ⟨g4,0,none⟩) (P.es.length+1) c4) (P.es.length+1) (P.es.flatMap clX++clX x)) (hg:W.grownBy w4 (Value.slice M.a7 P.es.length M.c7).ownBlock):
 MR w (w4.setCell ⟨g,7,none⟩ (.slice (some ⟨g4,0,none⟩) (P.es.length+1) c4)) r a n c zs k g q { P with es:=P.es++[x] } { M with a7:=some ⟨g4,0,none⟩,c7:=c4 }:=by
 have mo:=h.m.o.grow_e (X:=[x]) rfl (by unfold OG;rw [List.length_append,List.flatMap_append];exact hown) hg;exact MR.put (base:=w.heap.size) h h.m.o.e (by decide) hg mo h.m.ds (by show _=_;simp [fL])
theorem aMj {a1:Option Addr}{c1:Nat}{T:List Int}(D:Dst w w4 r a n c zs k)(O:OG 3 1 clI w4 w.heap.size (.slice a1 T.length c1) T)(R:Blk w4 w.heap.size z8 53)(nm:ByteArray)(bss:Int):
 MR w ((((((w4.alloc (.cells #[] 29)).alloc (.cells #[] 5)).alloc (.cells #[] 3)).alloc (.cells #[] 9)).alloc (.cells #[] 91)).alloc (.cells #[.string nm,.slice a1 T.length c1,.slice (some ⟨w4.heap.size,0,none⟩) 0 0,.slice (some ⟨w4.heap.size+1,0,none⟩) 0 0,.int .i64 bss,.slice (some ⟨w4.heap.size+1+1,0,none⟩) 0 0,.slice (some ⟨w4.heap.size+1+1+1,0,none⟩) 0 0,.slice (some ⟨w4.heap.size+1+1+1+1,0,none⟩) 0 0] 53)) r a n c zs k (w4.heap.size+5) w.heap.size ⟨nm,T,[],[],bss,[],[],[]⟩ ⟨a1,c1,some ⟨w4.heap.size,0,none⟩,0,[],some ⟨w4.heap.size+1,0,none⟩,0,some ⟨w4.heap.size+1+1,0,none⟩,0,some ⟨w4.heap.size+1+1+1,0,none⟩,0,some ⟨w4.heap.size+1+1+1+1,0,none⟩,0⟩:=by
 have hs:=D.sz;have hlt:=R.lt;have o2:=rK 29 1 (fun B:Bk=>[Value.slice B.1 B.2.1 B.2.2.1]) w4 w.heap.size hs [] #[] rfl rfl (by unfold maxLen;simp);have b1:=aU w4 (.cells #[] 29);have s1:(w4.alloc (.cells #[] 29)).heap.size=w4.heap.size+1:=by simp
 generalize w4.alloc (.cells #[] 29)=u1 at *;have o3:=rK 5 1 (fun z:Int=>[Value.int .u8 z]) u1 w.heap.size (by omega) [] #[] rfl rfl (by unfold maxLen;simp);have b2:=aU u1 (.cells #[] 5);have s2:(u1.alloc (.cells #[] 5)).heap.size=w4.heap.size+1+1:=by simp [s1]
 rw [s1] at o3;generalize u1.alloc (.cells #[] 5)=u2 at *;have o5:=rK 3 1 clI u2 w.heap.size (by omega) [] #[] rfl rfl (by unfold maxLen;simp);have b3:=aU u2 (.cells #[] 3);have s3:(u2.alloc (.cells #[] 3)).heap.size=w4.heap.size+1+1+1:=by simp [s2]
 rw [s2] at o5;generalize u2.alloc (.cells #[] 3)=u3 at *;have o6:=rK 9 1 clT u3 w.heap.size (by omega) [] #[] rfl rfl (by unfold maxLen;simp);have b4:=aU u3 (.cells #[] 9);have s4:(u3.alloc (.cells #[] 9)).heap.size=w4.heap.size+1+1+1+1:=by simp [s3]
 rw [s3] at o6;generalize u3.alloc (.cells #[] 9)=u4 at *;have o7:=rK 91 3 clX u4 w.heap.size (by omega) [] #[] rfl rfl (by unfold maxLen;simp);have b5:=aU u4 (.cells #[] 91);have s5:(u4.alloc (.cells #[] 91)).heap.size=w4.heap.size+1+1+1+1+1:=by simp [s4]
 rw [s4] at o7;generalize u4.alloc (.cells #[] 91)=u5 at *;have bx:=Blk.new u5 #[.string nm,.slice a1 T.length c1,.slice (some ⟨w4.heap.size,0,none⟩) 0 0,.slice (some ⟨w4.heap.size+1,0,none⟩) 0 0,.int .i64 bss,.slice (some ⟨w4.heap.size+1+1,0,none⟩) 0 0,.slice (some ⟨w4.heap.size+1+1+1,0,none⟩) 0 0,.slice (some ⟨w4.heap.size+1+1+1+1,0,none⟩) 0 0] 53;have b6:=aU u5 (.cells #[.string nm,.slice a1 T.length c1,.slice (some ⟨w4.heap.size,0,none⟩) 0 0,.slice (some ⟨w4.heap.size+1,0,none⟩) 0 0,.int .i64 bss,.slice (some ⟨w4.heap.size+1+1,0,none⟩) 0 0,.slice (some ⟨w4.heap.size+1+1+1,0,none⟩) 0 0,.slice (some ⟨w4.heap.size+1+1+1+1,0,none⟩) 0 0] 53);rw [s5] at bx;refine ⟨⟨(((((D.bw b1).bw b2).bw b3).bw b4).bw b5).bw b6,bx,by omega,?_,⟨_,rfl⟩⟩,(((((R.bw b1).bw b2).bw b3).bw b4).bw b5).bw b6,Nat.le_refl _,by omega⟩;refine ⟨(((((O.bw b1).bw b2).bw b3).bw b4).bw b5).bw b6,⟨?_,by simp,by simp⟩,rfl,⟨?_,by simp⟩,((o5.bw b4).bw b5).bw b6,(o6.bw b5).bw b6,o7.bw b6,by simp,?_,by simp⟩
 .exact ((((o2.bw b2).bw b3).bw b4).bw b5).bw b6
 .exact (((o3.bw b3).bw b4).bw b5).bw b6
 .intro j hj e;have:=(O.lt j hj).2;have e':some (w4.heap.size+1+1)=some j:=e;injection e' with e'
  omega
