import Derived.Defers
import Derived.Recover
import Derived.Test.YtngdgogjlpjjpadGreatP03
import Derived.Test.YtngdgogjlpjjpadGreatP13
import Derived.Test.YtngdgogjlpjjpadGreatP15
namespace Go.Proofs.YtngdgogjlpjjpadGreat
open Go.RowKit
set_option linter.unusedVariables false
set_option linter.unusedSimpArgs false
set_option maxHeartbeats 2000000 in
theorem l3Ins_u3 (zs:List Int) (k:Nat) (hz:∀ j,0≤zs.getD j 0∧zs.getD j 0≤255) (v1:Int) (E1:Hid (zs.getD k 0=v1)) (z0:0≤v1) (z0':v1≤255) (op:Int) (ho1:1≤op) (ho2:op≤25) (hu:us op=3) (HOP:Hid (∀ W:World,(W.alloc (.cells #[.int .i64 2,.int .i64 6,.int .i64 15,.int .i64 16,.int .i64 19,.int .i64 20,.int .i64 21,.int .i64 22,.int .i64 23,.int .i64 24,.int .i64 25,.int .i64 1,.int .i64 3,.int .i64 4,.int .i64 5,.int .i64 7,.int .i64 8,.int .i64 9,.int .i64 10,.int .i64 11,.int .i64 12,.int .i64 13,.int .i64 14,.int .i64 17,.int .i64 18] 3)).cell? ⟨W.heap.size,(v1 % 25).toNat,none⟩=some (.int .i64 op))):
 ∃ (d x i:Int) (k':Nat),(-1≤(op:Int)∧(op:Int)≤64∧-1≤d∧d≤10∧-1≤x∧x≤10∧-1≤i∧i≤65536)∧∀ (r:Nat) (a:Option Addr) (n c:Nat) (w:World) (h:Rdr w r a n c zs k) (hcode:n≠0→∀ b off,a=some ⟨b,off,none⟩→b<w.heap.size),Calls Tryz.prog 282 #[.pointer (some ⟨r,0,none⟩)] w (InsDr w r a n c zs op d x i k'):=by
 obtain ⟨v2,E2,z1,z1'⟩:=draw_of hz (k+1)
 obtain ⟨v3,E3,z2,z2'⟩:=draw_of hz (k+1+1)
 clear hz
 obtain ⟨A,hA0,hA1,hAT⟩:=aTab_at (v2 / 4 % 8).toNat (by omega)
 have HAT:=hide hAT
 clear hAT
 refine ⟨v2 % 4,A,0,k+1+1,by omega,fun r a n c w h hcode=>?_⟩
 have hrw:=h.blk.lt
 have T0:Turn (fun j=>j=r) w (w.alloc (.cells #[.int .i64 0,.int .i64 0,.int .i64 0,.int .i64 0] 124)):=turn_alloc w _
 have kr0:=Blk.new w #[.int .i64 0,.int .i64 0,.int .i64 0,.int .i64 0] 124
 have h0:=rdr_below h ((Below.refl w.heap.size w).alloc (Nat.le_refl _) (.cells #[.int .i64 0,.int .i64 0,.int .i64 0,.int .i64 0] 124))
 clear h
 go_enter Tryz.func282,Tryz.ntmps282
 go_wp2_with fail
 refine (next_is r a n c zs k v1 _ h0 E1).mono ?_
 rintro e w1 ⟨rfl,h1,t1⟩
 have kr1:=turn_blk t1 kr0 (by omega)
 have T1:=T0.trans t1
 clear t1 kr0 T0 h0
 have hop:=HOP.out w1
 have kop:=Blk.new (w1.alloc (.cells #[.int .i64 2,.int .i64 6,.int .i64 15,.int .i64 16,.int .i64 19,.int .i64 20,.int .i64 21,.int .i64 22,.int .i64 23,.int .i64 24,.int .i64 25,.int .i64 1,.int .i64 3,.int .i64 4,.int .i64 5,.int .i64 7,.int .i64 8,.int .i64 9,.int .i64 10,.int .i64 11,.int .i64 12,.int .i64 13,.int .i64 14,.int .i64 17,.int .i64 18] 3)) #[.int .i64 op,.int .i64 0,.int .i64 0,.int .i64 0] 124
 have h1':=rdr_below (rdr_below h1 ((Below.refl w1.heap.size w1).alloc (Nat.le_refl _) (.cells #[.int .i64 2,.int .i64 6,.int .i64 15,.int .i64 16,.int .i64 19,.int .i64 20,.int .i64 21,.int .i64 22,.int .i64 23,.int .i64 24,.int .i64 25,.int .i64 1,.int .i64 3,.int .i64 4,.int .i64 5,.int .i64 7,.int .i64 8,.int .i64 9,.int .i64 10,.int .i64 11,.int .i64 12,.int .i64 13,.int .i64 14,.int .i64 17,.int .i64 18] 3))) ((Below.refl _ _).alloc (Nat.le_refl _) (.cells #[.int .i64 op,.int .i64 0,.int .i64 0,.int .i64 0] 124))
 have T1':=(T1.trans (turn_alloc w1 (.cells #[.int .i64 2,.int .i64 6,.int .i64 15,.int .i64 16,.int .i64 19,.int .i64 20,.int .i64 21,.int .i64 22,.int .i64 23,.int .i64 24,.int .i64 25,.int .i64 1,.int .i64 3,.int .i64 4,.int .i64 5,.int .i64 7,.int .i64 8,.int .i64 9,.int .i64 10,.int .i64 11,.int .i64 12,.int .i64 13,.int .i64 14,.int .i64 17,.int .i64 18] 3))).trans (turn_alloc _ (.cells #[.int .i64 op,.int .i64 0,.int .i64 0,.int .i64 0] 124))
 have kr1':=(kr1.alloc (.cells #[.int .i64 2,.int .i64 6,.int .i64 15,.int .i64 16,.int .i64 19,.int .i64 20,.int .i64 21,.int .i64 22,.int .i64 23,.int .i64 24,.int .i64 25,.int .i64 1,.int .i64 3,.int .i64 4,.int .i64 5,.int .i64 7,.int .i64 8,.int .i64 9,.int .i64 10,.int .i64 11,.int .i64 12,.int .i64 13,.int .i64 14,.int .i64 17,.int .i64 18] 3)).alloc (.cells #[.int .i64 op,.int .i64 0,.int .i64 0,.int .i64 0] 124)
 have hlt1:=kr1.lt
 clear kr1 T1 h1
 simp only [World.size_alloc] at kop
 go_wp2_with fail
 refine (next_is r a n c zs (k+1) v2 _ h1' E2).mono ?_
 rintro e w2 ⟨rfl,h2,t2⟩
 have kr2:=turn_blk t2 kr1' (by omega)
 have ko2:=turn_blk t2 kop (by omega)
 have T2:=T1'.trans t2
 have hz2:=t2.size
 simp only [World.size_alloc] at hz2
 clear t2 kr1' T1' h1' kop hop
 obtain ⟨q1,q2,q3,q4,q5⟩:=ko2.four'
 obtain ⟨p1,p2,p3,p4,p5⟩:=kr2.four'
 go_wp2_with fail
 refine (l3Uses_any op _).mono ?_
 rintro e wx ⟨rfl,rfl⟩
 have H:Is w w2 r a n c zs (k+1+1) (w1.heap.size+1) op 0 0 0:=⟨kr2,ko2,h2,T2,by omega,hrw,hcode⟩
 have HH:=hide H
 clear H kr2 ko2 h2 T2 hcode
 have hbig:w.heap.size<w1.heap.size+1:=by omega
 have hlt2:w1.heap.size+1<w2.heap.size:=by omega
 have hlt3:w.heap.size<w2.heap.size:=by omega
 rw [hu]
 clear hu
 have hA:=HAT.out (w2.setCell ⟨w1.heap.size+1,1,none⟩ (.int .i64 (v2 % 4)))
 simp only [size_setCell] at hA
 go_wp2
 (with_reducible refine ((HH.out.set1 (v2 % 4)).set2 A).doneA _ Tryz.results282 _ _ ?_ ?_);rfl;omega
set_option maxHeartbeats 2000000 in
theorem l3Ins_u0 (zs:List Int) (k:Nat) (hz:∀ j,0≤zs.getD j 0∧zs.getD j 0≤255) (v1:Int) (E1:Hid (zs.getD k 0=v1)) (z0:0≤v1) (z0':v1≤255) (op:Int) (ho1:1≤op) (ho2:op≤25) (hu:us op=0) (HOP:Hid (∀ W:World,(W.alloc (.cells #[.int .i64 2,.int .i64 6,.int .i64 15,.int .i64 16,.int .i64 19,.int .i64 20,.int .i64 21,.int .i64 22,.int .i64 23,.int .i64 24,.int .i64 25,.int .i64 1,.int .i64 3,.int .i64 4,.int .i64 5,.int .i64 7,.int .i64 8,.int .i64 9,.int .i64 10,.int .i64 11,.int .i64 12,.int .i64 13,.int .i64 14,.int .i64 17,.int .i64 18] 3)).cell? ⟨W.heap.size,(v1 % 25).toNat,none⟩=some (.int .i64 op))):
 ∃ (d x i:Int) (k':Nat),(-1≤(op:Int)∧(op:Int)≤64∧-1≤d∧d≤10∧-1≤x∧x≤10∧-1≤i∧i≤65536)∧∀ (r:Nat) (a:Option Addr) (n c:Nat) (w:World) (h:Rdr w r a n c zs k) (hcode:n≠0→∀ b off,a=some ⟨b,off,none⟩→b<w.heap.size),Calls Tryz.prog 282 #[.pointer (some ⟨r,0,none⟩)] w (InsDr w r a n c zs op d x i k'):=by
 obtain ⟨v2,E2,z1,z1'⟩:=draw_of hz (k+1)
 obtain ⟨v3,E3,z2,z2'⟩:=draw_of hz (k+1+1)
 clear hz
 refine ⟨0,0,0,k+1+1,by omega,fun r a n c w h hcode=>?_⟩
 have hrw:=h.blk.lt
 have T0:Turn (fun j=>j=r) w (w.alloc (.cells #[.int .i64 0,.int .i64 0,.int .i64 0,.int .i64 0] 124)):=turn_alloc w _
 have kr0:=Blk.new w #[.int .i64 0,.int .i64 0,.int .i64 0,.int .i64 0] 124
 have h0:=rdr_below h ((Below.refl w.heap.size w).alloc (Nat.le_refl _) (.cells #[.int .i64 0,.int .i64 0,.int .i64 0,.int .i64 0] 124))
 clear h
 go_enter Tryz.func282,Tryz.ntmps282
 go_wp2_with fail
 refine (next_is r a n c zs k v1 _ h0 E1).mono ?_
 rintro e w1 ⟨rfl,h1,t1⟩
 have kr1:=turn_blk t1 kr0 (by omega)
 have T1:=T0.trans t1
 clear t1 kr0 T0 h0
 have hop:=HOP.out w1
 have kop:=Blk.new (w1.alloc (.cells #[.int .i64 2,.int .i64 6,.int .i64 15,.int .i64 16,.int .i64 19,.int .i64 20,.int .i64 21,.int .i64 22,.int .i64 23,.int .i64 24,.int .i64 25,.int .i64 1,.int .i64 3,.int .i64 4,.int .i64 5,.int .i64 7,.int .i64 8,.int .i64 9,.int .i64 10,.int .i64 11,.int .i64 12,.int .i64 13,.int .i64 14,.int .i64 17,.int .i64 18] 3)) #[.int .i64 op,.int .i64 0,.int .i64 0,.int .i64 0] 124
 have h1':=rdr_below (rdr_below h1 ((Below.refl w1.heap.size w1).alloc (Nat.le_refl _) (.cells #[.int .i64 2,.int .i64 6,.int .i64 15,.int .i64 16,.int .i64 19,.int .i64 20,.int .i64 21,.int .i64 22,.int .i64 23,.int .i64 24,.int .i64 25,.int .i64 1,.int .i64 3,.int .i64 4,.int .i64 5,.int .i64 7,.int .i64 8,.int .i64 9,.int .i64 10,.int .i64 11,.int .i64 12,.int .i64 13,.int .i64 14,.int .i64 17,.int .i64 18] 3))) ((Below.refl _ _).alloc (Nat.le_refl _) (.cells #[.int .i64 op,.int .i64 0,.int .i64 0,.int .i64 0] 124))
 have T1':=(T1.trans (turn_alloc w1 (.cells #[.int .i64 2,.int .i64 6,.int .i64 15,.int .i64 16,.int .i64 19,.int .i64 20,.int .i64 21,.int .i64 22,.int .i64 23,.int .i64 24,.int .i64 25,.int .i64 1,.int .i64 3,.int .i64 4,.int .i64 5,.int .i64 7,.int .i64 8,.int .i64 9,.int .i64 10,.int .i64 11,.int .i64 12,.int .i64 13,.int .i64 14,.int .i64 17,.int .i64 18] 3))).trans (turn_alloc _ (.cells #[.int .i64 op,.int .i64 0,.int .i64 0,.int .i64 0] 124))
 have kr1':=(kr1.alloc (.cells #[.int .i64 2,.int .i64 6,.int .i64 15,.int .i64 16,.int .i64 19,.int .i64 20,.int .i64 21,.int .i64 22,.int .i64 23,.int .i64 24,.int .i64 25,.int .i64 1,.int .i64 3,.int .i64 4,.int .i64 5,.int .i64 7,.int .i64 8,.int .i64 9,.int .i64 10,.int .i64 11,.int .i64 12,.int .i64 13,.int .i64 14,.int .i64 17,.int .i64 18] 3)).alloc (.cells #[.int .i64 op,.int .i64 0,.int .i64 0,.int .i64 0] 124)
 have hlt1:=kr1.lt
 clear kr1 T1 h1
 simp only [World.size_alloc] at kop
 go_wp2_with fail
 refine (next_is r a n c zs (k+1) v2 _ h1' E2).mono ?_
 rintro e w2 ⟨rfl,h2,t2⟩
 have kr2:=turn_blk t2 kr1' (by omega)
 have ko2:=turn_blk t2 kop (by omega)
 have T2:=T1'.trans t2
 have hz2:=t2.size
 simp only [World.size_alloc] at hz2
 clear t2 kr1' T1' h1' kop hop
 obtain ⟨q1,q2,q3,q4,q5⟩:=ko2.four'
 obtain ⟨p1,p2,p3,p4,p5⟩:=kr2.four'
 go_wp2_with fail
 refine (l3Uses_any op _).mono ?_
 rintro e wx ⟨rfl,rfl⟩
 have H:Is w w2 r a n c zs (k+1+1) (w1.heap.size+1) op 0 0 0:=⟨kr2,ko2,h2,T2,by omega,hrw,hcode⟩
 have HH:=hide H
 clear H kr2 ko2 h2 T2 hcode
 have hbig:w.heap.size<w1.heap.size+1:=by omega
 have hlt2:w1.heap.size+1<w2.heap.size:=by omega
 have hlt3:w.heap.size<w2.heap.size:=by omega
 rw [hu]
 clear hu
 go_wp2
 (with_reducible refine HH.out.done _ Tryz.results282 _ ?_ ?_);rfl;omega
set_option maxHeartbeats 2000000 in
theorem l3Ins_2 (zs:List Int) (k:Nat) (hz:∀ j,0≤zs.getD j 0∧zs.getD j 0≤255) (v1:Int) (E1:Hid (zs.getD k 0=v1)) (z0:0≤v1) (z0':v1≤255) (HOP:Hid (∀ W:World,(W.alloc (.cells #[.int .i64 2,.int .i64 6,.int .i64 15,.int .i64 16,.int .i64 19,.int .i64 20,.int .i64 21,.int .i64 22,.int .i64 23,.int .i64 24,.int .i64 25,.int .i64 1,.int .i64 3,.int .i64 4,.int .i64 5,.int .i64 7,.int .i64 8,.int .i64 9,.int .i64 10,.int .i64 11,.int .i64 12,.int .i64 13,.int .i64 14,.int .i64 17,.int .i64 18] 3)).cell? ⟨W.heap.size,(v1 % 25).toNat,none⟩=some (.int .i64 2))):
 ∃ (d x i:Int) (k':Nat),(-1≤(2:Int)∧(2:Int)≤64∧-1≤d∧d≤10∧-1≤x∧x≤10∧-1≤i∧i≤65536)∧∀ (r:Nat) (a:Option Addr) (n c:Nat) (w:World) (h:Rdr w r a n c zs k) (hcode:n≠0→∀ b off,a=some ⟨b,off,none⟩→b<w.heap.size),Calls Tryz.prog 282 #[.pointer (some ⟨r,0,none⟩)] w (InsDr w r a n c zs 2 d x i k'):=by
 obtain ⟨v2,E2,z1,z1'⟩:=draw_of hz (k+1)
 obtain ⟨v3,E3,z2,z2'⟩:=draw_of hz (k+1+1)
 clear hz
 refine ⟨v2 % 4,0,v3 % 16,k+1+1+1,by omega,fun r a n c w h hcode=>?_⟩
 have hrw:=h.blk.lt
 have T0:Turn (fun j=>j=r) w (w.alloc (.cells #[.int .i64 0,.int .i64 0,.int .i64 0,.int .i64 0] 124)):=turn_alloc w _
 have kr0:=Blk.new w #[.int .i64 0,.int .i64 0,.int .i64 0,.int .i64 0] 124
 have h0:=rdr_below h ((Below.refl w.heap.size w).alloc (Nat.le_refl _) (.cells #[.int .i64 0,.int .i64 0,.int .i64 0,.int .i64 0] 124))
 clear h
 go_enter Tryz.func282,Tryz.ntmps282
 go_wp2_with fail
 refine (next_is r a n c zs k v1 _ h0 E1).mono ?_
 rintro e w1 ⟨rfl,h1,t1⟩
 have kr1:=turn_blk t1 kr0 (by omega)
 have T1:=T0.trans t1
 clear t1 kr0 T0 h0
 have hop:=HOP.out w1
 have kop:=Blk.new (w1.alloc (.cells #[.int .i64 2,.int .i64 6,.int .i64 15,.int .i64 16,.int .i64 19,.int .i64 20,.int .i64 21,.int .i64 22,.int .i64 23,.int .i64 24,.int .i64 25,.int .i64 1,.int .i64 3,.int .i64 4,.int .i64 5,.int .i64 7,.int .i64 8,.int .i64 9,.int .i64 10,.int .i64 11,.int .i64 12,.int .i64 13,.int .i64 14,.int .i64 17,.int .i64 18] 3)) #[.int .i64 2,.int .i64 0,.int .i64 0,.int .i64 0] 124
 have h1':=rdr_below (rdr_below h1 ((Below.refl w1.heap.size w1).alloc (Nat.le_refl _) (.cells #[.int .i64 2,.int .i64 6,.int .i64 15,.int .i64 16,.int .i64 19,.int .i64 20,.int .i64 21,.int .i64 22,.int .i64 23,.int .i64 24,.int .i64 25,.int .i64 1,.int .i64 3,.int .i64 4,.int .i64 5,.int .i64 7,.int .i64 8,.int .i64 9,.int .i64 10,.int .i64 11,.int .i64 12,.int .i64 13,.int .i64 14,.int .i64 17,.int .i64 18] 3))) ((Below.refl _ _).alloc (Nat.le_refl _) (.cells #[.int .i64 2,.int .i64 0,.int .i64 0,.int .i64 0] 124))
 have T1':=(T1.trans (turn_alloc w1 (.cells #[.int .i64 2,.int .i64 6,.int .i64 15,.int .i64 16,.int .i64 19,.int .i64 20,.int .i64 21,.int .i64 22,.int .i64 23,.int .i64 24,.int .i64 25,.int .i64 1,.int .i64 3,.int .i64 4,.int .i64 5,.int .i64 7,.int .i64 8,.int .i64 9,.int .i64 10,.int .i64 11,.int .i64 12,.int .i64 13,.int .i64 14,.int .i64 17,.int .i64 18] 3))).trans (turn_alloc _ (.cells #[.int .i64 2,.int .i64 0,.int .i64 0,.int .i64 0] 124))
 have kr1':=(kr1.alloc (.cells #[.int .i64 2,.int .i64 6,.int .i64 15,.int .i64 16,.int .i64 19,.int .i64 20,.int .i64 21,.int .i64 22,.int .i64 23,.int .i64 24,.int .i64 25,.int .i64 1,.int .i64 3,.int .i64 4,.int .i64 5,.int .i64 7,.int .i64 8,.int .i64 9,.int .i64 10,.int .i64 11,.int .i64 12,.int .i64 13,.int .i64 14,.int .i64 17,.int .i64 18] 3)).alloc (.cells #[.int .i64 2,.int .i64 0,.int .i64 0,.int .i64 0] 124)
 have hlt1:=kr1.lt
 clear kr1 T1 h1
 simp only [World.size_alloc] at kop
 go_wp2_with fail
 refine (next_is r a n c zs (k+1) v2 _ h1' E2).mono ?_
 rintro e w2 ⟨rfl,h2,t2⟩
 have kr2:=turn_blk t2 kr1' (by omega)
 have ko2:=turn_blk t2 kop (by omega)
 have T2:=T1'.trans t2
 have hz2:=t2.size
 simp only [World.size_alloc] at hz2
 clear t2 kr1' T1' h1' kop hop
 obtain ⟨q1,q2,q3,q4,q5⟩:=ko2.four'
 obtain ⟨p1,p2,p3,p4,p5⟩:=kr2.four'
 go_wp2_with fail
 refine (l3Uses_any 2 _).mono ?_
 rintro e wx ⟨rfl,rfl⟩
 have H:Is w w2 r a n c zs (k+1+1) (w1.heap.size+1) 2 0 0 0:=⟨kr2,ko2,h2,T2,by omega,hrw,hcode⟩
 have HH:=hide H
 clear H kr2 ko2 h2 T2 hcode
 have hbig:w.heap.size<w1.heap.size+1:=by omega
 have hlt2:w1.heap.size+1<w2.heap.size:=by omega
 have hlt3:w.heap.size<w2.heap.size:=by omega
 rw [show us 2=5 from by decide]
 have N:=(HH.out.set1 (v2 % 4))
 go_wp2_with fail
 refine (next_is r a n c zs (k+1+1) v3 _ N.rd E3).mono ?_
 rintro e w3 ⟨rfl,hr3,t3⟩
 have N3:=N.next hr3 t3
 have hz3:=t3.size
 try simp only [World.size_alloc,size_setCell] at hz3
 clear N hr3 t3 q1 q2 q3 q4 q5 p1 p2 p3 p4 p5 HH
 obtain ⟨q1,q2,q3,q4,q5⟩:=N3.ins.four'
 obtain ⟨p1,p2,p3,p4,p5⟩:=N3.res.four'
 have HN:=hide N3
 clear N3
 go_wp2
 (with_reducible refine (HN.out.set3 (v3 % 16)).done _ Tryz.results282 _ ?_ ?_);rfl;omega
set_option maxHeartbeats 2000000 in
theorem l3Ins_3 (zs:List Int) (k:Nat) (hz:∀ j,0≤zs.getD j 0∧zs.getD j 0≤255) (v1:Int) (E1:Hid (zs.getD k 0=v1)) (z0:0≤v1) (z0':v1≤255) (HOP:Hid (∀ W:World,(W.alloc (.cells #[.int .i64 2,.int .i64 6,.int .i64 15,.int .i64 16,.int .i64 19,.int .i64 20,.int .i64 21,.int .i64 22,.int .i64 23,.int .i64 24,.int .i64 25,.int .i64 1,.int .i64 3,.int .i64 4,.int .i64 5,.int .i64 7,.int .i64 8,.int .i64 9,.int .i64 10,.int .i64 11,.int .i64 12,.int .i64 13,.int .i64 14,.int .i64 17,.int .i64 18] 3)).cell? ⟨W.heap.size,(v1 % 25).toNat,none⟩=some (.int .i64 3))):
 ∃ (d x i:Int) (k':Nat),(-1≤(3:Int)∧(3:Int)≤64∧-1≤d∧d≤10∧-1≤x∧x≤10∧-1≤i∧i≤65536)∧∀ (r:Nat) (a:Option Addr) (n c:Nat) (w:World) (h:Rdr w r a n c zs k) (hcode:n≠0→∀ b off,a=some ⟨b,off,none⟩→b<w.heap.size),Calls Tryz.prog 282 #[.pointer (some ⟨r,0,none⟩)] w (InsDr w r a n c zs 3 d x i k'):=by
 obtain ⟨v2,E2,z1,z1'⟩:=draw_of hz (k+1)
 obtain ⟨v3,E3,z2,z2'⟩:=draw_of hz (k+1+1)
 clear hz
 refine ⟨v2 % 4,0,v3 % 16,k+1+1+1,by omega,fun r a n c w h hcode=>?_⟩
 have hrw:=h.blk.lt
 have T0:Turn (fun j=>j=r) w (w.alloc (.cells #[.int .i64 0,.int .i64 0,.int .i64 0,.int .i64 0] 124)):=turn_alloc w _
 have kr0:=Blk.new w #[.int .i64 0,.int .i64 0,.int .i64 0,.int .i64 0] 124
 have h0:=rdr_below h ((Below.refl w.heap.size w).alloc (Nat.le_refl _) (.cells #[.int .i64 0,.int .i64 0,.int .i64 0,.int .i64 0] 124))
 clear h
 go_enter Tryz.func282,Tryz.ntmps282
 go_wp2_with fail
 refine (next_is r a n c zs k v1 _ h0 E1).mono ?_
 rintro e w1 ⟨rfl,h1,t1⟩
 have kr1:=turn_blk t1 kr0 (by omega)
 have T1:=T0.trans t1
 clear t1 kr0 T0 h0
 have hop:=HOP.out w1
 have kop:=Blk.new (w1.alloc (.cells #[.int .i64 2,.int .i64 6,.int .i64 15,.int .i64 16,.int .i64 19,.int .i64 20,.int .i64 21,.int .i64 22,.int .i64 23,.int .i64 24,.int .i64 25,.int .i64 1,.int .i64 3,.int .i64 4,.int .i64 5,.int .i64 7,.int .i64 8,.int .i64 9,.int .i64 10,.int .i64 11,.int .i64 12,.int .i64 13,.int .i64 14,.int .i64 17,.int .i64 18] 3)) #[.int .i64 3,.int .i64 0,.int .i64 0,.int .i64 0] 124
 have h1':=rdr_below (rdr_below h1 ((Below.refl w1.heap.size w1).alloc (Nat.le_refl _) (.cells #[.int .i64 2,.int .i64 6,.int .i64 15,.int .i64 16,.int .i64 19,.int .i64 20,.int .i64 21,.int .i64 22,.int .i64 23,.int .i64 24,.int .i64 25,.int .i64 1,.int .i64 3,.int .i64 4,.int .i64 5,.int .i64 7,.int .i64 8,.int .i64 9,.int .i64 10,.int .i64 11,.int .i64 12,.int .i64 13,.int .i64 14,.int .i64 17,.int .i64 18] 3))) ((Below.refl _ _).alloc (Nat.le_refl _) (.cells #[.int .i64 3,.int .i64 0,.int .i64 0,.int .i64 0] 124))
 have T1':=(T1.trans (turn_alloc w1 (.cells #[.int .i64 2,.int .i64 6,.int .i64 15,.int .i64 16,.int .i64 19,.int .i64 20,.int .i64 21,.int .i64 22,.int .i64 23,.int .i64 24,.int .i64 25,.int .i64 1,.int .i64 3,.int .i64 4,.int .i64 5,.int .i64 7,.int .i64 8,.int .i64 9,.int .i64 10,.int .i64 11,.int .i64 12,.int .i64 13,.int .i64 14,.int .i64 17,.int .i64 18] 3))).trans (turn_alloc _ (.cells #[.int .i64 3,.int .i64 0,.int .i64 0,.int .i64 0] 124))
 have kr1':=(kr1.alloc (.cells #[.int .i64 2,.int .i64 6,.int .i64 15,.int .i64 16,.int .i64 19,.int .i64 20,.int .i64 21,.int .i64 22,.int .i64 23,.int .i64 24,.int .i64 25,.int .i64 1,.int .i64 3,.int .i64 4,.int .i64 5,.int .i64 7,.int .i64 8,.int .i64 9,.int .i64 10,.int .i64 11,.int .i64 12,.int .i64 13,.int .i64 14,.int .i64 17,.int .i64 18] 3)).alloc (.cells #[.int .i64 3,.int .i64 0,.int .i64 0,.int .i64 0] 124)
 have hlt1:=kr1.lt
 clear kr1 T1 h1
 simp only [World.size_alloc] at kop
 go_wp2_with fail
 refine (next_is r a n c zs (k+1) v2 _ h1' E2).mono ?_
 rintro e w2 ⟨rfl,h2,t2⟩
 have kr2:=turn_blk t2 kr1' (by omega)
 have ko2:=turn_blk t2 kop (by omega)
 have T2:=T1'.trans t2
 have hz2:=t2.size
 simp only [World.size_alloc] at hz2
 clear t2 kr1' T1' h1' kop hop
 obtain ⟨q1,q2,q3,q4,q5⟩:=ko2.four'
 obtain ⟨p1,p2,p3,p4,p5⟩:=kr2.four'
 go_wp2_with fail
 refine (l3Uses_any 3 _).mono ?_
 rintro e wx ⟨rfl,rfl⟩
 have H:Is w w2 r a n c zs (k+1+1) (w1.heap.size+1) 3 0 0 0:=⟨kr2,ko2,h2,T2,by omega,hrw,hcode⟩
 have HH:=hide H
 clear H kr2 ko2 h2 T2 hcode
 have hbig:w.heap.size<w1.heap.size+1:=by omega
 have hlt2:w1.heap.size+1<w2.heap.size:=by omega
 have hlt3:w.heap.size<w2.heap.size:=by omega
 rw [show us 3=5 from by decide]
 have N:=(HH.out.set1 (v2 % 4))
 go_wp2_with fail
 refine (next_is r a n c zs (k+1+1) v3 _ N.rd E3).mono ?_
 rintro e w3 ⟨rfl,hr3,t3⟩
 have N3:=N.next hr3 t3
 have hz3:=t3.size
 try simp only [World.size_alloc,size_setCell] at hz3
 clear N hr3 t3 q1 q2 q3 q4 q5 p1 p2 p3 p4 p5 HH
 obtain ⟨q1,q2,q3,q4,q5⟩:=N3.ins.four'
 obtain ⟨p1,p2,p3,p4,p5⟩:=N3.res.four'
 have HN:=hide N3
 clear N3
 go_wp2
 (with_reducible refine (HN.out.set3 (v3 % 16)).done _ Tryz.results282 _ ?_ ?_);rfl;omega
set_option maxHeartbeats 2000000 in
theorem l3Ins_6 (zs:List Int) (k:Nat) (hz:∀ j,0≤zs.getD j 0∧zs.getD j 0≤255) (v1:Int) (E1:Hid (zs.getD k 0=v1)) (z0:0≤v1) (z0':v1≤255) (HOP:Hid (∀ W:World,(W.alloc (.cells #[.int .i64 2,.int .i64 6,.int .i64 15,.int .i64 16,.int .i64 19,.int .i64 20,.int .i64 21,.int .i64 22,.int .i64 23,.int .i64 24,.int .i64 25,.int .i64 1,.int .i64 3,.int .i64 4,.int .i64 5,.int .i64 7,.int .i64 8,.int .i64 9,.int .i64 10,.int .i64 11,.int .i64 12,.int .i64 13,.int .i64 14,.int .i64 17,.int .i64 18] 3)).cell? ⟨W.heap.size,(v1 % 25).toNat,none⟩=some (.int .i64 6))):
 ∃ (d x i:Int) (k':Nat),(-1≤(6:Int)∧(6:Int)≤64∧-1≤d∧d≤10∧-1≤x∧x≤10∧-1≤i∧i≤65536)∧∀ (r:Nat) (a:Option Addr) (n c:Nat) (w:World) (h:Rdr w r a n c zs k) (hcode:n≠0→∀ b off,a=some ⟨b,off,none⟩→b<w.heap.size),Calls Tryz.prog 282 #[.pointer (some ⟨r,0,none⟩)] w (InsDr w r a n c zs 6 d x i k'):=by
 obtain ⟨v2,E2,z1,z1'⟩:=draw_of hz (k+1)
 obtain ⟨v3,E3,z2,z2'⟩:=draw_of hz (k+1+1)
 clear hz
 obtain ⟨A,hA0,hA1,hAT⟩:=aTab_at (v2 / 4 % 8).toNat (by omega)
 have HAT:=hide hAT
 clear hAT
 by_cases hA6:A=6
 ·have HCD:=hide hA6
  clear hA6
  refine ⟨v2 % 4,A,v3 % 16,k+1+1+1,by omega,fun r a n c w h hcode=>?_⟩
  have hrw:=h.blk.lt
  have T0:Turn (fun j=>j=r) w (w.alloc (.cells #[.int .i64 0,.int .i64 0,.int .i64 0,.int .i64 0] 124)):=turn_alloc w _
  have kr0:=Blk.new w #[.int .i64 0,.int .i64 0,.int .i64 0,.int .i64 0] 124
  have h0:=rdr_below h ((Below.refl w.heap.size w).alloc (Nat.le_refl _) (.cells #[.int .i64 0,.int .i64 0,.int .i64 0,.int .i64 0] 124))
  clear h
  go_enter Tryz.func282,Tryz.ntmps282
  go_wp2_with fail
  refine (next_is r a n c zs k v1 _ h0 E1).mono ?_
  rintro e w1 ⟨rfl,h1,t1⟩
  have kr1:=turn_blk t1 kr0 (by omega)
  have T1:=T0.trans t1
  clear t1 kr0 T0 h0
  have hop:=HOP.out w1
  have kop:=Blk.new (w1.alloc (.cells #[.int .i64 2,.int .i64 6,.int .i64 15,.int .i64 16,.int .i64 19,.int .i64 20,.int .i64 21,.int .i64 22,.int .i64 23,.int .i64 24,.int .i64 25,.int .i64 1,.int .i64 3,.int .i64 4,.int .i64 5,.int .i64 7,.int .i64 8,.int .i64 9,.int .i64 10,.int .i64 11,.int .i64 12,.int .i64 13,.int .i64 14,.int .i64 17,.int .i64 18] 3)) #[.int .i64 6,.int .i64 0,.int .i64 0,.int .i64 0] 124
  have h1':=rdr_below (rdr_below h1 ((Below.refl w1.heap.size w1).alloc (Nat.le_refl _) (.cells #[.int .i64 2,.int .i64 6,.int .i64 15,.int .i64 16,.int .i64 19,.int .i64 20,.int .i64 21,.int .i64 22,.int .i64 23,.int .i64 24,.int .i64 25,.int .i64 1,.int .i64 3,.int .i64 4,.int .i64 5,.int .i64 7,.int .i64 8,.int .i64 9,.int .i64 10,.int .i64 11,.int .i64 12,.int .i64 13,.int .i64 14,.int .i64 17,.int .i64 18] 3))) ((Below.refl _ _).alloc (Nat.le_refl _) (.cells #[.int .i64 6,.int .i64 0,.int .i64 0,.int .i64 0] 124))
  have T1':=(T1.trans (turn_alloc w1 (.cells #[.int .i64 2,.int .i64 6,.int .i64 15,.int .i64 16,.int .i64 19,.int .i64 20,.int .i64 21,.int .i64 22,.int .i64 23,.int .i64 24,.int .i64 25,.int .i64 1,.int .i64 3,.int .i64 4,.int .i64 5,.int .i64 7,.int .i64 8,.int .i64 9,.int .i64 10,.int .i64 11,.int .i64 12,.int .i64 13,.int .i64 14,.int .i64 17,.int .i64 18] 3))).trans (turn_alloc _ (.cells #[.int .i64 6,.int .i64 0,.int .i64 0,.int .i64 0] 124))
  have kr1':=(kr1.alloc (.cells #[.int .i64 2,.int .i64 6,.int .i64 15,.int .i64 16,.int .i64 19,.int .i64 20,.int .i64 21,.int .i64 22,.int .i64 23,.int .i64 24,.int .i64 25,.int .i64 1,.int .i64 3,.int .i64 4,.int .i64 5,.int .i64 7,.int .i64 8,.int .i64 9,.int .i64 10,.int .i64 11,.int .i64 12,.int .i64 13,.int .i64 14,.int .i64 17,.int .i64 18] 3)).alloc (.cells #[.int .i64 6,.int .i64 0,.int .i64 0,.int .i64 0] 124)
  have hlt1:=kr1.lt
  clear kr1 T1 h1
  simp only [World.size_alloc] at kop
  go_wp2_with fail
  refine (next_is r a n c zs (k+1) v2 _ h1' E2).mono ?_
  rintro e w2 ⟨rfl,h2,t2⟩
  have kr2:=turn_blk t2 kr1' (by omega)
  have ko2:=turn_blk t2 kop (by omega)
  have T2:=T1'.trans t2
  have hz2:=t2.size
  simp only [World.size_alloc] at hz2
  clear t2 kr1' T1' h1' kop hop
  obtain ⟨q1,q2,q3,q4,q5⟩:=ko2.four'
  obtain ⟨p1,p2,p3,p4,p5⟩:=kr2.four'
  go_wp2_with fail
  refine (l3Uses_any 6 _).mono ?_
  rintro e wx ⟨rfl,rfl⟩
  have H:Is w w2 r a n c zs (k+1+1) (w1.heap.size+1) 6 0 0 0:=⟨kr2,ko2,h2,T2,by omega,hrw,hcode⟩
  have HH:=hide H
  clear H kr2 ko2 h2 T2 hcode
  have hbig:w.heap.size<w1.heap.size+1:=by omega
  have hlt2:w1.heap.size+1<w2.heap.size:=by omega
  have hlt3:w.heap.size<w2.heap.size:=by omega
  rw [show us 6=7 from by decide]
  have hA:=HAT.out (w2.setCell ⟨w1.heap.size+1,1,none⟩ (.int .i64 (v2 % 4)))
  simp only [size_setCell] at hA
  have N:=(((HH.out.set1 (v2 % 4)).set2 A).more (.cells #[.int .i64 7,.int .i64 6,.int .i64 0,.int .i64 1,.int .i64 2,.int .i64 7,.int .i64 6,.int .i64 3] 3))
  go_wp2_with fail
  refine (next_is r a n c zs (k+1+1) v3 _ N.rd E3).mono ?_
  rintro e w3 ⟨rfl,hr3,t3⟩
  have N3:=N.next hr3 t3
  have hz3:=t3.size
  try simp only [World.size_alloc,size_setCell] at hz3
  clear N hr3 t3 q1 q2 q3 q4 q5 p1 p2 p3 p4 p5 HH hA
  obtain ⟨q1,q2,q3,q4,q5⟩:=N3.ins.four'
  obtain ⟨p1,p2,p3,p4,p5⟩:=N3.res.four'
  have HN:=hide N3
  clear N3
  have hA6:=HCD.out
  subst hA6
  go_wp2
  (with_reducible refine (HN.out.set3 (v3 % 16)).done _ Tryz.results282 _ ?_ ?_);rfl;omega
 ·have HCD:=hide hA6
  clear hA6
  refine ⟨v2 % 4,A,v3 % 16,k+1+1+1,by omega,fun r a n c w h hcode=>?_⟩
  have hrw:=h.blk.lt
  have T0:Turn (fun j=>j=r) w (w.alloc (.cells #[.int .i64 0,.int .i64 0,.int .i64 0,.int .i64 0] 124)):=turn_alloc w _
  have kr0:=Blk.new w #[.int .i64 0,.int .i64 0,.int .i64 0,.int .i64 0] 124
  have h0:=rdr_below h ((Below.refl w.heap.size w).alloc (Nat.le_refl _) (.cells #[.int .i64 0,.int .i64 0,.int .i64 0,.int .i64 0] 124))
  clear h
  go_enter Tryz.func282,Tryz.ntmps282
  go_wp2_with fail
  refine (next_is r a n c zs k v1 _ h0 E1).mono ?_
  rintro e w1 ⟨rfl,h1,t1⟩
  have kr1:=turn_blk t1 kr0 (by omega)
  have T1:=T0.trans t1
  clear t1 kr0 T0 h0
  have hop:=HOP.out w1
  have kop:=Blk.new (w1.alloc (.cells #[.int .i64 2,.int .i64 6,.int .i64 15,.int .i64 16,.int .i64 19,.int .i64 20,.int .i64 21,.int .i64 22,.int .i64 23,.int .i64 24,.int .i64 25,.int .i64 1,.int .i64 3,.int .i64 4,.int .i64 5,.int .i64 7,.int .i64 8,.int .i64 9,.int .i64 10,.int .i64 11,.int .i64 12,.int .i64 13,.int .i64 14,.int .i64 17,.int .i64 18] 3)) #[.int .i64 6,.int .i64 0,.int .i64 0,.int .i64 0] 124
  have h1':=rdr_below (rdr_below h1 ((Below.refl w1.heap.size w1).alloc (Nat.le_refl _) (.cells #[.int .i64 2,.int .i64 6,.int .i64 15,.int .i64 16,.int .i64 19,.int .i64 20,.int .i64 21,.int .i64 22,.int .i64 23,.int .i64 24,.int .i64 25,.int .i64 1,.int .i64 3,.int .i64 4,.int .i64 5,.int .i64 7,.int .i64 8,.int .i64 9,.int .i64 10,.int .i64 11,.int .i64 12,.int .i64 13,.int .i64 14,.int .i64 17,.int .i64 18] 3))) ((Below.refl _ _).alloc (Nat.le_refl _) (.cells #[.int .i64 6,.int .i64 0,.int .i64 0,.int .i64 0] 124))
  have T1':=(T1.trans (turn_alloc w1 (.cells #[.int .i64 2,.int .i64 6,.int .i64 15,.int .i64 16,.int .i64 19,.int .i64 20,.int .i64 21,.int .i64 22,.int .i64 23,.int .i64 24,.int .i64 25,.int .i64 1,.int .i64 3,.int .i64 4,.int .i64 5,.int .i64 7,.int .i64 8,.int .i64 9,.int .i64 10,.int .i64 11,.int .i64 12,.int .i64 13,.int .i64 14,.int .i64 17,.int .i64 18] 3))).trans (turn_alloc _ (.cells #[.int .i64 6,.int .i64 0,.int .i64 0,.int .i64 0] 124))
  have kr1':=(kr1.alloc (.cells #[.int .i64 2,.int .i64 6,.int .i64 15,.int .i64 16,.int .i64 19,.int .i64 20,.int .i64 21,.int .i64 22,.int .i64 23,.int .i64 24,.int .i64 25,.int .i64 1,.int .i64 3,.int .i64 4,.int .i64 5,.int .i64 7,.int .i64 8,.int .i64 9,.int .i64 10,.int .i64 11,.int .i64 12,.int .i64 13,.int .i64 14,.int .i64 17,.int .i64 18] 3)).alloc (.cells #[.int .i64 6,.int .i64 0,.int .i64 0,.int .i64 0] 124)
  have hlt1:=kr1.lt
  clear kr1 T1 h1
  simp only [World.size_alloc] at kop
  go_wp2_with fail
  refine (next_is r a n c zs (k+1) v2 _ h1' E2).mono ?_
  rintro e w2 ⟨rfl,h2,t2⟩
  have kr2:=turn_blk t2 kr1' (by omega)
  have ko2:=turn_blk t2 kop (by omega)
  have T2:=T1'.trans t2
  have hz2:=t2.size
  simp only [World.size_alloc] at hz2
  clear t2 kr1' T1' h1' kop hop
  obtain ⟨q1,q2,q3,q4,q5⟩:=ko2.four'
  obtain ⟨p1,p2,p3,p4,p5⟩:=kr2.four'
  go_wp2_with fail
  refine (l3Uses_any 6 _).mono ?_
  rintro e wx ⟨rfl,rfl⟩
  have H:Is w w2 r a n c zs (k+1+1) (w1.heap.size+1) 6 0 0 0:=⟨kr2,ko2,h2,T2,by omega,hrw,hcode⟩
  have HH:=hide H
  clear H kr2 ko2 h2 T2 hcode
  have hbig:w.heap.size<w1.heap.size+1:=by omega
  have hlt2:w1.heap.size+1<w2.heap.size:=by omega
  have hlt3:w.heap.size<w2.heap.size:=by omega
  rw [show us 6=7 from by decide]
  have hA:=HAT.out (w2.setCell ⟨w1.heap.size+1,1,none⟩ (.int .i64 (v2 % 4)))
  simp only [size_setCell] at hA
  have N:=(((HH.out.set1 (v2 % 4)).set2 A).more (.cells #[.int .i64 7,.int .i64 6,.int .i64 0,.int .i64 1,.int .i64 2,.int .i64 7,.int .i64 6,.int .i64 3] 3))
  go_wp2_with fail
  refine (next_is r a n c zs (k+1+1) v3 _ N.rd E3).mono ?_
  rintro e w3 ⟨rfl,hr3,t3⟩
  have N3:=N.next hr3 t3
  have hz3:=t3.size
  try simp only [World.size_alloc,size_setCell] at hz3
  clear N hr3 t3 q1 q2 q3 q4 q5 p1 p2 p3 p4 p5 HH hA
  obtain ⟨q1,q2,q3,q4,q5⟩:=N3.ins.four'
  obtain ⟨p1,p2,p3,p4,p5⟩:=N3.res.four'
  have HN:=hide N3
  clear N3
  have hA6:=HCD.out
  have hA6:(A == 6)=false:=by simpa using hA6
  go_wp2
  (with_reducible refine (HN.out.set3 (v3 % 16)).done _ Tryz.results282 _ ?_ ?_);rfl;omega
end Go.Proofs.YtngdgogjlpjjpadGreat
namespace Go.Proofs.YtngdgogjlpjjpadGreat
open Go.RowKit
set_option linter.unusedVariables false
set_option linter.unusedSimpArgs false
set_option maxRecDepth 100000
structure Stay (w:World) (g:Nat) (A:World→Prop):Prop where
 turn:∀ W W',A W→Turn (fun j=>j=g) W W'→A W'
 set:∀ W k i v,k≤w.heap.size+1→A W→A (W.setCell ⟨k,i,none⟩ v)
theorem Stay.and {w:World} {g:Nat} {A B:World→Prop} (a:Stay w g A) (b:Stay w g B):Stay w g (fun W=>A W∧B W):=
 ⟨fun W W' h t=>⟨a.turn W W' h.1 t,b.turn W W' h.2 t⟩,fun W k i v hk h=>⟨a.set W k i v hk h.1,b.set W k i v hk h.2⟩⟩
def st8 (W:World) (k:Nat) (v0 v1 v2 v3 v4 v5 v6 v7:Value):World:=(((((((W.setCell ⟨k,0,none⟩ v0).setCell ⟨k,1,none⟩ v1).setCell ⟨k,2,none⟩ v2).setCell ⟨k,3,none⟩ v3).setCell ⟨k,4,none⟩ v4).setCell ⟨k,5,none⟩ v5).setCell ⟨k,6,none⟩ v6).setCell ⟨k,7,none⟩ v7
theorem Stay.st8 {w W:World} {g:Nat} {A:World→Prop} (a:Stay w g A) (h:A W) (v0 v1 v2 v3 v4 v5 v6 v7:Value):A (st8 W w.heap.size v0 v1 v2 v3 v4 v5 v6 v7):=
 a.set _ _ _ _ (by omega) (a.set _ _ _ _ (by omega) (a.set _ _ _ _ (by omega) (a.set _ _ _ _ (by omega) (a.set _ _ _ _ (by omega) (a.set _ _ _ _ (by omega) (a.set _ _ _ _ (by omega) (a.set _ _ _ _ (by omega) h)))))))
theorem Blk.eight' {w:World} {g:Nat} {v0 v1 v2 v3 v4 v5 v6 v7:Value} {t:TypeId} (h:Blk w g #[v0,v1,v2,v3,v4,v5,v6,v7] t):w.cell? ⟨g,0,none⟩=some v0∧w.cell? ⟨g,1,none⟩=some v1∧w.cell? ⟨g,2,none⟩=some v2∧w.cell? ⟨g,3,none⟩=some v3∧w.cell? ⟨g,4,none⟩=some v4∧w.cell? ⟨g,5,none⟩=some v5∧w.cell? ⟨g,6,none⟩=some v6∧w.cell? ⟨g,7,none⟩=some v7:=
 ⟨h.cell 0,h.cell 1,h.cell 2,h.cell 3,h.cell 4,h.cell 5,h.cell 6,h.cell 7⟩
theorem Blk.froz {w:World} {g:Nat} {cs:Array Value} {t:TypeId} (h:Blk w g cs t):w.frozen? ⟨g,0,none⟩=false∧w.frozen? ⟨g,1,none⟩=false∧w.frozen? ⟨g,2,none⟩=false∧w.frozen? ⟨g,3,none⟩=false∧w.frozen? ⟨g,4,none⟩=false∧w.frozen? ⟨g,5,none⟩=false∧w.frozen? ⟨g,6,none⟩=false∧w.frozen? ⟨g,7,none⟩=false:=
 ⟨h.frozen 0,h.frozen 1,h.frozen 2,h.frozen 3,h.frozen 4,h.frozen 5,h.frozen 6,h.frozen 7⟩
structure ModO (W:World) (base:Nat) (P:PMod) (a1:Option Addr) (c1:Nat) (a2:Option Addr) (c2:Nat) (bl:List Bk) (a3:Option Addr) (c3:Nat) (a5:Option Addr) (c5:Nat) (a6:Option Addr) (c6:Nat) (a7:Option Addr) (c7:Nat):Prop where
 t:OG 3 1 clI W base (.slice a1 P.tz.length c1) P.tz
 b:OBk W base (.slice a2 bl.length c2) bl
 bls:bl.map (fun B=>B.2.2.2)=P.bl
 d:OB W base (.slice a3 P.dz.length c3) P.dz
 r:OG 3 1 clI W base (.slice a5 P.rz.length c5) P.rz
 i:OG 9 1 clT W base (.slice a6 P.ss.length c6) P.ss
 e:OG 210 3 clX W base (.slice a7 P.es.length c7) P.es
 tb:∀ k,(Value.slice a1 P.tz.length c1).ownBlock=some k→∀ B ∈ bl,(Value.slice B.1 B.2.1 B.2.2.1).ownBlock≠some k
 tr:∀ k,(Value.slice a1 P.tz.length c1).ownBlock=some k→(Value.slice a5 P.rz.length c5).ownBlock≠some k
 br:∀ k,(Value.slice a5 P.rz.length c5).ownBlock=some k→∀ B ∈ bl,(Value.slice B.1 B.2.1 B.2.2.1).ownBlock≠some k
def modV (P:PMod) (a1:Option Addr) (c1:Nat) (a2:Option Addr) (c2:Nat) (bl:List Bk) (a3:Option Addr) (c3:Nat) (a5:Option Addr) (c5:Nat) (a6:Option Addr) (c6:Nat) (a7:Option Addr) (c7:Nat):Array Value:=#[.string P.nm,.slice a1 P.tz.length c1,.slice a2 bl.length c2,.slice a3 P.dz.length c3,.int .i64 P.bss,.slice a5 P.rz.length c5,.slice a6 P.ss.length c6,.slice a7 P.es.length c7]
def z8:Array Value:=#[.string ⟨#[]⟩,.slice none 0 0,.slice none 0 0,.slice none 0 0,.int .i64 0,.slice none 0 0,.slice none 0 0,.slice none 0 0]
theorem array8' {cs:Array Value} (h:cs.size=8):∃ c0 c1 c2 c3 c4 c5 c6 c7,cs=#[c0,c1,c2,c3,c4,c5,c6,c7]:=by
 obtain ⟨l⟩:=cs
 match l,h with
 | [a,b,c,d,e,f,g,i],_=>exact ⟨a,b,c,d,e,f,g,i,rfl⟩
end Go.Proofs.YtngdgogjlpjjpadGreat
