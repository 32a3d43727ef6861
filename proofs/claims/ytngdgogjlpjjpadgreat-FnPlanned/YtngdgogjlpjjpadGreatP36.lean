import Derived.Test.YtngdgogjlpjjpadGreatP15
namespace Go.Proofs.YtngdgogjlpjjpadGreat
open Go.RowKit
set_option linter.unusedVariables false
set_option linter.unusedSimpArgs false
set_option maxHeartbeats 2000000 in
theorem l3Ins_23 (zs:List Int) (k:Nat) (hz:∀ j,0≤zs.getD j 0∧zs.getD j 0≤255) (v1:Int) (E1:Hid (zs.getD k 0=v1)) (z0:0≤v1) (z0':v1≤255) (HOP:Hid (∀ W:World,(W.alloc (.cells #[.int .i64 2,.int .i64 6,.int .i64 15,.int .i64 16,.int .i64 19,.int .i64 20,.int .i64 21,.int .i64 22,.int .i64 23,.int .i64 24,.int .i64 25,.int .i64 1,.int .i64 3,.int .i64 4,.int .i64 5,.int .i64 7,.int .i64 8,.int .i64 9,.int .i64 10,.int .i64 11,.int .i64 12,.int .i64 13,.int .i64 14,.int .i64 17,.int .i64 18] 3)).cell? ⟨W.heap.size,(v1 % 25).toNat,none⟩=some (.int .i64 23))):
 ∃ (d x i:Int) (k':Nat),(-1≤(23:Int)∧(23:Int)≤64∧-1≤d∧d≤10∧-1≤x∧x≤10∧-1≤i∧i≤65536)∧∀ (r:Nat) (a:Option Addr) (n c:Nat) (w:World) (h:Rdr w r a n c zs k) (hcode:n≠0→∀ b off,a=some ⟨b,off,none⟩→b<w.heap.size),Calls Tryz.prog 282 #[.pointer (some ⟨r,0,none⟩)] w (InsDr w r a n c zs 23 d x i k'):=by
 obtain ⟨v2,E2,z1,z1'⟩:=draw_of hz (k+1)
 obtain ⟨v3,E3,z2,z2'⟩:=draw_of hz (k+1+1)
 clear hz
 by_cases hv:224≤v2
 ·have HCD:=hide hv
  clear hv
  refine ⟨0,0,65535 - v3 % 4,k+1+1+1,by omega,fun r a n c w h hcode=>?_⟩
  have hrw:=h.blk.lt
  have T0:Turn (fun j=>j=r) w (w.alloc (.cells #[.int .i64 0,.int .i64 0,.int .i64 0,.int .i64 0] 124)):=turn_alloc w _
  have kr0:=Blk.new w #[.int .i64 0,.int .i64 0,.int .i64 0,.int .i64 0] 124
  have h0:=rdr_below h ((Below.refl w.heap.size w).alloc (Nat.le_refl _) (.cells #[.int .i64 0,.int .i64 0,.int .i64 0,.int .i64 0] 124))
  clear h
  go_enter Tryz.func282,Tryz.ntmps282
  go_wp2_with fail
  refine (next_is r a n c zs k v1 _ h0 E1).mono ?_
  rintro e w1 ⟨rfl,h1,t1⟩
  have kr1:=turn_blk t1 kr0 (by omega)
  have T1:=T0.trans t1
  clear t1 kr0 T0 h0
  have hop:=HOP.out w1
  have kop:=Blk.new (w1.alloc (.cells #[.int .i64 2,.int .i64 6,.int .i64 15,.int .i64 16,.int .i64 19,.int .i64 20,.int .i64 21,.int .i64 22,.int .i64 23,.int .i64 24,.int .i64 25,.int .i64 1,.int .i64 3,.int .i64 4,.int .i64 5,.int .i64 7,.int .i64 8,.int .i64 9,.int .i64 10,.int .i64 11,.int .i64 12,.int .i64 13,.int .i64 14,.int .i64 17,.int .i64 18] 3)) #[.int .i64 23,.int .i64 0,.int .i64 0,.int .i64 0] 124
  have h1':=rdr_below (rdr_below h1 ((Below.refl w1.heap.size w1).alloc (Nat.le_refl _) (.cells #[.int .i64 2,.int .i64 6,.int .i64 15,.int .i64 16,.int .i64 19,.int .i64 20,.int .i64 21,.int .i64 22,.int .i64 23,.int .i64 24,.int .i64 25,.int .i64 1,.int .i64 3,.int .i64 4,.int .i64 5,.int .i64 7,.int .i64 8,.int .i64 9,.int .i64 10,.int .i64 11,.int .i64 12,.int .i64 13,.int .i64 14,.int .i64 17,.int .i64 18] 3))) ((Below.refl _ _).alloc (Nat.le_refl _) (.cells #[.int .i64 23,.int .i64 0,.int .i64 0,.int .i64 0] 124))
  have T1':=(T1.trans (turn_alloc w1 (.cells #[.int .i64 2,.int .i64 6,.int .i64 15,.int .i64 16,.int .i64 19,.int .i64 20,.int .i64 21,.int .i64 22,.int .i64 23,.int .i64 24,.int .i64 25,.int .i64 1,.int .i64 3,.int .i64 4,.int .i64 5,.int .i64 7,.int .i64 8,.int .i64 9,.int .i64 10,.int .i64 11,.int .i64 12,.int .i64 13,.int .i64 14,.int .i64 17,.int .i64 18] 3))).trans (turn_alloc _ (.cells #[.int .i64 23,.int .i64 0,.int .i64 0,.int .i64 0] 124))
  have kr1':=(kr1.alloc (.cells #[.int .i64 2,.int .i64 6,.int .i64 15,.int .i64 16,.int .i64 19,.int .i64 20,.int .i64 21,.int .i64 22,.int .i64 23,.int .i64 24,.int .i64 25,.int .i64 1,.int .i64 3,.int .i64 4,.int .i64 5,.int .i64 7,.int .i64 8,.int .i64 9,.int .i64 10,.int .i64 11,.int .i64 12,.int .i64 13,.int .i64 14,.int .i64 17,.int .i64 18] 3)).alloc (.cells #[.int .i64 23,.int .i64 0,.int .i64 0,.int .i64 0] 124)
  have hlt1:=kr1.lt
  clear kr1 T1 h1
  simp only [World.size_alloc] at kop
  go_wp2_with fail
  refine (next_is r a n c zs (k+1) v2 _ h1' E2).mono ?_
  rintro e w2 ⟨rfl,h2,t2⟩
  have kr2:=turn_blk t2 kr1' (by omega)
  have ko2:=turn_blk t2 kop (by omega)
  have T2:=T1'.trans t2
  have hz2:=t2.size
  simp only [World.size_alloc] at hz2
  clear t2 kr1' T1' h1' kop hop
  obtain ⟨q1,q2,q3,q4,q5⟩:=ko2.four'
  obtain ⟨p1,p2,p3,p4,p5⟩:=kr2.four'
  go_wp2_with fail
  refine (l3Uses_any 23 _).mono ?_
  rintro e wx ⟨rfl,rfl⟩
  have H:Is w w2 r a n c zs (k+1+1) (w1.heap.size+1) 23 0 0 0:=⟨kr2,ko2,h2,T2,by omega,hrw,hcode⟩
  have HH:=hide H
  clear H kr2 ko2 h2 T2 hcode
  have hbig:w.heap.size<w1.heap.size+1:=by omega
  have hlt2:w1.heap.size+1<w2.heap.size:=by omega
  have hlt3:w.heap.size<w2.heap.size:=by omega
  rw [show us 23=4 from by decide]
  have N:=HH.out
  go_wp2_with fail
  refine (next_is r a n c zs (k+1+1) v3 _ N.rd E3).mono ?_
  rintro e w3 ⟨rfl,hr3,t3⟩
  have N3:=N.next hr3 t3
  have hz3:=t3.size
  try simp only [World.size_alloc,size_setCell] at hz3
  clear N hr3 t3 q1 q2 q3 q4 q5 p1 p2 p3 p4 p5 HH
  obtain ⟨q1,q2,q3,q4,q5⟩:=N3.ins.four'
  obtain ⟨p1,p2,p3,p4,p5⟩:=N3.res.four'
  have HN:=hide N3
  clear N3
  have hv:=HCD.out
  have hx:=((((HN.out.set3 (v3 % 16)).set3 (v3 % 4)).set3 (65535 - v3 % 4)).ins.four').2.2.2.1
  go_wp2
  (with_reducible refine (((HN.out.set3 (v3 % 16)).set3 (v3 % 4)).set3 (65535 - v3 % 4)).done _ Tryz.results282 _ ?_ ?_);rfl;omega
 ·have HCD:=hide hv
  clear hv
  refine ⟨0,0,v3 % 4,k+1+1+1,by omega,fun r a n c w h hcode=>?_⟩
  have hrw:=h.blk.lt
  have T0:Turn (fun j=>j=r) w (w.alloc (.cells #[.int .i64 0,.int .i64 0,.int .i64 0,.int .i64 0] 124)):=turn_alloc w _
  have kr0:=Blk.new w #[.int .i64 0,.int .i64 0,.int .i64 0,.int .i64 0] 124
  have h0:=rdr_below h ((Below.refl w.heap.size w).alloc (Nat.le_refl _) (.cells #[.int .i64 0,.int .i64 0,.int .i64 0,.int .i64 0] 124))
  clear h
  go_enter Tryz.func282,Tryz.ntmps282
  go_wp2_with fail
  refine (next_is r a n c zs k v1 _ h0 E1).mono ?_
  rintro e w1 ⟨rfl,h1,t1⟩
  have kr1:=turn_blk t1 kr0 (by omega)
  have T1:=T0.trans t1
  clear t1 kr0 T0 h0
  have hop:=HOP.out w1
  have kop:=Blk.new (w1.alloc (.cells #[.int .i64 2,.int .i64 6,.int .i64 15,.int .i64 16,.int .i64 19,.int .i64 20,.int .i64 21,.int .i64 22,.int .i64 23,.int .i64 24,.int .i64 25,.int .i64 1,.int .i64 3,.int .i64 4,.int .i64 5,.int .i64 7,.int .i64 8,.int .i64 9,.int .i64 10,.int .i64 11,.int .i64 12,.int .i64 13,.int .i64 14,.int .i64 17,.int .i64 18] 3)) #[.int .i64 23,.int .i64 0,.int .i64 0,.int .i64 0] 124
  have h1':=rdr_below (rdr_below h1 ((Below.refl w1.heap.size w1).alloc (Nat.le_refl _) (.cells #[.int .i64 2,.int .i64 6,.int .i64 15,.int .i64 16,.int .i64 19,.int .i64 20,.int .i64 21,.int .i64 22,.int .i64 23,.int .i64 24,.int .i64 25,.int .i64 1,.int .i64 3,.int .i64 4,.int .i64 5,.int .i64 7,.int .i64 8,.int .i64 9,.int .i64 10,.int .i64 11,.int .i64 12,.int .i64 13,.int .i64 14,.int .i64 17,.int .i64 18] 3))) ((Below.refl _ _).alloc (Nat.le_refl _) (.cells #[.int .i64 23,.int .i64 0,.int .i64 0,.int .i64 0] 124))
  have T1':=(T1.trans (turn_alloc w1 (.cells #[.int .i64 2,.int .i64 6,.int .i64 15,.int .i64 16,.int .i64 19,.int .i64 20,.int .i64 21,.int .i64 22,.int .i64 23,.int .i64 24,.int .i64 25,.int .i64 1,.int .i64 3,.int .i64 4,.int .i64 5,.int .i64 7,.int .i64 8,.int .i64 9,.int .i64 10,.int .i64 11,.int .i64 12,.int .i64 13,.int .i64 14,.int .i64 17,.int .i64 18] 3))).trans (turn_alloc _ (.cells #[.int .i64 23,.int .i64 0,.int .i64 0,.int .i64 0] 124))
  have kr1':=(kr1.alloc (.cells #[.int .i64 2,.int .i64 6,.int .i64 15,.int .i64 16,.int .i64 19,.int .i64 20,.int .i64 21,.int .i64 22,.int .i64 23,.int .i64 24,.int .i64 25,.int .i64 1,.int .i64 3,.int .i64 4,.int .i64 5,.int .i64 7,.int .i64 8,.int .i64 9,.int .i64 10,.int .i64 11,.int .i64 12,.int .i64 13,.int .i64 14,.int .i64 17,.int .i64 18] 3)).alloc (.cells #[.int .i64 23,.int .i64 0,.int .i64 0,.int .i64 0] 124)
  have hlt1:=kr1.lt
  clear kr1 T1 h1
  simp only [World.size_alloc] at kop
  go_wp2_with fail
  refine (next_is r a n c zs (k+1) v2 _ h1' E2).mono ?_
  rintro e w2 ⟨rfl,h2,t2⟩
  have kr2:=turn_blk t2 kr1' (by omega)
  have ko2:=turn_blk t2 kop (by omega)
  have T2:=T1'.trans t2
  have hz2:=t2.size
  simp only [World.size_alloc] at hz2
  clear t2 kr1' T1' h1' kop hop
  obtain ⟨q1,q2,q3,q4,q5⟩:=ko2.four'
  obtain ⟨p1,p2,p3,p4,p5⟩:=kr2.four'
  go_wp2_with fail
  refine (l3Uses_any 23 _).mono ?_
  rintro e wx ⟨rfl,rfl⟩
  have H:Is w w2 r a n c zs (k+1+1) (w1.heap.size+1) 23 0 0 0:=⟨kr2,ko2,h2,T2,by omega,hrw,hcode⟩
  have HH:=hide H
  clear H kr2 ko2 h2 T2 hcode
  have hbig:w.heap.size<w1.heap.size+1:=by omega
  have hlt2:w1.heap.size+1<w2.heap.size:=by omega
  have hlt3:w.heap.size<w2.heap.size:=by omega
  rw [show us 23=4 from by decide]
  have N:=HH.out
  go_wp2_with fail
  refine (next_is r a n c zs (k+1+1) v3 _ N.rd E3).mono ?_
  rintro e w3 ⟨rfl,hr3,t3⟩
  have N3:=N.next hr3 t3
  have hz3:=t3.size
  try simp only [World.size_alloc,size_setCell] at hz3
  clear N hr3 t3 q1 q2 q3 q4 q5 p1 p2 p3 p4 p5 HH
  obtain ⟨q1,q2,q3,q4,q5⟩:=N3.ins.four'
  obtain ⟨p1,p2,p3,p4,p5⟩:=N3.res.four'
  have HN:=hide N3
  clear N3
  have hv:=HCD.out
  go_wp2
  (with_reducible refine ((HN.out.set3 (v3 % 16)).set3 (v3 % 4)).done _ Tryz.results282 _ ?_ ?_);rfl;omega
set_option maxHeartbeats 2000000 in
theorem l3Ins_24 (zs:List Int) (k:Nat) (hz:∀ j,0≤zs.getD j 0∧zs.getD j 0≤255) (v1:Int) (E1:Hid (zs.getD k 0=v1)) (z0:0≤v1) (z0':v1≤255) (HOP:Hid (∀ W:World,(W.alloc (.cells #[.int .i64 2,.int .i64 6,.int .i64 15,.int .i64 16,.int .i64 19,.int .i64 20,.int .i64 21,.int .i64 22,.int .i64 23,.int .i64 24,.int .i64 25,.int .i64 1,.int .i64 3,.int .i64 4,.int .i64 5,.int .i64 7,.int .i64 8,.int .i64 9,.int .i64 10,.int .i64 11,.int .i64 12,.int .i64 13,.int .i64 14,.int .i64 17,.int .i64 18] 3)).cell? ⟨W.heap.size,(v1 % 25).toNat,none⟩=some (.int .i64 24))):
 ∃ (d x i:Int) (k':Nat),(-1≤(24:Int)∧(24:Int)≤64∧-1≤d∧d≤10∧-1≤x∧x≤10∧-1≤i∧i≤65536)∧∀ (r:Nat) (a:Option Addr) (n c:Nat) (w:World) (h:Rdr w r a n c zs k) (hcode:n≠0→∀ b off,a=some ⟨b,off,none⟩→b<w.heap.size),Calls Tryz.prog 282 #[.pointer (some ⟨r,0,none⟩)] w (InsDr w r a n c zs 24 d x i k'):=by
 obtain ⟨v2,E2,z1,z1'⟩:=draw_of hz (k+1)
 obtain ⟨v3,E3,z2,z2'⟩:=draw_of hz (k+1+1)
 clear hz
 refine ⟨0,0,v3 % 16 % 3,k+1+1+1,by omega,fun r a n c w h hcode=>?_⟩
 have hrw:=h.blk.lt
 have T0:Turn (fun j=>j=r) w (w.alloc (.cells #[.int .i64 0,.int .i64 0,.int .i64 0,.int .i64 0] 124)):=turn_alloc w _
 have kr0:=Blk.new w #[.int .i64 0,.int .i64 0,.int .i64 0,.int .i64 0] 124
 have h0:=rdr_below h ((Below.refl w.heap.size w).alloc (Nat.le_refl _) (.cells #[.int .i64 0,.int .i64 0,.int .i64 0,.int .i64 0] 124))
 clear h
 go_enter Tryz.func282,Tryz.ntmps282
 go_wp2_with fail
 refine (next_is r a n c zs k v1 _ h0 E1).mono ?_
 rintro e w1 ⟨rfl,h1,t1⟩
 have kr1:=turn_blk t1 kr0 (by omega)
 have T1:=T0.trans t1
 clear t1 kr0 T0 h0
 have hop:=HOP.out w1
 have kop:=Blk.new (w1.alloc (.cells #[.int .i64 2,.int .i64 6,.int .i64 15,.int .i64 16,.int .i64 19,.int .i64 20,.int .i64 21,.int .i64 22,.int .i64 23,.int .i64 24,.int .i64 25,.int .i64 1,.int .i64 3,.int .i64 4,.int .i64 5,.int .i64 7,.int .i64 8,.int .i64 9,.int .i64 10,.int .i64 11,.int .i64 12,.int .i64 13,.int .i64 14,.int .i64 17,.int .i64 18] 3)) #[.int .i64 24,.int .i64 0,.int .i64 0,.int .i64 0] 124
 have h1':=rdr_below (rdr_below h1 ((Below.refl w1.heap.size w1).alloc (Nat.le_refl _) (.cells #[.int .i64 2,.int .i64 6,.int .i64 15,.int .i64 16,.int .i64 19,.int .i64 20,.int .i64 21,.int .i64 22,.int .i64 23,.int .i64 24,.int .i64 25,.int .i64 1,.int .i64 3,.int .i64 4,.int .i64 5,.int .i64 7,.int .i64 8,.int .i64 9,.int .i64 10,.int .i64 11,.int .i64 12,.int .i64 13,.int .i64 14,.int .i64 17,.int .i64 18] 3))) ((Below.refl _ _).alloc (Nat.le_refl _) (.cells #[.int .i64 24,.int .i64 0,.int .i64 0,.int .i64 0] 124))
 have T1':=(T1.trans (turn_alloc w1 (.cells #[.int .i64 2,.int .i64 6,.int .i64 15,.int .i64 16,.int .i64 19,.int .i64 20,.int .i64 21,.int .i64 22,.int .i64 23,.int .i64 24,.int .i64 25,.int .i64 1,.int .i64 3,.int .i64 4,.int .i64 5,.int .i64 7,.int .i64 8,.int .i64 9,.int .i64 10,.int .i64 11,.int .i64 12,.int .i64 13,.int .i64 14,.int .i64 17,.int .i64 18] 3))).trans (turn_alloc _ (.cells #[.int .i64 24,.int .i64 0,.int .i64 0,.int .i64 0] 124))
 have kr1':=(kr1.alloc (.cells #[.int .i64 2,.int .i64 6,.int .i64 15,.int .i64 16,.int .i64 19,.int .i64 20,.int .i64 21,.int .i64 22,.int .i64 23,.int .i64 24,.int .i64 25,.int .i64 1,.int .i64 3,.int .i64 4,.int .i64 5,.int .i64 7,.int .i64 8,.int .i64 9,.int .i64 10,.int .i64 11,.int .i64 12,.int .i64 13,.int .i64 14,.int .i64 17,.int .i64 18] 3)).alloc (.cells #[.int .i64 24,.int .i64 0,.int .i64 0,.int .i64 0] 124)
 have hlt1:=kr1.lt
 clear kr1 T1 h1
 simp only [World.size_alloc] at kop
 go_wp2_with fail
 refine (next_is r a n c zs (k+1) v2 _ h1' E2).mono ?_
 rintro e w2 ⟨rfl,h2,t2⟩
 have kr2:=turn_blk t2 kr1' (by omega)
 have ko2:=turn_blk t2 kop (by omega)
 have T2:=T1'.trans t2
 have hz2:=t2.size
 simp only [World.size_alloc] at hz2
 clear t2 kr1' T1' h1' kop hop
 obtain ⟨q1,q2,q3,q4,q5⟩:=ko2.four'
 obtain ⟨p1,p2,p3,p4,p5⟩:=kr2.four'
 go_wp2_with fail
 refine (l3Uses_any 24 _).mono ?_
 rintro e wx ⟨rfl,rfl⟩
 have H:Is w w2 r a n c zs (k+1+1) (w1.heap.size+1) 24 0 0 0:=⟨kr2,ko2,h2,T2,by omega,hrw,hcode⟩
 have HH:=hide H
 clear H kr2 ko2 h2 T2 hcode
 have hbig:w.heap.size<w1.heap.size+1:=by omega
 have hlt2:w1.heap.size+1<w2.heap.size:=by omega
 have hlt3:w.heap.size<w2.heap.size:=by omega
 rw [show us 24=4 from by decide]
 have N:=HH.out
 go_wp2_with fail
 refine (next_is r a n c zs (k+1+1) v3 _ N.rd E3).mono ?_
 rintro e w3 ⟨rfl,hr3,t3⟩
 have N3:=N.next hr3 t3
 have hz3:=t3.size
 try simp only [World.size_alloc,size_setCell] at hz3
 clear N hr3 t3 q1 q2 q3 q4 q5 p1 p2 p3 p4 p5 HH
 obtain ⟨q1,q2,q3,q4,q5⟩:=N3.ins.four'
 obtain ⟨p1,p2,p3,p4,p5⟩:=N3.res.four'
 have HN:=hide N3
 clear N3
 go_wp2
 (with_reducible refine ((HN.out.set3 (v3 % 16)).set3 (v3 % 16 % 3)).done _ Tryz.results282 _ ?_ ?_);rfl;omega
end Go.Proofs.YtngdgogjlpjjpadGreat
