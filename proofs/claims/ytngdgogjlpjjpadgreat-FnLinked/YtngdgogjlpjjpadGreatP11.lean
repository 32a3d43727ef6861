import Derived.Test.YtngdgogjlpjjpadGreatP00
import Derived.Test.YtngdgogjlpjjpadGreatP01
import Derived.Test.YtngdgogjlpjjpadGreatP05
import Derived.Test.YtngdgogjlpjjpadGreatP06
namespace Go.Proofs.YtngdgogjlpjjpadGreat
open Go.RowKit
set_option linter.unusedVariables false
theorem rdr_turn {S:Nat→Prop} {W W':World} {r:Nat} {a:Option Addr} {n c:Nat} {zs:List Int} {k:Nat} (h:Rdr W r a n c zs k) (t:Turn S W W') (hr:¬ S r) (ha:n≠0→∀ j,S j→∀ b off,a=some ⟨b,off,none⟩→b≠j):Rdr W' r a n c zs k:=
 ⟨turn_blk t h.blk hr,turn_bs' t h.bs ha,h.small,h.far⟩
theorem turn_new {S:Nat→Prop} {w W:World} (h:Turn S w W) {b:Nat} (hb:w.heap.size≤b) (i:Nat) (v:Value):Turn S w (W.setCell ⟨b,i,none⟩ v):=
 ⟨h.os,h.tape,h.output,by rw [size_setCell];exact h.size,fun k hk hn=>by rw [heap_setCell_other _ _ _ _ (by dsimp only;omega)];exact h.block k hk hn⟩
theorem turn_more {S:Nat→Prop} {w W:World} (h:Turn S w W) (o:Obj):Turn S w (W.alloc o):=h.trans (turn_alloc W o)
theorem rdr_set {W:World} {r:Nat} {a:Option Addr} {n c:Nat} {zs:List Int} {k:Nat} (h:Rdr W r a n c zs k) {b:Nat} (hb:r≠b) (ha:n≠0→∀ b' off,a=some ⟨b',off,none⟩→b'≠b) (i:Nat) (v:Value):Rdr (W.setCell ⟨b,i,none⟩ v) r a n c zs k:=
 rdr_turn h (turn_cell W b i v) hb (fun h0 j hj b' off e=>by subst hj;exact ha h0 b' off e)
theorem rdr_alloc {W:World} {r:Nat} {a:Option Addr} {n c:Nat} {zs:List Int} {k:Nat} (h:Rdr W r a n c zs k) (o:Obj):Rdr (W.alloc o) r a n c zs k:=rdr_below h ((Below.refl _ _).alloc (Nat.le_refl _) o)
end Go.Proofs.YtngdgogjlpjjpadGreat
namespace Go.Proofs.YtngdgogjlpjjpadGreat
open Go.RowKit
set_option linter.unusedVariables false
set_option linter.unusedSimpArgs false
def InsDr (w:World) (r:Nat) (a:Option Addr) (n c:Nat) (zs:List Int) (o d x i:Int) (k':Nat) (e:Ending) (w':World):Prop:=
 e=.returned (.agg #[.int .i64 o,.int .i64 d,.int .i64 x,.int .i64 i])∧Rdr w' r a n c zs k'∧Turn (fun j=>j=r) w w'
theorem draw_of {zs:List Int} (h:∀ j,0≤zs.getD j 0∧zs.getD j 0≤255) (k:Nat):∃ v:Int,Hid (zs.getD k 0=v)∧0≤v∧v≤255:=⟨_,rfl,(h k).1,(h k).2⟩
theorem opTab_at (i:Nat) (hi:i<25):∃ o:Int,1≤o∧o≤25∧∀ W:World,(W.alloc (.cells #[.int .i64 2,.int .i64 6,.int .i64 15,.int .i64 16,.int .i64 19,.int .i64 20,.int .i64 21,.int .i64 22,.int .i64 23,.int .i64 24,.int .i64 25,.int .i64 1,.int .i64 3,.int .i64 4,.int .i64 5,.int .i64 7,.int .i64 8,.int .i64 9,.int .i64 10,.int .i64 11,.int .i64 12,.int .i64 13,.int .i64 14,.int .i64 17,.int .i64 18] 3)).cell? ⟨W.heap.size,i,none⟩=some (.int .i64 o):=by
 have hc:=fun W=>(Blk.new W #[.int .i64 2,.int .i64 6,.int .i64 15,.int .i64 16,.int .i64 19,.int .i64 20,.int .i64 21,.int .i64 22,.int .i64 23,.int .i64 24,.int .i64 25,.int .i64 1,.int .i64 3,.int .i64 4,.int .i64 5,.int .i64 7,.int .i64 8,.int .i64 9,.int .i64 10,.int .i64 11,.int .i64 12,.int .i64 13,.int .i64 14,.int .i64 17,.int .i64 18] 3).cell i
 match i,hi with
 | 0,_=>exact ⟨_,by decide,by decide,hc⟩
 | 1,_=>exact ⟨_,by decide,by decide,hc⟩
 | 2,_=>exact ⟨_,by decide,by decide,hc⟩
 | 3,_=>exact ⟨_,by decide,by decide,hc⟩
 | 4,_=>exact ⟨_,by decide,by decide,hc⟩
 | 5,_=>exact ⟨_,by decide,by decide,hc⟩
 | 6,_=>exact ⟨_,by decide,by decide,hc⟩
 | 7,_=>exact ⟨_,by decide,by decide,hc⟩
 | 8,_=>exact ⟨_,by decide,by decide,hc⟩
 | 9,_=>exact ⟨_,by decide,by decide,hc⟩
 | 10,_=>exact ⟨_,by decide,by decide,hc⟩
 | 11,_=>exact ⟨_,by decide,by decide,hc⟩
 | 12,_=>exact ⟨_,by decide,by decide,hc⟩
 | 13,_=>exact ⟨_,by decide,by decide,hc⟩
 | 14,_=>exact ⟨_,by decide,by decide,hc⟩
 | 15,_=>exact ⟨_,by decide,by decide,hc⟩
 | 16,_=>exact ⟨_,by decide,by decide,hc⟩
 | 17,_=>exact ⟨_,by decide,by decide,hc⟩
 | 18,_=>exact ⟨_,by decide,by decide,hc⟩
 | 19,_=>exact ⟨_,by decide,by decide,hc⟩
 | 20,_=>exact ⟨_,by decide,by decide,hc⟩
 | 21,_=>exact ⟨_,by decide,by decide,hc⟩
 | 22,_=>exact ⟨_,by decide,by decide,hc⟩
 | 23,_=>exact ⟨_,by decide,by decide,hc⟩
 | 24,_=>exact ⟨_,by decide,by decide,hc⟩
 | i+25,h=>omega
theorem aTab_at (i:Nat) (hi:i<8):∃ o:Int,0≤o∧o≤7∧∀ W:World,(W.alloc (.cells #[.int .i64 7,.int .i64 6,.int .i64 0,.int .i64 1,.int .i64 2,.int .i64 7,.int .i64 6,.int .i64 3] 3)).cell? ⟨W.heap.size,i,none⟩=some (.int .i64 o):=by
 have hc:=fun W=>(Blk.new W #[.int .i64 7,.int .i64 6,.int .i64 0,.int .i64 1,.int .i64 2,.int .i64 7,.int .i64 6,.int .i64 3] 3).cell i
 match i,hi with
 | 0,_=>exact ⟨_,by decide,by decide,hc⟩
 | 1,_=>exact ⟨_,by decide,by decide,hc⟩
 | 2,_=>exact ⟨_,by decide,by decide,hc⟩
 | 3,_=>exact ⟨_,by decide,by decide,hc⟩
 | 4,_=>exact ⟨_,by decide,by decide,hc⟩
 | 5,_=>exact ⟨_,by decide,by decide,hc⟩
 | 6,_=>exact ⟨_,by decide,by decide,hc⟩
 | 7,_=>exact ⟨_,by decide,by decide,hc⟩
 | i+8,h=>omega
structure Is (w W:World) (r:Nat) (a:Option Addr) (n c:Nat) (zs:List Int) (k' G:Nat) (o d x i:Int):Prop where
 res:Blk W w.heap.size #[.int .i64 0,.int .i64 0,.int .i64 0,.int .i64 0] 124
 ins:Blk W G #[.int .i64 o,.int .i64 d,.int .i64 x,.int .i64 i] 124
 rd:Rdr W r a n c zs k'
 turn:Turn (fun j=>j=r) w W
 big:w.heap.size<G
 low:r<w.heap.size
 code:n≠0→∀ b off,a=some ⟨b,off,none⟩→b<w.heap.size
theorem Is.other {w W:World} {r:Nat} {a:Option Addr} {n c:Nat} {zs:List Int} {k' G:Nat} {o d x i:Int} (h:Is w W r a n c zs k' G o d x i) (j:Nat) (v:Value) (d' x' i':Int) (hz:Blk (W.setCell ⟨G,j,none⟩ v) G #[.int .i64 o,.int .i64 d',.int .i64 x',.int .i64 i'] 124):Is w (W.setCell ⟨G,j,none⟩ v) r a n c zs k' G o d' x' i':=by
 have hb:=h.big
 have hl:=h.low
 exact ⟨h.res.other _ _ (by dsimp only;omega),hz,rdr_set h.rd (by omega) (fun h0 b off e=>by have:=h.code h0 b off e;omega) _ _,turn_new h.turn (by omega) _ _,hb,hl,h.code⟩
theorem Is.set1 {w W:World} {r:Nat} {a:Option Addr} {n c:Nat} {zs:List Int} {k' G:Nat} {o d x i:Int} (h:Is w W r a n c zs k' G o d x i) (v:Int):Is w (W.setCell ⟨G,1,none⟩ (.int .i64 v)) r a n c zs k' G o v x i:=h.other 1 _ v x i (h.ins.set 1 (.int .i64 v))
theorem Is.set2 {w W:World} {r:Nat} {a:Option Addr} {n c:Nat} {zs:List Int} {k' G:Nat} {o d x i:Int} (h:Is w W r a n c zs k' G o d x i) (v:Int):Is w (W.setCell ⟨G,2,none⟩ (.int .i64 v)) r a n c zs k' G o d v i:=h.other 2 _ d v i (h.ins.set 2 (.int .i64 v))
theorem Is.set3 {w W:World} {r:Nat} {a:Option Addr} {n c:Nat} {zs:List Int} {k' G:Nat} {o d x i:Int} (h:Is w W r a n c zs k' G o d x i) (v:Int):Is w (W.setCell ⟨G,3,none⟩ (.int .i64 v)) r a n c zs k' G o d x v:=h.other 3 _ d x v (h.ins.set 3 (.int .i64 v))
theorem Is.more {w W:World} {r:Nat} {a:Option Addr} {n c:Nat} {zs:List Int} {k' G:Nat} {o d x i:Int} (h:Is w W r a n c zs k' G o d x i) (O:Obj):Is w (W.alloc O) r a n c zs k' G o d x i:=
 ⟨h.res.alloc O,h.ins.alloc O,rdr_alloc h.rd O,turn_more h.turn O,h.big,h.low,h.code⟩
theorem Is.next {w W W':World} {r:Nat} {a:Option Addr} {n c:Nat} {zs:List Int} {k' k2 G:Nat} {o d x i:Int} (h:Is w W r a n c zs k' G o d x i) (hr:Rdr W' r a n c zs k2) (t:Turn (fun j=>j=r) W W'):Is w W' r a n c zs k2 G o d x i:=by
 have hb:=h.big
 have hl:=h.low
 exact ⟨turn_blk t h.res (by omega),turn_blk t h.ins (by omega),hr,h.turn.trans t,hb,hl,h.code⟩
theorem Is.done {w W:World} {r:Nat} {a:Option Addr} {n c:Nat} {zs:List Int} {k' G:Nat} {o d x i:Int} (h:Is w W r a n c zs k' G o d x i) (fn:Func) (hf:fn.results=#[.cell 2 124]) (tmps:Array Value) (h2:tmps[2]?=some (.pointer (some ⟨w.heap.size,0,none⟩))) (hb:-1≤o∧o≤64∧-1≤d∧d≤10∧-1≤x∧x≤10∧-1≤i∧i≤65536):
 bodyPost Tryz.prog fn (InsDr w r a n c zs o d x i k') Exit.ret ⟨tmps,[]⟩ ((((W.setCell ⟨w.heap.size,0,none⟩ (.int .i64 o)).setCell ⟨w.heap.size,1,none⟩ (.int .i64 d)).setCell ⟨w.heap.size,2,none⟩ (.int .i64 x)).setCell ⟨w.heap.size,3,none⟩ (.int .i64 i)):=by
 have hl:=h.low
 have hc':n≠0→∀ b' off,a=some ⟨b',off,none⟩→b'≠w.heap.size:=fun h0 b off e=>by have:=h.code h0 b off e;omega
 have hz:=ins_set h.res o d x i
 have hR:=rdr_set (rdr_set (rdr_set (rdr_set h.rd (show r≠w.heap.size by omega) hc' 0 (.int .i64 o)) (by omega) hc' 1 (.int .i64 d)) (by omega) hc' 2 (.int .i64 x)) (by omega) hc' 3 (.int .i64 i)
 have hT:=turn_new (turn_new (turn_new (turn_new h.turn (Nat.le_refl _) 0 (.int .i64 o)) (Nat.le_refl _) 1 (.int .i64 d)) (Nat.le_refl _) 2 (.int .i64 x)) (Nat.le_refl _) 3 (.int .i64 i)
 generalize (((W.setCell ⟨w.heap.size,0,none⟩ (.int .i64 o)).setCell ⟨w.heap.size,1,none⟩ (.int .i64 d)).setCell ⟨w.heap.size,2,none⟩ (.int .i64 x)).setCell ⟨w.heap.size,3,none⟩ (.int .i64 i)=V at *
 refine bodyPost_ret (v:=.agg #[.int .i64 o,.int .i64 d,.int .i64 x,.int .i64 i]) ?_ rfl ⟨rfl,hR,hT⟩
 obtain ⟨p1,p2,p3,p4,p5⟩:=hz.four'
 simp [results,hf,go_sem,h2,p1,p2,p3,p4]
theorem Is.doneA {w W:World} {r:Nat} {a:Option Addr} {n c:Nat} {zs:List Int} {k' G:Nat} {o d x i:Int} (h:Is w W r a n c zs k' G o d x i) (fn:Func) (hf:fn.results=#[.cell 2 124]) (O:Obj) (tmps:Array Value) (h2:tmps[2]?=some (.pointer (some ⟨w.heap.size,0,none⟩))) (hb:-1≤o∧o≤64∧-1≤d∧d≤10∧-1≤x∧x≤10∧-1≤i∧i≤65536):
 bodyPost Tryz.prog fn (InsDr w r a n c zs o d x i k') Exit.ret ⟨tmps,[]⟩ (((((W.setCell ⟨w.heap.size,0,none⟩ (.int .i64 o)).setCell ⟨w.heap.size,1,none⟩ (.int .i64 d)).setCell ⟨w.heap.size,2,none⟩ (.int .i64 x)).setCell ⟨w.heap.size,3,none⟩ (.int .i64 i)).alloc O):=by
 have hl:=h.low
 have hc':n≠0→∀ b' off,a=some ⟨b',off,none⟩→b'≠w.heap.size:=fun h0 b off e=>by have:=h.code h0 b off e;omega
 have hz:=(ins_set h.res o d x i).alloc O
 have hR:=rdr_alloc (rdr_set (rdr_set (rdr_set (rdr_set h.rd (show r≠w.heap.size by omega) hc' 0 (.int .i64 o)) (by omega) hc' 1 (.int .i64 d)) (by omega) hc' 2 (.int .i64 x)) (by omega) hc' 3 (.int .i64 i)) O
 have hT:=turn_more (turn_new (turn_new (turn_new (turn_new h.turn (Nat.le_refl _) 0 (.int .i64 o)) (Nat.le_refl _) 1 (.int .i64 d)) (Nat.le_refl _) 2 (.int .i64 x)) (Nat.le_refl _) 3 (.int .i64 i)) O
 generalize ((((W.setCell ⟨w.heap.size,0,none⟩ (.int .i64 o)).setCell ⟨w.heap.size,1,none⟩ (.int .i64 d)).setCell ⟨w.heap.size,2,none⟩ (.int .i64 x)).setCell ⟨w.heap.size,3,none⟩ (.int .i64 i)).alloc O=V at *
 refine bodyPost_ret (v:=.agg #[.int .i64 o,.int .i64 d,.int .i64 x,.int .i64 i]) ?_ rfl ⟨rfl,hR,hT⟩
 obtain ⟨p1,p2,p3,p4,p5⟩:=hz.four'
 simp [results,hf,go_sem,h2,p1,p2,p3,p4]
set_option maxHeartbeats 2000000 in
theorem l3Ins_u3 (zs:List Int) (k:Nat) (hz:∀ j,0≤zs.getD j 0∧zs.getD j 0≤255) (v1:Int) (E1:Hid (zs.getD k 0=v1)) (z0:0≤v1) (z0':v1≤255) (op:Int) (ho1:1≤op) (ho2:op≤25) (hu:us op=3) (HOP:Hid (∀ W:World,(W.alloc (.cells #[.int .i64 2,.int .i64 6,.int .i64 15,.int .i64 16,.int .i64 19,.int .i64 20,.int .i64 21,.int .i64 22,.int .i64 23,.int .i64 24,.int .i64 25,.int .i64 1,.int .i64 3,.int .i64 4,.int .i64 5,.int .i64 7,.int .i64 8,.int .i64 9,.int .i64 10,.int .i64 11,.int .i64 12,.int .i64 13,.int .i64 14,.int .i64 17,.int .i64 18] 3)).cell? ⟨W.heap.size,(v1 % 25).toNat,none⟩=some (.int .i64 op))):
 ∃ (d x i:Int) (k':Nat),(-1≤(op:Int)∧(op:Int)≤64∧-1≤d∧d≤10∧-1≤x∧x≤10∧-1≤i∧i≤65536)∧∀ (r:Nat) (a:Option Addr) (n c:Nat) (w:World) (h:Rdr w r a n c zs k) (hcode:n≠0→∀ b off,a=some ⟨b,off,none⟩→b<w.heap.size),Calls Tryz.prog 282 #[.pointer (some ⟨r,0,none⟩)] w (InsDr w r a n c zs op d x i k'):=by
 obtain ⟨v2,E2,z1,z1'⟩:=draw_of hz (k+1)
 obtain ⟨v3,E3,z2,z2'⟩:=draw_of hz (k+1+1)
 clear hz
 obtain ⟨A,hA0,hA1,hAT⟩:=aTab_at (v2 / 4 % 8).toNat (by omega)
 have HAT:=hide hAT
 clear hAT
 refine ⟨v2 % 4,A,0,k+1+1,by omega,fun r a n c w h hcode=>?_⟩
 have hrw:=h.blk.lt
 have T0:Turn (fun j=>j=r) w (w.alloc (.cells #[.int .i64 0,.int .i64 0,.int .i64 0,.int .i64 0] 124)):=turn_alloc w _
 have kr0:=Blk.new w #[.int .i64 0,.int .i64 0,.int .i64 0,.int .i64 0] 124
 have h0:=rdr_below h ((Below.refl w.heap.size w).alloc (Nat.le_refl _) (.cells #[.int .i64 0,.int .i64 0,.int .i64 0,.int .i64 0] 124))
 clear h
 go_enter Tryz.func282,Tryz.ntmps282
 go_wp2_with fail
 refine (next_is r a n c zs k v1 _ h0 E1).mono ?_
 rintro e w1 ⟨rfl,h1,t1⟩
 have kr1:=turn_blk t1 kr0 (by omega)
 have T1:=T0.trans t1
 clear t1 kr0 T0 h0
 have hop:=HOP.out w1
 have kop:=Blk.new (w1.alloc (.cells #[.int .i64 2,.int .i64 6,.int .i64 15,.int .i64 16,.int .i64 19,.int .i64 20,.int .i64 21,.int .i64 22,.int .i64 23,.int .i64 24,.int .i64 25,.int .i64 1,.int .i64 3,.int .i64 4,.int .i64 5,.int .i64 7,.int .i64 8,.int .i64 9,.int .i64 10,.int .i64 11,.int .i64 12,.int .i64 13,.int .i64 14,.int .i64 17,.int .i64 18] 3)) #[.int .i64 op,.int .i64 0,.int .i64 0,.int .i64 0] 124
 have h1':=rdr_below (rdr_below h1 ((Below.refl w1.heap.size w1).alloc (Nat.le_refl _) (.cells #[.int .i64 2,.int .i64 6,.int .i64 15,.int .i64 16,.int .i64 19,.int .i64 20,.int .i64 21,.int .i64 22,.int .i64 23,.int .i64 24,.int .i64 25,.int .i64 1,.int .i64 3,.int .i64 4,.int .i64 5,.int .i64 7,.int .i64 8,.int .i64 9,.int .i64 10,.int .i64 11,.int .i64 12,.int .i64 13,.int .i64 14,.int .i64 17,.int .i64 18] 3))) ((Below.refl _ _).alloc (Nat.le_refl _) (.cells #[.int .i64 op,.int .i64 0,.int .i64 0,.int .i64 0] 124))
 have T1':=(T1.trans (turn_alloc w1 (.cells #[.int .i64 2,.int .i64 6,.int .i64 15,.int .i64 16,.int .i64 19,.int .i64 20,.int .i64 21,.int .i64 22,.int .i64 23,.int .i64 24,.int .i64 25,.int .i64 1,.int .i64 3,.int .i64 4,.int .i64 5,.int .i64 7,.int .i64 8,.int .i64 9,.int .i64 10,.int .i64 11,.int .i64 12,.int .i64 13,.int .i64 14,.int .i64 17,.int .i64 18] 3))).trans (turn_alloc _ (.cells #[.int .i64 op,.int .i64 0,.int .i64 0,.int .i64 0] 124))
 have kr1':=(kr1.alloc (.cells #[.int .i64 2,.int .i64 6,.int .i64 15,.int .i64 16,.int .i64 19,.int .i64 20,.int .i64 21,.int .i64 22,.int .i64 23,.int .i64 24,.int .i64 25,.int .i64 1,.int .i64 3,.int .i64 4,.int .i64 5,.int .i64 7,.int .i64 8,.int .i64 9,.int .i64 10,.int .i64 11,.int .i64 12,.int .i64 13,.int .i64 14,.int .i64 17,.int .i64 18] 3)).alloc (.cells #[.int .i64 op,.int .i64 0,.int .i64 0,.int .i64 0] 124)
 have hlt1:=kr1.lt
 clear kr1 T1 h1
 simp only [World.size_alloc] at kop
 go_wp2_with fail
 refine (next_is r a n c zs (k+1) v2 _ h1' E2).mono ?_
 rintro e w2 ⟨rfl,h2,t2⟩
 have kr2:=turn_blk t2 kr1' (by omega)
 have ko2:=turn_blk t2 kop (by omega)
 have T2:=T1'.trans t2
 have hz2:=t2.size
 simp only [World.size_alloc] at hz2
 clear t2 kr1' T1' h1' kop hop
 obtain ⟨q1,q2,q3,q4,q5⟩:=ko2.four'
 obtain ⟨p1,p2,p3,p4,p5⟩:=kr2.four'
 go_wp2_with fail
 refine (l3Uses_any op _).mono ?_
 rintro e wx ⟨rfl,rfl⟩
 have H:Is w w2 r a n c zs (k+1+1) (w1.heap.size+1) op 0 0 0:=⟨kr2,ko2,h2,T2,by omega,hrw,hcode⟩
 have HH:=hide H
 clear H kr2 ko2 h2 T2 hcode
 have hbig:w.heap.size<w1.heap.size+1:=by omega
 have hlt2:w1.heap.size+1<w2.heap.size:=by omega
 have hlt3:w.heap.size<w2.heap.size:=by omega
 rw [hu]
 clear hu
 have hA:=HAT.out (w2.setCell ⟨w1.heap.size+1,1,none⟩ (.int .i64 (v2 % 4)))
 simp only [size_setCell] at hA
 go_wp2
 (with_reducible refine ((HH.out.set1 (v2 % 4)).set2 A).doneA _ Tryz.results282 _ _ ?_ ?_);rfl;omega
set_option maxHeartbeats 2000000 in
theorem l3Ins_u0 (zs:List Int) (k:Nat) (hz:∀ j,0≤zs.getD j 0∧zs.getD j 0≤255) (v1:Int) (E1:Hid (zs.getD k 0=v1)) (z0:0≤v1) (z0':v1≤255) (op:Int) (ho1:1≤op) (ho2:op≤25) (hu:us op=0) (HOP:Hid (∀ W:World,(W.alloc (.cells #[.int .i64 2,.int .i64 6,.int .i64 15,.int .i64 16,.int .i64 19,.int .i64 20,.int .i64 21,.int .i64 22,.int .i64 23,.int .i64 24,.int .i64 25,.int .i64 1,.int .i64 3,.int .i64 4,.int .i64 5,.int .i64 7,.int .i64 8,.int .i64 9,.int .i64 10,.int .i64 11,.int .i64 12,.int .i64 13,.int .i64 14,.int .i64 17,.int .i64 18] 3)).cell? ⟨W.heap.size,(v1 % 25).toNat,none⟩=some (.int .i64 op))):
 ∃ (d x i:Int) (k':Nat),(-1≤(op:Int)∧(op:Int)≤64∧-1≤d∧d≤10∧-1≤x∧x≤10∧-1≤i∧i≤65536)∧∀ (r:Nat) (a:Option Addr) (n c:Nat) (w:World) (h:Rdr w r a n c zs k) (hcode:n≠0→∀ b off,a=some ⟨b,off,none⟩→b<w.heap.size),Calls Tryz.prog 282 #[.pointer (some ⟨r,0,none⟩)] w (InsDr w r a n c zs op d x i k'):=by
 obtain ⟨v2,E2,z1,z1'⟩:=draw_of hz (k+1)
 obtain ⟨v3,E3,z2,z2'⟩:=draw_of hz (k+1+1)
 clear hz
 refine ⟨0,0,0,k+1+1,by omega,fun r a n c w h hcode=>?_⟩
 have hrw:=h.blk.lt
 have T0:Turn (fun j=>j=r) w (w.alloc (.cells #[.int .i64 0,.int .i64 0,.int .i64 0,.int .i64 0] 124)):=turn_alloc w _
 have kr0:=Blk.new w #[.int .i64 0,.int .i64 0,.int .i64 0,.int .i64 0] 124
 have h0:=rdr_below h ((Below.refl w.heap.size w).alloc (Nat.le_refl _) (.cells #[.int .i64 0,.int .i64 0,.int .i64 0,.int .i64 0] 124))
 clear h
 go_enter Tryz.func282,Tryz.ntmps282
 go_wp2_with fail
 refine (next_is r a n c zs k v1 _ h0 E1).mono ?_
 rintro e w1 ⟨rfl,h1,t1⟩
 have kr1:=turn_blk t1 kr0 (by omega)
 have T1:=T0.trans t1
 clear t1 kr0 T0 h0
 have hop:=HOP.out w1
 have kop:=Blk.new (w1.alloc (.cells #[.int .i64 2,.int .i64 6,.int .i64 15,.int .i64 16,.int .i64 19,.int .i64 20,.int .i64 21,.int .i64 22,.int .i64 23,.int .i64 24,.int .i64 25,.int .i64 1,.int .i64 3,.int .i64 4,.int .i64 5,.int .i64 7,.int .i64 8,.int .i64 9,.int .i64 10,.int .i64 11,.int .i64 12,.int .i64 13,.int .i64 14,.int .i64 17,.int .i64 18] 3)) #[.int .i64 op,.int .i64 0,.int .i64 0,.int .i64 0] 124
 have h1':=rdr_below (rdr_below h1 ((Below.refl w1.heap.size w1).alloc (Nat.le_refl _) (.cells #[.int .i64 2,.int .i64 6,.int .i64 15,.int .i64 16,.int .i64 19,.int .i64 20,.int .i64 21,.int .i64 22,.int .i64 23,.int .i64 24,.int .i64 25,.int .i64 1,.int .i64 3,.int .i64 4,.int .i64 5,.int .i64 7,.int .i64 8,.int .i64 9,.int .i64 10,.int .i64 11,.int .i64 12,.int .i64 13,.int .i64 14,.int .i64 17,.int .i64 18] 3))) ((Below.refl _ _).alloc (Nat.le_refl _) (.cells #[.int .i64 op,.int .i64 0,.int .i64 0,.int .i64 0] 124))
 have T1':=(T1.trans (turn_alloc w1 (.cells #[.int .i64 2,.int .i64 6,.int .i64 15,.int .i64 16,.int .i64 19,.int .i64 20,.int .i64 21,.int .i64 22,.int .i64 23,.int .i64 24,.int .i64 25,.int .i64 1,.int .i64 3,.int .i64 4,.int .i64 5,.int .i64 7,.int .i64 8,.int .i64 9,.int .i64 10,.int .i64 11,.int .i64 12,.int .i64 13,.int .i64 14,.int .i64 17,.int .i64 18] 3))).trans (turn_alloc _ (.cells #[.int .i64 op,.int .i64 0,.int .i64 0,.int .i64 0] 124))
 have kr1':=(kr1.alloc (.cells #[.int .i64 2,.int .i64 6,.int .i64 15,.int .i64 16,.int .i64 19,.int .i64 20,.int .i64 21,.int .i64 22,.int .i64 23,.int .i64 24,.int .i64 25,.int .i64 1,.int .i64 3,.int .i64 4,.int .i64 5,.int .i64 7,.int .i64 8,.int .i64 9,.int .i64 10,.int .i64 11,.int .i64 12,.int .i64 13,.int .i64 14,.int .i64 17,.int .i64 18] 3)).alloc (.cells #[.int .i64 op,.int .i64 0,.int .i64 0,.int .i64 0] 124)
 have hlt1:=kr1.lt
 clear kr1 T1 h1
 simp only [World.size_alloc] at kop
 go_wp2_with fail
 refine (next_is r a n c zs (k+1) v2 _ h1' E2).mono ?_
 rintro e w2 ⟨rfl,h2,t2⟩
 have kr2:=turn_blk t2 kr1' (by omega)
 have ko2:=turn_blk t2 kop (by omega)
 have T2:=T1'.trans t2
 have hz2:=t2.size
 simp only [World.size_alloc] at hz2
 clear t2 kr1' T1' h1' kop hop
 obtain ⟨q1,q2,q3,q4,q5⟩:=ko2.four'
 obtain ⟨p1,p2,p3,p4,p5⟩:=kr2.four'
 go_wp2_with fail
 refine (l3Uses_any op _).mono ?_
 rintro e wx ⟨rfl,rfl⟩
 have H:Is w w2 r a n c zs (k+1+1) (w1.heap.size+1) op 0 0 0:=⟨kr2,ko2,h2,T2,by omega,hrw,hcode⟩
 have HH:=hide H
 clear H kr2 ko2 h2 T2 hcode
 have hbig:w.heap.size<w1.heap.size+1:=by omega
 have hlt2:w1.heap.size+1<w2.heap.size:=by omega
 have hlt3:w.heap.size<w2.heap.size:=by omega
 rw [hu]
 clear hu
 go_wp2
 (with_reducible refine HH.out.done _ Tryz.results282 _ ?_ ?_);rfl;omega
set_option maxHeartbeats 2000000 in
theorem l3Ins_2 (zs:List Int) (k:Nat) (hz:∀ j,0≤zs.getD j 0∧zs.getD j 0≤255) (v1:Int) (E1:Hid (zs.getD k 0=v1)) (z0:0≤v1) (z0':v1≤255) (HOP:Hid (∀ W:World,(W.alloc (.cells #[.int .i64 2,.int .i64 6,.int .i64 15,.int .i64 16,.int .i64 19,.int .i64 20,.int .i64 21,.int .i64 22,.int .i64 23,.int .i64 24,.int .i64 25,.int .i64 1,.int .i64 3,.int .i64 4,.int .i64 5,.int .i64 7,.int .i64 8,.int .i64 9,.int .i64 10,.int .i64 11,.int .i64 12,.int .i64 13,.int .i64 14,.int .i64 17,.int .i64 18] 3)).cell? ⟨W.heap.size,(v1 % 25).toNat,none⟩=some (.int .i64 2))):
 ∃ (d x i:Int) (k':Nat),(-1≤(2:Int)∧(2:Int)≤64∧-1≤d∧d≤10∧-1≤x∧x≤10∧-1≤i∧i≤65536)∧∀ (r:Nat) (a:Option Addr) (n c:Nat) (w:World) (h:Rdr w r a n c zs k) (hcode:n≠0→∀ b off,a=some ⟨b,off,none⟩→b<w.heap.size),Calls Tryz.prog 282 #[.pointer (some ⟨r,0,none⟩)] w (InsDr w r a n c zs 2 d x i k'):=by
 obtain ⟨v2,E2,z1,z1'⟩:=draw_of hz (k+1)
 obtain ⟨v3,E3,z2,z2'⟩:=draw_of hz (k+1+1)
 clear hz
 refine ⟨v2 % 4,0,v3 % 16,k+1+1+1,by omega,fun r a n c w h hcode=>?_⟩
 have hrw:=h.blk.lt
 have T0:Turn (fun j=>j=r) w (w.alloc (.cells #[.int .i64 0,.int .i64 0,.int .i64 0,.int .i64 0] 124)):=turn_alloc w _
 have kr0:=Blk.new w #[.int .i64 0,.int .i64 0,.int .i64 0,.int .i64 0] 124
 have h0:=rdr_below h ((Below.refl w.heap.size w).alloc (Nat.le_refl _) (.cells #[.int .i64 0,.int .i64 0,.int .i64 0,.int .i64 0] 124))
 clear h
 go_enter Tryz.func282,Tryz.ntmps282
 go_wp2_with fail
 refine (next_is r a n c zs k v1 _ h0 E1).mono ?_
 rintro e w1 ⟨rfl,h1,t1⟩
 have kr1:=turn_blk t1 kr0 (by omega)
 have T1:=T0.trans t1
 clear t1 kr0 T0 h0
 have hop:=HOP.out w1
 have kop:=Blk.new (w1.alloc (.cells #[.int .i64 2,.int .i64 6,.int .i64 15,.int .i64 16,.int .i64 19,.int .i64 20,.int .i64 21,.int .i64 22,.int .i64 23,.int .i64 24,.int .i64 25,.int .i64 1,.int .i64 3,.int .i64 4,.int .i64 5,.int .i64 7,.int .i64 8,.int .i64 9,.int .i64 10,.int .i64 11,.int .i64 12,.int .i64 13,.int .i64 14,.int .i64 17,.int .i64 18] 3)) #[.int .i64 2,.int .i64 0,.int .i64 0,.int .i64 0] 124
 have h1':=rdr_below (rdr_below h1 ((Below.refl w1.heap.size w1).alloc (Nat.le_refl _) (.cells #[.int .i64 2,.int .i64 6,.int .i64 15,.int .i64 16,.int .i64 19,.int .i64 20,.int .i64 21,.int .i64 22,.int .i64 23,.int .i64 24,.int .i64 25,.int .i64 1,.int .i64 3,.int .i64 4,.int .i64 5,.int .i64 7,.int .i64 8,.int .i64 9,.int .i64 10,.int .i64 11,.int .i64 12,.int .i64 13,.int .i64 14,.int .i64 17,.int .i64 18] 3))) ((Below.refl _ _).alloc (Nat.le_refl _) (.cells #[.int .i64 2,.int .i64 0,.int .i64 0,.int .i64 0] 124))
 have T1':=(T1.trans (turn_alloc w1 (.cells #[.int .i64 2,.int .i64 6,.int .i64 15,.int .i64 16,.int .i64 19,.int .i64 20,.int .i64 21,.int .i64 22,.int .i64 23,.int .i64 24,.int .i64 25,.int .i64 1,.int .i64 3,.int .i64 4,.int .i64 5,.int .i64 7,.int .i64 8,.int .i64 9,.int .i64 10,.int .i64 11,.int .i64 12,.int .i64 13,.int .i64 14,.int .i64 17,.int .i64 18] 3))).trans (turn_alloc _ (.cells #[.int .i64 2,.int .i64 0,.int .i64 0,.int .i64 0] 124))
 have kr1':=(kr1.alloc (.cells #[.int .i64 2,.int .i64 6,.int .i64 15,.int .i64 16,.int .i64 19,.int .i64 20,.int .i64 21,.int .i64 22,.int .i64 23,.int .i64 24,.int .i64 25,.int .i64 1,.int .i64 3,.int .i64 4,.int .i64 5,.int .i64 7,.int .i64 8,.int .i64 9,.int .i64 10,.int .i64 11,.int .i64 12,.int .i64 13,.int .i64 14,.int .i64 17,.int .i64 18] 3)).alloc (.cells #[.int .i64 2,.int .i64 0,.int .i64 0,.int .i64 0] 124)
 have hlt1:=kr1.lt
 clear kr1 T1 h1
 simp only [World.size_alloc] at kop
 go_wp2_with fail
 refine (next_is r a n c zs (k+1) v2 _ h1' E2).mono ?_
 rintro e w2 ⟨rfl,h2,t2⟩
 have kr2:=turn_blk t2 kr1' (by omega)
 have ko2:=turn_blk t2 kop (by omega)
 have T2:=T1'.trans t2
 have hz2:=t2.size
 simp only [World.size_alloc] at hz2
 clear t2 kr1' T1' h1' kop hop
 obtain ⟨q1,q2,q3,q4,q5⟩:=ko2.four'
 obtain ⟨p1,p2,p3,p4,p5⟩:=kr2.four'
 go_wp2_with fail
 refine (l3Uses_any 2 _).mono ?_
 rintro e wx ⟨rfl,rfl⟩
 have H:Is w w2 r a n c zs (k+1+1) (w1.heap.size+1) 2 0 0 0:=⟨kr2,ko2,h2,T2,by omega,hrw,hcode⟩
 have HH:=hide H
 clear H kr2 ko2 h2 T2 hcode
 have hbig:w.heap.size<w1.heap.size+1:=by omega
 have hlt2:w1.heap.size+1<w2.heap.size:=by omega
 have hlt3:w.heap.size<w2.heap.size:=by omega
 rw [show us 2=5 from by decide]
 have N:=(HH.out.set1 (v2 % 4))
 go_wp2_with fail
 refine (next_is r a n c zs (k+1+1) v3 _ N.rd E3).mono ?_
 rintro e w3 ⟨rfl,hr3,t3⟩
 have N3:=N.next hr3 t3
 have hz3:=t3.size
 try simp only [World.size_alloc,size_setCell] at hz3
 clear N hr3 t3 q1 q2 q3 q4 q5 p1 p2 p3 p4 p5 HH
 obtain ⟨q1,q2,q3,q4,q5⟩:=N3.ins.four'
 obtain ⟨p1,p2,p3,p4,p5⟩:=N3.res.four'
 have HN:=hide N3
 clear N3
 go_wp2
 (with_reducible refine (HN.out.set3 (v3 % 16)).done _ Tryz.results282 _ ?_ ?_);rfl;omega
set_option maxHeartbeats 2000000 in
theorem l3Ins_3 (zs:List Int) (k:Nat) (hz:∀ j,0≤zs.getD j 0∧zs.getD j 0≤255) (v1:Int) (E1:Hid (zs.getD k 0=v1)) (z0:0≤v1) (z0':v1≤255) (HOP:Hid (∀ W:World,(W.alloc (.cells #[.int .i64 2,.int .i64 6,.int .i64 15,.int .i64 16,.int .i64 19,.int .i64 20,.int .i64 21,.int .i64 22,.int .i64 23,.int .i64 24,.int .i64 25,.int .i64 1,.int .i64 3,.int .i64 4,.int .i64 5,.int .i64 7,.int .i64 8,.int .i64 9,.int .i64 10,.int .i64 11,.int .i64 12,.int .i64 13,.int .i64 14,.int .i64 17,.int .i64 18] 3)).cell? ⟨W.heap.size,(v1 % 25).toNat,none⟩=some (.int .i64 3))):
 ∃ (d x i:Int) (k':Nat),(-1≤(3:Int)∧(3:Int)≤64∧-1≤d∧d≤10∧-1≤x∧x≤10∧-1≤i∧i≤65536)∧∀ (r:Nat) (a:Option Addr) (n c:Nat) (w:World) (h:Rdr w r a n c zs k) (hcode:n≠0→∀ b off,a=some ⟨b,off,none⟩→b<w.heap.size),Calls Tryz.prog 282 #[.pointer (some ⟨r,0,none⟩)] w (InsDr w r a n c zs 3 d x i k'):=by
 obtain ⟨v2,E2,z1,z1'⟩:=draw_of hz (k+1)
 obtain ⟨v3,E3,z2,z2'⟩:=draw_of hz (k+1+1)
 clear hz
 refine ⟨v2 % 4,0,v3 % 16,k+1+1+1,by omega,fun r a n c w h hcode=>?_⟩
 have hrw:=h.blk.lt
 have T0:Turn (fun j=>j=r) w (w.alloc (.cells #[.int .i64 0,.int .i64 0,.int .i64 0,.int .i64 0] 124)):=turn_alloc w _
 have kr0:=Blk.new w #[.int .i64 0,.int .i64 0,.int .i64 0,.int .i64 0] 124
 have h0:=rdr_below h ((Below.refl w.heap.size w).alloc (Nat.le_refl _) (.cells #[.int .i64 0,.int .i64 0,.int .i64 0,.int .i64 0] 124))
 clear h
 go_enter Tryz.func282,Tryz.ntmps282
 go_wp2_with fail
 refine (next_is r a n c zs k v1 _ h0 E1).mono ?_
 rintro e w1 ⟨rfl,h1,t1⟩
 have kr1:=turn_blk t1 kr0 (by omega)
 have T1:=T0.trans t1
 clear t1 kr0 T0 h0
 have hop:=HOP.out w1
 have kop:=Blk.new (w1.alloc (.cells #[.int .i64 2,.int .i64 6,.int .i64 15,.int .i64 16,.int .i64 19,.int .i64 20,.int .i64 21,.int .i64 22,.int .i64 23,.int .i64 24,.int .i64 25,.int .i64 1,.int .i64 3,.int .i64 4,.int .i64 5,.int .i64 7,.int .i64 8,.int .i64 9,.int .i64 10,.int .i64 11,.int .i64 12,.int .i64 13,.int .i64 14,.int .i64 17,.int .i64 18] 3)) #[.int .i64 3,.int .i64 0,.int .i64 0,.int .i64 0] 124
 have h1':=rdr_below (rdr_below h1 ((Below.refl w1.heap.size w1).alloc (Nat.le_refl _) (.cells #[.int .i64 2,.int .i64 6,.int .i64 15,.int .i64 16,.int .i64 19,.int .i64 20,.int .i64 21,.int .i64 22,.int .i64 23,.int .i64 24,.int .i64 25,.int .i64 1,.int .i64 3,.int .i64 4,.int .i64 5,.int .i64 7,.int .i64 8,.int .i64 9,.int .i64 10,.int .i64 11,.int .i64 12,.int .i64 13,.int .i64 14,.int .i64 17,.int .i64 18] 3))) ((Below.refl _ _).alloc (Nat.le_refl _) (.cells #[.int .i64 3,.int .i64 0,.int .i64 0,.int .i64 0] 124))
 have T1':=(T1.trans (turn_alloc w1 (.cells #[.int .i64 2,.int .i64 6,.int .i64 15,.int .i64 16,.int .i64 19,.int .i64 20,.int .i64 21,.int .i64 22,.int .i64 23,.int .i64 24,.int .i64 25,.int .i64 1,.int .i64 3,.int .i64 4,.int .i64 5,.int .i64 7,.int .i64 8,.int .i64 9,.int .i64 10,.int .i64 11,.int .i64 12,.int .i64 13,.int .i64 14,.int .i64 17,.int .i64 18] 3))).trans (turn_alloc _ (.cells #[.int .i64 3,.int .i64 0,.int .i64 0,.int .i64 0] 124))
 have kr1':=(kr1.alloc (.cells #[.int .i64 2,.int .i64 6,.int .i64 15,.int .i64 16,.int .i64 19,.int .i64 20,.int .i64 21,.int .i64 22,.int .i64 23,.int .i64 24,.int .i64 25,.int .i64 1,.int .i64 3,.int .i64 4,.int .i64 5,.int .i64 7,.int .i64 8,.int .i64 9,.int .i64 10,.int .i64 11,.int .i64 12,.int .i64 13,.int .i64 14,.int .i64 17,.int .i64 18] 3)).alloc (.cells #[.int .i64 3,.int .i64 0,.int .i64 0,.int .i64 0] 124)
 have hlt1:=kr1.lt
 clear kr1 T1 h1
 simp only [World.size_alloc] at kop
 go_wp2_with fail
 refine (next_is r a n c zs (k+1) v2 _ h1' E2).mono ?_
 rintro e w2 ⟨rfl,h2,t2⟩
 have kr2:=turn_blk t2 kr1' (by omega)
 have ko2:=turn_blk t2 kop (by omega)
 have T2:=T1'.trans t2
 have hz2:=t2.size
 simp only [World.size_alloc] at hz2
 clear t2 kr1' T1' h1' kop hop
 obtain ⟨q1,q2,q3,q4,q5⟩:=ko2.four'
 obtain ⟨p1,p2,p3,p4,p5⟩:=kr2.four'
 go_wp2_with fail
 refine (l3Uses_any 3 _).mono ?_
 rintro e wx ⟨rfl,rfl⟩
 have H:Is w w2 r a n c zs (k+1+1) (w1.heap.size+1) 3 0 0 0:=⟨kr2,ko2,h2,T2,by omega,hrw,hcode⟩
 have HH:=hide H
 clear H kr2 ko2 h2 T2 hcode
 have hbig:w.heap.size<w1.heap.size+1:=by omega
 have hlt2:w1.heap.size+1<w2.heap.size:=by omega
 have hlt3:w.heap.size<w2.heap.size:=by omega
 rw [show us 3=5 from by decide]
 have N:=(HH.out.set1 (v2 % 4))
 go_wp2_with fail
 refine (next_is r a n c zs (k+1+1) v3 _ N.rd E3).mono ?_
 rintro e w3 ⟨rfl,hr3,t3⟩
 have N3:=N.next hr3 t3
 have hz3:=t3.size
 try simp only [World.size_alloc,size_setCell] at hz3
 clear N hr3 t3 q1 q2 q3 q4 q5 p1 p2 p3 p4 p5 HH
 obtain ⟨q1,q2,q3,q4,q5⟩:=N3.ins.four'
 obtain ⟨p1,p2,p3,p4,p5⟩:=N3.res.four'
 have HN:=hide N3
 clear N3
 go_wp2
 (with_reducible refine (HN.out.set3 (v3 % 16)).done _ Tryz.results282 _ ?_ ?_);rfl;omega
set_option maxHeartbeats 2000000 in
theorem l3Ins_6 (zs:List Int) (k:Nat) (hz:∀ j,0≤zs.getD j 0∧zs.getD j 0≤255) (v1:Int) (E1:Hid (zs.getD k 0=v1)) (z0:0≤v1) (z0':v1≤255) (HOP:Hid (∀ W:World,(W.alloc (.cells #[.int .i64 2,.int .i64 6,.int .i64 15,.int .i64 16,.int .i64 19,.int .i64 20,.int .i64 21,.int .i64 22,.int .i64 23,.int .i64 24,.int .i64 25,.int .i64 1,.int .i64 3,.int .i64 4,.int .i64 5,.int .i64 7,.int .i64 8,.int .i64 9,.int .i64 10,.int .i64 11,.int .i64 12,.int .i64 13,.int .i64 14,.int .i64 17,.int .i64 18] 3)).cell? ⟨W.heap.size,(v1 % 25).toNat,none⟩=some (.int .i64 6))):
 ∃ (d x i:Int) (k':Nat),(-1≤(6:Int)∧(6:Int)≤64∧-1≤d∧d≤10∧-1≤x∧x≤10∧-1≤i∧i≤65536)∧∀ (r:Nat) (a:Option Addr) (n c:Nat) (w:World) (h:Rdr w r a n c zs k) (hcode:n≠0→∀ b off,a=some ⟨b,off,none⟩→b<w.heap.size),Calls Tryz.prog 282 #[.pointer (some ⟨r,0,none⟩)] w (InsDr w r a n c zs 6 d x i k'):=by
 obtain ⟨v2,E2,z1,z1'⟩:=draw_of hz (k+1)
 obtain ⟨v3,E3,z2,z2'⟩:=draw_of hz (k+1+1)
 clear hz
 obtain ⟨A,hA0,hA1,hAT⟩:=aTab_at (v2 / 4 % 8).toNat (by omega)
 have HAT:=hide hAT
 clear hAT
 by_cases hA6:A=6
 ·have HCD:=hide hA6
  clear hA6
  refine ⟨v2 % 4,A,v3 % 16,k+1+1+1,by omega,fun r a n c w h hcode=>?_⟩
  have hrw:=h.blk.lt
  have T0:Turn (fun j=>j=r) w (w.alloc (.cells #[.int .i64 0,.int .i64 0,.int .i64 0,.int .i64 0] 124)):=turn_alloc w _
  have kr0:=Blk.new w #[.int .i64 0,.int .i64 0,.int .i64 0,.int .i64 0] 124
  have h0:=rdr_below h ((Below.refl w.heap.size w).alloc (Nat.le_refl _) (.cells #[.int .i64 0,.int .i64 0,.int .i64 0,.int .i64 0] 124))
  clear h
  go_enter Tryz.func282,Tryz.ntmps282
  go_wp2_with fail
  refine (next_is r a n c zs k v1 _ h0 E1).mono ?_
  rintro e w1 ⟨rfl,h1,t1⟩
  have kr1:=turn_blk t1 kr0 (by omega)
  have T1:=T0.trans t1
  clear t1 kr0 T0 h0
  have hop:=HOP.out w1
  have kop:=Blk.new (w1.alloc (.cells #[.int .i64 2,.int .i64 6,.int .i64 15,.int .i64 16,.int .i64 19,.int .i64 20,.int .i64 21,.int .i64 22,.int .i64 23,.int .i64 24,.int .i64 25,.int .i64 1,.int .i64 3,.int .i64 4,.int .i64 5,.int .i64 7,.int .i64 8,.int .i64 9,.int .i64 10,.int .i64 11,.int .i64 12,.int .i64 13,.int .i64 14,.int .i64 17,.int .i64 18] 3)) #[.int .i64 6,.int .i64 0,.int .i64 0,.int .i64 0] 124
  have h1':=rdr_below (rdr_below h1 ((Below.refl w1.heap.size w1).alloc (Nat.le_refl _) (.cells #[.int .i64 2,.int .i64 6,.int .i64 15,.int .i64 16,.int .i64 19,.int .i64 20,.int .i64 21,.int .i64 22,.int .i64 23,.int .i64 24,.int .i64 25,.int .i64 1,.int .i64 3,.int .i64 4,.int .i64 5,.int .i64 7,.int .i64 8,.int .i64 9,.int .i64 10,.int .i64 11,.int .i64 12,.int .i64 13,.int .i64 14,.int .i64 17,.int .i64 18] 3))) ((Below.refl _ _).alloc (Nat.le_refl _) (.cells #[.int .i64 6,.int .i64 0,.int .i64 0,.int .i64 0] 124))
  have T1':=(T1.trans (turn_alloc w1 (.cells #[.int .i64 2,.int .i64 6,.int .i64 15,.int .i64 16,.int .i64 19,.int .i64 20,.int .i64 21,.int .i64 22,.int .i64 23,.int .i64 24,.int .i64 25,.int .i64 1,.int .i64 3,.int .i64 4,.int .i64 5,.int .i64 7,.int .i64 8,.int .i64 9,.int .i64 10,.int .i64 11,.int .i64 12,.int .i64 13,.int .i64 14,.int .i64 17,.int .i64 18] 3))).trans (turn_alloc _ (.cells #[.int .i64 6,.int .i64 0,.int .i64 0,.int .i64 0] 124))
  have kr1':=(kr1.alloc (.cells #[.int .i64 2,.int .i64 6,.int .i64 15,.int .i64 16,.int .i64 19,.int .i64 20,.int .i64 21,.int .i64 22,.int .i64 23,.int .i64 24,.int .i64 25,.int .i64 1,.int .i64 3,.int .i64 4,.int .i64 5,.int .i64 7,.int .i64 8,.int .i64 9,.int .i64 10,.int .i64 11,.int .i64 12,.int .i64 13,.int .i64 14,.int .i64 17,.int .i64 18] 3)).alloc (.cells #[.int .i64 6,.int .i64 0,.int .i64 0,.int .i64 0] 124)
  have hlt1:=kr1.lt
  clear kr1 T1 h1
  simp only [World.size_alloc] at kop
  go_wp2_with fail
  refine (next_is r a n c zs (k+1) v2 _ h1' E2).mono ?_
  rintro e w2 ⟨rfl,h2,t2⟩
  have kr2:=turn_blk t2 kr1' (by omega)
  have ko2:=turn_blk t2 kop (by omega)
  have T2:=T1'.trans t2
  have hz2:=t2.size
  simp only [World.size_alloc] at hz2
  clear t2 kr1' T1' h1' kop hop
  obtain ⟨q1,q2,q3,q4,q5⟩:=ko2.four'
  obtain ⟨p1,p2,p3,p4,p5⟩:=kr2.four'
  go_wp2_with fail
  refine (l3Uses_any 6 _).mono ?_
  rintro e wx ⟨rfl,rfl⟩
  have H:Is w w2 r a n c zs (k+1+1) (w1.heap.size+1) 6 0 0 0:=⟨kr2,ko2,h2,T2,by omega,hrw,hcode⟩
  have HH:=hide H
  clear H kr2 ko2 h2 T2 hcode
  have hbig:w.heap.size<w1.heap.size+1:=by omega
  have hlt2:w1.heap.size+1<w2.heap.size:=by omega
  have hlt3:w.heap.size<w2.heap.size:=by omega
  rw [show us 6=7 from by decide]
  have hA:=HAT.out (w2.setCell ⟨w1.heap.size+1,1,none⟩ (.int .i64 (v2 % 4)))
  simp only [size_setCell] at hA
  have N:=(((HH.out.set1 (v2 % 4)).set2 A).more (.cells #[.int .i64 7,.int .i64 6,.int .i64 0,.int .i64 1,.int .i64 2,.int .i64 7,.int .i64 6,.int .i64 3] 3))
  go_wp2_with fail
  refine (next_is r a n c zs (k+1+1) v3 _ N.rd E3).mono ?_
  rintro e w3 ⟨rfl,hr3,t3⟩
  have N3:=N.next hr3 t3
  have hz3:=t3.size
  try simp only [World.size_alloc,size_setCell] at hz3
  clear N hr3 t3 q1 q2 q3 q4 q5 p1 p2 p3 p4 p5 HH hA
  obtain ⟨q1,q2,q3,q4,q5⟩:=N3.ins.four'
  obtain ⟨p1,p2,p3,p4,p5⟩:=N3.res.four'
  have HN:=hide N3
  clear N3
  have hA6:=HCD.out
  subst hA6
  go_wp2
  (with_reducible refine (HN.out.set3 (v3 % 16)).done _ Tryz.results282 _ ?_ ?_);rfl;omega
 ·have HCD:=hide hA6
  clear hA6
  refine ⟨v2 % 4,A,v3 % 16,k+1+1+1,by omega,fun r a n c w h hcode=>?_⟩
  have hrw:=h.blk.lt
  have T0:Turn (fun j=>j=r) w (w.alloc (.cells #[.int .i64 0,.int .i64 0,.int .i64 0,.int .i64 0] 124)):=turn_alloc w _
  have kr0:=Blk.new w #[.int .i64 0,.int .i64 0,.int .i64 0,.int .i64 0] 124
  have h0:=rdr_below h ((Below.refl w.heap.size w).alloc (Nat.le_refl _) (.cells #[.int .i64 0,.int .i64 0,.int .i64 0,.int .i64 0] 124))
  clear h
  go_enter Tryz.func282,Tryz.ntmps282
  go_wp2_with fail
  refine (next_is r a n c zs k v1 _ h0 E1).mono ?_
  rintro e w1 ⟨rfl,h1,t1⟩
  have kr1:=turn_blk t1 kr0 (by omega)
  have T1:=T0.trans t1
  clear t1 kr0 T0 h0
  have hop:=HOP.out w1
  have kop:=Blk.new (w1.alloc (.cells #[.int .i64 2,.int .i64 6,.int .i64 15,.int .i64 16,.int .i64 19,.int .i64 20,.int .i64 21,.int .i64 22,.int .i64 23,.int .i64 24,.int .i64 25,.int .i64 1,.int .i64 3,.int .i64 4,.int .i64 5,.int .i64 7,.int .i64 8,.int .i64 9,.int .i64 10,.int .i64 11,.int .i64 12,.int .i64 13,.int .i64 14,.int .i64 17,.int .i64 18] 3)) #[.int .i64 6,.int .i64 0,.int .i64 0,.int .i64 0] 124
  have h1':=rdr_below (rdr_below h1 ((Below.refl w1.heap.size w1).alloc (Nat.le_refl _) (.cells #[.int .i64 2,.int .i64 6,.int .i64 15,.int .i64 16,.int .i64 19,.int .i64 20,.int .i64 21,.int .i64 22,.int .i64 23,.int .i64 24,.int .i64 25,.int .i64 1,.int .i64 3,.int .i64 4,.int .i64 5,.int .i64 7,.int .i64 8,.int .i64 9,.int .i64 10,.int .i64 11,.int .i64 12,.int .i64 13,.int .i64 14,.int .i64 17,.int .i64 18] 3))) ((Below.refl _ _).alloc (Nat.le_refl _) (.cells #[.int .i64 6,.int .i64 0,.int .i64 0,.int .i64 0] 124))
  have T1':=(T1.trans (turn_alloc w1 (.cells #[.int .i64 2,.int .i64 6,.int .i64 15,.int .i64 16,.int .i64 19,.int .i64 20,.int .i64 21,.int .i64 22,.int .i64 23,.int .i64 24,.int .i64 25,.int .i64 1,.int .i64 3,.int .i64 4,.int .i64 5,.int .i64 7,.int .i64 8,.int .i64 9,.int .i64 10,.int .i64 11,.int .i64 12,.int .i64 13,.int .i64 14,.int .i64 17,.int .i64 18] 3))).trans (turn_alloc _ (.cells #[.int .i64 6,.int .i64 0,.int .i64 0,.int .i64 0] 124))
  have kr1':=(kr1.alloc (.cells #[.int .i64 2,.int .i64 6,.int .i64 15,.int .i64 16,.int .i64 19,.int .i64 20,.int .i64 21,.int .i64 22,.int .i64 23,.int .i64 24,.int .i64 25,.int .i64 1,.int .i64 3,.int .i64 4,.int .i64 5,.int .i64 7,.int .i64 8,.int .i64 9,.int .i64 10,.int .i64 11,.int .i64 12,.int .i64 13,.int .i64 14,.int .i64 17,.int .i64 18] 3)).alloc (.cells #[.int .i64 6,.int .i64 0,.int .i64 0,.int .i64 0] 124)
  have hlt1:=kr1.lt
  clear kr1 T1 h1
  simp only [World.size_alloc] at kop
  go_wp2_with fail
  refine (next_is r a n c zs (k+1) v2 _ h1' E2).mono ?_
  rintro e w2 ⟨rfl,h2,t2⟩
  have kr2:=turn_blk t2 kr1' (by omega)
  have ko2:=turn_blk t2 kop (by omega)
  have T2:=T1'.trans t2
  have hz2:=t2.size
  simp only [World.size_alloc] at hz2
  clear t2 kr1' T1' h1' kop hop
  obtain ⟨q1,q2,q3,q4,q5⟩:=ko2.four'
  obtain ⟨p1,p2,p3,p4,p5⟩:=kr2.four'
  go_wp2_with fail
  refine (l3Uses_any 6 _).mono ?_
  rintro e wx ⟨rfl,rfl⟩
  have H:Is w w2 r a n c zs (k+1+1) (w1.heap.size+1) 6 0 0 0:=⟨kr2,ko2,h2,T2,by omega,hrw,hcode⟩
  have HH:=hide H
  clear H kr2 ko2 h2 T2 hcode
  have hbig:w.heap.size<w1.heap.size+1:=by omega
  have hlt2:w1.heap.size+1<w2.heap.size:=by omega
  have hlt3:w.heap.size<w2.heap.size:=by omega
  rw [show us 6=7 from by decide]
  have hA:=HAT.out (w2.setCell ⟨w1.heap.size+1,1,none⟩ (.int .i64 (v2 % 4)))
  simp only [size_setCell] at hA
  have N:=(((HH.out.set1 (v2 % 4)).set2 A).more (.cells #[.int .i64 7,.int .i64 6,.int .i64 0,.int .i64 1,.int .i64 2,.int .i64 7,.int .i64 6,.int .i64 3] 3))
  go_wp2_with fail
  refine (next_is r a n c zs (k+1+1) v3 _ N.rd E3).mono ?_
  rintro e w3 ⟨rfl,hr3,t3⟩
  have N3:=N.next hr3 t3
  have hz3:=t3.size
  try simp only [World.size_alloc,size_setCell] at hz3
  clear N hr3 t3 q1 q2 q3 q4 q5 p1 p2 p3 p4 p5 HH hA
  obtain ⟨q1,q2,q3,q4,q5⟩:=N3.ins.four'
  obtain ⟨p1,p2,p3,p4,p5⟩:=N3.res.four'
  have HN:=hide N3
  clear N3
  have hA6:=HCD.out
  have hA6:(A == 6)=false:=by simpa using hA6
  go_wp2
  (with_reducible refine (HN.out.set3 (v3 % 16)).done _ Tryz.results282 _ ?_ ?_);rfl;omega
set_option maxHeartbeats 2000000 in
theorem l3Ins_14 (zs:List Int) (k:Nat) (hz:∀ j,0≤zs.getD j 0∧zs.getD j 0≤255) (v1:Int) (E1:Hid (zs.getD k 0=v1)) (z0:0≤v1) (z0':v1≤255) (HOP:Hid (∀ W:World,(W.alloc (.cells #[.int .i64 2,.int .i64 6,.int .i64 15,.int .i64 16,.int .i64 19,.int .i64 20,.int .i64 21,.int .i64 22,.int .i64 23,.int .i64 24,.int .i64 25,.int .i64 1,.int .i64 3,.int .i64 4,.int .i64 5,.int .i64 7,.int .i64 8,.int .i64 9,.int .i64 10,.int .i64 11,.int .i64 12,.int .i64 13,.int .i64 14,.int .i64 17,.int .i64 18] 3)).cell? ⟨W.heap.size,(v1 % 25).toNat,none⟩=some (.int .i64 14))):
 ∃ (d x i:Int) (k':Nat),(-1≤(14:Int)∧(14:Int)≤64∧-1≤d∧d≤10∧-1≤x∧x≤10∧-1≤i∧i≤65536)∧∀ (r:Nat) (a:Option Addr) (n c:Nat) (w:World) (h:Rdr w r a n c zs k) (hcode:n≠0→∀ b off,a=some ⟨b,off,none⟩→b<w.heap.size),Calls Tryz.prog 282 #[.pointer (some ⟨r,0,none⟩)] w (InsDr w r a n c zs 14 d x i k'):=by
 obtain ⟨v2,E2,z1,z1'⟩:=draw_of hz (k+1)
 obtain ⟨v3,E3,z2,z2'⟩:=draw_of hz (k+1+1)
 clear hz
 obtain ⟨A,hA0,hA1,hAT⟩:=aTab_at (v2 / 4 % 8).toNat (by omega)
 have HAT:=hide hAT
 clear hAT
 by_cases hA6:A=6
 ·have HCD:=hide hA6
  clear hA6
  refine ⟨v2 % 4,A,65532 - v3 % 16 / 4 * 4,k+1+1+1,by omega,fun r a n c w h hcode=>?_⟩
  have hrw:=h.blk.lt
  have T0:Turn (fun j=>j=r) w (w.alloc (.cells #[.int .i64 0,.int .i64 0,.int .i64 0,.int .i64 0] 124)):=turn_alloc w _
  have kr0:=Blk.new w #[.int .i64 0,.int .i64 0,.int .i64 0,.int .i64 0] 124
  have h0:=rdr_below h ((Below.refl w.heap.size w).alloc (Nat.le_refl _) (.cells #[.int .i64 0,.int .i64 0,.int .i64 0,.int .i64 0] 124))
  clear h
  go_enter Tryz.func282,Tryz.ntmps282
  go_wp2_with fail
  refine (next_is r a n c zs k v1 _ h0 E1).mono ?_
  rintro e w1 ⟨rfl,h1,t1⟩
  have kr1:=turn_blk t1 kr0 (by omega)
  have T1:=T0.trans t1
  clear t1 kr0 T0 h0
  have hop:=HOP.out w1
  have kop:=Blk.new (w1.alloc (.cells #[.int .i64 2,.int .i64 6,.int .i64 15,.int .i64 16,.int .i64 19,.int .i64 20,.int .i64 21,.int .i64 22,.int .i64 23,.int .i64 24,.int .i64 25,.int .i64 1,.int .i64 3,.int .i64 4,.int .i64 5,.int .i64 7,.int .i64 8,.int .i64 9,.int .i64 10,.int .i64 11,.int .i64 12,.int .i64 13,.int .i64 14,.int .i64 17,.int .i64 18] 3)) #[.int .i64 14,.int .i64 0,.int .i64 0,.int .i64 0] 124
  have h1':=rdr_below (rdr_below h1 ((Below.refl w1.heap.size w1).alloc (Nat.le_refl _) (.cells #[.int .i64 2,.int .i64 6,.int .i64 15,.int .i64 16,.int .i64 19,.int .i64 20,.int .i64 21,.int .i64 22,.int .i64 23,.int .i64 24,.int .i64 25,.int .i64 1,.int .i64 3,.int .i64 4,.int .i64 5,.int .i64 7,.int .i64 8,.int .i64 9,.int .i64 10,.int .i64 11,.int .i64 12,.int .i64 13,.int .i64 14,.int .i64 17,.int .i64 18] 3))) ((Below.refl _ _).alloc (Nat.le_refl _) (.cells #[.int .i64 14,.int .i64 0,.int .i64 0,.int .i64 0] 124))
  have T1':=(T1.trans (turn_alloc w1 (.cells #[.int .i64 2,.int .i64 6,.int .i64 15,.int .i64 16,.int .i64 19,.int .i64 20,.int .i64 21,.int .i64 22,.int .i64 23,.int .i64 24,.int .i64 25,.int .i64 1,.int .i64 3,.int .i64 4,.int .i64 5,.int .i64 7,.int .i64 8,.int .i64 9,.int .i64 10,.int .i64 11,.int .i64 12,.int .i64 13,.int .i64 14,.int .i64 17,.int .i64 18] 3))).trans (turn_alloc _ (.cells #[.int .i64 14,.int .i64 0,.int .i64 0,.int .i64 0] 124))
  have kr1':=(kr1.alloc (.cells #[.int .i64 2,.int .i64 6,.int .i64 15,.int .i64 16,.int .i64 19,.int .i64 20,.int .i64 21,.int .i64 22,.int .i64 23,.int .i64 24,.int .i64 25,.int .i64 1,.int .i64 3,.int .i64 4,.int .i64 5,.int .i64 7,.int .i64 8,.int .i64 9,.int .i64 10,.int .i64 11,.int .i64 12,.int .i64 13,.int .i64 14,.int .i64 17,.int .i64 18] 3)).alloc (.cells #[.int .i64 14,.int .i64 0,.int .i64 0,.int .i64 0] 124)
  have hlt1:=kr1.lt
  clear kr1 T1 h1
  simp only [World.size_alloc] at kop
  go_wp2_with fail
  refine (next_is r a n c zs (k+1) v2 _ h1' E2).mono ?_
  rintro e w2 ⟨rfl,h2,t2⟩
  have kr2:=turn_blk t2 kr1' (by omega)
  have ko2:=turn_blk t2 kop (by omega)
  have T2:=T1'.trans t2
  have hz2:=t2.size
  simp only [World.size_alloc] at hz2
  clear t2 kr1' T1' h1' kop hop
  obtain ⟨q1,q2,q3,q4,q5⟩:=ko2.four'
  obtain ⟨p1,p2,p3,p4,p5⟩:=kr2.four'
  go_wp2_with fail
  refine (l3Uses_any 14 _).mono ?_
  rintro e wx ⟨rfl,rfl⟩
  have H:Is w w2 r a n c zs (k+1+1) (w1.heap.size+1) 14 0 0 0:=⟨kr2,ko2,h2,T2,by omega,hrw,hcode⟩
  have HH:=hide H
  clear H kr2 ko2 h2 T2 hcode
  have hbig:w.heap.size<w1.heap.size+1:=by omega
  have hlt2:w1.heap.size+1<w2.heap.size:=by omega
  have hlt3:w.heap.size<w2.heap.size:=by omega
  rw [show us 14=7 from by decide]
  have hA:=HAT.out (w2.setCell ⟨w1.heap.size+1,1,none⟩ (.int .i64 (v2 % 4)))
  simp only [size_setCell] at hA
  have N:=(((HH.out.set1 (v2 % 4)).set2 A).more (.cells #[.int .i64 7,.int .i64 6,.int .i64 0,.int .i64 1,.int .i64 2,.int .i64 7,.int .i64 6,.int .i64 3] 3))
  go_wp2_with fail
  refine (next_is r a n c zs (k+1+1) v3 _ N.rd E3).mono ?_
  rintro e w3 ⟨rfl,hr3,t3⟩
  have N3:=N.next hr3 t3
  have hz3:=t3.size
  try simp only [World.size_alloc,size_setCell] at hz3
  clear N hr3 t3 q1 q2 q3 q4 q5 p1 p2 p3 p4 p5 HH hA
  obtain ⟨q1,q2,q3,q4,q5⟩:=N3.ins.four'
  obtain ⟨p1,p2,p3,p4,p5⟩:=N3.res.four'
  have HN:=hide N3
  clear N3
  have hA6:=HCD.out
  subst hA6
  go_wp2
  (with_reducible refine ((HN.out.set3 (v3 % 16)).set3 (65532 - v3 % 16 / 4 * 4)).done _ Tryz.results282 _ ?_ ?_);rfl;omega
 ·have HCD:=hide hA6
  clear hA6
  refine ⟨v2 % 4,A,v3 % 16,k+1+1+1,by omega,fun r a n c w h hcode=>?_⟩
  have hrw:=h.blk.lt
  have T0:Turn (fun j=>j=r) w (w.alloc (.cells #[.int .i64 0,.int .i64 0,.int .i64 0,.int .i64 0] 124)):=turn_alloc w _
  have kr0:=Blk.new w #[.int .i64 0,.int .i64 0,.int .i64 0,.int .i64 0] 124
  have h0:=rdr_below h ((Below.refl w.heap.size w).alloc (Nat.le_refl _) (.cells #[.int .i64 0,.int .i64 0,.int .i64 0,.int .i64 0] 124))
  clear h
  go_enter Tryz.func282,Tryz.ntmps282
  go_wp2_with fail
  refine (next_is r a n c zs k v1 _ h0 E1).mono ?_
  rintro e w1 ⟨rfl,h1,t1⟩
  have kr1:=turn_blk t1 kr0 (by omega)
  have T1:=T0.trans t1
  clear t1 kr0 T0 h0
  have hop:=HOP.out w1
  have kop:=Blk.new (w1.alloc (.cells #[.int .i64 2,.int .i64 6,.int .i64 15,.int .i64 16,.int .i64 19,.int .i64 20,.int .i64 21,.int .i64 22,.int .i64 23,.int .i64 24,.int .i64 25,.int .i64 1,.int .i64 3,.int .i64 4,.int .i64 5,.int .i64 7,.int .i64 8,.int .i64 9,.int .i64 10,.int .i64 11,.int .i64 12,.int .i64 13,.int .i64 14,.int .i64 17,.int .i64 18] 3)) #[.int .i64 14,.int .i64 0,.int .i64 0,.int .i64 0] 124
  have h1':=rdr_below (rdr_below h1 ((Below.refl w1.heap.size w1).alloc (Nat.le_refl _) (.cells #[.int .i64 2,.int .i64 6,.int .i64 15,.int .i64 16,.int .i64 19,.int .i64 20,.int .i64 21,.int .i64 22,.int .i64 23,.int .i64 24,.int .i64 25,.int .i64 1,.int .i64 3,.int .i64 4,.int .i64 5,.int .i64 7,.int .i64 8,.int .i64 9,.int .i64 10,.int .i64 11,.int .i64 12,.int .i64 13,.int .i64 14,.int .i64 17,.int .i64 18] 3))) ((Below.refl _ _).alloc (Nat.le_refl _) (.cells #[.int .i64 14,.int .i64 0,.int .i64 0,.int .i64 0] 124))
  have T1':=(T1.trans (turn_alloc w1 (.cells #[.int .i64 2,.int .i64 6,.int .i64 15,.int .i64 16,.int .i64 19,.int .i64 20,.int .i64 21,.int .i64 22,.int .i64 23,.int .i64 24,.int .i64 25,.int .i64 1,.int .i64 3,.int .i64 4,.int .i64 5,.int .i64 7,.int .i64 8,.int .i64 9,.int .i64 10,.int .i64 11,.int .i64 12,.int .i64 13,.int .i64 14,.int .i64 17,.int .i64 18] 3))).trans (turn_alloc _ (.cells #[.int .i64 14,.int .i64 0,.int .i64 0,.int .i64 0] 124))
  have kr1':=(kr1.alloc (.cells #[.int .i64 2,.int .i64 6,.int .i64 15,.int .i64 16,.int .i64 19,.int .i64 20,.int .i64 21,.int .i64 22,.int .i64 23,.int .i64 24,.int .i64 25,.int .i64 1,.int .i64 3,.int .i64 4,.int .i64 5,.int .i64 7,.int .i64 8,.int .i64 9,.int .i64 10,.int .i64 11,.int .i64 12,.int .i64 13,.int .i64 14,.int .i64 17,.int .i64 18] 3)).alloc (.cells #[.int .i64 14,.int .i64 0,.int .i64 0,.int .i64 0] 124)
  have hlt1:=kr1.lt
  clear kr1 T1 h1
  simp only [World.size_alloc] at kop
  go_wp2_with fail
  refine (next_is r a n c zs (k+1) v2 _ h1' E2).mono ?_
  rintro e w2 ⟨rfl,h2,t2⟩
  have kr2:=turn_blk t2 kr1' (by omega)
  have ko2:=turn_blk t2 kop (by omega)
  have T2:=T1'.trans t2
  have hz2:=t2.size
  simp only [World.size_alloc] at hz2
  clear t2 kr1' T1' h1' kop hop
  obtain ⟨q1,q2,q3,q4,q5⟩:=ko2.four'
  obtain ⟨p1,p2,p3,p4,p5⟩:=kr2.four'
  go_wp2_with fail
  refine (l3Uses_any 14 _).mono ?_
  rintro e wx ⟨rfl,rfl⟩
  have H:Is w w2 r a n c zs (k+1+1) (w1.heap.size+1) 14 0 0 0:=⟨kr2,ko2,h2,T2,by omega,hrw,hcode⟩
  have HH:=hide H
  clear H kr2 ko2 h2 T2 hcode
  have hbig:w.heap.size<w1.heap.size+1:=by omega
  have hlt2:w1.heap.size+1<w2.heap.size:=by omega
  have hlt3:w.heap.size<w2.heap.size:=by omega
  rw [show us 14=7 from by decide]
  have hA:=HAT.out (w2.setCell ⟨w1.heap.size+1,1,none⟩ (.int .i64 (v2 % 4)))
  simp only [size_setCell] at hA
  have N:=(((HH.out.set1 (v2 % 4)).set2 A).more (.cells #[.int .i64 7,.int .i64 6,.int .i64 0,.int .i64 1,.int .i64 2,.int .i64 7,.int .i64 6,.int .i64 3] 3))
  go_wp2_with fail
  refine (next_is r a n c zs (k+1+1) v3 _ N.rd E3).mono ?_
  rintro e w3 ⟨rfl,hr3,t3⟩
  have N3:=N.next hr3 t3
  have hz3:=t3.size
  try simp only [World.size_alloc,size_setCell] at hz3
  clear N hr3 t3 q1 q2 q3 q4 q5 p1 p2 p3 p4 p5 HH hA
  obtain ⟨q1,q2,q3,q4,q5⟩:=N3.ins.four'
  obtain ⟨p1,p2,p3,p4,p5⟩:=N3.res.four'
  have HN:=hide N3
  clear N3
  have hA6:=HCD.out
  have hA6:(A == 6)=false:=by simpa using hA6
  go_wp2
  (with_reducible refine (HN.out.set3 (v3 % 16)).done _ Tryz.results282 _ ?_ ?_);rfl;omega
set_option maxHeartbeats 2000000 in
theorem l3Ins_15 (zs:List Int) (k:Nat) (hz:∀ j,0≤zs.getD j 0∧zs.getD j 0≤255) (v1:Int) (E1:Hid (zs.getD k 0=v1)) (z0:0≤v1) (z0':v1≤255) (HOP:Hid (∀ W:World,(W.alloc (.cells #[.int .i64 2,.int .i64 6,.int .i64 15,.int .i64 16,.int .i64 19,.int .i64 20,.int .i64 21,.int .i64 22,.int .i64 23,.int .i64 24,.int .i64 25,.int .i64 1,.int .i64 3,.int .i64 4,.int .i64 5,.int .i64 7,.int .i64 8,.int .i64 9,.int .i64 10,.int .i64 11,.int .i64 12,.int .i64 13,.int .i64 14,.int .i64 17,.int .i64 18] 3)).cell? ⟨W.heap.size,(v1 % 25).toNat,none⟩=some (.int .i64 15))):
 ∃ (d x i:Int) (k':Nat),(-1≤(15:Int)∧(15:Int)≤64∧-1≤d∧d≤10∧-1≤x∧x≤10∧-1≤i∧i≤65536)∧∀ (r:Nat) (a:Option Addr) (n c:Nat) (w:World) (h:Rdr w r a n c zs k) (hcode:n≠0→∀ b off,a=some ⟨b,off,none⟩→b<w.heap.size),Calls Tryz.prog 282 #[.pointer (some ⟨r,0,none⟩)] w (InsDr w r a n c zs 15 d x i k'):=by
 obtain ⟨v2,E2,z1,z1'⟩:=draw_of hz (k+1)
 obtain ⟨v3,E3,z2,z2'⟩:=draw_of hz (k+1+1)
 clear hz
 obtain ⟨A,hA0,hA1,hAT⟩:=aTab_at (v2 / 4 % 8).toNat (by omega)
 have HAT:=hide hAT
 clear hAT
 by_cases hA6:A=6
 ·have HCD:=hide hA6
  clear hA6
  refine ⟨v2 % 4,A,65532 - v3 % 16 / 4 * 4,k+1+1+1,by omega,fun r a n c w h hcode=>?_⟩
  have hrw:=h.blk.lt
  have T0:Turn (fun j=>j=r) w (w.alloc (.cells #[.int .i64 0,.int .i64 0,.int .i64 0,.int .i64 0] 124)):=turn_alloc w _
  have kr0:=Blk.new w #[.int .i64 0,.int .i64 0,.int .i64 0,.int .i64 0] 124
  have h0:=rdr_below h ((Below.refl w.heap.size w).alloc (Nat.le_refl _) (.cells #[.int .i64 0,.int .i64 0,.int .i64 0,.int .i64 0] 124))
  clear h
  go_enter Tryz.func282,Tryz.ntmps282
  go_wp2_with fail
  refine (next_is r a n c zs k v1 _ h0 E1).mono ?_
  rintro e w1 ⟨rfl,h1,t1⟩
  have kr1:=turn_blk t1 kr0 (by omega)
  have T1:=T0.trans t1
  clear t1 kr0 T0 h0
  have hop:=HOP.out w1
  have kop:=Blk.new (w1.alloc (.cells #[.int .i64 2,.int .i64 6,.int .i64 15,.int .i64 16,.int .i64 19,.int .i64 20,.int .i64 21,.int .i64 22,.int .i64 23,.int .i64 24,.int .i64 25,.int .i64 1,.int .i64 3,.int .i64 4,.int .i64 5,.int .i64 7,.int .i64 8,.int .i64 9,.int .i64 10,.int .i64 11,.int .i64 12,.int .i64 13,.int .i64 14,.int .i64 17,.int .i64 18] 3)) #[.int .i64 15,.int .i64 0,.int .i64 0,.int .i64 0] 124
  have h1':=rdr_below (rdr_below h1 ((Below.refl w1.heap.size w1).alloc (Nat.le_refl _) (.cells #[.int .i64 2,.int .i64 6,.int .i64 15,.int .i64 16,.int .i64 19,.int .i64 20,.int .i64 21,.int .i64 22,.int .i64 23,.int .i64 24,.int .i64 25,.int .i64 1,.int .i64 3,.int .i64 4,.int .i64 5,.int .i64 7,.int .i64 8,.int .i64 9,.int .i64 10,.int .i64 11,.int .i64 12,.int .i64 13,.int .i64 14,.int .i64 17,.int .i64 18] 3))) ((Below.refl _ _).alloc (Nat.le_refl _) (.cells #[.int .i64 15,.int .i64 0,.int .i64 0,.int .i64 0] 124))
  have T1':=(T1.trans (turn_alloc w1 (.cells #[.int .i64 2,.int .i64 6,.int .i64 15,.int .i64 16,.int .i64 19,.int .i64 20,.int .i64 21,.int .i64 22,.int .i64 23,.int .i64 24,.int .i64 25,.int .i64 1,.int .i64 3,.int .i64 4,.int .i64 5,.int .i64 7,.int .i64 8,.int .i64 9,.int .i64 10,.int .i64 11,.int .i64 12,.int .i64 13,.int .i64 14,.int .i64 17,.int .i64 18] 3))).trans (turn_alloc _ (.cells #[.int .i64 15,.int .i64 0,.int .i64 0,.int .i64 0] 124))
  have kr1':=(kr1.alloc (.cells #[.int .i64 2,.int .i64 6,.int .i64 15,.int .i64 16,.int .i64 19,.int .i64 20,.int .i64 21,.int .i64 22,.int .i64 23,.int .i64 24,.int .i64 25,.int .i64 1,.int .i64 3,.int .i64 4,.int .i64 5,.int .i64 7,.int .i64 8,.int .i64 9,.int .i64 10,.int .i64 11,.int .i64 12,.int .i64 13,.int .i64 14,.int .i64 17,.int .i64 18] 3)).alloc (.cells #[.int .i64 15,.int .i64 0,.int .i64 0,.int .i64 0] 124)
  have hlt1:=kr1.lt
  clear kr1 T1 h1
  simp only [World.size_alloc] at kop
  go_wp2_with fail
  refine (next_is r a n c zs (k+1) v2 _ h1' E2).mono ?_
  rintro e w2 ⟨rfl,h2,t2⟩
  have kr2:=turn_blk t2 kr1' (by omega)
  have ko2:=turn_blk t2 kop (by omega)
  have T2:=T1'.trans t2
  have hz2:=t2.size
  simp only [World.size_alloc] at hz2
  clear t2 kr1' T1' h1' kop hop
  obtain ⟨q1,q2,q3,q4,q5⟩:=ko2.four'
  obtain ⟨p1,p2,p3,p4,p5⟩:=kr2.four'
  go_wp2_with fail
  refine (l3Uses_any 15 _).mono ?_
  rintro e wx ⟨rfl,rfl⟩
  have H:Is w w2 r a n c zs (k+1+1) (w1.heap.size+1) 15 0 0 0:=⟨kr2,ko2,h2,T2,by omega,hrw,hcode⟩
  have HH:=hide H
  clear H kr2 ko2 h2 T2 hcode
  have hbig:w.heap.size<w1.heap.size+1:=by omega
  have hlt2:w1.heap.size+1<w2.heap.size:=by omega
  have hlt3:w.heap.size<w2.heap.size:=by omega
  rw [show us 15=7 from by decide]
  have hA:=HAT.out (w2.setCell ⟨w1.heap.size+1,1,none⟩ (.int .i64 (v2 % 4)))
  simp only [size_setCell] at hA
  have N:=(((HH.out.set1 (v2 % 4)).set2 A).more (.cells #[.int .i64 7,.int .i64 6,.int .i64 0,.int .i64 1,.int .i64 2,.int .i64 7,.int .i64 6,.int .i64 3] 3))
  go_wp2_with fail
  refine (next_is r a n c zs (k+1+1) v3 _ N.rd E3).mono ?_
  rintro e w3 ⟨rfl,hr3,t3⟩
  have N3:=N.next hr3 t3
  have hz3:=t3.size
  try simp only [World.size_alloc,size_setCell] at hz3
  clear N hr3 t3 q1 q2 q3 q4 q5 p1 p2 p3 p4 p5 HH hA
  obtain ⟨q1,q2,q3,q4,q5⟩:=N3.ins.four'
  obtain ⟨p1,p2,p3,p4,p5⟩:=N3.res.four'
  have HN:=hide N3
  clear N3
  have hA6:=HCD.out
  subst hA6
  go_wp2
  (with_reducible refine ((HN.out.set3 (v3 % 16)).set3 (65532 - v3 % 16 / 4 * 4)).done _ Tryz.results282 _ ?_ ?_);rfl;omega
 ·have HCD:=hide hA6
  clear hA6
  refine ⟨v2 % 4,A,v3 % 16,k+1+1+1,by omega,fun r a n c w h hcode=>?_⟩
  have hrw:=h.blk.lt
  have T0:Turn (fun j=>j=r) w (w.alloc (.cells #[.int .i64 0,.int .i64 0,.int .i64 0,.int .i64 0] 124)):=turn_alloc w _
  have kr0:=Blk.new w #[.int .i64 0,.int .i64 0,.int .i64 0,.int .i64 0] 124
  have h0:=rdr_below h ((Below.refl w.heap.size w).alloc (Nat.le_refl _) (.cells #[.int .i64 0,.int .i64 0,.int .i64 0,.int .i64 0] 124))
  clear h
  go_enter Tryz.func282,Tryz.ntmps282
  go_wp2_with fail
  refine (next_is r a n c zs k v1 _ h0 E1).mono ?_
  rintro e w1 ⟨rfl,h1,t1⟩
  have kr1:=turn_blk t1 kr0 (by omega)
  have T1:=T0.trans t1
  clear t1 kr0 T0 h0
  have hop:=HOP.out w1
  have kop:=Blk.new (w1.alloc (.cells #[.int .i64 2,.int .i64 6,.int .i64 15,.int .i64 16,.int .i64 19,.int .i64 20,.int .i64 21,.int .i64 22,.int .i64 23,.int .i64 24,.int .i64 25,.int .i64 1,.int .i64 3,.int .i64 4,.int .i64 5,.int .i64 7,.int .i64 8,.int .i64 9,.int .i64 10,.int .i64 11,.int .i64 12,.int .i64 13,.int .i64 14,.int .i64 17,.int .i64 18] 3)) #[.int .i64 15,.int .i64 0,.int .i64 0,.int .i64 0] 124
  have h1':=rdr_below (rdr_below h1 ((Below.refl w1.heap.size w1).alloc (Nat.le_refl _) (.cells #[.int .i64 2,.int .i64 6,.int .i64 15,.int .i64 16,.int .i64 19,.int .i64 20,.int .i64 21,.int .i64 22,.int .i64 23,.int .i64 24,.int .i64 25,.int .i64 1,.int .i64 3,.int .i64 4,.int .i64 5,.int .i64 7,.int .i64 8,.int .i64 9,.int .i64 10,.int .i64 11,.int .i64 12,.int .i64 13,.int .i64 14,.int .i64 17,.int .i64 18] 3))) ((Below.refl _ _).alloc (Nat.le_refl _) (.cells #[.int .i64 15,.int .i64 0,.int .i64 0,.int .i64 0] 124))
  have T1':=(T1.trans (turn_alloc w1 (.cells #[.int .i64 2,.int .i64 6,.int .i64 15,.int .i64 16,.int .i64 19,.int .i64 20,.int .i64 21,.int .i64 22,.int .i64 23,.int .i64 24,.int .i64 25,.int .i64 1,.int .i64 3,.int .i64 4,.int .i64 5,.int .i64 7,.int .i64 8,.int .i64 9,.int .i64 10,.int .i64 11,.int .i64 12,.int .i64 13,.int .i64 14,.int .i64 17,.int .i64 18] 3))).trans (turn_alloc _ (.cells #[.int .i64 15,.int .i64 0,.int .i64 0,.int .i64 0] 124))
  have kr1':=(kr1.alloc (.cells #[.int .i64 2,.int .i64 6,.int .i64 15,.int .i64 16,.int .i64 19,.int .i64 20,.int .i64 21,.int .i64 22,.int .i64 23,.int .i64 24,.int .i64 25,.int .i64 1,.int .i64 3,.int .i64 4,.int .i64 5,.int .i64 7,.int .i64 8,.int .i64 9,.int .i64 10,.int .i64 11,.int .i64 12,.int .i64 13,.int .i64 14,.int .i64 17,.int .i64 18] 3)).alloc (.cells #[.int .i64 15,.int .i64 0,.int .i64 0,.int .i64 0] 124)
  have hlt1:=kr1.lt
  clear kr1 T1 h1
  simp only [World.size_alloc] at kop
  go_wp2_with fail
  refine (next_is r a n c zs (k+1) v2 _ h1' E2).mono ?_
  rintro e w2 ⟨rfl,h2,t2⟩
  have kr2:=turn_blk t2 kr1' (by omega)
  have ko2:=turn_blk t2 kop (by omega)
  have T2:=T1'.trans t2
  have hz2:=t2.size
  simp only [World.size_alloc] at hz2
  clear t2 kr1' T1' h1' kop hop
  obtain ⟨q1,q2,q3,q4,q5⟩:=ko2.four'
  obtain ⟨p1,p2,p3,p4,p5⟩:=kr2.four'
  go_wp2_with fail
  refine (l3Uses_any 15 _).mono ?_
  rintro e wx ⟨rfl,rfl⟩
  have H:Is w w2 r a n c zs (k+1+1) (w1.heap.size+1) 15 0 0 0:=⟨kr2,ko2,h2,T2,by omega,hrw,hcode⟩
  have HH:=hide H
  clear H kr2 ko2 h2 T2 hcode
  have hbig:w.heap.size<w1.heap.size+1:=by omega
  have hlt2:w1.heap.size+1<w2.heap.size:=by omega
  have hlt3:w.heap.size<w2.heap.size:=by omega
  rw [show us 15=7 from by decide]
  have hA:=HAT.out (w2.setCell ⟨w1.heap.size+1,1,none⟩ (.int .i64 (v2 % 4)))
  simp only [size_setCell] at hA
  have N:=(((HH.out.set1 (v2 % 4)).set2 A).more (.cells #[.int .i64 7,.int .i64 6,.int .i64 0,.int .i64 1,.int .i64 2,.int .i64 7,.int .i64 6,.int .i64 3] 3))
  go_wp2_with fail
  refine (next_is r a n c zs (k+1+1) v3 _ N.rd E3).mono ?_
  rintro e w3 ⟨rfl,hr3,t3⟩
  have N3:=N.next hr3 t3
  have hz3:=t3.size
  try simp only [World.size_alloc,size_setCell] at hz3
  clear N hr3 t3 q1 q2 q3 q4 q5 p1 p2 p3 p4 p5 HH hA
  obtain ⟨q1,q2,q3,q4,q5⟩:=N3.ins.four'
  obtain ⟨p1,p2,p3,p4,p5⟩:=N3.res.four'
  have HN:=hide N3
  clear N3
  have hA6:=HCD.out
  have hA6:(A == 6)=false:=by simpa using hA6
  go_wp2
  (with_reducible refine (HN.out.set3 (v3 % 16)).done _ Tryz.results282 _ ?_ ?_);rfl;omega
end Go.Proofs.YtngdgogjlpjjpadGreat
