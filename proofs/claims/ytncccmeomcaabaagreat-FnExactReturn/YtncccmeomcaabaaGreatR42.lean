import Derived.Test.YtncccmeomcaabaaGreatR33
import Derived.Test.YtncccmeomcaabaaGreatR39
set_option linter.all false
namespace Go.Proofs.YtncccmeomcaabaaGreat
open Go.RowKit Classical
open Go.Proofs.Tryz
set_option maxRecDepth 100000
variable {C C':Cn}{Ls:List (PMod×Mb)}{M M':Mn}{Y:Lyb}{b m t:Int}{base mid:Nat}{β:Nat->Nat}
theorem aIf {w W W':qw}{g:Nat}(h:TGx w W)(T:Turn (fun j=>j=g) W W')(hg:w.heap.size<=g):TGx w W':=⟨T.os.trans h.os,T.tape.trans h.tape,T.output.trans h.output,xM h.size T.size,fun k hk hs=>(T.block k (Nat.lt_of_lt_of_le hk h.size) (fun (e:k=g)=>by omega)).trans (h.block k hk hs)⟩
structure Se (w1 w W:qw)(Y:Lyb)(m b t:Int)(C:Cn)(M:Mn)(base mid:Nat)(Ls:List (PMod×Mb))(β:Nat->Nat):Prop where
 tg:TGx w W
 lo:qY w1 W
 l:w1.heap.size<=w.heap.size
 k0:Blk W w.heap.size (qA M) 43
 k1:Blk W (w.heap.size+1) (qL Y.L Y.a0 Y.xs.length Y.c0 Y.a2 Y.L.slots.length Y.c2 Y.a5 Y.ts.length Y.c5) 71
 k2:Blk W (w.heap.size+1+1) (qT m b t) 58
 k3:Blk W (w.heap.size+1+1+1) z15 43
 m:MxO W base mid C M Ls β
theorem Se.bw {w1 w W:qw}{W':qw}(h:Se w1 w W Y m b t C M base mid Ls β)(hb:qY W W'):Se w1 w W' Y m b t C M base mid Ls β:=⟨h.tg.trans (bC hb),h.lo.trans (hb.mono h.lo.size),h.l,h.k0.bw hb,h.k1.bw hb,h.k2.bw hb,h.k3.bw hb,h.m.bw hb⟩
theorem Se.put {w1 w W:qw}(h:Se w1 w W Y m b t C M base mid Ls β)(i:Nat)(v:Value)(e:((qA M):Array Value).setIfInBounds i v=(qA M'))(hm:∀ {X:qw},MxO X base mid C M Ls β->MxO X base mid C' M' Ls β):Se w1 w (W.setCell (qR w.heap.size i) v) Y m b t C' M' base mid Ls β:=by
 have T:=aC W w.heap.size i v;have k:=h.k0.set i v;rw [e] at k;exact ⟨aIf h.tg T aN,aG h.lo T (fun j hj=>by have:=h.l;omega) h.lo.size,h.l,k,h.k1.other _ _ (by dsimp only;omega),h.k2.other _ _ (by dsimp only;omega),h.k3.other _ _ (by dsimp only;omega),hm (h.m.tm (fP h.k0 T))⟩
theorem Se.upd {w1 w W:qw}{W':qw}{S:Nat->Prop}(h:Se w1 w W Y m b t C M base mid Ls β)(T:Turn S W W')(hS:∀ j,S j->w1.heap.size<=j/\∃ cs ty,Blk W j cs ty/\gkd ty)(e:((qA M):Array Value)=(qA M'))(hm:MxO W' base mid C' M' Ls β):Se w1 w W' Y m b t C' M' base mid Ls β:=by
 have key:∀ {j:Nat} {cs:Array Value} {ty:TypeId},Blk W j cs ty->(ty=43\/ty=71\/ty=58)->Blk W' j cs ty:=fun kb ht=>aF T kb (fun s=>by
  obtain ⟨_,c2,t2,k2,n1⟩:=hS _ s;have:=aI kb k2;rw [<- this] at n1;unfold gkd at n1
  rcases ht with rfl|rfl|rfl<;>exact absurd n1 (by decide))
 exact ⟨h.tg.trans (dR T (fun j hj=>(hS j hj).2)),aG h.lo T (fun j hj=>(hS j hj).1) h.lo.size,h.l,by rw [<- e];exact key h.k0 (.inl rfl),key h.k1 (.inr (.inl rfl)),key h.k2 (.inr (.inr rfl)),key h.k3 (.inl rfl),hm⟩
theorem Se.reg {w1 w W:qw}(h:Se w1 w W Y m b t C M base mid Ls β)(hw:w1.heap.size<=base){gk:Nat}(e:M.ka=some (qR gk 0))(i:Nat)(hi:i<M.kn)(z:Int)(hz:wfi z):Se w1 w (W.setCell (qR gk i) (qI z)) Y m b t { C with kz:=C.kz.set i z } { M with kz:=C.kz.set i z } base mid Ls β:=by
 have mk:=h.m.k;rw [e] at mk;obtain ⟨cs,kb⟩:=aD mk.1 (k:=gk) rfl;have lo:=(mk.lt gk rfl).1;have bm:=h.m.bm;exact h.upd (aC W gk i _) (fun j hj=>by subst hj;exact ⟨by omega,cs,_,kb,.inr (.inr (.inr rfl))⟩) rfl (h.m.reg e i hi z hz)
theorem MxO.stn {W:qw}(h:MxO W base mid C M Ls β)(v:Int):MxO W base mid { C with tn:=v } { M with tn:=v } Ls β:=⟨h.m,h.e,h.k,h.q,h.l,h.h,h.bm,h.bh,⟨h.vs.1,h.vs.2.1,h.vs.2.2.1,h.vs.2.2.2.1,h.vs.2.2.2.2.1,h.vs.2.2.2.2.2.1,h.vs.2.2.2.2.2.2.1,rfl⟩,h.vz⟩
theorem Se.slot {w1 w W:qw}(h:Se w1 w W Y m b t C M base mid Ls β)(hw:w1.heap.size<=base){gl:Nat}(e:M.la=some (qR gl 0))(i:Nat)(hi:i<M.ln)(x0:Bool)(x1 x2 x3:Int):Se w1 w ((((W.setCell (qR gl (i*4)) (.bool x0)).setCell (qR gl (i*4+1)) (qI x1)).setCell (qR gl (i*4+2)) (qI x2)).setCell (qR gl (i*4+3)) (qI x3)) Y m b t { C with lz:=C.lz.set i (x0,x1,x2,x3) } { M with lz:=C.lz.set i (x0,x1,x2,x3) } base mid Ls β:=by
 have ml:=h.m.l;rw [e] at ml;obtain ⟨cs,kb⟩:=aD ml (k:=gl) rfl;have lo:=(ml.lt gl rfl).1;have bm:=h.m.bm;exact h.upd ((((aC W gl _ _).trans (aC _ gl _ _)).trans (aC _ gl _ _)).trans (aC _ gl _ _)) (fun j hj=>by subst hj;exact ⟨by omega,cs,_,kb,.inr (.inr (.inl rfl))⟩) rfl (h.m.slot e i hi x0 x1 x2 x3)
theorem Se.mem {w1 w W:qw}{W':qw}(h:Se w1 w W Y m b t C M base mid Ls β)(hw:w1.heap.size<=base){gr:Nat}(e:M.ra=some (qR gr 0))(T:Turn (fun j=>j=gr) W W'){R:qi}(q:OB W' mid (qS M.ra M.rn M.rc) R):Se w1 w W' Y m b t { C with rz:=R } { M with rz:=R } base mid Ls β:=by
 have mq:=h.m.q;rw [e] at mq q;obtain ⟨cs,kb⟩:=aD mq.2.1.1 (k:=gr) rfl;have lo:=(mq.2.1.lt gr rfl).1;have bm:=h.m.bm;have hz:=h.m.vz.2.2.2.2.1
 have q3:gL W' mid (qS M.fa M.fn M.fc) (qS M.ra M.rn M.rc) (qS M.oa M.on M.oc) C.fz R C.oz:=by
  rw [e];exact ⟨aU T mq.1 (fun k hk (s:k=gr)=>by have:=mq.2.2.2.1 k gr hk rfl;omega),q,aU T mq.2.2.1 (fun k hk (s:k=gr)=>by have:=mq.2.2.2.2.2 gr k rfl hk;omega),mq.2.2.2⟩
 have m2:=h.m.mem T (fun j hj=>by subst hj;exact ⟨lo,cs,_,kb,.inl rfl⟩) q3;refine h.upd T (fun j hj=>by subst hj;exact ⟨by omega,cs,_,kb,.inl rfl⟩) rfl ?_;rw [<- hz] at m2;exact ⟨m2.m,m2.e,m2.k,q3,m2.l,m2.h,m2.bm,m2.bh,m2.vs,⟨m2.vz.1,m2.vz.2.1,m2.vz.2.2.1,rfl,hz,m2.vz.2.2.2.2.2⟩⟩
def LeP (w1 w:qw)(base mid:Nat)(Ls:List (PMod×Mb))(β:Nat->Nat)(Y:Lyb)(C:Cn)(m b t:Int)(e:Ending)(w':qw):Prop:=∃ M',e=.returned (.agg (qA M'))/\MxO w' base mid (dI C Y.L m b t) M' Ls β/\qY w1 w'/\TGx w w'
theorem aMo {W:qw}{q:Nat}(k1:Blk W q z15 43)(v0 v1 v2 v3 v4 v5 v6 v7 v8 v9 v10 v11 v12 v13 v14:Value)(Q:Ending->World->Prop)(tmps:Array Value)(h6:tmps[6]?=some (.pointer (qP q)))(hQ:Q (.returned (.agg #[v0,v1,v2,v3,v4,v5,v6,v7,v8,v9,v10,v11,v12,v13,v14])) (jS W q v0 v1 v2 v3 v4 v5 v6 v7 v8 v9 v10 v11 v12 v13 v14)):
 bodyPost prog f62 Q Exit.ret ⟨tmps,[]⟩ (jS W q v0 v1 v2 v3 v4 v5 v6 v7 v8 v9 v10 v11 v12 v13 v14):=by
 obtain ⟨t0,t1,t2,t3,t4,t5,t6,t7,t8,t9,t10,t11,t12,t13,t14⟩:=(iJ k1 v0 v1 v2 v3 v4 v5 v6 v7 v8 v9 v10 v11 v12 v13 v14).mc;refine bodyPost_ret_by (v:=.agg #[v0,v1,v2,v3,v4,v5,v6,v7,v8,v9,v10,v11,v12,v13,v14]) ?_ rfl hQ;simp [results,results62,go_sem,h6,t0,t1,t2,t3,t4,t5,t6,t7,t8,t9,t10,t11,t12,t13,t14]
