import Derived.Test.YtncccmeomcaabaaGreatR24
set_option linter.all false
set_option maxHeartbeats 4000000
namespace Go.Proofs.YtncccmeomcaabaaGreat
open Go.RowKit Classical
open Go.Proofs.Tryz
set_option maxRecDepth 100000
variable {C:Cn}{G b g n:Nat}{M:Mn}{S:Nat->Prop}{v13 vr:Value}
structure Lyb where
 L:Lay
 a0:qO
 c0:Nat
 xs:List PB
 a2:qO
 c2:Nat
 a5:qO
 c5:Nat
 ts:List TB
abbrev Lyb.T (Y:Lyb)(w:qw):Prop:=LyT w Y.L Y.a0 Y.c0 Y.xs Y.a2 Y.c2 Y.a5 Y.c5 Y.ts
theorem Blk.mg {w:qw}{t:TypeId}{v0 v1 v2 v3 v4 v5 v6 v7 v8 v9 v10 v11 v12 v14 v15 v16 v17 v18 v19 v20 v21 v22 v23:Value}(h:Blk w b #[v0,v1,v2,v3,v4,v5,v6,v7,v8,v9,v10,v11,v12,v13,v14,v15,v16,v17,v18,v19,v20,v21,v22,v23] t):w.cell? (qR b 0)=some v0/\w.cell? (qR b 1)=some v1/\w.cell? (qR b 2)=some v2/\w.cell? (qR b 3)=some v3/\w.cell? (qR b 4)=some v4/\w.cell? (qR b 5)=some v5/\w.cell? (qR b 6)=some v6/\w.cell? (qR b 7)=some v7/\w.cell? (qR b 8)=some v8/\w.cell? (qR b 9)=some v9/\w.cell? (qR b 10)=some v10/\w.cell? (qR b 11)=some v11/\w.cell? (qR b 12)=some v12/\w.cell? (qR b 13)=some v13/\w.cell? (qR b 14)=some v14/\w.cell? (qR b 15)=some v15/\w.cell? (qR b 16)=some v16/\w.cell? (qR b 17)=some v17/\w.cell? (qR b 18)=some v18/\w.cell? (qR b 19)=some v19/\w.cell? (qR b 20)=some v20/\w.cell? (qR b 21)=some v21/\w.cell? (qR b 22)=some v22/\w.cell? (qR b 23)=some v23:=⟨h.cell 0,h.cell 1,h.cell 2,h.cell 3,h.cell 4,h.cell 5,h.cell 6,h.cell 7,h.cell 8,h.cell 9,h.cell 10,h.cell 11,h.cell 12,h.cell 13,h.cell 14,h.cell 15,h.cell 16,h.cell 17,h.cell 18,h.cell 19,h.cell 20,h.cell 21,h.cell 22,h.cell 23⟩
structure Mg (w1 W:qw)(G:Nat)(Y:Lyb)(C:Cn)(M:Mn)(v13 vr:Value):Prop where
 b:qY w1 W
 g:w1.heap.size<=G
 k:Blk W G #[qS M.ma M.mn M.mc,qI M.cs,qI M.cw,qI M.ck,qI M.cd,qI M.pc,qS M.ka M.kn M.kc,qS M.fa M.fn M.fc,qS M.ra M.rn M.rc,qS M.oa M.on M.oc,qI M.md,qI M.bk,qS M.la M.ln M.lc,v13,qI M.tn,qS Y.a0 Y.xs.length Y.c0,qI Y.L.stack,qS Y.a2 Y.L.slots.length Y.c2,qI Y.L.flash,qI Y.L.ram,qS Y.a5 Y.ts.length Y.c5,qI M.cd,qS M.ha M.hn M.hc,vr] 110
 m:∃ base mid Ls β,MxO W base mid C M Ls β/\w1.heap.size<=base/\mid<=G
 l:Y.T w1
theorem Mg.bw {w1 W W':qw}{Y:Lyb}(h:Mg w1 W G Y C M v13 vr)(hb:qY W W'):Mg w1 W' G Y C M v13 vr:=by
 obtain ⟨base,mid,Ls,β,m,hm⟩:=h.m;exact ⟨h.b.trans (hb.mono h.b.size),h.g,h.k.bw hb,⟨base,mid,Ls,β,m.bw hb,hm⟩,h.l⟩
theorem Mg.ly {w1 W:qw}{Y:Lyb}(h:Mg w1 W G Y C M v13 vr):Y.T W:=h.l.bw h.b
theorem Mg.vs {w1 W:qw}{Y:Lyb}(h:Mg w1 W G Y C M v13 vr):(M.cs=C.cs/\M.cw=C.cw/\M.ck=C.ck/\M.cd=C.cd/\M.pc=C.pc/\M.md=C.md/\M.bk=C.bk/\M.tn=C.tn)/\aE M.ms=C.ps/\M.lz=C.lz:=by
 obtain ⟨base,mid,Ls,β,m,hm⟩:=h.m;exact ⟨m.vs,by rw [m.vz.1,m.m.pms,m.e],m.vz.2.2.2.2.2.1⟩
theorem Mg.mnd {w1 W:qw}{Y:Lyb}(h:Mg w1 W G Y C M v13 vr)(hn:C.ps.length<=4):MnD W M:=by
 have e:=h.vs.2.1;obtain ⟨base,mid,Ls,β,m,hm⟩:=h.m;refine m.mnd ?_;have h1:=m.len;have h2:=congrArg List.length m.e;rw [xH] at h2;omega
theorem aHf (w1:qw)(G:Nat)(Y:Lyb)(C:Cn)(M:Mn)(v13 vr:Value)(w:qw)(h:Mg w1 w G Y C M v13 vr):qC 162 #[.pointer (qP G)] w (qB w (.agg (qT M.md M.bk 0))):=by
 obtain ⟨V,hV⟩:=eqx (w.alloc (.cells (qT 0 0 0) 58));have bV:qY w V:=by rw [hV];exact bal
 have k10:=(h.k.bw bV).e10;have k11:=(h.k.bw bV).e11;have kV:Blk V w.heap.size (qT 0 0 0) 58:=by rw [hV];exact Blk.new _ _ _
 obtain ⟨r0,r1,r2,rf⟩:=kV.three;have HV:=zh hV;have hg:G<w.heap.size:=h.k.lt;have hn1:¬ G=w.heap.size:=by omega
 have hn2:¬ w.heap.size=G:=by omega
 have HE:Zh (qY w (((V.setCell (qR w.heap.size 0) (qI M.md)).setCell (qR w.heap.size 1) (qI M.bk)).setCell (qR w.heap.size 2) (qI 0))):=((bV.setCell (by dsimp only;omega) _).setCell (by dsimp only;omega) _).setCell (by dsimp only;omega) _;clear hV bV kV h;go_enter func162,ntmps162
 go_wp2_with (rw [<- HV.o])
 go_region_held3 (fun w'=>w'.cell? (qR G 10)=some (qI M.md)/\w'.cell? (qR G 11)=some (qI M.bk)) (go_keep) (fail)
 all_goals
  go_wp2;exact bodyPost_ret (v:=.agg (qT M.md M.bk 0)) (by simp [results,results162,go_sem,r0,r1,r2]) rfl ⟨rfl,HE.o.drew⟩
theorem aBu (w1:qw)(G:Nat)(Y:Lyb)(C:Cn)(M:Mn)(v13 vr:Value)(w:qw)(h:Mg w1 w G Y C M v13 vr):qC 131 #[.pointer (qP G)] w (qB w (qI (hld C.lz M.md M.bk))):=by
 have k10:=h.k.e10;have k11:=h.k.e11;have k12:=h.k.e12
 have HS:=zh (fun (X:qw) (hX:qY w X)=>(iR M.la M.ln M.lc C.lz M.md M.bk X (by
  obtain ⟨base,mid,Ls,β,m,_⟩:=h.m
  exact (oZ bM m.l).bw hX)).mono (fun e w' he=>show e=.returned (qI (hld C.lz M.md M.bk))/\qY w w' from ⟨he.1,hX.trans (he.2.mono hX.size)⟩))
 generalize hld C.lz M.md M.bk=r at *;clear h;go_enter func131,ntmps131
 go_wp2_with fail
 go_region_held3 (fun w'=>w'.cell? (qR G 10)=some (qI M.md)/\w'.cell? (qR G 11)=some (qI M.bk)/\w'.cell? (qR G 12)=some (qS M.la M.ln M.lc)) (go_keep)
  (first
    | (go_at_call 176;first
        | with_reducible refine (HS.o _ brf).mono ?_
        | with_reducible refine (HS.o _ brf.drew).mono ?_
       rintro e w2 ⟨rfl,hb2⟩;have z10:=aB hb2 k10;have z11:=aB hb2 k11;have z12:=aB hb2 k12;have HB:=zh hb2
       clear hb2))
 all_goals
  go_wp2;go_ret;exact ⟨rfl,HB.o⟩
theorem aGx (w1:qw)(G:Nat)(Y:Lyb)(C:Cn)(M:Mn)(v13 vr:Value)(m b t:Int)(w:qw)(h:Mg w1 w G Y C M v13 vr)(hn:C.ps.length<=4):qC 64 #[.pointer (qP G),.agg (qT m b t)] w (qB w (.bool (decide (C.tn<1000000000/\tgk C.ps m b t)))):=by
 obtain ⟨V,hV,bV,kV⟩:=nwb w (qT m b t) 58;have k0:=(h.k.bw bV).e0;have k14:=(h.k.bw bV).e14;obtain ⟨r0,r1,r2,_⟩:=kV.three;have e1:=h.vs.1.2.2.2.2.2.2.2;have e2:=h.vs.2.1;have HS:=zh (fun (X:qw) (hX:qY V X)=>(mN M.ma M.mn M.mc M.ms m b t X (((h.mnd hn).m.bw bV).bw hX)).mono (fun e w' he=>show e=.returned (.bool (decide (tgk C.ps m b t)))/\qY V w' from ⟨by rw [he.1,e2],hX.trans (he.2.mono hX.size)⟩));rw [<- e1];have HV:=zh hV;have HB:=zh bV;obtain ⟨r,hr⟩:=eqx (decide (M.tn<1000000000/\tgk C.ps m b t));rw [<- hr];by_cases c1:M.tn<1000000000
 .have HR:=zh (show r=decide (tgk C.ps m b t) by rw [hr];simp [c1]);generalize decide (tgk C.ps m b t)=q at *;clear h hV bV kV e1 e2 hr;go_enter func64,ntmps64
  go_wp2_with (rw [<- HV.o])
  go_region_held3 (fun w'=>w'.cell? (qR G 0)=some (qS M.ma M.mn M.mc)/\w'.cell? (qR G 14)=some (qI M.tn)/\w'.cell? (qR w.heap.size 0)=some (qI m)/\w'.cell? (qR w.heap.size 1)=some (qI b)/\w'.cell? (qR w.heap.size 2)=some (qI t)) (go_keep)
   (first
     | (go_at_call 126;first
         | with_reducible refine (HS.o _ brf).mono ?_
         | with_reducible refine (HS.o _ brf.drew).mono ?_
        rintro e w2 ⟨rfl,hb2⟩;have z0:=aB hb2 k0;have z14:=aB hb2 k14;have y0:=aB hb2 r0;have y1:=aB hb2 r1;have y2:=aB hb2 r2;have HB2:=zh hb2
        clear hb2))
  all_goals
   go_wp2;go_ret;exact ⟨aA HR.o.symm,HB.o.trans (HB2.o.mono HB.o.size)⟩
 .have HR:=zh (show r=false by rw [hr];simp [c1]);have c2:decide (M.tn<1000000000)=false:=by simp [c1]
  have c3:(M.tn<1000000000)=False:=by simp [c1]
  clear h hV bV kV e1 e2 hr;go_enter func64,ntmps64
  go_wp2_with (rw [<- HV.o])
  refine wp_region_held_drew (S:=(fun w'=>w'.cell? (qR G 14)=some (qI M.tn))) (by kernel_rfl) ?_ (fun hHeld=>?_)
  .go_keep
  refine tkV 0 ?_ rfl ?_ ?_;rotate_left
  ·(intro w hSw;(try dsimp only at hSw);go_simp;try with_reducible rfl)
  try simp only [yD,yE,yF,Act.put,yA,yB,yC]
  refine tkV 1 ?_ rfl ?_ ?_;rotate_left
  ·(intro w hSw;(try dsimp only at hSw);go_simp;try with_reducible rfl)
  try simp only [yD,yE,yF,Act.put,yA,yB,yC]
  refine tkV 2 ?_ rfl ?_ ?_;rotate_left
  ·(intro w hSw;(try dsimp only at hSw);go_simp;try with_reducible rfl)
  try simp only [yD,yE,yF,Act.put,yA,yB,yC]
  refine tkV 3 ?_ rfl ?_ ?_;rotate_left
  ·(intro w hSw;(try dsimp only at hSw);go_simp;try with_reducible rfl)
  try simp only [yD,yE,yF,Act.put,yA,yB,yC]
  refine tkV 4 ?_ rfl ?_ ?_;rotate_left
  ·(intro w hSw;(try dsimp only at hSw);go_simp;try with_reducible rfl)
  try simp only [yD,yE,yF,Act.put,yA,yB,yC]
  refine tkV 5 ?_ rfl ?_ ?_;rotate_left
  ·(intro w hSw;(try dsimp only at hSw);go_simp;try with_reducible rfl)
  try simp only [yD,yE,yF,Act.put,yA,yB,yC]
  refine tkV 6 ?_ rfl ?_ ?_;rotate_left
  ·(intro w hSw;(try dsimp only at hSw);go_simp;try with_reducible rfl)
  try simp only [yD,yE,yF,Act.put,yA,yB,yC]
  refine tkS 7 rfl ?_;try simp only [yD,yE,yF,Act.put,yA,yB,yC]
  refine tkS 8 rfl ?_;try simp only [yD,yE,yF,Act.put,yA,yB,yC]
  refine tkS 9 rfl ?_;try simp only [yD,yE,yF,Act.put,yA,yB,yC]
  refine tkS 10 rfl ?_;try simp only [yD,yE,yF,Act.put,yA,yB,yC]
  refine tkS 11 rfl ?_;try simp only [yD,yE,yF,Act.put,yA,yB,yC]
  refine tkS 12 rfl ?_;try simp only [yD,yE,yF,Act.put,yA,yB,yC]
  refine tkS 13 rfl ?_;try simp only [yD,yE,yF,Act.put,yA,yB,yC]
  refine tkV 14 ?_ rfl ?_ ?_;rotate_left
  ·(intro w hSw;(try dsimp only at hSw);go_simp;try with_reducible rfl)
  try simp only [yD,yE,yF,Act.put,yA,yB,yC]
  refine tkV 15 ?_ rfl ?_ ?_;rotate_left
  ·(intro w hSw;(try dsimp only at hSw);go_simp;try with_reducible rfl)
  try simp only [yD,yE,yF,Act.put,yA,yB,yC]
  refine wpAnyH_done (by kernel_rfl) ?_ _;go_wp2;go_ret;exact ⟨aA HR.o.symm,by first|exact HB.o.drew|exact HB.o⟩
theorem aBs (xs ds:List Value)(f n:Nat)(h:f+ds.length<=n)(hf:f<=xs.length):(splice xs f ds).take n=splice (xs.take n) f ds:=by
 unfold splice;rw [List.take_append,List.take_append,List.length_take,Nat.min_eq_left hf,xG (l:=List.take f xs) (by simp;omega),xG (l:=ds) (by omega),List.take_take,Nat.min_eq_left (by omega),List.drop_take];congr 3;omega
theorem aH8 {W:qw}{base cap f:Nat}{zs ds:qi}(ho:OB W base (qS (qP g) n cap) zs)(ty:TypeId)(sp:qO)(dLen dCap sLen sCap:Nat)(hds:BS W sp sLen sCap ds)(hle:sLen<=dLen)(hfit:f+sLen<=n)(h0:sLen≠0):
 ∃ w',(Builtin.copy_ #[28,28] ty #[qS (some (qR g f)) dLen dCap,qS sp sLen sCap]).run prog W=.ok (goInt sLen) w'/\OB w' base (qS (qP g) n cap) (ovr zs f ds)/\Turn (fun j=>j=g) W w':=by
 obtain ⟨⟨hl,⟨e0,_⟩|⟨g',cap',cur,hv,hg,hh,h1,h2,h3,h4⟩⟩,hr⟩:=ho
 .simp at e0
 .simp at hv;obtain ⟨rfl,rfl,rfl⟩:=hv;obtain ⟨b,off,rfl,hc⟩:=hds.2.2.2.1 h0;have hld:=hds.1;subst hld;have hi8:(prog.info? 5).map (·.size)=some 1:=by kernel_rfl
  have hrun:=run_copy_row (P:=prog) W 28 28 ty 5 g f dLen dCap (qR b off) ds.length sCap cur 5 (ds.map (Value.int .u8)) underlying28 hi8 hh (by rw [xH];exact (Nat.min_eq_left hle).symm) (fun j v hj=>by
   have hjl:j<ds.length:=by
    rcases Nat.lt_or_ge j ds.length with h1|h1
    .exact h1
    .rw [xO (by simp;omega)] at hj;cases hj
   rw [bN,hc j hjl,<- hj]
   simp [xB,show j<ds.length by omega]) (by simp;omega) (fun v hv=>by
   simp at hv;obtain ⟨z,_,rfl⟩:=hv
   rfl)
  rw [xH] at hrun;have on:=oY g W (cur.toList.take f++ds.map (Value.int .u8)++cur.toList.drop (f+ds.length)).toArray;refine ⟨_,hrun,⟨⟨by simp,.inr ⟨g,cap,(cur.toList.take f++ds.map (Value.int .u8)++cur.toList.drop (f+ds.length)).toArray,by rw [lC _ _ _ (by omega)],hg,setRow_heap W g cur _ 5 (0,0) hh,by rw [lC _ _ _ (by omega)];exact h1,h2,by simp;omega,?_⟩⟩,wL hr hds.2.2.1⟩,⟨on.2.2.1,on.2.2.2.1,on.2.2.2.2,by rw [on.1];exact aN,fun k _ hk=>on.2.1 k hk⟩⟩;have e:=aBs cur.toList (ds.map (Value.int .u8)) f zs.length (by simp;omega) (by simp;omega);rw [Nat.mul_one] at h4;rw [h4,zZ] at e;unfold splice at e;rw [lC _ _ _ (by omega),Nat.mul_one,List.toList_toArray,List.append_assoc,<- e];simp
section
variable {W W':qw}{base mid:Nat}{C:Cn}{M:Mn}{Ls:List (PMod×Mb)}{β:Nat->Nat}
theorem aT {sz:Nat}{cs:Array Value}{t ty:TypeId}{v:Value}{xs:List Value}(kb:Blk W g cs ty)(ho:W.ownsRow b t sz v n xs)(hne:t≠ty):∀ k,v.ownBlock=some k->¬ k=g:=fun k hk e=>by
 subst e;obtain ⟨c,k2⟩:=aD ho hk;exact hne (aI k2 kb)
theorem MxO.scal (h:MxO W base mid C M Ls β)(pc md bk tn:Int):MxO W base mid { C with pc:=pc,md:=md,bk:=bk,tn:=tn } { M with pc:=pc,md:=md,bk:=bk,tn:=tn } Ls β:=⟨h.m,h.e,h.k,h.q,h.l,h.h,h.bm,h.bh,⟨h.vs.1,h.vs.2.1,h.vs.2.2.1,h.vs.2.2.2.1,rfl,rfl,rfl,rfl⟩,h.vz⟩
theorem MxO.upd (h:MxO W base mid C M Ls β)(t:Turn S W W')(hS:∀ j,S j->mid<=j/\∃ cs ty,Blk W j cs ty/\ty≠138/\ty≠25):OMp W' base (qS M.ma M.mn M.mc) Ls β:=
 h.m.keep t (fun j hj s=>by
  obtain ⟨_,cs,ty,kb,n1,n2⟩:=hS j s;obtain ⟨c,k⟩:=aD h.m.o hj
  exact n1 (aI kb k)) (fun j s=>xM h.bh (hS j s).1) (fun j cs kb s=>by
  obtain ⟨_,cs',ty,kb',n1,n2⟩:=hS j s
  exact n2 (aI kb' kb))
theorem MxO.reg (h:MxO W base mid C M Ls β){gk:Nat}(e:M.ka=some (qR gk 0))(i:Nat)(hi:i<M.kn)(z:Int)(hz:wfi z):MxO (W.setCell (qR gk i) (qI z)) base mid { C with kz:=C.kz.set i z } { M with kz:=C.kz.set i z } Ls β:=by
 have hk:=h.k;rw [e] at hk;have T:=aC W gk i (qI z);obtain ⟨cs,kb⟩:=aD hk.1 (k:=gk) rfl;refine ⟨h.upd T (fun j hj=>by subst hj;exact ⟨(hk.lt _ rfl).1,cs,_,kb,by decide,by decide⟩),h.e,?_,dY h.q T (fun j hj=>?_),h.l.kept T (aT kb h.l (by decide)),h.h.kept T (aT kb h.h (by decide)),h.bm,h.bh,h.vs,⟨h.vz.1,rfl,h.vz.2.2⟩⟩
 .show OI _ mid (qS M.ka M.kn M.kc) (C.kz.set i z);rw [e];exact aJn hk i hi z hz
 .rcases hj with q|q|q
  .exact aT kb h.q.1.1 (by decide) j q
  .exact aT kb h.q.2.1.1 (by decide) j q
  .exact aT kb h.q.2.2.1.1 (by decide) j q
theorem MxO.slot (h:MxO W base mid C M Ls β){gl:Nat}(e:M.la=some (qR gl 0))(i:Nat)(hi:i<M.ln)(x0:Bool)(x1 x2 x3:Int):MxO ((((W.setCell (qR gl (i*4)) (.bool x0)).setCell (qR gl (i*4+1)) (qI x1)).setCell (qR gl (i*4+2)) (qI x2)).setCell (qR gl (i*4+3)) (qI x3)) base mid { C with lz:=C.lz.set i (x0,x1,x2,x3) } { M with lz:=C.lz.set i (x0,x1,x2,x3) } Ls β:=by
 have hl:=h.l;rw [e] at hl;have T:=(((aC W gl (i*4) (.bool x0)).trans (aC _ gl (i*4+1) (qI x1))).trans (aC _ gl (i*4+2) (qI x2))).trans (aC _ gl (i*4+3) (qI x3));obtain ⟨cs,kb⟩:=aD hl (k:=gl) rfl;refine ⟨h.upd T (fun j hj=>by subst hj;exact ⟨(hl.lt _ rfl).1,cs,_,kb,by decide,by decide⟩),h.e,aW T h.k (aT kb h.k.1 (by decide)),dY h.q T (fun j hj=>?_),?_,h.h.kept T (aT kb h.h (by decide)),h.bm,h.bh,h.vs,⟨h.vz.1,h.vz.2.1,h.vz.2.2.1,h.vz.2.2.2.1,h.vz.2.2.2.2.1,rfl,h.vz.2.2.2.2.2.2⟩⟩
 .rcases hj with q|q|q
  .exact aT kb h.q.1.1 (by decide) j q
  .exact aT kb h.q.2.1.1 (by decide) j q
  .exact aT kb h.q.2.2.1.1 (by decide) j q
 .show OG _ 4 bR _ mid (qS M.la M.ln M.lc) _;rw [e];exact aAd bM hl i hi (x0,x1,x2,x3) _ _ _ _ rfl
theorem MxO.mem (h:MxO W base mid C M Ls β)(T:Turn S W W')(hS:∀ j,S j->mid<=j/\∃ cs ty,Blk W j cs ty/\(ty=5\/ty=110\/ty=43)){oa:qO}{on oc:Nat}{R O:qi}(q:gL W' mid (qS M.fa M.fn M.fc) (qS M.ra M.rn M.rc) (qS oa on oc) C.fz R O):MxO W' base mid { C with rz:=R,oz:=O } { M with rz:=R,oa:=oa,on:=on,oc:=oc,oz:=O } Ls β:=by
 have key:∀ {t:TypeId} {sz n b:Nat} {v:Value} {xs:List Value},W.ownsRow b t sz v n xs->t≠5->t≠110->t≠43->∀ k,v.ownBlock=some k->¬ S k:=fun ho n1 n2 n3 k hk s=>by
  obtain ⟨_,cs,ty,kb,e⟩:=hS k s;obtain ⟨c,k2⟩:=aD ho hk;have:=aI k2 kb;rcases e with e|e|e
  .exact n1 (this.trans e)
  .exact n2 (this.trans e)
  .exact n3 (this.trans e)
 exact ⟨h.upd T (fun j s=>by
  obtain ⟨l,cs,ty,kb,e⟩:=hS j s
  exact ⟨l,cs,ty,kb,by rcases e with rfl|rfl|rfl<;>decide,by rcases e with rfl|rfl|rfl<;>decide⟩),h.e,aW T h.k (key h.k.1 (by decide) (by decide) (by decide)),q,h.l.kept T (key h.l (by decide) (by decide) (by decide)),h.h.kept T (key h.h (by decide) (by decide) (by decide)),h.bm,h.bh,h.vs,⟨h.vz.1,h.vz.2.1,h.vz.2.2.1,rfl,rfl,h.vz.2.2.2.2.2.1,h.vz.2.2.2.2.2.2⟩⟩
theorem MxO.tm (h:MxO W base mid C M Ls β)(t:TMx W W'):MxO W' base mid C M Ls β:=⟨h.m.tm t,h.e,h.k.tm t,aFx h.q t,h.l.kept t (lQ h.l (by decide)),h.h.kept t (lQ h.h (by decide)),h.bm,h.bh,h.vs,h.vz⟩
end
