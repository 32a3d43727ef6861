import Derived.Test.YtncccmeomcaabaaGreatP22
set_option linter.all false
set_option maxHeartbeats 16000000
namespace Go.Proofs.YtncccmeomcaabaaGreat
open Go.RowKit Classical
set_option maxRecDepth 100000
variable {C:Cn}{G b:Nat}{M:Mn}{v0 v1 v13 v2 v3 v4 v5 v6 v7 vr:Value}
structure Lyb where
 L:Lay
 a0:qO
 c0:Nat
 xs:List PB
 a2:qO
 c2:Nat
 a5:qO
 c5:Nat
 ts:List TB
abbrev Lyb.T (Y:Lyb)(w:qw):Prop:=LyT w Y.L Y.a0 Y.c0 Y.xs Y.a2 Y.c2 Y.a5 Y.c5 Y.ts
theorem Blk.mg {w:qw}{t:TypeId}{v8 v9 v10 v11 v12 v14 v15 v16 v17 v18 v19 v20 v21 v22 v23:Value}(h:Blk w b #[v0,v1,v2,v3,v4,v5,v6,v7,v8,v9,v10,v11,v12,v13,v14,v15,v16,v17,v18,v19,v20,v21,v22,v23] t):w.cell? (qR b 0)=some v0/\w.cell? (qR b 1)=some v1/\w.cell? (qR b 2)=some v2/\w.cell? (qR b 3)=some v3/\w.cell? (qR b 4)=some v4/\w.cell? (qR b 5)=some v5/\w.cell? (qR b 6)=some v6/\w.cell? (qR b 7)=some v7/\w.cell? (qR b 8)=some v8/\w.cell? (qR b 9)=some v9/\w.cell? (qR b 10)=some v10/\w.cell? (qR b 11)=some v11/\w.cell? (qR b 12)=some v12/\w.cell? (qR b 13)=some v13/\w.cell? (qR b 14)=some v14/\w.cell? (qR b 15)=some v15/\w.cell? (qR b 16)=some v16/\w.cell? (qR b 17)=some v17/\w.cell? (qR b 18)=some v18/\w.cell? (qR b 19)=some v19/\w.cell? (qR b 20)=some v20/\w.cell? (qR b 21)=some v21/\w.cell? (qR b 22)=some v22/\w.cell? (qR b 23)=some v23:=⟨h.cell 0,h.cell 1,h.cell 2,h.cell 3,h.cell 4,h.cell 5,h.cell 6,h.cell 7,h.cell 8,h.cell 9,h.cell 10,h.cell 11,h.cell 12,h.cell 13,h.cell 14,h.cell 15,h.cell 16,h.cell 17,h.cell 18,h.cell 19,h.cell 20,h.cell 21,h.cell 22,h.cell 23⟩
structure Mg (w1 W:qw)(G:Nat)(Y:Lyb)(C:Cn)(M:Mn)(v13 vr:Value):Prop where
 b:qY w1 W
 g:w1.heap.size<=G
 k:Blk W G #[qS M.ma M.mn M.mc,qI M.cs,qI M.cw,qI M.ck,qI M.cd,qI M.pc,qS M.ka M.kn M.kc,qS M.fa M.fn M.fc,qS M.ra M.rn M.rc,qS M.oa M.on M.oc,qI M.md,qI M.bk,qS M.la M.ln M.lc,v13,qI M.tn,qS Y.a0 Y.xs.length Y.c0,qI Y.L.stack,qS Y.a2 Y.L.slots.length Y.c2,qI Y.L.flash,qI Y.L.ram,qS Y.a5 Y.ts.length Y.c5,qI M.cd,qS M.ha M.hn M.hc,vr] 110
 m:∃ base mid Ls β,MxO W base mid C M Ls β/\w1.heap.size<=base/\mid<=G
 l:Y.T w1
theorem Mg.bw {w1 W W':qw}{Y:Lyb}(h:Mg w1 W G Y C M v13 vr)(hb:qY W W'):Mg w1 W' G Y C M v13 vr:=by
 obtain ⟨base,mid,Ls,β,m,hm⟩:=h.m;exact ⟨h.b.trans (hb.mono h.b.size),h.g,h.k.bw hb,⟨base,mid,Ls,β,m.bw hb,hm⟩,h.l⟩
theorem Mg.ly {w1 W:qw}{Y:Lyb}(h:Mg w1 W G Y C M v13 vr):Y.T W:=h.l.bw h.b
theorem Mg.vs {w1 W:qw}{Y:Lyb}(h:Mg w1 W G Y C M v13 vr):(M.cs=C.cs/\M.cw=C.cw/\M.ck=C.ck/\M.cd=C.cd/\M.pc=C.pc/\M.md=C.md/\M.bk=C.bk/\M.tn=C.tn)/\aD M.ms=C.ps/\M.lz=C.lz:=by
 obtain ⟨base,mid,Ls,β,m,hm⟩:=h.m;exact ⟨m.vs,by rw [m.vz.1,m.m.pms,m.e],m.vz.2.2.2.2.2.1⟩
theorem Mg.mnd {w1 W:qw}{Y:Lyb}(h:Mg w1 W G Y C M v13 vr)(hn:C.ps.length<=4):MnD W M:=by
 have e:=h.vs.2.1;obtain ⟨base,mid,Ls,β,m,hm⟩:=h.m;refine m.mnd ?_;have h1:=m.len;have h2:=congrArg List.length m.e;rw [xH] at h2;omega
theorem aHx (w1:qw)(G:Nat)(Y:Lyb)(C:Cn)(M:Mn)(v13 vr:Value)(w:qw)(h:Mg w1 w G Y C M v13 vr):qC 162 #[.pointer (qP G)] w (qB w (.agg (qT M.md M.bk 0))):=by
 obtain ⟨V,hV⟩:=eqx (w.alloc (.cells (qT 0 0 0) 58));have bV:qY w V:=by rw [hV];exact bal
 have k10:=(h.k.bw bV).e10;have k11:=(h.k.bw bV).e11;have kV:Blk V w.heap.size (qT 0 0 0) 58:=by rw [hV];exact Blk.new _ _ _
 obtain ⟨r0,r1,r2,rf⟩:=kV.three;have HV:=zh hV;have hg:G<w.heap.size:=h.k.lt;have hn1:¬ G=w.heap.size:=by omega
 have hn2:¬ w.heap.size=G:=by omega
 have HE:Zh (qY w (((V.setCell (qR w.heap.size 0) (qI M.md)).setCell (qR w.heap.size 1) (qI M.bk)).setCell (qR w.heap.size 2) (qI 0))):=((bV.setCell (by dsimp only;omega) _).setCell (by dsimp only;omega) _).setCell (by dsimp only;omega) _;clear hV bV kV h;go_enter Tryz.func162,Tryz.ntmps162
 go_wp2_with (rw [<- HV.o])
 go_region_held3 (fun w'=>w'.cell? (qR G 10)=some (qI M.md)/\w'.cell? (qR G 11)=some (qI M.bk)) (go_keep) (fail)
 all_goals
  go_wp2;exact bodyPost_ret (v:=.agg (qT M.md M.bk 0)) (by simp [results,Tryz.results162,go_sem,r0,r1,r2]) rfl ⟨rfl,HE.o.drew⟩
theorem aB6 (w1:qw)(G:Nat)(Y:Lyb)(C:Cn)(M:Mn)(v13 vr:Value)(w:qw)(h:Mg w1 w G Y C M v13 vr):qC 131 #[.pointer (qP G)] w (qB w (qI (hld C.lz M.md M.bk))):=by
 have k10:=h.k.e10;have k11:=h.k.e11;have k12:=h.k.e12
 have HS:=zh (fun (X:qw) (hX:qY w X)=>(iY M.la M.ln M.lc C.lz M.md M.bk X (by
  obtain ⟨base,mid,Ls,β,m,_⟩:=h.m
  exact (sS bM m.l).bw hX)).mono (fun e w' he=>show e=.returned (qI (hld C.lz M.md M.bk))/\qY w w' from ⟨he.1,hX.trans (he.2.mono hX.size)⟩))
 generalize hld C.lz M.md M.bk=r at *;clear h;go_enter Tryz.func131,Tryz.ntmps131
 go_wp2_with fail
 go_region_held3 (fun w'=>w'.cell? (qR G 10)=some (qI M.md)/\w'.cell? (qR G 11)=some (qI M.bk)/\w'.cell? (qR G 12)=some (qS M.la M.ln M.lc)) (go_keep)
  (first
    | (go_at_call 176;first
        | with_reducible refine (HS.o _ brf).mono ?_
        | with_reducible refine (HS.o _ brf.drew).mono ?_
       rintro e w2 ⟨rfl,hb2⟩;have z10:=aB hb2 k10;have z11:=aB hb2 k11;have z12:=aB hb2 k12;have HB:=zh hb2
       clear hb2))
 all_goals
  go_wp2;go_ret;exact ⟨rfl,HB.o⟩
theorem aHf (w1:qw)(G:Nat)(Y:Lyb)(C:Cn)(M:Mn)(v13 vr:Value)(m b t:Int)(w:qw)(h:Mg w1 w G Y C M v13 vr)(hn:C.ps.length<=4):qC 64 #[.pointer (qP G),.agg (qT m b t)] w (qB w (.bool (decide (C.tn<1000000000/\tgk C.ps m b t)))):=by
 obtain ⟨V,hV,bV,kV⟩:=nwb w (qT m b t) 58;have k0:=(h.k.bw bV).e0;have k14:=(h.k.bw bV).e14;obtain ⟨r0,r1,r2,_⟩:=kV.three;have e1:=h.vs.1.2.2.2.2.2.2.2;have e2:=h.vs.2.1;have HS:=zh (fun (X:qw) (hX:qY V X)=>(mS M.ma M.mn M.mc M.ms m b t X (((h.mnd hn).m.bw bV).bw hX)).mono (fun e w' he=>show e=.returned (.bool (decide (tgk C.ps m b t)))/\qY V w' from ⟨by rw [he.1,e2],hX.trans (he.2.mono hX.size)⟩));rw [<- e1];have HV:=zh hV;have HB:=zh bV;obtain ⟨r,hr⟩:=eqx (decide (M.tn<1000000000/\tgk C.ps m b t));rw [<- hr];by_cases c1:M.tn<1000000000
 .have HR:=zh (show r=decide (tgk C.ps m b t) by rw [hr];simp [c1]);generalize decide (tgk C.ps m b t)=q at *;clear h hV bV kV e1 e2 hr;go_enter Tryz.func64,Tryz.ntmps64
  go_wp2_with (rw [<- HV.o])
  go_region_held3 (fun w'=>w'.cell? (qR G 0)=some (qS M.ma M.mn M.mc)/\w'.cell? (qR G 14)=some (qI M.tn)/\w'.cell? (qR w.heap.size 0)=some (qI m)/\w'.cell? (qR w.heap.size 1)=some (qI b)/\w'.cell? (qR w.heap.size 2)=some (qI t)) (go_keep)
   (first
     | (go_at_call 126;first
         | with_reducible refine (HS.o _ brf).mono ?_
         | with_reducible refine (HS.o _ brf.drew).mono ?_
        rintro e w2 ⟨rfl,hb2⟩;have z0:=aB hb2 k0;have z14:=aB hb2 k14;have y0:=aB hb2 r0;have y1:=aB hb2 r1;have y2:=aB hb2 r2;have HB2:=zh hb2
        clear hb2))
  all_goals
   go_wp2;go_ret;exact ⟨aA HR.o.symm,HB.o.trans (HB2.o.mono HB.o.size)⟩
 .have HR:=zh (show r=false by rw [hr];simp [c1]);have c2:decide (M.tn<1000000000)=false:=by simp [c1]
  have c3:(M.tn<1000000000)=False:=by simp [c1]
  clear h hV bV kV e1 e2 hr;go_enter Tryz.func64,Tryz.ntmps64
  go_wp2_with (rw [<- HV.o])
  refine wp_region_held_drew (S:=(fun w'=>w'.cell? (qR G 14)=some (qI M.tn))) (by kernel_rfl) ?_ (fun hHeld=>?_)
  .go_keep
  refine tkV 0 ?_ rfl ?_ ?_;rotate_left
  ·(intro w hSw;(try dsimp only at hSw);go_simp;try with_reducible rfl)
  try simp only [yD,yE,yF,Act.put,yA,yB,yC]
  refine tkV 1 ?_ rfl ?_ ?_;rotate_left
  ·(intro w hSw;(try dsimp only at hSw);go_simp;try with_reducible rfl)
  try simp only [yD,yE,yF,Act.put,yA,yB,yC]
  refine tkV 2 ?_ rfl ?_ ?_;rotate_left
  ·(intro w hSw;(try dsimp only at hSw);go_simp;try with_reducible rfl)
  try simp only [yD,yE,yF,Act.put,yA,yB,yC]
  refine tkV 3 ?_ rfl ?_ ?_;rotate_left
  ·(intro w hSw;(try dsimp only at hSw);go_simp;try with_reducible rfl)
  try simp only [yD,yE,yF,Act.put,yA,yB,yC]
  refine tkV 4 ?_ rfl ?_ ?_;rotate_left
  ·(intro w hSw;(try dsimp only at hSw);go_simp;try with_reducible rfl)
  try simp only [yD,yE,yF,Act.put,yA,yB,yC]
  refine tkV 5 ?_ rfl ?_ ?_;rotate_left
  ·(intro w hSw;(try dsimp only at hSw);go_simp;try with_reducible rfl)
  try simp only [yD,yE,yF,Act.put,yA,yB,yC]
  refine tkV 6 ?_ rfl ?_ ?_;rotate_left
  ·(intro w hSw;(try dsimp only at hSw);go_simp;try with_reducible rfl)
  try simp only [yD,yE,yF,Act.put,yA,yB,yC]
  refine tkS 7 rfl ?_;try simp only [yD,yE,yF,Act.put,yA,yB,yC]
  refine tkS 8 rfl ?_;try simp only [yD,yE,yF,Act.put,yA,yB,yC]
  refine tkS 9 rfl ?_;try simp only [yD,yE,yF,Act.put,yA,yB,yC]
  refine tkS 10 rfl ?_;try simp only [yD,yE,yF,Act.put,yA,yB,yC]
  refine tkS 11 rfl ?_;try simp only [yD,yE,yF,Act.put,yA,yB,yC]
  refine tkS 12 rfl ?_;try simp only [yD,yE,yF,Act.put,yA,yB,yC]
  refine tkS 13 rfl ?_;try simp only [yD,yE,yF,Act.put,yA,yB,yC]
  refine tkV 14 ?_ rfl ?_ ?_;rotate_left
  ·(intro w hSw;(try dsimp only at hSw);go_simp;try with_reducible rfl)
  try simp only [yD,yE,yF,Act.put,yA,yB,yC]
  refine tkV 15 ?_ rfl ?_ ?_;rotate_left
  ·(intro w hSw;(try dsimp only at hSw);go_simp;try with_reducible rfl)
  try simp only [yD,yE,yF,Act.put,yA,yB,yC]
  refine wpAnyH_done (by kernel_rfl) ?_ _;go_wp2;go_ret;exact ⟨aA HR.o.symm,by first|exact HB.o.drew|exact HB.o⟩
theorem mL (a:qO)(n cap:Nat)(ys:qi)(w:qw)(h:Srd clI w a n cap ys)(hn:n<=1048576):
 qC 163 #[qS a n cap] w fun e w'=>∃ a' c',e=.returned (qS a' n c')/\OG 3 1 clI w' w.heap.size (qS a' n c') ys/\qY w w':=by
 obtain ⟨i0,hi,hz0,hz1,hz2⟩:=info_parts jP;have hnil:=fun (w:qw)=>Lib.run_eql_slice_nil (P:=Tryz.prog) w 25 3 a n cap 0 0 Tryz.underlying25;cases a with
 | none=>
   obtain ⟨hl,⟨_,rfl,rfl⟩|⟨g,off,e,_⟩⟩:=h
   .obtain rfl:ys=[]:=xE hl;go_enter Tryz.func163,Tryz.ntmps163
    go_wp2;go_ret;exact ⟨none,0,rfl,fJ _ _ _ _ _,brf⟩
   .cases e
 | some ad=>
   have hl:=h.1;have hsrc:=zh (h.bw ((Below.refl w.heap.size w).alloc aN (.cells #[] 3)));have hown:=zh (bI 3 1 clI w w.heap.size aN);have hb:=zh ((Below.refl w.heap.size w).alloc aN (.cells #[] 3));clear h;go_enter Tryz.func163,Tryz.ntmps163
   go_wp2_with (at_builtin;refine bG rfl _ _ 25 rfl w.heap.size 3 i0 (qI 0) 1 8 Tryz.underlying25 hi hz0 hz1 hz2 rfl (by decide) _ [] rfl hown.o (some ad) n cap ys rfl hsrc.o (fun _=>rfl) (fun y u hu=>by simp [clI] at hu;subst hu;rfl) (by unfold maxLen;simp;omega) (by simp;omega) (by simp) ?_;intro v' w1 hown1 hgr1)
   rw [List.nil_append] at hown1;obtain ⟨a',c',rfl⟩:=aR hown1;have HF:=zh (xA hown1 (aG hb.o (S:=fun k=>k=w.heap.size) ⟨hgr1.os,hgr1.tape,hgr1.output,hgr1.size,fun k hk hs=>hgr1.block k hk (fun e=>hs (by cases e;rfl))⟩ (fun k hk=>by omega) (by simp)));rw [hl] at HF ⊢;clear hown1 hgr1;go_ret;exact ⟨a',c',rfl,HF.o.1,HF.o.2⟩
theorem aFn (a:qO)(n cap:Nat)(ys:List ByteArray)(w:qw)(h:Srd clT w a n cap ys)(hn:n<=1048576):
 qC 165 #[qS a n cap] w fun e w'=>∃ a' c',e=.returned (qS a' n c')/\OG 9 1 clT w' w.heap.size (qS a' n c') ys/\qY w w':=by
 obtain ⟨i0,hi,hz0,hz1,hz2⟩:=info_parts aKw;have hnil:=fun (w:qw)=>Lib.run_eql_slice_nil (P:=Tryz.prog) w 115 9 a n cap 0 0 Tryz.underlying115;cases a with
 | none=>
   obtain ⟨hl,⟨_,rfl,rfl⟩|⟨g,off,e,_⟩⟩:=h
   .obtain rfl:ys=[]:=xE hl;go_enter Tryz.func165,Tryz.ntmps165
    go_wp2;go_ret;exact ⟨none,0,rfl,fJ _ _ _ _ _,brf⟩
   .cases e
 | some ad=>
   have hl:=h.1;have hsrc:=zh (h.bw ((Below.refl w.heap.size w).alloc aN (.cells #[] 9)));have hown:=zh (bI 9 1 clT w w.heap.size aN);have hb:=zh ((Below.refl w.heap.size w).alloc aN (.cells #[] 9));clear h;go_enter Tryz.func165,Tryz.ntmps165
   go_wp2_with (at_builtin;refine bG rfl _ _ 115 rfl w.heap.size 9 i0 (.string ⟨#[]⟩) 1 16 Tryz.underlying115 hi hz0 hz1 hz2 rfl (by decide) _ [] rfl hown.o (some ad) n cap ys rfl hsrc.o (fun _=>rfl) (fun y u hu=>by simp [clT] at hu;subst hu;rfl) (by unfold maxLen;simp;omega) (by simp;omega) (by simp) ?_;intro v' w1 hown1 hgr1)
   rw [List.nil_append] at hown1;obtain ⟨a',c',rfl⟩:=aR hown1;have HF:=zh (xA hown1 (aG hb.o (S:=fun k=>k=w.heap.size) ⟨hgr1.os,hgr1.tape,hgr1.output,hgr1.size,fun k hk hs=>hgr1.block k hk (fun e=>hs (by cases e;rfl))⟩ (fun k hk=>by omega) (by simp)));rw [hl] at HF ⊢;clear hown1 hgr1;go_ret;exact ⟨a',c',rfl,HF.o.1,HF.o.2⟩
theorem aFm (a:qO)(n cap:Nat)(ys:List Ex)(w:qw)(h:Srd clX w a n cap ys)(hn:n<=1048576):
 qC 166 #[qS a n cap] w fun e w'=>∃ a' c',e=.returned (qS a' n c')/\OG 163 3 clX w' w.heap.size (qS a' n c') ys/\qY w w':=by
 obtain ⟨i0,hi,hz0,hz1,hz2⟩:=info_parts aKu;have hnil:=fun (w:qw)=>Lib.run_eql_slice_nil (P:=Tryz.prog) w 136 163 a n cap 0 0 Tryz.underlying136;cases a with
 | none=>
   obtain ⟨hl,⟨_,rfl,rfl⟩|⟨g,off,e,_⟩⟩:=h
   .obtain rfl:ys=[]:=xE hl;go_enter Tryz.func166,Tryz.ntmps166
    go_wp2;go_ret;exact ⟨none,0,rfl,fJ _ _ _ _ _,brf⟩
   .cases e
 | some ad=>
   have hl:=h.1;have hsrc:=zh (h.bw ((Below.refl w.heap.size w).alloc aN (.cells #[] 163)));have hown:=zh (bI 163 3 clX w w.heap.size aN);have hb:=zh ((Below.refl w.heap.size w).alloc aN (.cells #[] 163));clear h;go_enter Tryz.func166,Tryz.ntmps166
   go_wp2_with (at_builtin;refine bG rfl _ _ 136 rfl w.heap.size 163 i0 _ 3 32 Tryz.underlying136 hi hz0 hz1 hz2 rfl (by decide) _ [] rfl hown.o (some ad) n cap ys rfl hsrc.o (fun _=>rfl) (fun y u hu=>by simp [clX] at hu;rcases hu with rfl|rfl|rfl<;>rfl) (by unfold maxLen;simp;omega) (by simp;omega) (by simp) ?_;intro v' w1 hown1 hgr1)
   rw [List.nil_append] at hown1;obtain ⟨a',c',rfl⟩:=aR hown1;have HF:=zh (xA hown1 (aG hb.o (S:=fun k=>k=w.heap.size) ⟨hgr1.os,hgr1.tape,hgr1.output,hgr1.size,fun k hk hs=>hgr1.block k hk (fun e=>hs (by cases e;rfl))⟩ (fun k hk=>by omega) (by simp)));rw [hl] at HF ⊢;clear hown1 hgr1;go_ret;exact ⟨a',c',rfl,HF.o.1,HF.o.2⟩
theorem aFo (a:qO)(n cap:Nat)(ys:List SlT)(w:qw)(h:Srd bS w a n cap ys)(hn:n<=1048576):
 qC 97 #[qS a n cap] w fun e w'=>∃ a' c',e=.returned (qS a' n c')/\OG 142 4 bS w' w.heap.size (qS a' n c') ys/\qY w w':=by
 obtain ⟨i0,hi,hz0,hz1,hz2⟩:=info_parts aE4;have hnil:=fun (w:qw)=>Lib.run_eql_slice_nil (P:=Tryz.prog) w 40 142 a n cap 0 0 Tryz.underlying40;cases a with
 | none=>
   obtain ⟨hl,⟨_,rfl,rfl⟩|⟨g,off,e,_⟩⟩:=h
   .obtain rfl:ys=[]:=xE hl;go_enter Tryz.func97,Tryz.ntmps97
    go_wp2;go_ret;exact ⟨none,0,rfl,fJ _ _ _ _ _,brf⟩
   .cases e
 | some ad=>
   have hl:=h.1;have hsrc:=zh (h.bw ((Below.refl w.heap.size w).alloc aN (.cells #[] 142)));have hown:=zh (bI 142 4 bS w w.heap.size aN);have hb:=zh ((Below.refl w.heap.size w).alloc aN (.cells #[] 142));clear h;go_enter Tryz.func97,Tryz.ntmps97
   go_wp2_with (at_builtin;refine bG rfl _ _ 40 rfl w.heap.size 142 i0 _ 4 32 Tryz.underlying40 hi hz0 hz1 hz2 rfl (by decide) _ [] rfl hown.o (some ad) n cap ys rfl hsrc.o (fun _=>rfl) (fun y u hu=>by simp [bS] at hu;rcases hu with rfl|rfl|rfl|rfl<;>rfl) (by unfold maxLen;simp;omega) (by simp;omega) (by simp) ?_;intro v' w1 hown1 hgr1)
   rw [List.nil_append] at hown1;obtain ⟨a',c',rfl⟩:=aR hown1;have HF:=zh (xA hown1 (aG hb.o (S:=fun k=>k=w.heap.size) ⟨hgr1.os,hgr1.tape,hgr1.output,hgr1.size,fun k hk hs=>hgr1.block k hk (fun e=>hs (by cases e;rfl))⟩ (fun k hk=>by omega) (by simp)));rw [hl] at HF ⊢;clear hown1 hgr1;go_ret;exact ⟨a',c',rfl,HF.o.1,HF.o.2⟩
theorem aFp (a:qO)(n cap:Nat)(ys:List FrT)(w:qw)(h:Srd cP w a n cap ys)(hn:n<=1048576):
 qC 98 #[qS a n cap] w fun e w'=>∃ a' c',e=.returned (qS a' n c')/\OG 135 4 cP w' w.heap.size (qS a' n c') ys/\qY w w':=by
 obtain ⟨i0,hi,hz0,hz1,hz2⟩:=info_parts aE5;have hnil:=fun (w:qw)=>Lib.run_eql_slice_nil (P:=Tryz.prog) w 41 135 a n cap 0 0 Tryz.underlying41;cases a with
 | none=>
   obtain ⟨hl,⟨_,rfl,rfl⟩|⟨g,off,e,_⟩⟩:=h
   .obtain rfl:ys=[]:=xE hl;go_enter Tryz.func98,Tryz.ntmps98
    go_wp2;go_ret;exact ⟨none,0,rfl,fJ _ _ _ _ _,brf⟩
   .cases e
 | some ad=>
   have hl:=h.1;have hsrc:=zh (h.bw ((Below.refl w.heap.size w).alloc aN (.cells #[] 135)));have hown:=zh (bI 135 4 cP w w.heap.size aN);have hb:=zh ((Below.refl w.heap.size w).alloc aN (.cells #[] 135));clear h;go_enter Tryz.func98,Tryz.ntmps98
   go_wp2_with (at_builtin;refine bG rfl _ _ 41 rfl w.heap.size 135 i0 _ 4 32 Tryz.underlying41 hi hz0 hz1 hz2 rfl (by decide) _ [] rfl hown.o (some ad) n cap ys rfl hsrc.o (fun _=>rfl) (fun y u hu=>by simp [cP] at hu;rcases hu with rfl|rfl|rfl|rfl<;>rfl) (by unfold maxLen;simp;omega) (by simp;omega) (by simp) ?_;intro v' w1 hown1 hgr1)
   rw [List.nil_append] at hown1;obtain ⟨a',c',rfl⟩:=aR hown1;have HF:=zh (xA hown1 (aG hb.o (S:=fun k=>k=w.heap.size) ⟨hgr1.os,hgr1.tape,hgr1.output,hgr1.size,fun k hk hs=>hgr1.block k hk (fun e=>hs (by cases e;rfl))⟩ (fun k hk=>by omega) (by simp)));rw [hl] at HF ⊢;clear hown1 hgr1;go_ret;exact ⟨a',c',rfl,HF.o.1,HF.o.2⟩
theorem aFq (a:qO)(n cap:Nat)(ys:qi)(w:qw)(h:Srd (fun z=>[Value.int .u8 z]) w a n cap ys)(hn:n<=1048576):
 qC 164 #[qS a n cap] w fun e w'=>∃ a' c',e=.returned (qS a' n c')/\OG 5 1 (fun z=>[Value.int .u8 z]) w' w.heap.size (qS a' n c') ys/\qY w w':=by
 obtain ⟨i0,hi,hz0,hz1,hz2⟩:=info_parts yO;have hnil:=fun (w:qw)=>Lib.run_eql_slice_nil (P:=Tryz.prog) w 28 5 a n cap 0 0 Tryz.underlying28;cases a with
 | none=>
   obtain ⟨hl,⟨_,rfl,rfl⟩|⟨g,off,e,_⟩⟩:=h
   .obtain rfl:ys=[]:=xE hl;go_enter Tryz.func164,Tryz.ntmps164
    go_wp2;go_ret;exact ⟨none,0,rfl,fJ _ _ _ _ _,brf⟩
   .cases e
 | some ad=>
   have hl:=h.1;have hsrc:=zh (h.bw ((Below.refl w.heap.size w).alloc aN (.cells #[] 5)));have hown:=zh (bI 5 1 (fun z=>[Value.int .u8 z]) w w.heap.size aN);have hb:=zh ((Below.refl w.heap.size w).alloc aN (.cells #[] 5));clear h;go_enter Tryz.func164,Tryz.ntmps164
   go_wp2_with (at_builtin;refine bG rfl _ _ 28 rfl w.heap.size 5 i0 (.int .u8 0) 1 1 Tryz.underlying28 hi hz0 hz1 hz2 rfl (by decide) _ [] rfl hown.o (some ad) n cap ys rfl hsrc.o (fun _=>rfl) (fun y u hu=>by simp at hu;subst hu;rfl) (by unfold maxLen;simp;omega) (by simp;omega) (by simp) ?_;intro v' w1 hown1 hgr1)
   rw [List.nil_append] at hown1;obtain ⟨a',c',rfl⟩:=aR hown1;have HF:=zh (xA hown1 (aG hb.o (S:=fun k=>k=w.heap.size) ⟨hgr1.os,hgr1.tape,hgr1.output,hgr1.size,fun k hk hs=>hgr1.block k hk (fun e=>hs (by cases e;rfl))⟩ (fun k hk=>by omega) (by simp)));rw [hl] at HF ⊢;clear hown1 hgr1;go_ret;exact ⟨a',c',rfl,HF.o.1,HF.o.2⟩
def z8m:Array Value:=#[.string ⟨#[]⟩,qS none 0 0,qS none 0 0,qS none 0 0,qI 0,qS none 0 0,qS none 0 0,qS none 0 0]
def aI6 (W:qw)(k:Nat)(v0 v1 v2 v3 v4 v5 v6 v7:Value):World:=(((((((W.setCell (qR k 0) v0).setCell (qR k 1) v1).setCell (qR k 2) v2).setCell (qR k 3) v3).setCell (qR k 4) v4).setCell (qR k 5) v5).setCell (qR k 6) v6).setCell (qR k 7) v7
theorem wM (W:qw)(k:Nat)(v0 v1 v2 v3 v4 v5 v6 v7:Value):Turn (fun j=>j=k) W (aI6 W k v0 v1 v2 v3 v4 v5 v6 v7):=(((((((aC W k 0 v0).trans (aC _ k 1 v1)).trans (aC _ k 2 v2)).trans (aC _ k 3 v3)).trans (aC _ k 4 v4)).trans (aC _ k 5 v5)).trans (aC _ k 6 v6)).trans (aC _ k 7 v7)
theorem aLk {W:qw}{k:Nat}{t:TypeId}(h:Blk W k z8m t)(v0 v1 v2 v3 v4 v5 v6 v7:Value):Blk (aI6 W k v0 v1 v2 v3 v4 v5 v6 v7) k #[v0,v1,v2,v3,v4,v5,v6,v7] t:=by
 have k:=(((((((h.set 0 v0).set 1 v1).set 2 v2).set 3 v3).set 4 v4).set 5 v5).set 6 v6).set 7 v7;have e:((((((((z8m.setIfInBounds 0 v0).setIfInBounds 1 v1).setIfInBounds 2 v2).setIfInBounds 3 v3).setIfInBounds 4 v4).setIfInBounds 5 v5).setIfInBounds 6 v6).setIfInBounds 7 v7)=#[v0,v1,v2,v3,v4,v5,v6,v7]:=by unfold z8m;simp
 rw [e] at k;exact k
theorem aPj {W:qw}{q:Nat}(k1:Blk W q z8m 138)(v0 v1 v2 v3 v4 v5 v6 v7:Value)(Q:Ending->World->Prop)(tmps:Array Value)(h2:tmps[2]?=some (.pointer (qP q)))(hQ:Q (.returned (.agg #[v0,v1,v2,v3,v4,v5,v6,v7])) (aI6 W q v0 v1 v2 v3 v4 v5 v6 v7)):
 bodyPost Tryz.prog Tryz.f94 Q Exit.ret ⟨tmps,[]⟩ (aI6 W q v0 v1 v2 v3 v4 v5 v6 v7):=by
 obtain ⟨t0,t1,t2,t3,t4,t5,t6,t7⟩:=Blk.eight' (aLk k1 v0 v1 v2 v3 v4 v5 v6 v7);refine bodyPost_ret_by (v:=.agg #[v0,v1,v2,v3,v4,v5,v6,v7]) ?_ rfl hQ;simp [results,Tryz.results94,go_sem,h2,t0,t1,t2,t3,t4,t5,t6,t7]
theorem Cpb.nil {W0 X:qw}{gm:Nat}{t1:qO}{e1:Nat}{tz:qi}{nm:Value}(h:Cpm W0 X gm #[nm,qS t1 tz.length e1,v2,v3,v4,v5,v6,v7])(ht:OG 3 1 clI X W0.heap.size (qS t1 tz.length e1) tz):Cpb W0 (X.setCell (qR gm 2) (qS none 0 0)) gm X.heap.size t1 e1 tz none 0 [] nm v3 v4 v5 v6 v7:=by
 obtain ⟨c2,t2⟩:=h.set 2 (qS none 0 0);refine ⟨c2,ht.kept t2 (fun k hk e=>?_),⟨⟨rfl,.inl ⟨rfl,rfl⟩⟩,by simp,by simp⟩,fun k hk=>(ht.lt k hk).2,h.k.lt,by simp⟩;subst e;obtain ⟨c,kb⟩:=aE ht hk;exact absurd (aI kb h.k) (by decide)
def CmP (w:qw)(P:PMod)(e:Ending)(w':qw):Prop:=∃ x:Mb,e=.returned (.agg (qM P.nm x.a1 P.tz.length x.c1 x.a2 x.bl.length x.c2 x.a3 P.dz.length x.c3 P.bss x.a5 P.rz.length x.c5 x.a6 P.ss.length x.c6 x.a7 P.es.length x.c7))/\MOb w' w.heap.size (P,x)/\qY w w'
theorem ModO.setG {W:qw}{base:Nat}{cs:Array Value}{x:PMod×Mb}(h:MOb W base x)(kb:Blk W G cs 138){W':qw}(t:Turn (fun j=>j=G) W W'):MOb W' base x:=ModO.keptS h t (fun ho hne k hk e=>by
 subst e;obtain ⟨c,k2⟩:=aE ho hk
 exact hne (aI k2 kb))
theorem uN (P:PMod)(b1:qO)(d1:Nat)(b2:qO)(d2:Nat)(bq:List Bk)(b3:qO)(d3:Nat)(b5:qO)(d5:Nat)(b6:qO)(d6:Nat)(b7:qO)(d7:Nat)(w:qw)(H:Msr w (P,⟨b1,d1,b2,d2,bq,b3,d3,b5,d5,b6,d6,b7,d7⟩))(R:PmG P):
 qC 94 #[.agg (qM P.nm b1 P.tz.length d1 b2 bq.length d2 b3 P.dz.length d3 P.bss b5 P.rz.length d5 b6 P.ss.length d6 b7 P.es.length d7)] w (CmP w P):=by
 obtain ⟨iB,hiB,hB0,hB1,hB2⟩:=info_parts aKy;obtain ⟨w1,hw1⟩:=eqx (((w.alloc (.cells (qM P.nm b1 P.tz.length d1 b2 bq.length d2 b3 P.dz.length d3 P.bss b5 P.rz.length d5 b6 P.ss.length d6 b7 P.es.length d7) 138)).alloc (.cells #[.string ⟨#[]⟩,qS none 0 0,qS none 0 0,qS none 0 0,qI 0,qS none 0 0,qS none 0 0,qS none 0 0] 138)).alloc (.cells (qM P.nm b1 P.tz.length d1 b2 bq.length d2 b3 P.dz.length d3 P.bss b5 P.rz.length d5 b6 P.ss.length d6 b7 P.es.length d7) 138));have B1:qY w w1:=by rw [hw1];exact (bal.alloc (by simp) _).alloc (by simp;omega) _
 have kb:Blk w1 w.heap.size (qM P.nm b1 P.tz.length d1 b2 bq.length d2 b3 P.dz.length d3 P.bss b5 P.rz.length d5 b6 P.ss.length d6 b7 P.es.length d7) 138:=by rw [hw1];exact ((Blk.new _ _ _).alloc _).alloc _
 have kr:Blk w1 (w.heap.size+1) z8m 138:=by rw [hw1];have:=(Blk.new (w.alloc (.cells (qM P.nm b1 P.tz.length d1 b2 bq.length d2 b3 P.dz.length d3 P.bss b5 P.rz.length d5 b6 P.ss.length d6 b7 P.es.length d7) 138)) z8m 138).alloc (.cells (qM P.nm b1 P.tz.length d1 b2 bq.length d2 b3 P.dz.length d3 P.bss b5 P.rz.length d5 b6 P.ss.length d6 b7 P.es.length d7) 138);simpa [z8m] using this
 have kg:Blk w1 (w.heap.size+1+1) (qM P.nm b1 P.tz.length d1 b2 bq.length d2 b3 P.dz.length d3 P.bss b5 P.rz.length d5 b6 P.ss.length d6 b7 P.es.length d7) 138:=by rw [hw1];have:=Blk.new ((w.alloc (.cells (qM P.nm b1 P.tz.length d1 b2 bq.length d2 b3 P.dz.length d3 P.bss b5 P.rz.length d5 b6 P.ss.length d6 b7 P.es.length d7) 138)).alloc (.cells #[.string ⟨#[]⟩,qS none 0 0,qS none 0 0,qS none 0 0,qI 0,qS none 0 0,qS none 0 0,qS none 0 0] 138)) (qM P.nm b1 P.tz.length d1 b2 bq.length d2 b3 P.dz.length d3 P.bss b5 P.rz.length d5 b6 P.ss.length d6 b7 P.es.length d7) 138;simpa using this
 have C1:Cpm w w1 (w.heap.size+1+1) (qM P.nm b1 P.tz.length d1 b2 bq.length d2 b3 P.dz.length d3 P.bss b5 P.rz.length d5 b6 P.ss.length d6 b7 P.es.length d7):=⟨B1,kg,by omega⟩;have HSR:=zh (fun (X:qw) (hX:qY w X)=>H.bw hX);have HW1:=zh hw1;have HRR:=zh R;have HT:=zh (mL b1 P.tz.length d1 P.tz w1 (HSR.o w1 B1).t R.t.1);have hbn:bq.length<=1048576:=by have h1:=R.b.1;rw [<- H.bls,xH] at h1;exact h1
 have x1:=kb.cell 1;have HK1:=zh (xA C1 (xA kb kr));clear hw1 B1 kb kr kg C1 H R;go_enter Tryz.func94,Tryz.ntmps94
 go_wp2_with (rw [<- HW1.o])
 refine HT.o.mono ?_;rintro e w2 ⟨t1,e1,rfl,O2,hb2⟩;clear x1 HT;obtain ⟨C1,kb,kr⟩:=HK1.o;have C2:=C1.bw hb2;obtain ⟨C3,t3⟩:=C2.set 1 (qS t1 P.tz.length e1);have O3:=aF7 O2 C2.k (by decide) 1 (qS t1 P.tz.length e1);simp only [yA,yB,yC] at C3;have C4:=Cpb.nil C3 (OG.mono O3 C1.b.size);have y1:=C2.k.cell 1;have yf1:=C2.k.frozen 1;have y2:=C3.k.cell 2;have yf2:=C3.k.frozen 2;obtain ⟨X3,hX3⟩:=eqx ((w2.setCell ⟨(w.heap.size+1+1),1,none⟩ (qS t1 P.tz.length e1)).setCell ⟨(w.heap.size+1+1),2,none⟩ (qS none 0 0));rw [<- hX3] at C4;have kb3:Blk X3 w.heap.size (qM P.nm b1 P.tz.length d1 b2 bq.length d2 b3 P.dz.length d3 P.bss b5 P.rz.length d5 b6 P.ss.length d6 b7 P.es.length d7) 138:=by rw [hX3];exact ((kb.bw hb2).other _ _ (by dsimp only;omega)).other _ _ (by dsimp only;omega)
 have kr3:Blk X3 (w.heap.size+1) z8m 138:=by rw [hX3];exact ((kr.bw hb2).other _ _ (by dsimp only;omega)).other _ _ (by dsimp only;omega)
 obtain ⟨lo,hlo⟩:=eqx ((w2.setCell ⟨(w.heap.size+1+1),1,none⟩ (qS t1 P.tz.length e1)).heap.size);rw [<- hlo] at C4;have x2:=kb3.cell 2;have HC4:=zh (xA C4 (xA kb3 kr3));have HX3:=zh hX3;clear C1 kb kr C2 C3 t3 O2 O3 hb2 C4 hX3 kb3 kr3 hlo HK1 HW1;go_wp2_with (rw [<- HX3.o])
 go_loopw [15] (fun i wr=>∃ (k:Nat) (a2:qO) (c2:Nat) (bl:List Bk),k<=bq.length/\i=qI k/\bl.map (fun B=>B.2.2.2)=(bq.take k).map (fun B=>B.2.2.2)/\Cpb w wr (w.heap.size+1+1) lo t1 e1 P.tz a2 c2 bl (.string P.nm) (qS b3 P.dz.length d3) (qI P.bss) (qS b5 P.rz.length d5) (qS b6 P.ss.length d6) (qS b7 P.es.length d7)/\Blk wr w.heap.size (qM P.nm b1 P.tz.length d1 b2 bq.length d2 b3 P.dz.length d3 P.bss b5 P.rz.length d5 b6 P.ss.length d6 b7 P.es.length d7) 138/\Blk wr (w.heap.size+1) z8m 138) (qf bq.length)
 .exact ⟨0,_,_,[],xC _,rfl,by simp,HC4.o⟩
 .obtain ⟨k,a2,c2,bl,hk,rfl,hbl,C,kb,kr⟩:=hrel;have hbll:bl.length=k:=by have:=congrArg List.length hbl;simp at this;omega
  have hb255:bl.length<=1048576:=by omega
  clear y1 yf1 y2 yf2 x2 HC4 hbll HX3;by_cases hkl:k<bq.length
  .have hkl':(k:Int)<(bq.length:Int):=by omega
   have hk0:(0:Int)<=(k:Int):=by omega
   have ms:=HSR.o wr C.c.b;obtain ⟨gb,A,Cc,zs,eb2,hB,p3,oz⟩:=ms.b k hkl;dsimp only at eb2 hB p3 oz;subst eb2;have hzl:zs.length<=1048576:=(HRR.o.b.2 zs (by rw [<- ms.bls,List.mem_map];exact ⟨_,List.mem_of_getElem? hB,rfl⟩)).1;have p1:=C.c.k.cell 2;simp only [Array.getElem?_eq_getElem,List.getElem?_toArray,List.getElem?_cons_succ,List.getElem?_cons_zero] at p1;have HCL:=zh (fun (X:qw) (hX:qY wr X)=>mL A zs.length Cc zs X (oz.bw hX) hzl);have HC:=zh (xA C (xA kb kr));have HBB:=zh (xA hB hbl);clear ms oz C hB hbl kb kr;go_wp2_with fail
   go_region_law
    (first
      | (go_simp;go_at_call 163;first|refine (HCL.o _ brf).mono ?_|refine (HCL.o _ brf.drew).mono ?_
         rintro e w6 ⟨A6,D6,rfl,O6,hb6⟩;replace hb6:qY wr w6:=(by first|exact hb6|exact dG hb6)
         have C6:=HC.o.1.bw hb6;have p1':w6.cell? (qR (w.heap.size+1+1) 2)=some (qS a2 bl.length c2):=C6.c.k.cell 2;have p1a:(w6.alloc (.cells #[qS A6 zs.length D6] 25)).cell? (qR (w.heap.size+1+1) 2)=some (qS a2 bl.length c2):=(C6.c.k.alloc _).cell 2;have HOW6:=zh (C6.bw (brf.alloc aN (.cells #[qS A6 zs.length D6] 25))).b.head;have HNW6:=zh (bT w6 _ 25 [qS A6 zs.length D6] rfl);have HBK:=zh (fun w4 d hown hgr=>HC.o.1.bank (w4:=w4) (d:=d) (O6.bw (brf.alloc aN (.cells #[qS A6 zs.length D6] 25))) (hb6.trans ((brf.alloc aN (.cells #[qS A6 zs.length D6] 25)).mono hb6.size)) hown hgr);have HKK:=zh (fun w4 (hgr:World.grownBy _ w4 _)=>xA (cK hgr ((HC.o.2.1.bw hb6).alloc (.cells #[qS A6 zs.length D6] 25)) (fun e=>by obtain ⟨c,kk⟩:=aE HOW6.o e.symm;exact absurd (aI kk ((HC.o.2.1.bw hb6).alloc (.cells #[qS A6 zs.length D6] 25))) (by decide))) (cK hgr ((HC.o.2.2.bw hb6).alloc (.cells #[qS A6 zs.length D6] 25)) (fun e=>by obtain ⟨c,kk⟩:=aE HOW6.o e.symm;exact absurd (aI kk ((HC.o.2.2.bw hb6).alloc (.cells #[qS A6 zs.length D6] 25))) (by decide))));have HSZ6:=zh (C6.bw (brf.alloc aN (.cells #[qS A6 zs.length D6] 25))).lh;clear O6 hb6 C6)
      | (refine step_append_lies _ (by rfl) _ _ 114 (by rfl) lo 25 iB (qS none 0 0) 1 24 Tryz.underlying114 hiB hB0 hB1 hB2 rfl (by decide) (qS a2 bl.length c2) bl.length (bl.map fun B=>qS B.1 B.2.1 B.2.2.1) (by rfl) HOW6.o (qR w6.heap.size 0) 1 1 [qS A6 zs.length D6] (by rfl) (by rfl) HNW6.o (by intro u hu;simp at hu;subst hu;rfl) (by decide) (by unfold maxLen;omega) (by omega) HSZ6.o _ rfl ?_;intro g4 c4 w4 hown hgr hat hlt4;have HB4:=zh (xA (HBK.o w4 _ hown hgr) (HKK.o w4 hgr));have p14:w4.cell? (qR (w.heap.size+1+1) 2)=some (qS a2 bl.length c2):=HB4.o.1.1.k.cell 2;have f4:=HB4.o.1.1.k.frozen 2;clear hown hgr hat))
   all_goals
    clear p1 p1' p1a p14 p3 f4 HOW6 HNW6 HBK HKK HSZ6;go_wp2
    go_roundw
    .obtain ⟨a',c',ed,CF⟩:=HB4.o.1.2;exact ⟨k+1,a',c',_,by omega,by go_num,by rw [List.map_append,HBB.o.2,lC HBB.o.1];rfl,CF,HB4.o.2.1.other _ _ (by dsimp only;omega),HB4.o.2.2.other _ _ (by dsimp only;omega)⟩
    .simp [qf,intOf];omega
  .have hkl':¬ (k:Int)<(bq.length:Int):=by omega
   obtain rfl:k=bq.length:=by omega
   rw [List.take_length] at hbl;have x3:=kb.cell 3;have HCA:=zh (aFq b3 P.dz.length d3 P.dz wr (HSR.o wr C.c.b).d HRR.o.d.1);have HC:=zh (xA C (xA kb kr));have HBB:=zh (show bl.map (fun B=>B.2.2.2)=P.bl by rw [hbl];exact (HSR.o wr C.c.b).bls);clear C hbl kb kr;go_wp2_with fail
   refine HCA.o.mono ?_;rintro e w7 ⟨a3,c3,rfl,o7,k7⟩;obtain ⟨C7,D7,P7,T7,_⟩:=HC.o.1.row (v3':=qS a3 P.dz.length c3) o7 k7 (by decide) 3 rfl;have y3:=C7.c.k.cell 3;have yf3:=C7.c.k.frozen 3;obtain ⟨X7,hX7⟩:=eqx (w7.setCell ⟨(w.heap.size+1+1),3,none⟩ (qS a3 P.dz.length c3));rw [<- hX7] at D7 P7 T7;have kb7:Blk X7 w.heap.size (qM P.nm b1 P.tz.length d1 b2 bq.length d2 b3 P.dz.length d3 P.bss b5 P.rz.length d5 b6 P.ss.length d6 b7 P.es.length d7) 138:=by rw [hX7];exact (HC.o.2.1.bw k7).other _ _ (by dsimp only;omega)
   have kr7:Blk X7 (w.heap.size+1) z8m 138:=by rw [hX7];exact (HC.o.2.2.bw k7).other _ _ (by dsimp only;omega)
   have x5:=kb7.cell 5;have HCB:=zh (mL b5 P.rz.length d5 P.rz X7 (HSR.o X7 D7.c.b).r HRR.o.r.1);have HD7:=zh (xA D7 (xA P7 (xA kb7 (xA kr7 (xM HC.o.1.c.b.size (Nat.le_refl wr.heap.size))))));have HX7:=zh hX7;clear x3 C7 D7 P7 T7 hX7 o7 k7 kb7 kr7 HCA;go_wp2_with (rw [<- HX7.o])
   refine HCB.o.mono ?_;rintro e w8 ⟨a5,c5,rfl,o8,k8⟩;obtain ⟨C8,D8,P8,T8,_⟩:=HD7.o.1.row (v5':=qS a5 P.rz.length c5) o8 k8 (by decide) 5 rfl;have HAP:=zh (HD7.o.1.apart o8);have y5:=C8.c.k.cell 5;have yf5:=C8.c.k.frozen 5;obtain ⟨X8,hX8⟩:=eqx (w8.setCell ⟨(w.heap.size+1+1),5,none⟩ (qS a5 P.rz.length c5));rw [<- hX8] at D8 P8 T8;have kb8:Blk X8 w.heap.size (qM P.nm b1 P.tz.length d1 b2 bq.length d2 b3 P.dz.length d3 P.bss b5 P.rz.length d5 b6 P.ss.length d6 b7 P.es.length d7) 138:=by rw [hX8];exact (HD7.o.2.2.1.bw k8).other _ _ (by dsimp only;omega)
   have kr8:Blk X8 (w.heap.size+1) z8m 138:=by rw [hX8];exact (HD7.o.2.2.2.1.bw k8).other _ _ (by dsimp only;omega)
   have x6:=kb8.cell 6;have HCD:=zh (aFn b6 P.ss.length d6 P.ss X8 (HSR.o X8 D8.c.b).i HRR.o.i.1);have HD8:=zh (xA D8 (xA P8 (xA (cG T8 HD7.o.1.c.k HD7.o.2.1 (by decide)) (xA kb8 kr8))));have HX8:=zh hX8;clear x5 y3 yf3 C8 D8 P8 T8 hX8 o8 k8 kb8 kr8 HCB;go_wp2_with (rw [<- HX8.o])
   refine HCD.o.mono ?_;rintro e w9 ⟨a6,c6,rfl,o9,k9⟩;obtain ⟨C9,D9,P9,T9,_⟩:=HD8.o.1.row (v6':=qS a6 P.ss.length c6) o9 k9 (by decide) 6 rfl;have y6:=C9.c.k.cell 6;have yf6:=C9.c.k.frozen 6;obtain ⟨X9,hX9⟩:=eqx (w9.setCell ⟨(w.heap.size+1+1),6,none⟩ (qS a6 P.ss.length c6));rw [<- hX9] at D9 P9 T9;have kb9:Blk X9 w.heap.size (qM P.nm b1 P.tz.length d1 b2 bq.length d2 b3 P.dz.length d3 P.bss b5 P.rz.length d5 b6 P.ss.length d6 b7 P.es.length d7) 138:=by rw [hX9];exact (HD8.o.2.2.2.1.bw k9).other _ _ (by dsimp only;omega)
   have kr9:Blk X9 (w.heap.size+1) z8m 138:=by rw [hX9];exact (HD8.o.2.2.2.2.bw k9).other _ _ (by dsimp only;omega)
   have x7:=kb9.cell 7;have HCE:=zh (aFm b7 P.es.length d7 P.es X9 (HSR.o X9 D9.c.b).e HRR.o.e.1);have HD9:=zh (xA D9 (xA P9 (xA (cG T9 HD8.o.1.c.k HD8.o.2.1 (by decide)) (xA (cG T9 HD8.o.1.c.k HD8.o.2.2.1 (by decide)) (xA kb9 kr9)))));have HX9:=zh hX9;clear x6 y5 yf5 C9 D9 P9 T9 hX9 o9 k9 kb9 kr9 HCD;go_wp2_with (rw [<- HX9.o])
   refine HCE.o.mono ?_;rintro e w10 ⟨a7,c7,rfl,o10,k10⟩;obtain ⟨C10,D10,P10,T10,_⟩:=HD9.o.1.row (v7':=qS a7 P.es.length c7) o10 k10 (by decide) 7 rfl;have y7:=C10.c.k.cell 7;have yf7:=C10.c.k.frozen 7;obtain ⟨XX,hXX⟩:=eqx (w10.setCell ⟨(w.heap.size+1+1),7,none⟩ (qS a7 P.es.length c7));rw [<- hXX] at D10 P10 T10;have kr10:Blk XX (w.heap.size+1) z8m 138:=by rw [hXX];exact (HD9.o.2.2.2.2.2.bw k10).other _ _ (by dsimp only;omega)
   have HMO:=zh (D10.done (P:=P) HBB.o HRR.o.d.2 (cG T10 HD9.o.1.c.k HD9.o.2.2.2.1 (by decide)) HC.o.1.c.b.size (cG T10 HD9.o.1.c.k HD9.o.2.2.1 (by decide)) HD7.o.1.c.b.size (cG T10 HD9.o.1.c.k HD9.o.2.1 (by decide)) HD8.o.1.c.b.size P10 HD9.o.1.c.b.size HAP.o);obtain ⟨x0,x1,x2,x3,x4,x5,x6,x8⟩:=Blk.eight' D10.c.k;have KZ:=kr10;unfold z8m at KZ;obtain ⟨r0,r1,r2,r3,r4,r5,r6,r7⟩:=Blk.eight' KZ;have rf:=kr10.frozen;have HF:Zh (CmP w P (.returned (.agg (qM P.nm t1 P.tz.length e1 a2 bl.length c2 a3 P.dz.length c3 P.bss a5 P.rz.length c5 a6 P.ss.length c6 a7 P.es.length c7))) (aI6 XX (w.heap.size+1) (.string P.nm) (qS t1 P.tz.length e1) (qS a2 bl.length c2) (qS a3 P.dz.length c3) (qI P.bss) (qS a5 P.rz.length c5) (qS a6 P.ss.length c6) (qS a7 P.es.length c7))):=⟨⟨t1,e1,a2,c2,bl,a3,c3,a5,c5,a6,c6,a7,c7⟩,rfl,ModO.setG (x:=(P,(⟨t1,e1,a2,c2,bl,a3,c3,a5,c5,a6,c6,a7,c7⟩:Mb))) HMO.o kr10 (wM _ _ _ _ _ _ _ _ _ _),aG D10.c.b (wM _ _ _ _ _ _ _ _ _ _) (fun j hj=>by omega) D10.c.b.size⟩;have HKR:=zh kr10;have HXE:=zh hXX;clear x7 y6 yf6 C10 D10 P10 T10 hXX o10 k10 kr10 KZ HCE HMO;go_wp2_with (rw [<- HXE.o])
   exact aPj HKR.o _ _ _ _ _ _ _ _ _ _ rfl HF.o
section
variable {zc:Array Value}{t:TypeId}{n g:Nat}{ms m:List Md}{L:Lay}{W0 X Y:qw}{o:Option Nat}{b0:qO}{d0:Nat}{ys:List PB}{b2:qO}{d2:Nat}{b5:qO}{d5:Nat}{us:List TB}
end
theorem aHq {W w:qw}{c n cap:Nat}{a:qO}{ms ms':List Md}(h:RowM W c n ms ms')(hl:ms'.length=n)(hm:MS w a n cap ms):upS (gH ms' (fun i=>bnF (ms'.getD i aK))) n<=3*(n+upS (fun j=>(ms.getD j aK).size) n):=by
 have key:∀ i,i<n->gH ms' (fun i=>bnF (ms'.getD i aK)) i<=2+3*(ms.getD i aK).size:=fun i hi=>by
  have hc:=(h.2.2 i (by omega)).2;have e1:=(uL (hm.2.2.2.1 i hi) hc).2
  have e2:(ms'.getD i aK).tn=(ms.getD i aK).tn/\(ms'.getD i aK).bn=(ms.getD i aK).bn/\(ms'.getD i aK).dn=(ms.getD i aK).dn/\(ms'.getD i aK).rn=(ms.getD i aK).rn/\(ms'.getD i aK).im=(ms.getD i aK).im/\(ms'.getD i aK).en=(ms.getD i aK).en:=by
   obtain ⟨g1,g2,g3,g5,g6,g7,gs,e,_⟩:=hc;rw [e];exact ⟨rfl,rfl,rfl,rfl,rfl,rfl⟩
  obtain ⟨f1,f2,f3,f4,f5,f6⟩:=e2;have e3:(ms.getD i aK).size=(ms.getD i aK).nm.size+(ms.getD i aK).tn+((ms.getD i aK).bn+upS (fun j=>((ms.getD i aK).bl.getD j zB).2.1) (ms.getD i aK).bn)+(ms.getD i aK).dn+(ms.getD i aK).rn+((ms.getD i aK).im+upS (fun j=>((ms.getD i aK).ss.getD j zS).size) (ms.getD i aK).im)+((ms.getD i aK).en+upS (fun j=>((ms.getD i aK).es.getD j zE).1.size) (ms.getD i aK).en):=rfl;unfold gH;rw [e1,f1,f3,f4,f5,f6,e3];omega
 have hsum:∀ q,q<=n->upS (gH ms' (fun i=>bnF (ms'.getD i aK))) q<=2*q+3*upS (fun j=>(ms.getD j aK).size) q:=by
  intro q
  induction q with
  | zero=>intro _;simp [upS]
  | succ q ih=>
    intro hq;have h1:=ih (by omega);have h2:=key q (by omega);show upS _ q+gH ms' (fun i=>bnF (ms'.getD i aK)) q<=2*(q+1)+3*(upS _ q+(ms.getD q aK).size);omega
 have:=hsum n aN;omega
section
variable {cf:Array Value}{tc:TypeId}{ct:Array Value}{tt:TypeId}{base:Nat}{R:List Rg}{w W5 W W':qw}{p:qO}{k q:Nat}
end
theorem Blk.tg3 {w:qw}{t:TypeId}(h:Blk w b #[v0,v1,v2] t):w.cell? (qR b 0)=some v0/\w.cell? (qR b 1)=some v1/\w.cell? (qR b 2)=some v2:=⟨h.cell 0,h.cell 1,h.cell 2⟩
def aQr (ps:List PMod)(L:Lay):Decidable (uU ps L):=
 have:=lokD ps L
 have:∀ b s,Decidable (sOk L b s):=fun _ _=>inferInstance
 decidable_of_iff (Lok ps L/\∀ m,m<ps.length->∀ b,b<(ps.getD m zP).bl.length+1->∀ s,s<L.slots.length+1->0<=pcq ps (m:Int) ((b:Int)-1)->sOk L ((b:Int)-1) ((s:Int)-1)->(plR ps L (m:Int) ((b:Int)-1) ((s:Int)-1)).length<=8) (by
  unfold uU;refine and_congr_right fun _=>⟨fun h m b s hp hs=>?_,fun h m _ b _ s _=>h m _ _⟩
  have hmb:(0<=m/\m<(ps.length:Int))/\(b=-1\/(0<=b/\b<((ps.getD m.toNat zP).bl.length:Int))):=by
   unfold pcq at hp;split at hp
   .refine ⟨by assumption,?_⟩;split at hp
    .exact .inl (by assumption)
    .split at hp
     .exact .inr (by assumption)
     .exact absurd hp (by decide)
   .exact absurd hp (by decide)
  have hs':=hs.fit;have:=h m.toNat (by omega) (b+1).toNat (by omega) (s+1).toNat (by omega);rw [show ((m.toNat:Nat):Int)=m by omega,show (((b+1).toNat:Nat):Int)-1=b by omega,show (((s+1).toNat:Nat):Int)-1=s by omega] at this
  exact this hp hs)
def aQj (ps:List PMod)(L:Lay)(cs cw T:Int)(rz:qi)(xs:List SlT):Decidable (cV ps L cs cw T rz xs):=by unfold cV mU slk aln cmn;infer_instance
def aQp (M:Mn):Decidable (MOk M):=
 have:=aQr (aD M.ms) M.L;have:=aQj (aD M.ms) M.L M.cs M.cw M.tn M.rz M.lz;have:Decidable (vM (aD M.ms) M.cs M.md M.bk M.lz):=by unfold vM;infer_instance
 have:Decidable (jQ (aD M.ms) M.cd M.hz):=by unfold jQ;infer_instance
 decidable_of_iff (lkc (aD M.ms) M.cs M.cw M.ck M.cd=0/\uU (aD M.ms) M.L/\cok M.pc M.kn M.kz=true/\mok M.fn M.rn M.on=true/\imF (aD M.ms) M.L=M.fz/\(M.rn:Int)=M.L.ram/\(0<=M.tn/\M.tn<=1000000000)/\cV (aD M.ms) M.L M.cs M.cw M.tn M.rz M.lz/\vM (aD M.ms) M.cs M.md M.bk M.lz/\jQ (aD M.ms) M.cd M.hz) ⟨fun ⟨h1,h2,h3,h4,h5,h6,h7,h8,h9,h10⟩=>⟨h1,h2,h3,h4,h5,h6,h7,h8,h9,h10⟩,fun h=>⟨h.l,h.p,h.c,h.b,h.f,h.r,h.t,h.s,h.n,h.h⟩⟩
end Go.Proofs.YtncccmeomcaabaaGreat
namespace Go.Proofs.YtncccmeomcaabaaGreat
open Go.ChangeShapes Go.WideShapes Go.ChangeAt Go.RowKit Classical
variable {base fuel:Nat}{cs:List Value}{held:Bool}
theorem aFu (b off i:Nat):(Addr.add (qR b off) i)=(qR b (off+i)):=by
 simp only [Addr.add];split
 .next h=>subst h;rfl
 .rfl
set_option maxRecDepth 100000 in
theorem jF {H:Type}{enc:TypeId×Value->H}{w:qw}{x:DataW H×List MemPlace}
 (h:DataW.trod enc Tryz.prog w base (fun _=>true) held fuel 25 cs=some x):∃ a n cap zs,cs=[qS a n cap]/\IS w a n cap zs:=by
 rcases open_ints Tryz.underlying25 Tryz.underlying3 (by kernel_rfl) h with ⟨hcs,_⟩|⟨x,l,c,zs,hcs,_,hl,hm,hz,_,hcell,hwz⟩
 .exact ⟨none,0,0,[],hcs,rfl,Nat.zero_le _,by simp,fun h=>absurd rfl h,aN⟩
 .simp at hz;refine ⟨some x,l,c,zs.take l,hcs,by simp;omega,by omega,fun z hz'=>wf_i64 (hwz z (List.mem_of_mem_take hz')),fun hl0=>?_,hl⟩;obtain ⟨b,off,spot⟩:=x;have hspot:spot=none:=by simpa [Addr.add] using World.cell?_spot (hcell 0 (by omega))
  subst hspot;refine ⟨b,off,rfl,fun i hi=>?_⟩;have:=hcell i (by omega);rw [aFu] at this;rw [this];simp [List.getD_eq_getElem?_getD,hi]
set_option maxRecDepth 100000 in
theorem aDo {H:Type}{enc:TypeId×Value->H}{w:qw}{x:DataW H×List MemPlace}
 (h:DataW.trod enc Tryz.prog w base (fun _=>true) held fuel 114 cs=some x):∃ a n cap bl,cs=[qS a n cap]/\BKS w a n cap bl:=by
 have e1:Tryz.prog.cellsOf 25=1:=by kernel_rfl
 rcases Deep.open_slice Tryz.underlying114 h with ⟨hcs,_⟩|⟨a,len,cap,m,n,D,Pl,hcs,hb,hl,hm,hmm,hx,hd⟩
 .exact ⟨none,0,0,[],hcs,rfl,Nat.zero_le _,fun h=>absurd rfl h,fun i hi=>by omega,aN⟩
 .simp at hmm;rw [hmm] at hd;rw [e1] at hd
  obtain ⟨G,hG⟩:=Deep.choose_lt (α:=Bk) (p:=fun i g=>(∃ cs',w.cells? base (a.add (i*1)) 1=some cs'/\cs'=[qS g.1 g.2.1 g.2.2.1])/\IS w g.1 g.2.1 g.2.2.1 g.2.2.2) (n:=len) (fun i hi=>by
   obtain ⟨cs',h1,h2⟩:=hd i (by omega);obtain ⟨a',n',c',zs',e,hI⟩:=jF h2
   exact ⟨(a',n',c',zs'),⟨cs',h1,e⟩,hI⟩)
  have hgi:∀ i,i<len->((List.range len).map G).getD i zB=G i:=fun i hi=>by simp [List.getD_eq_getElem?_getD,hi]
  refine ⟨some a,len,cap,(List.range len).map G,hcs,by simp,by omega,?_,fun i hi=>by rw [hgi i hi];exact (hG i hi).2,hl⟩;intro hn;obtain ⟨b,off,spot⟩:=a
  have hspot:spot=none:=by
   obtain ⟨⟨cs',h1,h2⟩,_⟩:=hG 0 (by omega);have:=(World.cells?_some h1).2.2 0 (by omega);rw [h2] at this;simpa [Addr.add] using World.cell?_spot this
  subst hspot;refine ⟨b,off,rfl,fun i hi=>?_⟩;obtain ⟨⟨cs',h1,h2⟩,_⟩:=hG i hi;have hc:=(World.cells?_some h1).2.2;rw [h2] at hc;rw [hgi i hi];simp only [aFu] at hc;simpa using hc 0 (by omega)
set_option maxRecDepth 100000 in
theorem aDv {H:Type}{enc:TypeId×Value->H}{w:qw}{x:DataW H×List MemPlace}
 (h:DataW.trod enc Tryz.prog w base (fun _=>true) held fuel 115 cs=some x):∃ a n cap ss,cs=[qS a n cap]/\TS w a n cap ss:=by
 have e1:Tryz.prog.cellsOf 9=1:=by kernel_rfl
 have ez:zS.size<=maxLen:=by decide
 rcases Deep.open_slice Tryz.underlying115 h with ⟨hcs,_⟩|⟨a,len,cap,m,n,D,Pl,hcs,hb,hl,hm,hmm,hx,hd⟩
 .exact ⟨none,0,0,[],hcs,rfl,Nat.zero_le _,fun i=>by simpa using ez,fun h=>absurd rfl h,aN⟩
 .simp at hmm;rw [hmm] at hd;rw [e1] at hd
  obtain ⟨G,hG⟩:=Deep.choose_lt (α:=ByteArray) (p:=fun i g=>(∃ cs',w.cells? base (a.add (i*1)) 1=some cs'/\cs'=[Value.string g])/\g.size<=maxLen) (n:=len) (fun i hi=>by
   obtain ⟨cs',h1,h2⟩:=hd i (by omega);obtain ⟨s,e,_,hI⟩:=DataW.trod_string Tryz.underlying9 h2
   exact ⟨s,⟨cs',h1,e⟩,hI⟩)
  have hgi:∀ i,i<len->((List.range len).map G).getD i zS=G i:=fun i hi=>by simp [List.getD_eq_getElem?_getD,hi]
  refine ⟨some a,len,cap,(List.range len).map G,hcs,by simp,by omega,fun i=>?_,?_,hl⟩
  .by_cases hi:i<len
   .rw [hgi i hi];exact (hG i hi).2
   .rw [List.getD_eq_getElem?_getD,List.getElem?_eq_none (by simp;omega)];exact ez
  intro hn;obtain ⟨b,off,spot⟩:=a
  have hspot:spot=none:=by
   obtain ⟨⟨cs',h1,h2⟩,_⟩:=hG 0 (by omega);have:=(World.cells?_some h1).2.2 0 (by omega);rw [h2] at this;simpa [Addr.add] using World.cell?_spot this
  subst hspot;refine ⟨b,off,rfl,fun i hi=>?_⟩;obtain ⟨⟨cs',h1,h2⟩,_⟩:=hG i hi;have hc:=(World.cells?_some h1).2.2;rw [h2] at hc;rw [hgi i hi];simp only [aFu] at hc;simpa using hc 0 (by omega)
set_option maxRecDepth 100000 in
theorem aBc {H:Type}{enc:TypeId×Value->H}{w:qw}{base:Nat}{held:Bool}{spare:Nat->Bool}{fuel:Nat}{cs:List Value}{x:DataW H×List MemPlace}
 (h:DataW.trod enc Tryz.prog w base spare held fuel 218 cs=some x):∃ g:Ex,cs=[.string g.1,qI g.2.1,qI g.2.2]/\g.1.size<=maxLen:=by
 obtain ⟨xs,n,_,_,hl,hlen,hf⟩:=DataW.trod_struct Tryz.underlying218 h;have e6:Tryz.prog.cellsOf 218=3:=by kernel_rfl
 rw [e6] at hl
 match xs,hlen,cs,hl with
 | [y0,y1,y2],_,[c0,c1,c2],_=>
 have k0:=hf 0 _ rfl;have k1:=hf 1 _ rfl;have k2:=hf 2 _ rfl;have e3:Tryz.prog.cellsOf 3=1:=by kernel_rfl
 have e4:Tryz.prog.cellsOf 9=1:=by kernel_rfl
 simp [e3,e4] at k0 k1 k2;obtain ⟨a0,h0,_,wa⟩:=DataW.trod_string Tryz.underlying9 k0;obtain ⟨a1,h1,_,wb⟩:=DataW.trod_int Tryz.underlying3 k1;obtain ⟨a2,h2,_,wc⟩:=DataW.trod_int Tryz.underlying3 k2;simp at h0 h1 h2;subst h0 h1 h2;exact ⟨(a0,a1,a2),rfl,wa⟩
set_option maxRecDepth 100000 in
theorem aDy {H:Type}{enc:TypeId×Value->H}{w:qw}{x:DataW H×List MemPlace}
 (h:DataW.trod enc Tryz.prog w base (fun _=>true) held fuel 116 cs=some x):∃ a n cap es,cs=[qS a n cap]/\TE w a n cap es:=by
 have e1:Tryz.prog.cellsOf 218=3:=by kernel_rfl
 have ez:(zE).1.size<=maxLen:=by decide
 rcases Deep.open_slice Tryz.underlying116 h with ⟨hcs,_⟩|⟨a,len,cap,m,n,D,Pl,hcs,hb,hl,hm,hmm,hx,hd⟩
 .exact ⟨none,0,0,[],hcs,rfl,Nat.zero_le _,fun i=>by simpa using ez,fun h=>absurd rfl h,aN⟩
 .simp at hmm;rw [hmm] at hd;rw [e1] at hd
  obtain ⟨G,hG⟩:=Deep.choose_lt (α:=Ex) (p:=fun i g=>(∃ cs',w.cells? base (a.add (i*3)) 3=some cs'/\cs'=[.string g.1,qI g.2.1,qI g.2.2])/\g.1.size<=maxLen) (n:=len) (fun i hi=>by
   obtain ⟨cs',h1,h2⟩:=hd i (by omega);obtain ⟨s,e,hI⟩:=aBc h2
   exact ⟨s,⟨cs',h1,e⟩,hI⟩)
  have hgi:∀ i,i<len->((List.range len).map G).getD i zE=G i:=fun i hi=>by simp [List.getD_eq_getElem?_getD,hi]
  refine ⟨some a,len,cap,(List.range len).map G,hcs,by simp,by omega,fun i=>?_,?_,hl⟩
  .by_cases hi:i<len
   .rw [hgi i hi];exact (hG i hi).2
   .rw [List.getD_eq_getElem?_getD,List.getElem?_eq_none (by simp;omega)];exact ez
  intro hn;obtain ⟨b,off,spot⟩:=a
  have hspot:spot=none:=by
   obtain ⟨⟨cs',h1,h2⟩,_⟩:=hG 0 (by omega);have:=(World.cells?_some h1).2.2 0 (by omega);rw [h2] at this;simpa [Addr.add] using World.cell?_spot this
  subst hspot;refine ⟨b,off,rfl,fun i hi=>?_⟩;obtain ⟨⟨cs',h1,h2⟩,_⟩:=hG i hi;have hc:=(World.cells?_some h1).2.2;rw [h2] at hc;rw [hgi i hi];simp only [aFu] at hc;exact ⟨hc 0 (by omega),hc 1 (by omega),hc 2 (by omega)⟩
