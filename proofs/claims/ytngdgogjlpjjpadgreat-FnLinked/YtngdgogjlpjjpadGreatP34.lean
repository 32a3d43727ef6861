import Derived.Test.YtngdgogjlpjjpadGreatP33
namespace Go.Proofs.YtngdgogjlpjjpadGreat
open Go.RowKit Classical
set_option linter.unusedVariables false
set_option linter.unusedSimpArgs false
set_option maxRecDepth 100000
theorem take_byt' {zs:List Int} (h:Byt zs) (m:Nat):∀ j,0≤(zs.take m).getD j 0∧(zs.take m).getD j 0≤255:=fun j=>by
 rw [List.getD_eq_getElem?_getD]
 cases e:(zs.take m)[j]? with
 | none=>exact ⟨by simp,by simp⟩
 | some z=>exact h z (List.mem_of_mem_take (List.mem_of_getElem? e))
theorem bs_lt' {w:World} {a:Option Addr} {n c:Nat} {zs:List Int} (h:BS w a n c zs):n≠0→∀ b off,a=some ⟨b,off,none⟩→b<w.heap.size:=by
 intro hn b off e
 subst e
 exact World.block_lt_of_cell? w _ (h.at 0 (by omega))
theorem flat_setj (v:Value) (x':PMod × Ma) (j:Nat) (hj:j<8):∀ (L:List (PMod × Ma)) (i:Nat) (x:PMod × Ma),L[i]?=some x→clM x'=(clM x).set j v→(L.flatMap clM).set (i * 8+j) v=(L.set i x').flatMap clM
 | [],i,x,h,e=>by simp at h
 | y :: L,0,x,h,e=>by
   simp at h
   subst h
   rw [List.set_cons_zero,List.flatMap_cons,List.flatMap_cons,e,Nat.zero_mul,Nat.zero_add]
   exact List.set_append_left _ _ (by simp [clM];omega)
 | y :: L,i+1,x,h,e=>by
   rw [List.set_cons_succ,List.flatMap_cons,List.flatMap_cons,← flat_setj v x' j hj L i x (by simpa using h) e,List.set_append_right _ _ (by simp [clM];omega)]
   congr 2
   simp [clM]
   omega
def wideM (x:PMod × Ma) (g:Nat):PMod × Ma:=({ x.1 with dz:=List.replicate 512 0,bss:=512 },{ x.2 with a3:=some ⟨g,0,none⟩,c3:=512 })
theorem Mq.wide {w W:World} {r:Nat} {a:Option Addr} {n c:Nat} {zs:List Int} {k i g m cap:Nat} {L:List (PMod × Ma)} {x:PMod × Ma} (h:Mq w W r a n c zs k (.slice (some ⟨g,0,none⟩) m cap) L) (hm:L.length=m) (hx:L[i]?=some x):
 Mq w (((W.alloc (.cells (zb8 512) 5)).setCell ⟨g,i * 8+3,none⟩ (.slice (some ⟨W.heap.size,0,none⟩) 512 512)).setCell ⟨g,i * 8+4,none⟩ (.int .i64 512)) r a n c zs k (.slice (some ⟨g,0,none⟩) m cap) (L.set i (wideM x W.heap.size)):=by
 have b:=al_below W (.cells (zb8 512) 5)
 have h1:=h.below b
 obtain ⟨mx,X⟩:=h1.m i x hx
 have hg:=(h1.o.lt g rfl).1
 have kb:∀ j,j=g→∃ cs,Blk (W.alloc (.cells (zb8 512) 5)) j cs 49:=fun j hj=>by subst hj;exact own_kind h1.o rfl
 have T:Turn (fun j=>j=g) (W.alloc (.cells (zb8 512) 5)) (((W.alloc (.cells (zb8 512) 5)).setCell ⟨g,i * 8+3,none⟩ (.slice (some ⟨W.heap.size,0,none⟩) 512 512)).setCell ⟨g,i * 8+4,none⟩ (.int .i64 512)):=(turn_set _ g _ _).trans (turn_set _ g _ _)
 refine ⟨h1.d.grow (T.mono (fun j hj=>by subst hj;exact hg)),?_,fun j y hy=>?_,by rw [List.length_set];exact h.hl⟩
 ·have o1:=h1.o
  unfold OG at o1 ⊢
  rw [List.length_set]
  rw [hm] at o1 ⊢
  have o2:=owns_set (owns_set o1 (i * 8+3) (.slice (some ⟨W.heap.size,0,none⟩) 512 512)) (i * 8+4) (.int .i64 512)
  rw [flat_setj _ ({ x.1 with dz:=List.replicate 512 0 },{ x.2 with a3:=some ⟨W.heap.size,0,none⟩,c3:=512 }) 3 (by omega) L i x hx (by simp [clM])] at o2
  have hi:i<L.length:=by rcases Nat.lt_or_ge i L.length with h | h;exact h;rw [List.getElem?_eq_none h] at hx;simp at hx
  rw [flat_setj _ (wideM x W.heap.size) 4 (by omega) _ i _ (by rw [List.getElem?_set_self hi]) (by simp [clM,wideM])] at o2
  rw [List.set_set] at o2
  exact o2
 ·rcases get_set hy with ⟨_,rfl⟩ | ⟨hj,hy⟩
  ·have mw:MO (W.alloc (.cells (zb8 512) 5)) w.heap.size (wideM x W.heap.size).1 (wideM x W.heap.size).2:=⟨mx.t,mx.b,mx.bls,by have:=ob_zb8 W w.heap.size 512 h.d.sz (by omega);simpa [wideM] using this,mx.r,mx.i,mx.e,mx.tb,mx.tr,mx.br⟩
   exact ⟨mw.kept T (fun j hj=>.inr (kb j hj)),⟨X.n,X.t,X.b,⟨by simp [wideM],fun z hz=>by have:=List.eq_of_mem_replicate hz;omega⟩,by simp [wideM],X.r,X.i,X.e⟩⟩
  ·exact ⟨((h1.m j y hy).1).kept T (fun j hj=>.inr (kb j hj)),(h1.m j y hy).2⟩
def DkP (w:World) (e:Ending) (w':World):Prop:=∃ (v:Value) (L:List (PMod × Ma)) (x1 x2 x3 x4:Int),((-2000≤x1∧x1≤2000)∧(-2000≤x2∧x2≤2000)∧(-2000≤x3∧x3≤2000)∧-2000≤x4∧x4≤2000)∧e=.returned (.tuple #[v,.agg #[.int .i64 x1,.int .i64 x2,.int .i64 x3,.int .i64 x4]])∧OG 49 8 clM w' w.heap.size v L∧(∀ (i:Nat) (x:PMod × Ma),L[i]?=some x→MO w' w.heap.size x.1 x.2∧DoR x.1)∧L.length≤5∧Below w.heap.size w w'
theorem dk_end {W:World} {q:Nat} {z0 z1 z2 z3:Value} {va:Option Addr} {vn vc:Nat} (k1:Blk W q #[z0,z1,z2,z3] 25) (v0 v1 v2 v3:Value) (Q:Ending→World→Prop) (tmps:Array Value) (h2:tmps[2]?=some (.slice va vn vc)) (h4:tmps[3]?=some (.pointer (some ⟨q,0,none⟩))) (hQ:Q (.returned (.tuple #[.slice va vn vc,.agg #[v0,v1,v2,v3]])) (st4 W q v0 v1 v2 v3).drew):
 bodyPost Tryz.prog Tryz.f7 Q Exit.ret ⟨tmps,[]⟩ (st4 W q v0 v1 v2 v3).drew:=by
 obtain ⟨⟨t0,t1,t2,t3⟩,_⟩:=((blk_st4 k1 v0 v1 v2 v3).below (Below.refl _ _).drew).cfr
 refine bodyPost_ret_by (v:=.tuple #[.slice va vn vc,.agg #[v0,v1,v2,v3]]) ?_ rfl hQ
 simp [results,Tryz.results7,go_sem,h2,h4,t0,t1,t2,t3]
theorem Mq.dk {w w2 W:World} {r:Nat} {a:Option Addr} {n c:Nat} {zs:List Int} {k g:Nat} {v:Value} {L:List (PMod × Ma)} (h:Mq w2 W r a n c zs k v L) (hg:g<w2.heap.size) (hw:w.heap.size≤w2.heap.size) (B:Below w.heap.size w w2) (hr:w.heap.size≤r) (hg':w.heap.size≤g) (x1 x2 x3 x4:Int) (hx:(-2000≤x1∧x1≤2000)∧(-2000≤x2∧x2≤2000)∧(-2000≤x3∧x3≤2000)∧-2000≤x4∧x4≤2000):DkP w (.returned (.tuple #[v,.agg #[.int .i64 x1,.int .i64 x2,.int .i64 x3,.int .i64 x4]])) (st4 W g (.int .i64 x1) (.int .i64 x2) (.int .i64 x3) (.int .i64 x4)).drew:=
 ⟨v,L,x1,x2,x3,x4,hx,rfl,((h.o.turn (turn_st4 W g _ _ _ _) (fun j hj=>by subst hj;omega)).below (Below.refl _ _).drew).mono hw,fun i x hx=>⟨(((h.m i x hx).1.kept (turn_st4 W g _ _ _ _) (fun j hj=>.inl (by subst hj;exact hg))).below (Below.refl _ _).drew).mono hw,(h.m i x hx).2⟩,h.hl,(below_turn (below_turn B h.d.t (fun j hj=>by subst hj;exact hr) hw) (turn_st4 W g _ _ _ _) (fun j hj=>by subst hj;exact hg') (Nat.le_trans hw h.d.sz)).drew⟩
set_option maxHeartbeats 8000000 in
theorem DrawLink_any (zs:List Int) (hz:Byt zs) (w:World) (a:Option Addr) (n c:Nat) (h:BS w a n c zs):Calls Tryz.prog 7 #[.slice a n c] w (DkP w):=by
 have hzs:=take_byt' hz 1000
 obtain ⟨K,E1,z0,z1⟩:=draw_of hzs 0
 have m32:K.tmod 32=K % 32:=Int.tmod_eq_emod_of_nonneg z0
 have hB0:=al_below w (.cells #[.int .i64 0,.int .i64 0,.int .i64 0,.int .i64 0] 25)
 have h1:=h.below hB0
 have hlt:=bs_lt' h
 have R0:=Blk.new w #[.int .i64 0,.int .i64 0,.int .i64 0,.int .i64 0] 25
 have hs0:(w.alloc (.cells #[.int .i64 0,.int .i64 0,.int .i64 0,.int .i64 0] 25)).heap.size=w.heap.size+1:=by simp
 have HO:=hide (l1Open_any a n c (min n 1000) zs _ h1 rfl)
 rw [hs0] at HO
 have HB:=hide (And.intro hB0 (And.intro hlt R0))
 have HZ:=hide hzs
 clear hB0 hlt R0 h1 h hzs
 go_enter Tryz.func7,Tryz.ntmps7
 go_wp2_with fail
 refine HO.out.mono ?_
 rintro e w1 ⟨rfl,rd,hb1⟩
 obtain ⟨hB0,hlt,R0⟩:=HB.out
 have R1:=R0.below (by rw [hs0];exact hb1)
 have hs1:=rd.blk.lt
 have D0:=Dst.new rd (fun hn b off e=>by have:=hlt (by omega) b off e;have:=hb1.size;omega)
 have HD0:=hide (And.intro D0 (And.intro R1 (show Below w.heap.size w w1 from hB0.trans (hb1.mono (by omega)))))
 clear hB0 hlt R0 R1 HO HB hb1 rd D0
 go_wp2_with fail
 refine (HD0.out.1.next K E1).mono ?_
 rintro e w2 ⟨rfl,D1,t1⟩
 have R2:=turn_blk t1 HD0.out.2.1 (by omega)
 have hs2:=D1.sz
 have HB2:=hide (below_turn HD0.out.2.2 D1.t (fun j hj=>by omega) (by omega))
 have CC:=hide (l5Mods_fn _ HZ.out _ w2 _ _ _ _ D1.fresh)
 have HR2:=hide R2
 clear HD0 R2 D1 t1 E1
 go_wp2_with fail
 refine CC.out.mono ?_
 rintro e w3 ⟨v,L,k3,rfl,Q3⟩
 have R3:=turn_blk Q3.d.t HR2.out (by omega)
 have hs3:=Q3.d.sz
 have CF:=hide (l5AnyConfig_fn _ HZ.out _ w3 _ _ _ _ Q3.d.fresh)
 have HQ3:=hide (And.intro Q3 R3)
 obtain ⟨av,cv,rfl⟩:=og_shape Q3.o
 clear CC HR2 Q3 R3
 go_wp2_with fail
 refine CF.out.mono ?_
 rintro e w4 ⟨x1,x2,x3,x4,k4,hx,rfl,D4⟩
 obtain ⟨Q3,R3⟩:=HQ3.out
 have b5:=al_below w4 (.cells #[.int .i64 x1,.int .i64 x2,.int .i64 x3,.int .i64 x4] 25)
 have R5:=(turn_blk D4.t R3 (by omega)).below b5
 have Q5:=(Q3.turn D4.t (Q3.d.trans D4)).below b5
 have C5:=Blk.new w4 #[.int .i64 x1,.int .i64 x2,.int .i64 x3,.int .i64 x4] 25
 have hs4:=D4.sz
 have HX:=hide hx
 have HE:=hide (And.intro Q5 (And.intro R5 C5))
 have hL5:=Q5.hl
 clear CF HQ3 Q3 R3 D4 b5 Q5 R5 C5 hx
 by_cases hc:K % 32=31
 ·by_cases hl:L.length=0
  ·have hl':¬ (0:Int)<(L.length:Int):=by omega
   clear hl
   obtain ⟨Q5,R5,C5⟩:=HE.out
   obtain ⟨⟨r0,r1,r2,r3⟩,s0,s1,s2,s3⟩:=R5.cfr
   obtain ⟨⟨p0,p1,p2,p3⟩,q0,q1,q2,q3⟩:=C5.cfr
   clear Q5 R5 C5
   go_wp2_with fail
   go_region
   all_goals
    go_wp2
    refine dk_end HE.out.2.1 _ _ _ _ _ _ rfl rfl ?_
    exact HE.out.1.dk (by omega) (by omega) HB2.out (by omega) (Nat.le_refl _) _ _ _ _ HX.out
  ·have hl':(0:Int)<(L.length:Int):=by omega
   obtain ⟨g,cap,hav,_⟩:=World.ownsRow.form HE.out.1.o (by omega)
   simp only [Value.slice.injEq] at hav
   obtain ⟨rfl,-,rfl⟩:=hav
   have hmk:∀ W:World,(Instr.makeSlice 22 (.int .i64 512) (.int .i64 512)).run Tryz.prog W=.ok (.slice (some ⟨W.heap.size,0,none⟩) 512 512) (W.alloc (.cells (zb8 512) 5)):=fun W=>mk8 512 (by omega) W
   generalize hM:L.length=m at *
   go_wp2
   go_loopw [8] (fun i wr=>∃ (j:Nat) (L:List (PMod × Ma)),j≤m∧i=.int .i64 j∧Mq w2 wr (w.heap.size+1) a (min n 1000) c (zs.take 1000) k4 (.slice (some ⟨g,0,none⟩) m cv) L∧L.length=m∧Blk wr w.heap.size #[.int .i64 0,.int .i64 0,.int .i64 0,.int .i64 0] 25∧Blk wr w4.heap.size #[.int .i64 x1,.int .i64 x2,.int .i64 x3,.int .i64 x4] 25) (fun i _=>m - (intOf i).toNat)
   case atStart=>exact ⟨0,L,Nat.zero_le _,rfl,HE.out.1,hM,HE.out.2.1,HE.out.2.2⟩
   case round=>
    obtain ⟨j,L2,hj,rfl,Q,hl2,R,C⟩:=hrel
    generalize wr=wr1 at *
    clear HE
    have hgk:=own_kind Q.o (k:=g) rfl
    have hg1:=(Q.o.lt g rfl).1
    have hgC:w4.heap.size≠g:=fun e=>by
     subst e
     obtain ⟨cs,kb⟩:=hgk
     exact absurd (blk_kind kb C) (by decide)
    by_cases hlt:j<m
    ·have hlt':(j:Int)<(m:Int):=by omega
     obtain ⟨y,hy⟩:∃ y,L2[j]?=some y:=⟨L2[j]'(by omega),by rw [List.getElem?_eq_getElem]⟩
     have b6:=al_below wr1 (.cells (zb8 512) 5)
     have c3:(wr1.alloc (.cells (zb8 512) 5)).cell? ⟨g,j * 8+3,none⟩=some _:=(Q.below b6).cells hy 3 (by omega) _ rfl
     have c4:(wr1.alloc (.cells (zb8 512) 5)).cell? ⟨g,j * 8+4,none⟩=some _:=(Q.below b6).cells hy 4 (by omega) _ rfl
     have f3:(wr1.alloc (.cells (zb8 512) 5)).frozen? ⟨g,j * 8+3,none⟩=false:=(Q.below b6).frz _
     have f4:(wr1.alloc (.cells (zb8 512) 5)).frozen? ⟨g,j * 8+4,none⟩=false:=(Q.below b6).frz _
     have T:Turn (fun j=>j=g) (wr1.alloc (.cells (zb8 512) 5)) (((wr1.alloc (.cells (zb8 512) 5)).setCell ⟨g,j * 8+3,none⟩ (.slice (some ⟨wr1.heap.size,0,none⟩) 512 512)).setCell ⟨g,j * 8+4,none⟩ (.int .i64 512)):=(turn_set _ g _ _).trans (turn_set _ g _ _)
     have HF:=hide (And.intro (Q.wide hl2 hy) (And.intro (turn_blk T (R.below b6) (by omega)) (turn_blk T (C.below b6) hgC)))
     clear Q R C b6 T hy hgk
     go_wp2
     go_roundw
     case rel=>exact ⟨j+1,_,by omega,by go_num,HF.out.1,by rw [List.length_set];exact hl2,HF.out.2.1,HF.out.2.2⟩
     case measure=>simp [intOf];omega
    ·have hlt':¬ (j:Int)<(m:Int):=by omega
     obtain ⟨⟨r0,r1,r2,r3⟩,s0,s1,s2,s3⟩:=R.cfr
     obtain ⟨⟨p0,p1,p2,p3⟩,q0,q1,q2,q3⟩:=C.cfr
     have HE:=hide (And.intro Q R)
     clear Q R C hgk
     go_wp2_with fail
     go_region
     all_goals
      go_wp2
      refine dk_end HE.out.2 _ _ _ _ _ _ rfl rfl ?_
      exact HE.out.1.dk (by omega) (by omega) HB2.out (by omega) (Nat.le_refl _) _ _ _ _ HX.out
 ·obtain ⟨Q5,R5,C5⟩:=HE.out
  obtain ⟨⟨r0,r1,r2,r3⟩,s0,s1,s2,s3⟩:=R5.cfr
  obtain ⟨⟨p0,p1,p2,p3⟩,q0,q1,q2,q3⟩:=C5.cfr
  clear Q5 R5 C5
  go_wp2_with fail
  go_region
  all_goals
   go_wp2
   refine dk_end HE.out.2.1 _ _ _ _ _ _ rfl rfl ?_
   exact HE.out.1.dk (by omega) (by omega) HB2.out (by omega) (Nat.le_refl _) _ _ _ _ HX.out
end Go.Proofs.YtngdgogjlpjjpadGreat
