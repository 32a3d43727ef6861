import Derived.Test.YtngdgogjlpjjpadGreatP44
import Derived.Test.YtngdgogjlpjjpadGreatP47
namespace Go.Proofs.YtngdgogjlpjjpadGreat
open Go.RowKit Classical
set_option linter.unusedVariables false
set_option linter.unusedSimpArgs false
set_option maxRecDepth 100000
theorem take_byt2 {zs:List Int} (h:Byt zs) (m:Nat):∀ j,0≤(zs.take m).getD j 0∧(zs.take m).getD j 0≤255:=fun j=>by
 rw [List.getD_eq_getElem?_getD]
 cases e:(zs.take m)[j]? with
 | none=>exact ⟨by simp,by simp⟩
 | some z=>exact h z (List.mem_of_mem_take (List.mem_of_getElem? e))
theorem bs_lt2 {w:World} {a:Option Addr} {n c:Nat} {zs:List Int} (h:BS w a n c zs):n≠0→∀ b off,a=some ⟨b,off,none⟩→b<w.heap.size:=by
 intro hn b off e
 subst e
 exact World.block_lt_of_cell? w _ (h.at 0 (by omega))
def DpP (w:World) (e:Ending) (w':World):Prop:=∃ (ma:Option Addr) (mn mc:Nat) (ms:List Md) (L:Lay) (a0:Option Addr) (c0:Nat) (xs:List PB) (a2:Option Addr) (c2:Nat) (a5:Option Addr) (c5:Nat) (ts:List TB) (t1 t2 t3 s:Int),e=.returned (.tuple #[.slice ma mn mc,.agg #[.slice a0 xs.length c0,.int .i64 L.stack,.slice a2 L.slots.length c2,.int .i64 L.flash,.int .i64 L.ram,.slice a5 ts.length c5],.agg #[.int .i64 t1,.int .i64 t2,.int .i64 t3],.int .i64 s])∧MSD w' ma mn mc ms∧LyT w' L a0 c0 xs a2 c2 a5 c5 ts∧Below w.heap.size w w'
def st3 (W:World) (k:Nat) (v0 v1 v2:Value):World:=((W.setCell ⟨k,0,none⟩ v0).setCell ⟨k,1,none⟩ v1).setCell ⟨k,2,none⟩ v2
theorem turn_st3 (W:World) (k:Nat) (v0 v1 v2:Value):Turn (fun j=>j=k) W (st3 W k v0 v1 v2):=((turn_set W k 0 v0).trans (turn_set _ k 1 v1)).trans (turn_set _ k 2 v2)
theorem blk_st3 {W:World} {k:Nat} {t:TypeId} {z0 z1 z2:Value} (h:Blk W k #[z0,z1,z2] t) (v0 v1 v2:Value):Blk (st3 W k v0 v1 v2) k #[v0,v1,v2] t:=by
 have k:=((h.set 0 v0).set 1 v1).set 2 v2
 have e:((#[z0,z1,z2].setIfInBounds 0 v0).setIfInBounds 1 v1).setIfInBounds 2 v2=#[v0,v1,v2]:=by simp
 rw [e] at k
 exact k
theorem Blk.fr3 {W:World} {g:Nat} {v0 v1 v2:Value} {t:TypeId} (h:Blk W g #[v0,v1,v2] t):(W.cell? ⟨g,0,none⟩=some v0∧W.cell? ⟨g,1,none⟩=some v1∧W.cell? ⟨g,2,none⟩=some v2)∧W.frozen? ⟨g,0,none⟩=false∧W.frozen? ⟨g,1,none⟩=false∧W.frozen? ⟨g,2,none⟩=false:=
 ⟨⟨h.cell 0,h.cell 1,h.cell 2⟩,h.frozen 0,h.frozen 1,h.frozen 2⟩
theorem dp_end {W:World} {q p:Nat} {z0 z1 z2 z3 z4 z5 y0 y1 y2:Value} {va:Option Addr} {vn vc:Nat} {s:Int} (k1:Blk W q #[z0,z1,z2,z3,z4,z5] 32) (k2:Blk W p #[y0,y1,y2] 72) (hqp:q≠p) (v0 v1 v2 v3 v4 v5 u0 u1 u2:Value) (Q:Ending→World→Prop) (tmps:Array Value) (h2:tmps[2]?=some (.slice va vn vc)) (h3:tmps[3]?=some (.pointer (some ⟨q,0,none⟩))) (h4:tmps[4]?=some (.pointer (some ⟨p,0,none⟩))) (h5:tmps[5]?=some (.int .i64 s)) (hQ:Q (.returned (.tuple #[.slice va vn vc,.agg #[v0,v1,v2,v3,v4,v5],.agg #[u0,u1,u2],.int .i64 s])) (st3 (st6 W q v0 v1 v2 v3 v4 v5) p u0 u1 u2).drew):
 bodyPost Tryz.prog Tryz.f33 Q Exit.ret ⟨tmps,[]⟩ (st3 (st6 W q v0 v1 v2 v3 v4 v5) p u0 u1 u2).drew:=by
 have K1:=turn_blk (turn_st3 _ p u0 u1 u2) (blk_s6 k1 v0 v1 v2 v3 v4 v5) hqp
 have K2:=blk_st3 (turn_blk (turn_st6 W q v0 v1 v2 v3 v4 v5) k2 (Ne.symm hqp)) u0 u1 u2
 obtain ⟨⟨t0,t1,t2,t3,t4,t5⟩,_⟩:=(K1.below (Below.refl _ _).drew).fr6
 obtain ⟨⟨s0,s1,s2⟩,_⟩:=(K2.below (Below.refl _ _).drew).fr3
 refine bodyPost_ret_by (v:=.tuple #[.slice va vn vc,.agg #[v0,v1,v2,v3,v4,v5],.agg #[u0,u1,u2],.int .i64 s]) ?_ rfl hQ
 simp [results,Tryz.results33,go_sem,h2,h3,h4,h5,t0,t1,t2,t3,t4,t5,s0,s1,s2]
theorem turn_lt {S:Nat→Prop} {w w':World} (h:Turn (fun j=>S j∨w.heap.size≤j) w w'):Turn S w w':=⟨h.os,h.tape,h.output,h.size,fun k hk hs=>h.block k hk (fun s=>by rcases s with s | s;exact hs s;omega)⟩
theorem turn_dp (W:World) (q p:Nat) (v0 v1 v2 v3 v4 v5 u0 u1 u2:Value):Turn (fun j=>j=q∨j=p) W (st3 (st6 W q v0 v1 v2 v3 v4 v5) p u0 u1 u2).drew:=(((turn_st6 W q v0 v1 v2 v3 v4 v5).mono (fun j s=>.inl s)).trans ((turn_st3 _ p u0 u1 u2).mono (fun j s=>.inr s))).trans (turn_below (Below.refl _ _).drew)
set_option maxHeartbeats 8000000 in
theorem DrawPlan_any (zs:List Int) (hz:Byt zs) (w:World) (a:Option Addr) (n c:Nat) (h:BS w a n c zs):Calls Tryz.prog 33 #[.slice a n c] w (DpP w):=by
 have hzs:=take_byt2 hz 1000
 obtain ⟨K,E1,z0,z1⟩:=draw_of hzs 0
 have m32:K.tmod 32=K % 32:=Int.tmod_eq_emod_of_nonneg z0
 have m16:K.tmod 16=K % 16:=Int.tmod_eq_emod_of_nonneg z0
 have d32:IntKind.i64.wrap (K.tdiv 32)=K / 32:=by rw [Int.tdiv_eq_ediv_of_nonneg z0,wr62 _ (by omega) (by omega)]
 obtain ⟨w0,hw0⟩:∃ w0,w0=(w.alloc (.cells #[.slice none 0 0,.int .i64 0,.slice none 0 0,.int .i64 0,.int .i64 0,.slice none 0 0] 32)).alloc (.cells #[.int .i64 0,.int .i64 0,.int .i64 0] 72):=⟨_,rfl⟩
 have hB0:Below w.heap.size w w0:=by rw [hw0];exact ((Below.refl _ _).alloc (Nat.le_refl _) _).alloc (by simp) _
 have h1:=h.below hB0
 have hlt:=bs_lt2 h
 have R0:Blk w0 w.heap.size #[.slice none 0 0,.int .i64 0,.slice none 0 0,.int .i64 0,.int .i64 0,.slice none 0 0] 32:=by rw [hw0];exact (Blk.new w _ _).alloc _
 have P0:Blk w0 (w.heap.size+1) #[.int .i64 0,.int .i64 0,.int .i64 0] 72:=by rw [hw0];have:=Blk.new (w.alloc (.cells #[.slice none 0 0,.int .i64 0,.slice none 0 0,.int .i64 0,.int .i64 0,.slice none 0 0] 32)) #[.int .i64 0,.int .i64 0,.int .i64 0] 72;simpa using this
 have hs0:w0.heap.size=w.heap.size+1+1:=by rw [hw0];simp
 have HO:=hide (l1Open_any a n c (min n 1000) zs _ h1 rfl)
 rw [hs0] at HO
 have HB:=hide (And.intro hB0 (And.intro hlt (And.intro R0 P0)))
 have HZ:=hide hzs
 have HW0:=hide hw0
 clear hB0 hlt R0 P0 h1 h hzs hw0
 go_enter Tryz.func33,Tryz.ntmps33
 go_wp2_with (rw [← HW0.out])
 refine HO.out.mono ?_
 rintro e w1 ⟨rfl,rd,hb1⟩
 obtain ⟨hB0,hlt,R0,P0⟩:=HB.out
 have R1:=R0.below (by rw [hs0];exact hb1)
 have P1:=P0.below (by rw [hs0];exact hb1)
 have hs1:=rd.blk.lt
 have D0:=Dst.new rd (fun hn b off e=>by have:=hlt (by omega) b off e;have:=hb1.size;omega)
 have HD0:=hide (And.intro D0 (And.intro (And.intro R1 P1) (show Below w.heap.size w w1 from hB0.trans (hb1.mono (by omega)))))
 clear hB0 hlt R0 P0 R1 P1 HO HB hb1 rd D0 HW0
 go_wp2_with fail
 refine (HD0.out.1.next K E1).mono ?_
 rintro e w2 ⟨rfl,D1,t1⟩
 have R2:=turn_blk t1 HD0.out.2.1.1 (by omega)
 have P2:=turn_blk t1 HD0.out.2.1.2 (by omega)
 have hs2:=D1.sz
 have HB2:=hide (below_turn HD0.out.2.2 D1.t (fun j hj=>by omega) (by omega))
 have CC:=hide (l5Layout_any _ HZ.out _ w2 _ _ _ _ D1.fresh)
 have HR2:=hide (And.intro R2 P2)
 clear HD0 R2 P2 D1 t1 E1
 go_wp2_with fail
 refine CC.out.mono ?_
 rintro e w3 ⟨ma,mn,mc,ms,L,a0,c0,xs,a2,c2,a5,c5,ts,k3,rfl,hmn,HL,D3⟩
 have R3:=turn_blk D3.t HR2.out.1 (by omega)
 have P3:=turn_blk D3.t HR2.out.2 (by omega)
 have hs3:=D3.sz
 have HB3:=hide (below_turn HB2.out D3.t (fun j hj=>by omega) (by omega))
 have HLL:=hide HL
 obtain ⟨w4,hw4⟩:∃ w4,w4=w3.alloc (.cells #[.slice a0 xs.length c0,.int .i64 L.stack,.slice a2 L.slots.length c2,.int .i64 L.flash,.int .i64 L.ram,.slice a5 ts.length c5] 32):=⟨_,rfl⟩
 have b4:Below w3.heap.size w3 w4:=by rw [hw4];exact al_below _ _
 have K4:Blk w4 w3.heap.size #[.slice a0 xs.length c0,.int .i64 L.stack,.slice a2 L.slots.length c2,.int .i64 L.flash,.int .i64 L.ram,.slice a5 ts.length c5] 32:=by rw [hw4];exact Blk.new _ _ _
 have R4:=R3.below b4
 have P4:=P3.below b4
 have hs4:w4.heap.size=w3.heap.size+1:=by rw [hw4];simp
 have HW4:=hide hw4
 have HK4:=hide (And.intro b4 (And.intro K4 (And.intro R4 P4)))
 obtain ⟨⟨p0,p1,p2,p3,p4,p5⟩,f0,f1,f2,f3,f4,f5⟩:=K4.fr6
 obtain ⟨⟨r0,r1,r2,r3,r4,r5⟩,e0,e1,e2,e3,e4,e5⟩:=R4.fr6
 obtain ⟨⟨s0,s1,s2⟩,g0,g1,g2⟩:=P4.fr3
 clear CC HR2 HL D3 R3 P3 hw4 b4 K4 R4 P4
 have HFI:=hide (show ∀ X:World,Turn (fun j=>w3.heap.size≤j) w4 X→∀ v0 v1 v2 v3 v4 v5 u0 u1 u2,(MSD (st3 (st6 X w.heap.size v0 v1 v2 v3 v4 v5) (w.heap.size+1) u0 u1 u2).drew ma mn mc ms∧LyT (st3 (st6 X w.heap.size v0 v1 v2 v3 v4 v5) (w.heap.size+1) u0 u1 u2).drew L a0 c0 xs a2 c2 a5 c5 ts)∧Below w.heap.size w (st3 (st6 X w.heap.size v0 v1 v2 v3 v4 v5) (w.heap.size+1) u0 u1 u2).drew from fun X t v0 v1 v2 v3 v4 v5 u0 u1 u2=>by
  have T:Turn (fun j=>(j=w.heap.size∨j=w.heap.size+1)∨w3.heap.size≤j) w3 (st3 (st6 X w.heap.size v0 v1 v2 v3 v4 v5) (w.heap.size+1) u0 u1 u2).drew:=((turn_below HK4.out.1).trans (t.mono (fun j s=>.inr s))).trans ((turn_dp X w.heap.size (w.heap.size+1) v0 v1 v2 v3 v4 v5 u0 u1 u2).mono (fun j s=>.inl s))
  have T':=turn_lt T
  exact ⟨HLL.out _ (T'.mono (fun j s=>by omega)),below_turn HB3.out T' (fun j s=>by omega) (by omega)⟩)
 have hmn0:(mn:Int)≠0:=by omega
 have hmn1:(0:Int)<(mn:Int):=by omega
 by_cases hc:K % 32=29
 ·have CW:=hide (fun (X:World)=>l6Wide_any (K / 32) (by omega) X)
  clear HFI
  go_wp2_with (rw [← HW4.out])
  refine (CW.out _).mono ?_
  rintro e w5 ⟨gw,mw,rfl,HMw,b5⟩
  obtain ⟨w6,hw6⟩:∃ w6,w6=w5.alloc (.cells #[.int .i64 0,.int .i64 1,.int .i64 512,.int .i64 3] 25):=⟨_,rfl⟩
  have b6:Below w5.heap.size w5 w6:=by rw [hw6];exact al_below _ _
  have k6:Blk w6 w5.heap.size #[.int .i64 0,.int .i64 1,.int .i64 512,.int .i64 3] 25:=by rw [hw6];exact Blk.new _ _ _
  have M6:=HMw w6 (turn_below b6)
  have CS:=hide (sLink_any (some ⟨gw,0,none⟩) 2 2 mw 0 1 512 3 w6 M6)
  have HLB:=hide (layB_lk (pmS mw) 0 1 512 3)
  have HLV:=hide (lkL_v (pmS mw) 0 1 512 3)
  unfold LkM at CS
  generalize lkL (pmS mw) 0 1 512 3=L' at *
  generalize lkc (pmS mw) 0 1 512 3=cd at *
  obtain ⟨⟨c0',c1',c2',c3'⟩,_⟩:=k6.cfr
  have HM5:=hide (And.intro HMw (And.intro b5 b6))
  have HW6:=hide hw6
  clear p0 p1 p2 p3 p4 p5 f0 f1 f2 f3 f4 f5 r0 r1 r2 r3 r4 r5 e0 e1 e2 e3 e4 e5 s0 s1 s2 g0 g1 g2 hw6 b6 b5 k6 HMw M6
  go_wp2_with (rw [← HW6.out])
  refine CS.out.mono ?_
  rintro e w7 ⟨b7,x0,y0,zs',x2,y2,x5,y5,us,rfl,O7⟩
  obtain ⟨HMw,b5,b6⟩:=HM5.out
  have b47:Below w4.heap.size w4 w7:=(b5.trans (b6.mono b5.size)).trans (b7.mono (Nat.le_trans b5.size b6.size))
  have K7:=HK4.out.2.1.below b47
  have R7:=HK4.out.2.2.1.below b47
  have P7:=HK4.out.2.2.2.below b47
  have s7:=b47.size
  have s5:=b5.size
  have s6:=b6.size
  unfold layV
  have T8:=turn_st6 w7 w3.heap.size (.slice x0 zs'.length y0) (.int .i64 L'.stack) (.slice x2 L'.slots.length y2) (.int .i64 L'.flash) (.int .i64 L'.ram) (.slice x5 us.length y5)
  have K8:=blk_s6 K7 (.slice x0 zs'.length y0) (.int .i64 L'.stack) (.slice x2 L'.slots.length y2) (.int .i64 L'.flash) (.int .i64 L'.ram) (.slice x5 us.length y5)
  have R8:=turn_blk T8 R7 (by omega)
  have P8:=turn_blk T8 P7 (by omega)
  obtain ⟨X8,hX8⟩:∃ X8,X8=st6 w7 w3.heap.size (.slice x0 zs'.length y0) (.int .i64 L'.stack) (.slice x2 L'.slots.length y2) (.int .i64 L'.flash) (.int .i64 L'.ram) (.slice x5 us.length y5):=⟨_,rfl⟩
  rw [← hX8] at T8 K8 R8 P8
  unfold st6 at hX8
  have HX8:=hide hX8
  have HE:=hide (And.intro R8 P8)
  have HK8:=hide K8
  have HFN:=hide (show ∀ v0 v1 v2 v3 v4 v5 u0 u1 u2,(MSD (st3 (st6 X8 w.heap.size v0 v1 v2 v3 v4 v5) (w.heap.size+1) u0 u1 u2).drew (some ⟨gw,0,none⟩) 2 2 mw∧LyT (st3 (st6 X8 w.heap.size v0 v1 v2 v3 v4 v5) (w.heap.size+1) u0 u1 u2).drew L' x0 y0 zs' x2 y2 x5 y5 us)∧Below w.heap.size w (st3 (st6 X8 w.heap.size v0 v1 v2 v3 v4 v5) (w.heap.size+1) u0 u1 u2).drew from fun v0 v1 v2 v3 v4 v5 u0 u1 u2=>by
   have T9:Turn (fun j=>j<w4.heap.size) w7 (st3 (st6 X8 w.heap.size v0 v1 v2 v3 v4 v5) (w.heap.size+1) u0 u1 u2).drew:=(T8.mono (fun j s=>by omega)).trans ((turn_dp X8 w.heap.size (w.heap.size+1) v0 v1 v2 v3 v4 v5 u0 u1 u2).mono (fun j s=>by omega))
   have T3:Turn (fun j=>(j=w.heap.size∨j=w.heap.size+1)∨w3.heap.size≤j) w3 (st3 (st6 X8 w.heap.size v0 v1 v2 v3 v4 v5) (w.heap.size+1) u0 u1 u2).drew:=(((turn_below HK4.out.1).trans (turn_below b47)).trans (T8.mono (fun j s=>.inr (by omega)))).trans ((turn_dp X8 w.heap.size (w.heap.size+1) v0 v1 v2 v3 v4 v5 u0 u1 u2).mono (fun j s=>.inl s))
   exact ⟨⟨HMw _ (((turn_below b6).trans (turn_below b7)).trans T9),(O7.kept T9 (fun j h1 h2 s=>by omega)).lyt HLB.out.r HLV.out⟩,below_turn HB3.out (turn_lt T3) (fun j s=>by omega) (by omega)⟩)
  obtain ⟨⟨p0,p1,p2,p3,p4,p5⟩,f0,f1,f2,f3,f4,f5⟩:=K7.fr6
  clear c0' c1' c2' c3' HMw b5 b6 b7 b47 K7 R7 P7 T8 K8 R8 P8 hX8 O7 CS HM5 CW
  go_wp2_with fail
  rw [← HX8.out]
  clear p0 p1 p2 p3 p4 p5 f0 f1 f2 f3 f4 f5
  obtain ⟨⟨p0,p1,p2,p3,p4,p5⟩,_⟩:=HK8.out.fr6
  obtain ⟨⟨r0,r1,r2,r3,r4,r5⟩,e0,e1,e2,e3,e4,e5⟩:=HE.out.1.fr6
  obtain ⟨⟨s0,s1,s2⟩,g0,g1,g2⟩:=HE.out.2.fr3
  go_region
  all_goals
   go_wp2
   refine dp_end HE.out.1 HE.out.2 (by omega) _ _ _ _ _ _ _ _ _ _ _ rfl rfl rfl rfl ?_
   have hf:=HFN.out
   exact ⟨_,_,_,_,L',_,_,_,_,_,_,_,_,_,_,_,_,rfl,(hf _ _ _ _ _ _ _ _ _).1.1,(hf _ _ _ _ _ _ _ _ _).1.2,(hf _ _ _ _ _ _ _ _ _).2⟩
 ·generalize hns:L.slots.length=ns at *
  have HNS:=hide hns
  obtain ⟨w5,hw5⟩:∃ w5,w5=w4.alloc (.cells #[.int .i64 (K % mn),.int .i64 (K / 8 % 4 - 1),.int .i64 K] 72):=⟨_,rfl⟩
  have b5:Below w4.heap.size w4 w5:=by rw [hw5];exact al_below _ _
  have t5:Blk w5 (w3.heap.size+1) #[.int .i64 (K % mn),.int .i64 (K / 8 % 4 - 1),.int .i64 K] 72:=by rw [hw5,← hs4];exact Blk.new _ _ _
  have HK5:=hide (And.intro (HK4.out.2.1.below b5) (And.intro (HK4.out.2.2.1.below b5) (And.intro (HK4.out.2.2.2.below b5) t5)))
  have T6:=turn_set w5 (w3.heap.size+1) 0 (.int .i64 (K / 32 % 5 - 1))
  have t6:=t5.set 0 (.int .i64 (K / 32 % 5 - 1))
  obtain ⟨w6,hw6⟩:∃ w6,w6=w5.setCell ⟨w3.heap.size+1,0,none⟩ (.int .i64 (K / 32 % 5 - 1)):=⟨_,rfl⟩
  rw [← hw6] at T6 t6
  have HK6:=hide (show _∧_∧_∧Blk w6 (w3.heap.size+1) #[.int .i64 (K / 32 % 5 - 1),.int .i64 (K / 8 % 4 - 1),.int .i64 K] 72 from And.intro (turn_blk T6 HK5.out.1 (by omega)) (And.intro (turn_blk T6 HK5.out.2.1 (by omega)) (And.intro (turn_blk T6 HK5.out.2.2.1 (by omega)) (by simpa using t6))))
  have HT5:=hide (show Turn (fun j=>w3.heap.size≤j) w4 w5 from turn_below b5)
  have HT6:=hide (show Turn (fun j=>w3.heap.size≤j) w4 w6 from HT5.out.trans (T6.mono (fun j s=>by omega)))
  have HW5:=hide hw5
  have HW6:=hide hw6
  have c5:∃ v,w5.cell? ⟨w3.heap.size+1,0,none⟩=some v:=⟨_,t5.cell 0⟩
  obtain ⟨⟨t50,t51,t52⟩,h50,_⟩:=t5.fr3
  obtain ⟨⟨q0,q1,q2,q3,q4,q5⟩,_⟩:=HK5.out.1.fr6
  clear hns hw5 hw6 b5 t5 T6 t6 c5
  go_wp2_with (first | rw [← HW4.out] | rw [← HW5.out])
  all_goals
   first
    | (rw [← HW6.out]
       clear q0 q1 q2 q3 q4 q5 t50 t51 t52 h50 p0 p1 p2 p3 p4 p5 f0 f1 f2 f3 f4 f5 r0 r1 r2 r3 r4 r5 e0 e1 e2 e3 e4 e5 s0 s1 s2 g0 g1 g2
       obtain ⟨⟨p0,p1,p2,p3,p4,p5⟩,_⟩:=HK6.out.1.fr6
       obtain ⟨⟨r0,r1,r2,r3,r4,r5⟩,e0,e1,e2,e3,e4,e5⟩:=HK6.out.2.1.fr6
       obtain ⟨⟨s0,s1,s2⟩,g0,g1,g2⟩:=HK6.out.2.2.1.fr3
       obtain ⟨⟨t50,t51,t52⟩,_⟩:=HK6.out.2.2.2.fr3
       go_region
       all_goals
        go_wp2
        refine dp_end HK6.out.2.1 HK6.out.2.2.1 (by omega) _ _ _ _ _ _ _ _ _ _ _ rfl rfl rfl rfl ?_
        have hn5:=HNS.out
        subst hn5
        have hf:=HFI.out w6 HT6.out
        exact ⟨_,_,_,_,L,_,_,_,_,_,_,_,_,_,_,_,_,rfl,(hf _ _ _ _ _ _ _ _ _).1.1,(hf _ _ _ _ _ _ _ _ _).1.2,(hf _ _ _ _ _ _ _ _ _).2⟩)
    | (skip
       clear q0 q1 q2 q3 q4 q5 t50 t51 t52 h50 p0 p1 p2 p3 p4 p5 f0 f1 f2 f3 f4 f5 r0 r1 r2 r3 r4 r5 e0 e1 e2 e3 e4 e5 s0 s1 s2 g0 g1 g2
       obtain ⟨⟨p0,p1,p2,p3,p4,p5⟩,_⟩:=HK5.out.1.fr6
       obtain ⟨⟨r0,r1,r2,r3,r4,r5⟩,e0,e1,e2,e3,e4,e5⟩:=HK5.out.2.1.fr6
       obtain ⟨⟨s0,s1,s2⟩,g0,g1,g2⟩:=HK5.out.2.2.1.fr3
       obtain ⟨⟨t50,t51,t52⟩,_⟩:=HK5.out.2.2.2.fr3
       go_region
       all_goals
        go_wp2
        refine dp_end HK5.out.2.1 HK5.out.2.2.1 (by omega) _ _ _ _ _ _ _ _ _ _ _ rfl rfl rfl rfl ?_
        have hn5:=HNS.out
        subst hn5
        have hf:=HFI.out w5 HT5.out
        exact ⟨_,_,_,_,L,_,_,_,_,_,_,_,_,_,_,_,_,rfl,(hf _ _ _ _ _ _ _ _ _).1.1,(hf _ _ _ _ _ _ _ _ _).1.2,(hf _ _ _ _ _ _ _ _ _).2⟩)
end Go.Proofs.YtngdgogjlpjjpadGreat
