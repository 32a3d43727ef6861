import Derived.Test.YtngdgogjlpjjpadGreatP19
import Derived.Test.YtngdgogjlpjjpadGreatP21
import Derived.Test.YtngdgogjlpjjpadGreatP28
import Derived.Test.YtngdgogjlpjjpadGreatP42
namespace Go.Proofs.YtngdgogjlpjjpadGreat
open Go.RowKit Classical
set_option linter.unusedVariables false
set_option linter.unusedSimpArgs false
set_option maxRecDepth 100000
theorem MO.md2 {W:World} {base:Nat} {P:PMod} {M:Ma} (h:MO W base P M) (R:DoR P):
 MD W P.nm M.a1 P.tz.length M.c1 P.tz M.a2 M.bl.length M.c2 M.bl M.a3 P.dz.length M.c3 P.dz P.bss M.a5 P.rz.length M.c5 P.rz M.a6 P.ss.length M.c6 P.ss M.a7 P.es.length M.c7 P.es where
 n:=by have:=R.n;omega
 t:=og_is h.t (fun z hz=>by have:=R.t.2 z hz;unfold wfi;omega)
 b:=obk_bks h.b (fun B hB z hz=>by
  have hm:B.2.2.2 ∈ P.bl:=by rw [← h.bls];exact List.mem_map.2 ⟨B,hB,rfl⟩
  have:=(R.b.2 _ hm).2 z hz
  unfold wfi
  omega)
 d:=h.d.bs
 s:=by have:=R.s;unfold wfi;omega
 r:=og_is h.r (fun z hz=>by have:=R.r.2 z hz;unfold wfi;omega)
 i:=og_ss h.i (fun s hs=>by have:=R.i.2 s hs;omega)
 e:=og_es h.e (fun s hs=>by have:=(R.e.2 s hs).1;omega)
theorem mt_of_md2 {nm:ByteArray} {ta:Option Addr} {tn tc:Nat} {tz:List Int} {ba:Option Addr} {bn bc:Nat} {bl:List Bk} {da:Option Addr} {dn dc:Nat} {dz:List Int} {bss:Int} {ra:Option Addr} {rn rc:Nat} {rz:List Int} {ia:Option Addr} {im ic:Nat} {ss:List ByteArray} {ea:Option Addr} {en ec:Nat} {es:List Ex} {w:World} (h:MD w nm ta tn tc tz ba bn bc bl da dn dc dz bss ra rn rc rz ia im ic ss ea en ec es):MT w nm ta tn tc tz ba bn bc bl da dn dc dz bss ra rn rc rz ia im ic ss ea en ec es where
 n:=by have:=h.n;unfold maxLen;omega
 t:=h.t
 b:=h.b
 d:=h.d
 s:=h.s
 r:=h.r
 i:=by
  obtain ⟨h1,h2,h3,h4,h5⟩:=h.i
  refine ⟨h1,h2,fun i=>?_,h4,h5⟩
  by_cases hi:i<ss.length
  ·have:=h3 (ss.getD i zS) (by simp [List.getD_eq_getElem?_getD,hi])
   unfold maxLen;omega
  ·rw [List.getD_eq_getElem?_getD,List.getElem?_eq_none (by omega)]
   decide
 e:=by
  obtain ⟨h1,h2,h3,h4,h5⟩:=h.e
  refine ⟨h1,h2,fun i=>?_,h4,h5⟩
  by_cases hi:i<es.length
  ·have:=h3 (es.getD i zE) (by simp [List.getD_eq_getElem?_getD,hi])
   unfold maxLen;omega
  ·rw [List.getD_eq_getElem?_getD,List.getElem?_eq_none (by omega)]
   decide
def mdOf (x:PMod × Ma):Md:=⟨x.1.nm,x.2.a1,x.1.tz.length,x.2.c1,x.1.tz,x.2.a2,x.2.bl.length,x.2.c2,x.2.bl,x.2.a3,x.1.dz.length,x.2.c3,x.1.dz,x.1.bss,x.2.a5,x.1.rz.length,x.2.c5,x.1.rz,x.2.a6,x.1.ss.length,x.2.c6,x.1.ss,x.2.a7,x.1.es.length,x.2.c7,x.1.es⟩
theorem dk_msd {W:World} {base:Nat} {v:Value} {L:List (PMod × Ma)} (o:OG 49 8 clM W base v L) (m:∀ (i:Nat) (x:PMod × Ma),L[i]?=some x→MO W base x.1 x.2∧DoR x.1) (hl:L.length≤5):∃ a cap,v=.slice a L.length cap∧MSD W a L.length cap (L.map mdOf):=by
 obtain ⟨a,cap,rfl⟩:=og_shape o
 refine ⟨a,cap,rfl,?_⟩
 have hg:∀ i,i<L.length→∃ x,L[i]?=some x∧(L.map mdOf).getD i zMd=mdOf x:=fun i hi=>⟨L[i],List.getElem?_eq_getElem hi,by simp [List.getD_eq_getElem?_getD,hi]⟩
 have hd:∀ i,i<L.length→((L.map mdOf).getD i zMd).md W:=fun i hi=>by
  obtain ⟨x,hx,e⟩:=hg i hi
  rw [e]
  exact (m i x hx).1.md2 (m i x hx).2
 refine ⟨⟨by simp,by unfold maxLen;omega,fun hn=>?_,fun i hi=>mt_of_md2 (hd i hi),?_⟩,hd⟩
 ·obtain ⟨g,cp,e,_⟩:=World.ownsRow.form o (by omega)
  simp only [Value.slice.injEq] at e
  obtain ⟨rfl,-,rfl⟩:=e
  refine ⟨g,0,rfl,fun i hi=>?_⟩
  obtain ⟨x,hx,e⟩:=hg i hi
  rw [e,Nat.zero_add]
  exact ⟨og_cell8 o hx 0 (by omega) _ rfl,og_cell8 o hx 1 (by omega) _ rfl,og_cell8 o hx 2 (by omega) _ rfl,og_cell8 o hx 3 (by omega) _ rfl,og_cell8 o hx 4 (by omega) _ rfl,og_cell8 o hx 5 (by omega) _ rfl,og_cell8 o hx 6 (by omega) _ rfl,og_cell8 o hx 7 (by omega) _ rfl⟩
 ·obtain ⟨_,h0 | ⟨g,cp,cur,hv,_,_,h1,_⟩⟩:=o
  ·simp at h0
   rw [h0.1.2.1]
   exact Nat.zero_le _
  ·simp only [Value.slice.injEq] at hv
   omega
theorem og_far {α β:Type} {t t':TypeId} {sz sz':Nat} {f:α→List Value} {f':β→List Value} {w:World} {base base':Nat} {v v':Value} {xs:List α} {ys:List β} (h:OG t sz f w base v xs) (h':OG t' sz' f' w base' v' ys) (hne:t≠t'):∀ k,v.ownBlock=some k→v'.ownBlock≠some k:=fun k hk e=>by
 obtain ⟨c1,k1⟩:=own_kind h hk
 obtain ⟨c2,k2⟩:=own_kind h' e
 exact hne (blk_kind k1 k2)
theorem LayO.data {W:World} {base:Nat} {L:Lay} {g:Nat} {c0:Nat} {x:PB} {xs:List PB} {a2:Option Addr} {c2:Nat} {a5:Option Addr} {c5:Nat} {ts:List TB} (h:LayO W base L (some ⟨g,0,none⟩) c0 (x :: xs) a2 c2 a5 c5 ts) (d:Int):LayO (W.setCell ⟨g,2,none⟩ (.int .i64 d)) base { L with places:={ x.1 with data:=d } :: xs.map (fun x=>x.1) } (some ⟨g,0,none⟩) c0 (({ x.1 with data:=d },x.2) :: xs) a2 c2 a5 c5 ts:=by
 have T:=turn_set W g 2 (.int .i64 d)
 have hg:(Value.slice (some ⟨g,0,none⟩) (xs.length+1) c0).ownBlock=some g:=rfl
 have far:∀ {α:Type} {t:TypeId} {sz:Nat} {f:α→List Value} {b:Nat} {v:Value} {ys:List α},43≠t→OG t sz f W b v ys→OG t sz f (W.setCell ⟨g,2,none⟩ (.int .i64 d)) b v ys:=fun hne ho=>ho.kept T (fun k hk e=>by
  subst e
  exact og_far h.p.head ho hne k rfl hk)
 refine ⟨⟨?_,?_,?_⟩,rfl,far (by decide) h.s,⟨far (by decide) h.t.head,fun y hy=>far (by decide) (h.t.rows y hy),h.t.apart⟩,h.tt,?_⟩
 ·have o:=owns_set (W:=W) h.p.head 2 (.int .i64 d)
  unfold OG
  simpa [clP,svP] using o
 ·intro y hy
  rcases List.mem_cons.1 hy with rfl | hy
  ·exact far (by decide) (h.p.rows x (List.mem_cons_self ..))
  ·exact far (by decide) (h.p.rows y (List.mem_cons_of_mem _ hy))
 ·have:=h.p.apart
  rw [List.pairwise_cons] at this ⊢
  exact ⟨fun B hB k hk=>this.1 B hB k hk,this.2⟩
 ·intro k hk y hy
  rcases List.mem_cons.1 hy with rfl | hy
  ·exact h.sp k hk x (List.mem_cons_self ..)
  ·exact h.sp k hk y (List.mem_cons_of_mem _ hy)
structure LayP (W:World) (base:Nat) (L:Lay) (a0:Option Addr) (c0:Nat) (xs:List PB) (a2:Option Addr) (c2:Nat) (a5:Option Addr) (c5:Nat) (ts:List TB):Prop where
 p:OPl W base base (.slice a0 xs.length c0) xs
 ps:xs.map (fun x=>x.1)=L.places
 s:OG 3 1 clI W base (.slice a2 L.slots.length c2) L.slots
 t:OTg W base base (.slice a5 ts.length c5) ts
 tt:ts.map (fun x=>x.1)=L.targets
theorem LayO.pp {W:World} {base:Nat} {L:Lay} {a0:Option Addr} {c0:Nat} {xs:List PB} {a2:Option Addr} {c2:Nat} {a5:Option Addr} {c5:Nat} {ts:List TB} (h:LayO W base L a0 c0 xs a2 c2 a5 c5 ts):LayP W base L a0 c0 xs a2 c2 a5 c5 ts:=⟨h.p,h.ps,h.s,h.t,h.tt⟩
theorem LayP.kept {W W':World} {S:Nat→Prop} {base:Nat} {L:Lay} {a0:Option Addr} {c0:Nat} {xs:List PB} {a2:Option Addr} {c2:Nat} {a5:Option Addr} {c5:Nat} {ts:List TB} (h:LayP W base L a0 c0 xs a2 c2 a5 c5 ts) (t:Turn S W W') (hs:∀ j,S j→j<base∨∃ cs,Blk W j cs 32):LayP W' base L a0 c0 xs a2 c2 a5 c5 ts:=by
 have far:∀ {α:Type} {t':TypeId} {sz:Nat} {f:α→List Value} {v:Value} {ys:List α},t'≠32→OG t' sz f W base v ys→OG t' sz f W' base v ys:=fun hne ho=>ho.kept t (fun k hk s=>by
  rcases hs k s with h | ⟨cs,h⟩
  ·have:=(ho.lt k hk).1;omega
  ·obtain ⟨c1,k1⟩:=own_kind ho hk
   exact hne (blk_kind k1 h))
 exact ⟨⟨far (by decide) h.p.head,fun y hy=>far (by decide) (h.p.rows y hy),h.p.apart⟩,h.ps,far (by decide) h.s,⟨far (by decide) h.t.head,fun y hy=>far (by decide) (h.t.rows y hy),h.t.apart⟩,h.tt⟩
theorem LayP.num {W:World} {base:Nat} {L:Lay} {a0:Option Addr} {c0:Nat} {xs:List PB} {a2:Option Addr} {c2:Nat} {a5:Option Addr} {c5:Nat} {ts:List TB} (h:LayP W base L a0 c0 xs a2 c2 a5 c5 ts) (s r:Int):LayP W base { L with stack:=s,ram:=r } a0 c0 xs a2 c2 a5 c5 ts:=⟨h.p,h.ps,h.s,h.t,h.tt⟩
theorem LayR.num {L:Lay} (h:LayR L) (s r:Int):LayR { L with stack:=s,ram:=r }:=⟨h.p,h.s,h.n⟩
theorem LayO.slot {W W':World} {base:Nat} {L:Lay} {a0:Option Addr} {c0:Nat} {xs:List PB} {a2:Option Addr} {c2:Nat} {a5:Option Addr} {c5:Nat} {ts:List TB} (h:LayO W base L a0 c0 xs a2 c2 a5 c5 ts) {z r:Int} {a2':Option Addr} {c2':Nat} (hg:W.grownBy W' (Value.slice a2 L.slots.length c2).ownBlock) (ho:OG 3 1 clI W' base (.slice a2' (L.slots++[z]).length c2') (L.slots++[z])):LayP W' base { L with slots:=L.slots++[z],ram:=r } a0 c0 xs a2' c2' a5 c5 ts:=by
 have far:∀ {α:Type} {t:TypeId} {sz:Nat} {f:α→List Value} {b:Nat} {v:Value} {ys:List α},3≠t→OG t sz f W b v ys→OG t sz f W' b v ys:=fun hne ho=>ho.kept' hg (fun k hk e=>og_far h.s ho hne k e hk)
 exact ⟨⟨far (by decide) h.p.head,fun y hy=>(h.p.rows y hy).kept' hg (fun k hk e=>h.sp k e y hy hk),h.p.apart⟩,h.ps,ho,⟨far (by decide) h.t.head,fun y hy=>far (by decide) (h.t.rows y hy),h.t.apart⟩,h.tt⟩
theorem LayR.slot {L:Lay} (R:LayR L) {z r:Int} (hz:wfi z):LayR { L with slots:=L.slots++[z],ram:=r }:=⟨R.p,fun y hy=>by rcases List.mem_append.1 hy with hy | hy;exact R.s y hy;rw [List.mem_singleton] at hy;subst hy;exact hz,R.n⟩
theorem LayR.data {L:Lay} (R:LayR L) {x:Pl} {ps:List Pl} (e:L.places=x :: ps) (d:Int):LayR { L with places:={ x with data:=d } :: ps }:=by
 have h1:=R.p
 have h2:=R.n
 rw [e] at h1 h2
 refine ⟨fun y hy=>?_,R.s,h2⟩
 rcases List.mem_cons.1 hy with rfl | hy
 ·exact h1 x (List.mem_cons_self ..)
 ·exact h1 y (List.mem_cons_of_mem _ hy)
theorem MO.keptw {S:Nat→Prop} {W W':World} {base:Nat} {P:PMod} {M:Ma} (h:MO W base P M) (ht:Turn S W W') (hS:∀ k,S k→k<base∨W.heap.size≤k):MO W' base P M:=by
 have row:∀ {t:TypeId} {sz n:Nat} {v:Value} {xs:List Value},W.ownsRow base t sz v n xs→W'.ownsRow base t sz v n xs:=fun {t} {sz} {n} {v} {xs} ho=>by
  have hk:∀ k,v.ownBlock=some k→¬ S k:=fun k hk s=>by
   have:=World.ownsRow.lt ho k hk
   rcases hS k s with hs | hs <;> omega
  obtain ⟨hl,h0 | ⟨g,cap,cur,hv,hg,hh,h1,h2,h3,h4⟩⟩:=ho
  ·exact ⟨hl,.inl h0⟩
  ·exact ⟨hl,.inr ⟨g,cap,cur,hv,hg,turn_blk (w:=W) ht hh (hk g (by rw [hv];rfl)),h1,h2,h3,h4⟩⟩
 exact ⟨row h.t,⟨row h.b.head,fun B hB=>⟨(h.b.rows B hB).1,row (h.b.rows B hB).2⟩,h.b.apart⟩,h.bls,⟨row h.d.1,h.d.2⟩,row h.r,row h.i,row h.e,h.tb,h.tr,h.br⟩
theorem blk_s6 {W:World} {k:Nat} {t:TypeId} {z0 z1 z2 z3 z4 z5:Value} (h:Blk W k #[z0,z1,z2,z3,z4,z5] t) (v0 v1 v2 v3 v4 v5:Value):Blk (st6 W k v0 v1 v2 v3 v4 v5) k #[v0,v1,v2,v3,v4,v5] t:=by
 have k:=(((((h.set 0 v0).set 1 v1).set 2 v2).set 3 v3).set 4 v4).set 5 v5
 have e:(((((#[z0,z1,z2,z3,z4,z5].setIfInBounds 0 v0).setIfInBounds 1 v1).setIfInBounds 2 v2).setIfInBounds 3 v3).setIfInBounds 4 v4).setIfInBounds 5 v5=#[v0,v1,v2,v3,v4,v5]:=by simp
 rw [e] at k
 exact k
theorem Blk.fr6 {W:World} {g:Nat} {v0 v1 v2 v3 v4 v5:Value} {t:TypeId} (h:Blk W g #[v0,v1,v2,v3,v4,v5] t):(W.cell? ⟨g,0,none⟩=some v0∧W.cell? ⟨g,1,none⟩=some v1∧W.cell? ⟨g,2,none⟩=some v2∧W.cell? ⟨g,3,none⟩=some v3∧W.cell? ⟨g,4,none⟩=some v4∧W.cell? ⟨g,5,none⟩=some v5)∧W.frozen? ⟨g,0,none⟩=false∧W.frozen? ⟨g,1,none⟩=false∧W.frozen? ⟨g,2,none⟩=false∧W.frozen? ⟨g,3,none⟩=false∧W.frozen? ⟨g,4,none⟩=false∧W.frozen? ⟨g,5,none⟩=false:=
 ⟨⟨h.cell 0,h.cell 1,h.cell 2,h.cell 3,h.cell 4,h.cell 5⟩,h.frozen 0,h.frozen 1,h.frozen 2,h.frozen 3,h.frozen 4,h.frozen 5⟩
theorem lo_end {W:World} {q:Nat} {z0 z1 z2 z3 z4 z5:Value} {va:Option Addr} {vn vc:Nat} (k1:Blk W q #[z0,z1,z2,z3,z4,z5] 32) (v0 v1 v2 v3 v4 v5:Value) (Q:Ending→World→Prop) (tmps:Array Value) (h2:tmps[2]?=some (.slice va vn vc)) (h4:tmps[3]?=some (.pointer (some ⟨q,0,none⟩))) (hQ:Q (.returned (.tuple #[.slice va vn vc,.agg #[v0,v1,v2,v3,v4,v5]])) (st6 W q v0 v1 v2 v3 v4 v5).drew):
 bodyPost Tryz.prog Tryz.f107 Q Exit.ret ⟨tmps,[]⟩ (st6 W q v0 v1 v2 v3 v4 v5).drew:=by
 obtain ⟨⟨t0,t1,t2,t3,t4,t5⟩,_⟩:=((blk_s6 k1 v0 v1 v2 v3 v4 v5).below (Below.refl _ _).drew).fr6
 refine bodyPost_ret_by (v:=.tuple #[.slice va vn vc,.agg #[v0,v1,v2,v3,v4,v5]]) ?_ rfl hQ
 simp [results,Tryz.results107,go_sem,h2,h4,t0,t1,t2,t3,t4,t5]
def LoP (w:World) (r:Nat) (a:Option Addr) (n c:Nat) (zs:List Int) (e:Ending) (w':World):Prop:=∃ (ma:Option Addr) (mn mc:Nat) (ms:List Md) (L:Lay) (a0:Option Addr) (c0:Nat) (xs:List PB) (a2:Option Addr) (c2:Nat) (a5:Option Addr) (c5:Nat) (ts:List TB) (k':Nat),e=.returned (.tuple #[.slice ma mn mc,.agg #[.slice a0 xs.length c0,.int .i64 L.stack,.slice a2 L.slots.length c2,.int .i64 L.flash,.int .i64 L.ram,.slice a5 ts.length c5]])∧(1≤mn∧mn≤5)∧(∀ X,Turn (fun j=>j<w.heap.size) w' X→MSD X ma mn mc ms∧LyT X L a0 c0 xs a2 c2 a5 c5 ts)∧Dst w w' r a n c zs k'
theorem lo_fin {w w0 w3 X:World} {r:Nat} {a:Option Addr} {n c:Nat} {zs:List Int} {k:Nat} {va:Option Addr} {vn vc:Nat} {Lm:List (PMod × Ma)} {base:Nat} {L:Lay} {a0:Option Addr} {c0:Nat} {xs:List PB} {a2:Option Addr} {c2:Nat} {a5:Option Addr} {c5:Nat} {ts:List TB} {q:Nat} (h:Dst w w0 r a n c zs k) {k':Nat} (Q:Mq w0 w3 r a n c zs k' (.slice va vn vc) Lm) (hm:1≤Lm.length) (hq:w.heap.size≤q) (hq':q<w0.heap.size) (T:Turn (fun j=>j=q∨w3.heap.size≤j) w3 X) (hb:w.heap.size≤base) (P:LayP X base L a0 c0 xs a2 c2 a5 c5 ts) (R:LayR L) (hv:wfi L.stack∧wfi L.flash∧wfi L.ram):LoP w r a n c zs (.returned (.tuple #[.slice va vn vc,.agg #[.slice a0 xs.length c0,.int .i64 L.stack,.slice a2 L.slots.length c2,.int .i64 L.flash,.int .i64 L.ram,.slice a5 ts.length c5]])) X:=by
 have sh:∃ ma mc,Value.slice va vn vc=.slice ma Lm.length mc:=(og_shape Q.o).elim fun a h=>h.elim fun c e=>⟨a,c,e⟩
 obtain ⟨ma,mc,e⟩:=sh
 simp only [Value.slice.injEq] at e
 obtain ⟨rfl,rfl,rfl⟩:=e
 have h1:=h.sz
 have h2:=Q.d.sz
 refine ⟨_,_,_,Lm.map mdOf,L,_,_,_,_,_,_,_,_,_,rfl,⟨hm,Q.hl⟩,fun Y TY=>?_,(h.trans Q.d).grow (T.mono (fun j s=>by rcases s with s | s <;> omega))⟩
 have T':Turn (fun j=>(j=q∨w3.heap.size≤j)∨j<w.heap.size) w3 Y:=(T.mono (fun j s=>.inl s)).trans (TY.mono (fun j s=>.inr s))
 have o:OG 49 8 clM Y w0.heap.size (.slice va Lm.length vc) Lm:=Q.o.kept T' (fun j hj s=>by
  have:=Q.o.lt j hj
  rcases s with (s | s) | s <;> omega)
 obtain ⟨ma,mc,e,M⟩:=dk_msd o (fun i x hx=>⟨(Q.m i x hx).1.keptw T' (fun j s=>by rcases s with (s | s) | s <;> omega),(Q.m i x hx).2⟩) Q.hl
 simp only [Value.slice.injEq] at e
 obtain ⟨rfl,-,rfl⟩:=e
 have P':=P.kept TY (fun j s=>.inl (by omega))
 exact ⟨M,lyt_of P'.p P'.ps P'.s P'.t P'.tt R hv⟩
end Go.Proofs.YtngdgogjlpjjpadGreat
