import Derived.Test.YtncccmeomcaabaaGreatP35
set_option linter.all false
namespace Go.Proofs.YtncccmeomcaabaaGreat
open Go.RowKit Classical
open Go.Proofs.Tryz
set_option maxRecDepth 100000
variable {M:Mn}{b m t:Int}
def oS (M:Mn)(m b t:Int):Bool:=@decide (MOk M/\M.tn<1000000000/\tgk (aD M.ms) m b t) (@instDecidableAnd _ _ (aQp M) _)
theorem entB_iff:oS M m b t=true ↔ (MOk M/\M.tn<1000000000/\tgk (aD M.ms) m b t):=by unfold oS;simp only [decide_eq_true_eq]
def lM (M:Mn)(m b t:Int):Cn:=if oS M m b t=true then iL M.cn M.L m b t else M.cn
def EnQ (w:qw)(M:Mn)(m b t:Int)(e:Ending)(w':qw):Prop:=qY w w'/\∃ N base mid L β,e=.returned (.tuple #[mnV N,.bool (oS M m b t)])/\MxO w' base mid (lM M m b t) N L β/\w.heap.size<=base
theorem aDi (h:MOk M/\M.tn<1000000000/\tgk (aD M.ms) m b t):oS M m b t=true:=entB_iff.2 h
theorem rK (h:¬ (MOk M/\M.tn<1000000000/\tgk (aD M.ms) m b t)):oS M m b t=false:=by
 cases e:oS M m b t
 .rfl
 .exact absurd (entB_iff.1 e) h
theorem aA4 {W:qw}{q:Nat}(k1:Blk W q z15 43)(v0 v1 v2 v3 v4 v5 v6 v7 v8 v9 v10 v11 v12 v13 v14:Value)(r:Bool)(Q:Ending->World->Prop)(tmps:Array Value)(h4:tmps[4]?=some (.pointer (qP q)))(h5:tmps[5]?=some (.bool r))(hQ:Q (.returned (.tuple #[.agg #[v0,v1,v2,v3,v4,v5,v6,v7,v8,v9,v10,v11,v12,v13,v14],.bool r])) (dP W q v0 v1 v2 v3 v4 v5 v6 v7 v8 v9 v10 v11 v12 v13 v14)):
 bodyPost prog f21 Q Exit.ret ⟨tmps,[]⟩ (dP W q v0 v1 v2 v3 v4 v5 v6 v7 v8 v9 v10 v11 v12 v13 v14):=by
 obtain ⟨t0,t1,t2,t3,t4,t5,t6,t7,t8,t9,t10,t11,t12,t13,t14⟩:=(gI k1 v0 v1 v2 v3 v4 v5 v6 v7 v8 v9 v10 v11 v12 v13 v14).mc;refine bodyPost_ret_by (v:=.tuple #[.agg #[v0,v1,v2,v3,v4,v5,v6,v7,v8,v9,v10,v11,v12,v13,v14],.bool r]) ?_ rfl hQ;simp [results,results21,go_sem,h4,h5,t0,t1,t2,t3,t4,t5,t6,t7,t8,t9,t10,t11,t12,t13,t14]
set_option maxHeartbeats 16000000 in
theorem aE7 (M:Mn)(g b1 o1 b2 o2 b3 o3 b4 o4:Nat)(Ls:List (PMod×Mb))(m b t:Int)(w:qw)(h:MnD w M)(H:MnS w M g b1 o1 b2 o2 b3 o3 b4 o4 Ls):qC 21 #[.agg (qA M),.agg (qT m b t)] w (EnQ w M m b t):=by
 obtain ⟨U,hU⟩:=eqx (((w.alloc (.cells (qA M) 43)).alloc (.cells (qT m b t) 58)).alloc (.cells qZ 43));have bU:qY w U:=by rw [hU];exact (bal.alloc (by simp) _).alloc (by simp;omega) _
 have kM:Blk U w.heap.size (qA M) 43:=by rw [hU];exact ((Blk.new _ _ _).alloc _).alloc _
 have kT:Blk U (w.heap.size+1) (qT m b t) 58:=by rw [hU];have:=(Blk.new (w.alloc (.cells (qA M) 43)) (qT m b t) 58).alloc (.cells qZ 43);simpa using this
 have kR:Blk U (w.heap.size+1+1) z15 43:=by rw [hU];have:=Blk.new ((w.alloc (.cells (qA M) 43)).alloc (.cells (qT m b t) 58)) z15 43;simpa [z15] using this
 have HNM:=zh (sX M g b1 o1 b2 o2 b3 o3 b4 o4 Ls U (h.bw bU) (H.bw bU));have HMS:=zh (fun (X:qw) (hX:qY U X)=>(H.bw bU).bw hX);have HK:=zh (fun (X:qw) (hX:qY U X)=>xA (kM.bw hX) (kR.bw hX));have HKT:=zh (fun (X:qw) (hX:qY U X)=>show X.cell? (qR (w.heap.size+1) 0)=some (qI m)/\X.cell? (qR (w.heap.size+1) 1)=some (qI b)/\X.cell? (qR (w.heap.size+1) 2)=some (qI t) from ⟨(kT.bw hX).cell 0,(kT.bw hX).cell 1,(kT.bw hX).cell 2⟩);have HCV:=zh (fun (ok:MOk M)=>ok.cv h);have HU:=zh hU;have HBU:=zh bU;obtain ⟨x0,x1,x2,x3,x4,x5,x6,x7,x8,x9,x10,x11,x12,x13,x14⟩:=kM.mc;clear hU bU kM kT kR h H;go_enter func21,ntmps21
 go_wp2_with (rw [<- HU.o])
 refine HNM.o.mono ?_;rintro e X0 (⟨ok,rfl,hb0⟩|⟨ok,w1,G,Y,N,a13,n13,c13,vr,rfl,hbw,hMg,hYL⟩)
 .have HB0:=zh hb0;have HEB:=zh (rK (M:=M) (m:=m) (b:=b) (t:=t) (fun q=>ok q.1));clear hb0 ok x0 x1 x2 x3 x4 x5 x6 x7 x8 x9 x10 x11 x12 x13 x14 HNM HU;obtain ⟨m0,m1,m2,m3,m4,m5,m6,m7,m8,m9,m10,m11,m12,m13,m14⟩:=(HK.o X0 HB0.o).1.mc;have HCM:=zh (fO M g b1 o1 b2 o2 b3 o3 b4 o4 Ls X0 (HMS.o X0 HB0.o));go_wp2_with fail
  refine HCM.o.mono ?_;rintro e Xc ⟨hbc,N',base,mid,L,β,rfl,hm,hq1,hq2⟩;unfold mnV;have kr:=(HK.o X0 HB0.o).2.bw hbc;have KR:=kr;unfold z15 at KR;obtain ⟨r0,r1,r2,r3,r4,r5,r6,r7,r8,r9,r10,r11,r12,r13,r14⟩:=KR.mc;have rf:=KR.frozen
  have HF:=zh (show EnQ w M m b t (.returned (.tuple #[.agg (qA N'),.bool false])) (dP Xc (w.heap.size+1+1) (qS N'.ma N'.mn N'.mc) (qI N'.cs) (qI N'.cw) (qI N'.ck) (qI N'.cd) (qI N'.pc) (qS N'.ka N'.kn N'.kc) (qS N'.fa N'.fn N'.fc) (qS N'.ra N'.rn N'.rc) (qS N'.oa N'.on N'.oc) (qI N'.md) (qI N'.bk) (qS N'.la N'.ln N'.lc) (qS N'.ha N'.hn N'.hc) (qI N'.tn)) from by
   refine ⟨aG ((HBU.o.trans (HB0.o.mono HBU.o.size)).trans (hbc.mono (HBU.o.trans (HB0.o.mono HBU.o.size)).size)) (aS _ _ _ _ _ _ _ _ _ _ _ _ _ _ _ _ _ ) (fun j hj=>by omega) (HBU.o.trans ((HB0.o.trans (hbc.mono HB0.o.size)).mono HBU.o.size)).size,N',base,mid,L,β,?_,?_,xM (HBU.o.trans (HB0.o.mono HBU.o.size)).size hq1⟩
   .rw [HEB.o];rfl
   .unfold lM;rw [HEB.o,if_neg (by decide)];exact hm.tm (dS kr (aS _ _ _ _ _ _ _ _ _ _ _ _ _ _ _ _ _ )))
  have HKR:=zh kr;clear m0 m1 m2 m3 m4 m5 m6 m7 m8 m9 m10 m11 m12 m13 m14 hbc hm hq1 hq2 kr KR HCM;go_wp2;exact aA4 HKR.o _ _ _ _ _ _ _ _ _ _ _ _ _ _ _  _ _ _ rfl rfl HF.o
 .have hB0:qY U X0:=hbw.trans (hMg.b.mono hbw.size);obtain ⟨t0,t1,t2⟩:=HKT.o X0 hB0;have HEN:=zh (aIq w1 G Y M.cn N (qS a13 n13 c13) vr m b t X0 hMg (by rw [hYL];exact HCV.o ok));have HOK:=zh (xA ok (xA hbw hYL));clear ok hbw hMg hYL hB0 x0 x1 x2 x3 x4 x5 x6 x7 x8 x9 x10 x11 x12 x13 x14 HNM HU;go_wp2_with fail
  refine HEN.o.mono ?_;intro e X1 he;unfold EtP at he;by_cases c0:M.cn.tn<1000000000/\tgk M.cn.ps m b t
  .rw [if_pos c0] at he;obtain ⟨rfl,M',vr',hMg⟩:=he;have HB1:Zh (qY U X1):=HOK.o.2.1.trans (hMg.b.mono HOK.o.2.1.size);have HAN:=zh (aFt w1 G Y _ M' a13 n13 c13 vr' X1 hMg);have HMX:=zh (hMg.m);have HEB:=zh (aDi (M:=M) (m:=m) (b:=b) (t:=t) ⟨HOK.o.1,c0⟩);clear hMg t0 t1 t2 HEN c0;go_wp2_with fail
   refine HAN.o.mono ?_;rintro e X2 ⟨rfl,hb2⟩;have kr:=(HK.o X1 HB1.o).2.bw hb2;have KR:=kr;unfold z15 at KR;obtain ⟨r0,r1,r2,r3,r4,r5,r6,r7,r8,r9,r10,r11,r12,r13,r14⟩:=KR.mc;have rf:=KR.frozen
   have HF:=zh (show EnQ w M m b t (.returned (.tuple #[.agg (qA M'),.bool true])) (dP X2 (w.heap.size+1+1) (qS M'.ma M'.mn M'.mc) (qI M'.cs) (qI M'.cw) (qI M'.ck) (qI M'.cd) (qI M'.pc) (qS M'.ka M'.kn M'.kc) (qS M'.fa M'.fn M'.fc) (qS M'.ra M'.rn M'.rc) (qS M'.oa M'.on M'.oc) (qI M'.md) (qI M'.bk) (qS M'.la M'.ln M'.lc) (qS M'.ha M'.hn M'.hc) (qI M'.tn)) from by
    obtain ⟨base,mid,L,β,hm,hq1,hq2⟩:=HMX.o;have B2:=HBU.o.trans ((HB1.o.trans (hb2.mono HB1.o.size)).mono HBU.o.size);refine ⟨aG B2 (aS _ _ _ _ _ _ _ _ _ _ _ _ _ _ _ _ _ ) (fun j hj=>by omega) B2.size,M',base,mid,L,β,by rw [HEB.o];rfl,?_,xM (HBU.o.trans (HOK.o.2.1.mono HBU.o.size)).size hq1⟩;unfold lM;rw [HEB.o,if_pos rfl,<- HOK.o.2.2]
    exact (hm.bw hb2).tm (dS kr (aS _ _ _ _ _ _ _ _ _ _ _ _ _ _ _ _ _ )))
   have HKR:=zh kr;clear hb2 kr KR HAN HMX;go_wp2;exact aA4 HKR.o _ _ _ _ _ _ _ _ _ _ _ _ _ _ _ _ _ _ rfl rfl HF.o
  .rw [if_neg c0] at he;obtain ⟨rfl,vr',hMg⟩:=he;have HB1:Zh (qY U X1):=HOK.o.2.1.trans (hMg.b.mono HOK.o.2.1.size);have HEB:=zh (rK (M:=M) (m:=m) (b:=b) (t:=t) (fun q=>c0 q.2));clear hMg t0 t1 t2 HEN c0;obtain ⟨m0,m1,m2,m3,m4,m5,m6,m7,m8,m9,m10,m11,m12,m13,m14⟩:=(HK.o X1 HB1.o).1.mc;have HCM:=zh (fO M g b1 o1 b2 o2 b3 o3 b4 o4 Ls X1 (HMS.o X1 HB1.o));go_wp2_with fail
   refine HCM.o.mono ?_;rintro e Xc ⟨hbc,N',base,mid,L,β,rfl,hm,hq1,hq2⟩;unfold mnV;have kr:=(HK.o X1 HB1.o).2.bw hbc;have KR:=kr;unfold z15 at KR;obtain ⟨r0,r1,r2,r3,r4,r5,r6,r7,r8,r9,r10,r11,r12,r13,r14⟩:=KR.mc;have rf:=KR.frozen
   have HF:=zh (show EnQ w M m b t (.returned (.tuple #[.agg (qA N'),.bool false])) (dP Xc (w.heap.size+1+1) (qS N'.ma N'.mn N'.mc) (qI N'.cs) (qI N'.cw) (qI N'.ck) (qI N'.cd) (qI N'.pc) (qS N'.ka N'.kn N'.kc) (qS N'.fa N'.fn N'.fc) (qS N'.ra N'.rn N'.rc) (qS N'.oa N'.on N'.oc) (qI N'.md) (qI N'.bk) (qS N'.la N'.ln N'.lc) (qS N'.ha N'.hn N'.hc) (qI N'.tn)) from by
    refine ⟨aG ((HBU.o.trans (HB1.o.mono HBU.o.size)).trans (hbc.mono (HBU.o.trans (HB1.o.mono HBU.o.size)).size)) (aS _ _ _ _ _ _ _ _ _ _ _ _ _ _ _ _ _ ) (fun j hj=>by omega) (HBU.o.trans ((HB1.o.trans (hbc.mono HB1.o.size)).mono HBU.o.size)).size,N',base,mid,L,β,?_,?_,xM (HBU.o.trans (HB1.o.mono HBU.o.size)).size hq1⟩
    .rw [HEB.o];rfl
    .unfold lM;rw [HEB.o,if_neg (by decide)];exact hm.tm (dS kr (aS _ _ _ _ _ _ _ _ _ _ _ _ _ _ _ _ _ )))
   have HKR:=zh kr;clear m0 m1 m2 m3 m4 m5 m6 m7 m8 m9 m10 m11 m12 m13 m14 hbc hm hq1 hq2 kr KR HCM;go_wp2;exact aA4 HKR.o _ _ _ _ _ _ _ _ _ _ _ _ _ _ _  _ _ _ rfl rfl HF.o
