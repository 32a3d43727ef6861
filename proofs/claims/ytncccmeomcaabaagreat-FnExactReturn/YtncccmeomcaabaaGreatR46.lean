import Derived.Test.YtncccmeomcaabaaGreatR36
import Derived.Test.YtncccmeomcaabaaGreatR41
import Derived.Test.YtncccmeomcaabaaGreatR43
import Derived.Test.YtncccmeomcaabaaGreatR44
import Derived.Test.YtncccmeomcaabaaGreatR45
set_option linter.all false
set_option maxHeartbeats 16000000
namespace Go.Proofs.YtncccmeomcaabaaGreat
open Go.RowKit Classical
open Go.Proofs.Tryz
set_option maxRecDepth 100000
variable {M N:Mn}{Q:Ending->World->Prop}{W:World}{a q:Nat}{fn:Func}{tmps:Array Value}{x:Value}
def jU (M:Mn):Bool:=@decide (MOk M/\M.hz.length≠0/\M.tn<1000000000) (@instDecidableAnd _ _ (aP2 M) _)
theorem retB_iff:jU M=true ↔ (MOk M/\M.hz.length≠0/\M.tn<1000000000):=by unfold jU;simp only [decide_eq_true_eq]
theorem zO (h:¬ (MOk M/\M.hz.length≠0/\M.tn<1000000000)):jU M=false:=by
 cases e:jU M
 .rfl
 .exact absurd (retB_iff.1 e) h
def iW (M:Mn):Cn:=if jU M=true then nR M.cn M.L else M.cn
abbrev stM (W:World)(q:Nat)(N:Mn):World:=jS W q (qS N.ma N.mn N.mc) (qI N.cs) (qI N.cw) (qI N.ck) (qI N.cd) (qI N.pc) (qS N.ka N.kn N.kc) (qS N.fa N.fn N.fc) (qS N.ra N.rn N.rc) (qS N.oa N.on N.oc) (qI N.md) (qI N.bk) (qS N.la N.ln N.lc) (qS N.ha N.hn N.hc) (qI N.tn)
def MQ (w:World)(x:Value)(C:Cn)(e:Ending)(w':World):Prop:=qY w w'/\∃ N base mid L β,e=.returned (.tuple #[mnV N,x])/\MxO w' base mid C N L β/\w.heap.size<=base
theorem aAe {w X:World}{base mid:Nat}{C:Cn}{L:List (PMod×Mb)}{β:Nat->Nat}(B:qY w X)(k:Blk X q z15 43)(hq:w.heap.size<=q)(hm:MxO X base mid C N L β)(hb:w.heap.size<=base):MQ w x C (.returned (.tuple #[.agg (qA N),x])) (stM X q N):=
 ⟨aG B (cE _ _ _ _ _ _ _ _ _ _ _ _ _ _ _ _ _) (fun j hj=>by omega) B.size,N,base,mid,L,β,rfl,hm.tm (fP k (cE _ _ _ _ _ _ _ _ _ _ _ _ _ _ _ _ _)),hb⟩
theorem aA4 {b:Nat}(N:Mn)(hr:fn.results=#[.cell a 43,.tmp b])(k:Blk W q z15 43)(ha:tmps[a]?=some (.pointer (qP q)))(hb:tmps[b]?=some x)(hQ:Q (.returned (.tuple #[.agg (qA N),x])) (stM W q N)):bodyPost prog fn Q Exit.ret ⟨tmps,[]⟩ (stM W q N):=by
 obtain ⟨t0,t1,t2,t3,t4,t5,t6,t7,t8,t9,t10,t11,t12,t13,t14⟩:=(iJ k (qS N.ma N.mn N.mc) (qI N.cs) (qI N.cw) (qI N.ck) (qI N.cd) (qI N.pc) (qS N.ka N.kn N.kc) (qS N.fa N.fn N.fc) (qS N.ra N.rn N.rc) (qS N.oa N.on N.oc) (qI N.md) (qI N.bk) (qS N.la N.ln N.lc) (qS N.ha N.hn N.hc) (qI N.tn)).mc;refine bodyPost_ret_by (v:=.tuple #[.agg (qA N),x]) ?_ rfl hQ;simp [results,hr,go_sem,ha,hb,t0,t1,t2,t3,t4,t5,t6,t7,t8,t9,t10,t11,t12,t13,t14]
theorem aCu (M:Mn)(g b1 o1 b2 o2 b3 o3 b4 o4:Nat)(Ls:List (PMod×Mb))(w:World)(h:MnD w M)(H:MnS w M g b1 o1 b2 o2 b3 o3 b4 o4 Ls):Calls prog 10 #[.agg (qA M)] w (MQ w (.bool (jU M)) (iW M)):=by
 obtain ⟨U,hU⟩:=eqx ((w.alloc (.cells (qA M) 43)).alloc (.cells qZ 43));have bU:qY w U:=by rw [hU];exact bal.alloc (by simp) _
 have kM:Blk U w.heap.size (qA M) 43:=by rw [hU];exact (Blk.new _ _ _).alloc _
 have kR:Blk U (w.heap.size+1) z15 43:=by rw [hU];have:=Blk.new (w.alloc (.cells (qA M) 43)) z15 43;simpa [z15] using this
 have HNM:=zh (sI M g b1 o1 b2 o2 b3 o3 b4 o4 Ls U (h.bw bU) (H.bw bU));have HMS:=zh (fun (X:World) (hX:qY U X)=>(H.bw bU).bw hX);have HK:=zh (fun (X:World) (hX:qY U X)=>xA (kM.bw hX) (kR.bw hX));have HV:=zh (fun (ok:MOk M)=>xA (ok.cv h) ok.h.2);have HU:=zh hU;have HBU:=zh bU;obtain ⟨x0,x1,x2,x3,x4,x5,x6,x7,x8,x9,x10,x11,x12,x13,x14⟩:=kM.mc;clear hU bU kM kR h H;go_enter func10,ntmps10
 go_wp2_with (rw [<- HU.o])
 refine HNM.o.mono ?_;rintro e X0 (⟨ok,rfl,hb0⟩|⟨ok,w1,G,Y,N,a13,n13,c13,vr,rfl,hbw,hMg,hYL⟩)
 focus
  have HB0:=zh hb0;have HEB:=zh (zO (M:=M) (fun q=>ok q.1));clear hb0 ok x0 x1 x2 x3 x4 x5 x6 x7 x8 x9 x10 x11 x12 x13 x14 HNM HU
 rotate_left
 focus
  have HGB:=zh (aEw w1 G Y M.cn N (qS a13 n13 c13) vr X0 hMg (by rw [hYL];exact (HV.o ok).1) (HV.o ok).2);have HO:=zh (xA ok (xA hbw (xA hYL (hbw.trans (hMg.b.mono hbw.size)))));clear ok hbw hMg hYL x0 x1 x2 x3 x4 x5 x6 x7 x8 x9 x10 x11 x12 x13 x14 HNM HU;go_wp2_with fail
  refine HGB.o.mono ?_;intro e X1 he;unfold GbP at he;by_cases c0:M.cn.hz.length≠0/\M.cn.tn<1000000000
  .rw [if_pos c0] at he;obtain ⟨rfl,M',vr',hMg⟩:=he;have HB1:=zh (show qY U X1 from HO.o.2.1.trans (hMg.b.mono HO.o.2.1.size));have HAN:=zh (aFd w1 G Y _ M' a13 n13 c13 vr' X1 hMg);have HMX:=zh hMg.m;have HEB:=zh (retB_iff.2 ⟨HO.o.1,c0⟩);clear hMg HGB c0;go_wp2_with fail
   refine HAN.o.mono ?_;rintro e X2 ⟨rfl,hb2⟩;have kr:=(HK.o X1 HB1.o).2.bw hb2;have KR:=kr;unfold z15 at KR;obtain ⟨r0,r1,r2,r3,r4,r5,r6,r7,r8,r9,r10,r11,r12,r13,r14⟩:=KR.mc;have rf:=KR.frozen
   have HF:=zh (show MQ w (.bool (jU M)) (iW M) (.returned (.tuple #[.agg (qA M'),.bool true])) (stM X2 (w.heap.size+1) M') from by
    obtain ⟨base,mid,L,β,hm,hq1,hq2⟩:=HMX.o;have B2:=HBU.o.trans ((HB1.o.trans (hb2.mono HB1.o.size)).mono HBU.o.size);unfold iW;rw [HEB.o,if_pos rfl,<- HO.o.2.2.1]
    exact aAe B2 kr (by omega) (hm.bw hb2) (xM (HBU.o.trans (HO.o.2.1.mono HBU.o.size)).size hq1))
   have HKR:=zh kr;clear hb2 kr KR HAN HMX;go_wp2;exact aA4 M' rfl HKR.o rfl rfl HF.o
  rw [if_neg c0] at he;obtain ⟨rfl,hb1⟩:=he;have HB0:=zh (HO.o.2.2.2.trans (hb1.mono HO.o.2.2.2.size));have HEB:=zh (zO (M:=M) (fun q=>c0 q.2));clear hb1 c0 HGB HO
 all_goals
  obtain ⟨m0,m1,m2,m3,m4,m5,m6,m7,m8,m9,m10,m11,m12,m13,m14⟩:=(HK.o _ HB0.o).1.mc;have HCM:=zh (jO M g b1 o1 b2 o2 b3 o3 b4 o4 Ls _ (HMS.o _ HB0.o));go_wp2_with fail
  refine HCM.o.mono ?_;rintro e Xc ⟨hbc,N',base,mid,L,β,rfl,hm,hq1,hq2⟩;unfold mnV;have kr:=(HK.o _ HB0.o).2.bw hbc;have KR:=kr;unfold z15 at KR;obtain ⟨r0,r1,r2,r3,r4,r5,r6,r7,r8,r9,r10,r11,r12,r13,r14⟩:=KR.mc;have rf:=KR.frozen
  have HF:=zh (show MQ w (.bool (jU M)) (iW M) (.returned (.tuple #[.agg (qA N'),.bool false])) (stM Xc (w.heap.size+1) N') from by
   have B:=HBU.o.trans (HB0.o.mono HBU.o.size);unfold iW;rw [HEB.o,if_neg (by decide)]
   exact aAe (B.trans (hbc.mono B.size)) kr (by omega) hm (xM B.size hq1))
  have HKR:=zh kr;clear m0 m1 m2 m3 m4 m5 m6 m7 m8 m9 m10 m11 m12 m13 m14 hbc hm hq1 hq2 kr KR HCM;go_wp2;exact aA4 N' rfl HKR.o rfl rfl HF.o
theorem aM7 {k:Nat}{t:TypeId}(h:Blk W k (qA N) t)(M:Mn):Blk (stM W k M) k (qA M) t:=by
 unfold stM jS;have q:=(((((((((((((((h.set 0 (qS M.ma M.mn M.mc)).set 1 (qI M.cs)).set 2 (qI M.cw)).set 3 (qI M.ck)).set 4 (qI M.cd)).set 5 (qI M.pc)).set 6 (qS M.ka M.kn M.kc)).set 7 (qS M.fa M.fn M.fc)).set 8 (qS M.ra M.rn M.rc)).set 9 (qS M.oa M.on M.oc)).set 10 (qI M.md)).set 11 (qI M.bk)).set 12 (qS M.la M.ln M.lc)).set 13 (qS M.ha M.hn M.hc)).set 14 (qI M.tn));simpa using q
theorem aIl (W:World)(k:Nat)(M:Mn):Turn (fun j=>j=k) W (stM W k M):=cE _ _ _ _ _ _ _ _ _ _ _ _ _ _ _ _ _
theorem aOw (N:Mn)(hr:fn.results=#[.cell a 43])(k:Blk W q z15 43)(ha:tmps[a]?=some (.pointer (qP q)))(hQ:Q (.returned (.agg (qA N))) (stM W q N)):bodyPost prog fn Q Exit.ret ⟨tmps,[]⟩ (stM W q N):=by
 obtain ⟨t0,t1,t2,t3,t4,t5,t6,t7,t8,t9,t10,t11,t12,t13,t14⟩:=(iJ k (qS N.ma N.mn N.mc) (qI N.cs) (qI N.cw) (qI N.ck) (qI N.cd) (qI N.pc) (qS N.ka N.kn N.kc) (qS N.fa N.fn N.fc) (qS N.ra N.rn N.rc) (qS N.oa N.on N.oc) (qI N.md) (qI N.bk) (qS N.la N.ln N.lc) (qS N.ha N.hn N.hc) (qI N.tn)).mc;refine bodyPost_ret_by (v:=.agg (qA N)) ?_ rfl hQ;simp [results,hr,go_sem,ha,t0,t1,t2,t3,t4,t5,t6,t7,t8,t9,t10,t11,t12,t13,t14]
theorem aAo (M:Mn)(g b1 o1 b2 o2 b3 o3 b4 o4:Nat)(Ls:List (PMod×Mb))(Y:Lyb)(w:World)(h:MnD w M)(H:MnS w M g b1 o1 b2 o2 b3 o3 b4 o4 Ls)(hl:Y.T w)(eY:Y.L=M.L)(ok:MOk M)(c2:M.hz.length≠0)(ht:M.tn<1000000000):
 Calls prog 31 #[.agg (qA M),.agg (qL Y.L Y.a0 Y.xs.length Y.c0 Y.a2 Y.L.slots.length Y.c2 Y.a5 Y.ts.length Y.c5)] w fun e w'=>∃ N base mid L β,e=.returned (.agg (qA N))/\qY w w'/\MxO w' base mid (nR M.cn M.L) N L β/\w.heap.size<=base:=by
 obtain ⟨n,hn⟩:∃ n,M.hz.length=n+1:=⟨M.hz.length-1,by omega⟩;obtain ⟨⟨x0,x1,x2,x3⟩,hx⟩:=eqx (M.hz.getD n zFr);obtain ⟨fk,fb0,fb1⟩:frk (aE M.ms) (x0,x1,x2,x3):=by rw [hx];exact ok.h.2 n (by omega)
 have HR:=zh (show nR M.cn M.L={ dI { M.cn with hz:=M.hz.take n } Y.L x0 x1 x2 with kz:=(dI { M.cn with hz:=M.hz.take n } Y.L x0 x1 x2).kz.set 7 x3 } by
  unfold nR aHa aJf lFr
  rw [show M.cn.hz=M.hz from rfl,hn,show n+1-1=n by omega,<- hx,eY])
 obtain ⟨U,hU⟩:=eqx (((w.alloc (.cells (qA M) 43)).alloc (.cells (qL Y.L Y.a0 Y.xs.length Y.c0 Y.a2 Y.L.slots.length Y.c2 Y.a5 Y.ts.length Y.c5) 71)).alloc (.cells qZ 43));have bU:qY w U:=by rw [hU];exact (bal.alloc (by simp) _).alloc (by simp;omega) _
 have kM:Blk U w.heap.size (qA M) 43:=by rw [hU];exact ((Blk.new _ _ _).alloc _).alloc _
 have kL:Blk U (w.heap.size+1) (qL Y.L Y.a0 Y.xs.length Y.c0 Y.a2 Y.L.slots.length Y.c2 Y.a5 Y.ts.length Y.c5) 71:=by rw [hU];have:=(Blk.new (w.alloc (.cells (qA M) 43)) (qL Y.L Y.a0 Y.xs.length Y.c0 Y.a2 Y.L.slots.length Y.c2 Y.a5 Y.ts.length Y.c5) 71).alloc (.cells qZ 43);simpa using this
 have kR:Blk U (w.heap.size+1+1) z15 43:=by rw [hU];have:=Blk.new ((w.alloc (.cells (qA M) 43)).alloc (.cells (qL Y.L Y.a0 Y.xs.length Y.c0 Y.a2 Y.L.slots.length Y.c2 Y.a5 Y.ts.length Y.c5) 71)) z15 43;simpa [z15] using this
 have HCP:=zh (tC M g b1 o1 b2 o2 b3 o3 b4 o4 Ls U (H.bw bU));have hMn:M.hn=n+1:=by have:=h.h.1;omega
 have mx:=h.h.2.1;unfold maxLen at mx;have HKU:=zh (xA kM (xA kL kR));obtain ⟨gh,oh,hg,q0,q1,q2,q3⟩:=(h.h.bw bU).at n (by omega) _ _ _ _ rfl;rw [<- hx] at q0 q1 q2 q3;dsimp only at q0 q1 q2 q3;have HQ:=zh (xA hg (xA q0 (xA q1 (xA q2 q3))));have HCV:=zh (ok.cv h);have HU:=zh hU;have HBU:=zh bU;have HLT:=zh (hl.bw bU);have hw:IntKind.i64.wrap ((M.hn:Int)-1)=(n:Int):=by rw [show (M.hn:Int)-1=(n:Int) by omega,xP,xQ _ (by omega)]
 have hl1:(n:Int)<(M.hn:Int):=by omega
 obtain ⟨m0,m1,m2,m3,m4,m5,m6,m7,m8,m9,m10,m11,m12,m13,m14⟩:=kM.mc;have HEY:=zh (xA eY hMn);have HHN:=zh hn;have HFK:=zh (xA fk (xA fb0 (xA fb1 ht)));clear hU bU kM kL kR h H hl ok hx hn q0 q1 q2 q3 hg eY mx c2 hMn fk fb0 fb1 ht;go_enter func31,ntmps31
 go_wp2_with (rw [<- HU.o])
 refine HCP.o.mono ?_;rintro e X1 ⟨hb1,N,base,mid,L,β,rfl,hm,hq1,hq2⟩;unfold mnV;obtain ⟨V1,hV1,bV1,kA⟩:=nwb X1 (qA N) 43;obtain ⟨V2,hV2,bV2,kF⟩:=nwb V1 (qW x0 x1 x2 x3) 135;have bU1:=hb1.trans (bV1.mono hb1.size);have bU2:=bU1.trans (bV2.mono bU1.size);have hs1:V1.heap.size=X1.heap.size+1:=by rw [hV1];simp
 have sU:=HKU.o.2.2.lt;have sX:=hb1.size;have eNn:N.hn=n+1:=by rw [gD hm.h];exact HHN.o
 obtain ⟨gn,hgn⟩:=fS hm.h (by omega);have nc:=(aQ hm.h).2.2.1;have kA2:=kA.bw bV2;obtain ⟨N1,hN1⟩:=eqx ({ N with hn:=n,hz:=M.hz.take n }:Mn);obtain ⟨V3,hV3⟩:=eqx (V2.setCell ⟨X1.heap.size,13,none⟩ (qS (some ⟨gn,0,none⟩) n N.hc));have kA3:Blk V3 X1.heap.size (qA N1) 43:=by rw [hV3,hN1,<- hgn];exact kA2.set 13 (qS N.ha n N.hc)
 have T3:Turn (fun j=>j=X1.heap.size) V2 V3:=by rw [hV3];exact aC _ _ _ _
 have bU3:qY U V3:=aG bU2 T3 (fun j hj=>by omega) bU2.size;have hm3:MxO V3 base mid { M.cn with hz:=M.hz.take n } N1 L β:=by rw [hN1];exact ((hm.bw (bV1.trans (bV2.mono bV1.size))).tm (fP kA2 T3)).pop eNn
 have kF3:=aF T3 kF (fun e=>by omega);have HEN:=zh (aCn U base mid L β Y _ N1 x0 x1 x2 V3 hm3 bU3 hq1 HLT.o (by rw [HEY.o.1];exact ⟨HCV.o.k,HCV.o.e,HCV.o.b,HCV.o.r,HCV.o.g,HCV.o.s,HCV.o.n,HCV.o.t⟩) HFK.o.2.2.2 HFK.o.1);obtain ⟨hg,q0,q1,q2,q3⟩:=HQ.o;have q0:=aB bU1 q0;have q1:=aB bU1 q1;have q2:=aB bU1 q2;have q3:=aB bU1 q3;have s13:=(HKU.o.1.bw bU1).e13;rw [hg] at s13;have a13:=kA2.e13;rw [hgn] at a13;have af:=kA2.frozen 13;have hl2:(n:Int)<=(N.hc:Int):=by omega
 obtain ⟨y0,y1,y2,y3,y4,y5,y6,y7,y8,y9,y10,y11,y12,y13,y14⟩:=kA3.mc;obtain ⟨l0,l1,l2,l3,l4,l5⟩:=(HKU.o.2.1.bw bU3).z6;obtain ⟨f0,f1,f2,f3⟩:=kF3.z4;have HV1:=zh hV1;have HV2:=zh hV2;have HV3:=zh hV3;have HA:=zh (xA kA3 (xA kF3 (xA hq1 (xA hs1 (xA sU sX)))));clear m0 m1 m2 m3 m4 m5 m6 m7 m8 m9 m10 m11 m12 m13 m14 hb1 hm hq1 hq2 hV1 bV1 kA hV2 bV2 kF bU1 bU2 eNn hgn kA2 hN1 hV3 kA3 T3 bU3 hm3 kF3 hg hs1 sU sX nc HCP HU;go_wp2_with (first|rw [<- HV1.o]|rw [<- HV2.o]|rw [<- HV3.o])
 refine HEN.o.mono ?_;rintro e X4 ⟨M',rfl,hm4,hb4,T4⟩;clear q0 q1 q2 q3 s13 a13 af y0 y1 y2 y3 y4 y5 y6 y7 y8 y9 y10 y11 y12 y13 y14 l0 l1 l2 l3 l4 l5 f0 f1 f2 f3 hw hl1 hl2 HV1 HV2 HV3 HEN HQ;have kA4:=T4.blk HA.o.1 (by unfold gkd;decide);have kF4:=T4.blk HA.o.2.1 (by unfold gkd;decide);obtain ⟨X5,hX5⟩:=eqx (stM X4 X1.heap.size M');have kA5:Blk X5 X1.heap.size (qA M') 43:=by rw [hX5];exact aM7 kA4 M'
 have T5:Turn (fun j=>j=X1.heap.size) X4 X5:=by rw [hX5];exact aIl _ _ _
 have hm5:=hm4.tm (fP kA4 T5);obtain ⟨_,_,h1,h2,h3,h4⟩:=HA.o;have kF5:=aF T5 kF4 (fun e=>by omega);have kR5:=aF T5 (HKU.o.2.2.bw hb4) (fun e=>by omega);have hg8:=HCV.o.g
 obtain ⟨gk,hgk,hgn,x7,xf,n1,n2,n3,hlo⟩:∃ gk,M'.ka=some ⟨gk,0,none⟩/\M'.kn=8/\(∃ u,X5.cell? ⟨gk,7,none⟩=some u)/\(∀ i,X5.frozen? ⟨gk,i,none⟩=false)/\gk≠X1.heap.size/\gk≠V1.heap.size/\gk≠w.heap.size+1+1/\base<=gk:=by
  have mk:=hm5.k;have e8:M'.kn=8:=by rw [mB mk,qU];exact hg8
  obtain ⟨gk,cp,e,_⟩:=World.ownsRow.form mk.1 (by rw [qU];show 0<M.cn.kz.length;rw [hg8];decide);simp only [Value.slice.injEq] at e;rw [e.1] at mk;obtain ⟨cs,kb⟩:=aD mk.1 (k:=gk) rfl;have lo:=(mk.lt gk rfl).1;have bm:=hm5.bm;exact ⟨gk,e.1,e8,⟨_,mk.is.at 7 (by omega)⟩,kb.frozen,fun q=>by rw [q] at kb;exact absurd (aI kb kA5) (by decide),fun q=>by rw [q] at kb;exact absurd (aI kb kF5) (by decide),fun q=>by rw [q] at kb;exact absurd (aI kb kR5) (by decide),by omega⟩
 obtain ⟨u,x7⟩:=x7;obtain ⟨X6,hX6⟩:=eqx (X5.setCell ⟨gk,7,none⟩ (qI x3));have T6:Turn (fun j=>j=gk) X5 X6:=by rw [hX6];exact aC _ _ _ _
 have hm6:MxO X6 base mid (nR M.cn M.L) { M' with kz:=(dI { M.cn with hz:=M.hz.take n } Y.L x0 x1 x2).kz.set 7 x3 } L β:=by
  rw [hX6,HR.o];exact hm5.reg hgk 7 (by omega) x3 (by obtain ⟨_,q1,q2,_⟩:=HFK.o;unfold wfi;omega)
 have kA6:=aF T6 kA5 (fun e=>n1 e.symm);have kR6:=aF T6 kR5 (fun e=>n3 e.symm)
 have HF:=zh (xA kR6 (show ∃ N base mid L β,Ending.returned (.agg (qA M'))=.returned (.agg (qA N))/\qY w (stM X6 (w.heap.size+1+1) M')/\MxO (stM X6 (w.heap.size+1+1) M') base mid (nR M.cn M.L) N L β/\w.heap.size<=base from by
  have B4:=HBU.o.trans (hb4.mono HBU.o.size);have B5:=aG B4 T5 (fun j hj=>by have:=HBU.o.size;omega) B4.size;have B6:=aG B5 T6 (fun j hj=>by have:=HBU.o.size;omega) B5.size
  exact ⟨{ M' with kz:=(dI { M.cn with hz:=M.hz.take n } Y.L x0 x1 x2).kz.set 7 x3 },base,mid,L,β,rfl,aG B6 (aIl _ _ _) (fun j hj=>by omega) B6.size,hm6.tm (fP kR6 (aIl _ _ M')),by have:=HBU.o.size;omega⟩))
 obtain ⟨y0,y1,y2,y3,y4,y5,y6,y7,y8,y9,y10,y11,y12,y13,y14⟩:=kA4.mc;have yf:=kA4.frozen;have c6:X5.cell? ⟨X1.heap.size,6,none⟩=some (qS (some ⟨gk,0,none⟩) 8 M'.kc):=by rw [<- hgk,<- hgn];exact kA5.cell 6
 have f3:=kF5.e3;obtain ⟨z0,z1,z2,z3,z4,z5,z6,z7,z8,z9,z10,z11,z12,z13,z14⟩:=kA6.mc;have KR:=kR6;unfold z15 at KR;obtain ⟨r0,r1,r2,r3,r4,r5,r6,r7,r8,r9,r10,r11,r12,r13,r14⟩:=KR.mc;have rf:=KR.frozen;unfold stM jS at hX5;have HX5:=zh hX5;have HX6:=zh hX6;have n4:¬ X1.heap.size=gk:=fun e=>n1 e.symm;have n5:¬ V1.heap.size=gk:=fun e=>n2 e.symm;clear hm4 hb4 T4 kA4 kF4 hX5 kA5 T5 hm5 kF5 kR5 hgk hgn hX6 T6 hm6 kA6 kR6 KR h1 h2 h3 h4 hlo hg8;go_wp2_with (first|rw [<- HX5.o]|rw [<- HX6.o])
 exact aOw M' rfl HF.o.1 rfl HF.o.2
theorem aBx (M:Mn)(g b1 o1 b2 o2 b3 o3 b4 o4:Nat)(Ls:List (PMod×Mb))(w:World)(h:MnD w M)(H:MnS w M g b1 o1 b2 o2 b3 o3 b4 o4 Ls):Calls prog 8 #[.agg (qA M)] w (MQ w (.bool (jU M)) (iW M)):=by
 obtain ⟨U,hU⟩:=eqx ((w.alloc (.cells (qA M) 43)).alloc (.cells qZ 43));have bU:qY w U:=by rw [hU];exact bal.alloc (by simp) _
 have kM:Blk U w.heap.size (qA M) 43:=by rw [hU];exact (Blk.new _ _ _).alloc _
 have kR:Blk U (w.heap.size+1) z15 43:=by rw [hU];have:=Blk.new (w.alloc (.cells (qA M) 43)) z15 43;simpa [z15] using this
 have HVL:=zh (aKc M U (h.bw bU));have HMS:=zh (fun (X:World) (hX:qY U X)=>xA ((h.bw bU).bw hX) ((H.bw bU).bw hX));have HK:=zh (fun (X:World) (hX:qY U X)=>xA (kM.bw hX) (kR.bw hX));have hhl:=h.h.1;have HU:=zh hU;have HBU:=zh bU;obtain ⟨x0,x1,x2,x3,x4,x5,x6,x7,x8,x9,x10,x11,x12,x13,x14⟩:=kM.mc;clear hU bU kM kR h H;go_enter func8,ntmps8
 go_wp2_with (rw [<- HU.o])
 refine HVL.o.mono ?_;rintro e X0 ⟨hb0,y0,n0,d0,i1,y2,n2,d2,i3,i4,y5,n5,d5,bb,rfl,hbb,hly⟩;obtain ⟨w1,hw1,b1',kl⟩:=nwb X0 #[qS y0 n0 d0,qI i1,qS y2 n2 d2,qI i3,qI i4,qS y5 n5 d5] 71;have HB1:=zh (hb0.trans (b1'.mono hb0.size));have HW1:=zh hw1;clear x0 x1 x2 x3 x4 x5 x6 x7 x8 x9 x10 x11 x12 x13 x14 HVL HU hw1;obtain ⟨m0,m1,m2,m3,m4,m5,m6,m7,m8,m9,m10,m11,m12,m13,m14⟩:=(HK.o w1 HB1.o).1.mc;by_cases c:MOk M/\M.hz.length≠0/\M.tn<1000000000
 .obtain rfl:bb=true:=hbb.2 c.1;obtain ⟨a0,c0,xs,a2,c2,a5,c5,ts,ely,lyt⟩:=hly rfl;have h0:((M.hn:Int)==0)=false:=by have:=c.2.1;simp;omega
  have h1:¬ 1000000000<=M.tn:=by have:=c.2.2;omega
  have HLR:=zh (aAo M g b1 o1 b2 o2 b3 o3 b4 o4 Ls ⟨M.L,a0,c0,xs,a2,c2,a5,c5,ts⟩ w1 (HMS.o w1 HB1.o).1 (HMS.o w1 HB1.o).2 (lyt.bw b1') rfl c.1 c.2.1 c.2.2);have HEB:=zh (retB_iff.2 c);dsimp only at HLR;unfold mF at ely;rw [<- ely] at HLR;obtain ⟨l0,l1,l2,l3,l4,l5⟩:=kl.z6;clear hb0 hbb hly b1' kl ely lyt c hhl;go_wp2_with (rw [<- HW1.o])
  refine HLR.o.mono ?_;rintro e Xc ⟨N',base,mid,L,β,rfl,hbc,hm,hq1⟩;have kr:=(HK.o _ HB1.o).2.bw hbc;have KR:=kr;unfold z15 at KR;obtain ⟨r0,r1,r2,r3,r4,r5,r6,r7,r8,r9,r10,r11,r12,r13,r14⟩:=KR.mc;have rf:=KR.frozen
  have HF:=zh (show MQ w (.bool (jU M)) (iW M) (.returned (.tuple #[.agg (qA N'),.bool true])) (stM Xc (w.heap.size+1) N') from by
   have B:=HBU.o.trans (HB1.o.mono HBU.o.size);unfold iW;rw [HEB.o,if_pos rfl]
   exact aAe (B.trans (hbc.mono B.size)) kr (by omega) hm (xM B.size hq1))
  have HKR:=zh kr;clear m0 m1 m2 m3 m4 m5 m6 m7 m8 m9 m10 m11 m12 m13 m14 l0 l1 l2 l3 l4 l5 hbc hm hq1 kr KR HLR;go_wp2;exact aA4 N' rfl HKR.o rfl rfl HF.o
 have HEB:=zh (zO c)
 have hc:bb=false\/(bb=true/\((M.hn:Int)==0)=true)\/(bb=true/\((M.hn:Int)==0)=false/\1000000000<=M.tn):=by
  by_cases ok:MOk M
  .by_cases c2:M.hn=0
   .exact .inr (.inl ⟨hbb.2 ok,by simp [c2]⟩)
   .refine .inr (.inr ⟨hbb.2 ok,by simpa using c2,?_⟩);by_cases c3:M.tn<1000000000
    .exact absurd ⟨ok,by omega,c3⟩ c
    .omega
  .exact .inl (by cases bb;rfl;exact absurd (hbb.1 rfl) ok)
 have HCM:=zh (tC M g b1 o1 b2 o2 b3 o3 b4 o4 Ls w1 (HMS.o w1 HB1.o).2);clear hb0 hbb hly b1' kl c hhl;rcases hc with rfl|⟨rfl,h0⟩|⟨rfl,h0,h1⟩
 all_goals
  go_wp2_with (rw [<- HW1.o])
  refine HCM.o.mono ?_;rintro e Xc ⟨hbc,N',base,mid,L,β,rfl,hm,hq1,hq2⟩;unfold mnV;have kr:=(HK.o _ HB1.o).2.bw hbc;have KR:=kr;unfold z15 at KR;obtain ⟨r0,r1,r2,r3,r4,r5,r6,r7,r8,r9,r10,r11,r12,r13,r14⟩:=KR.mc;have rf:=KR.frozen
  have HF:=zh (show MQ w (.bool (jU M)) (iW M) (.returned (.tuple #[.agg (qA N'),.bool false])) (stM Xc (w.heap.size+1) N') from by
   have B:=HBU.o.trans (HB1.o.mono HBU.o.size);unfold iW;rw [HEB.o,if_neg (by decide)]
   exact aAe (B.trans (hbc.mono B.size)) kr (by omega) hm (xM B.size hq1))
  have HKR:=zh kr;clear m0 m1 m2 m3 m4 m5 m6 m7 m8 m9 m10 m11 m12 m13 m14 hbc hm hq1 hq2 kr KR HCM;go_wp2;exact aA4 N' rfl HKR.o rfl rfl HF.o
