import Derived.Test.YtncccmeomcaabaaGreatP20
import Derived.Test.YtncccmeomcaabaaGreatP23
import Derived.Test.YtncccmeomcaabaaGreatP24
import Derived.Test.YtncccmeomcaabaaGreatP30
set_option linter.all false
set_option maxHeartbeats 16000000
namespace Go.Proofs.YtncccmeomcaabaaGreat
open Go.RowKit Classical
open Go.Proofs.Tryz
set_option maxRecDepth 100000
variable {L:List (PMod×Mb)}{M:Mn}{ax cs:Array Value}{b1:Nat}
def mnV (M:Mn):Value:=.agg (qA M)
structure MnS (w:qw)(M:Mn)(g b1 o1 b2 o2 b3 o3 b4 o4:Nat)(L:List (PMod×Mb)):Prop where
 a:M.ma=some ⟨g,0,none⟩/\M.ka=some ⟨b1,o1,none⟩/\M.fa=some ⟨b2,o2,none⟩/\M.ra=some ⟨b3,o3,none⟩/\M.oa=some ⟨b4,o4,none⟩
 m:OMq w M.ma L
 n:L.length=M.mn
 e:L.map (fun x=>x.1)=aD M.ms
 k:IS w M.ka M.kn M.kc M.kz
 f:BS w M.fa M.fn M.fc M.fz
 r:BS w M.ra M.rn M.rc M.rz
 o:BS w M.oa M.on M.oc M.oz
 l:Srd bS w M.la M.ln M.lc M.lz
 h:Srd cP w M.ha M.hn M.hc M.hz
 z:M.mn<=1048576/\M.kn<=1048576/\M.fn+M.rn+M.on<=1048576/\M.ln<=1048576/\M.hn<=1048576
theorem MnS.bw {w w':qw}{g o1 b2 o2 b3 o3 b4 o4:Nat}(h:MnS w M g b1 o1 b2 o2 b3 o3 b4 o4 L)(hb:qY w w'):MnS w' M g b1 o1 b2 o2 b3 o3 b4 o4 L:=⟨h.a,h.m.bw hb,h.n,h.e,h.k.bw hb,h.f.bw hb,h.r.bw hb,h.o.bw hb,h.l.bw hb,h.h.bw hb,h.z⟩
structure Cpx (w X:qw)(ax cs:Array Value):Prop where
 b:qY w X
 ka:Blk X w.heap.size ax 43
 kr:Blk X (w.heap.size+1) z15 43
 kg:Blk X (w.heap.size+1+1) cs 43
theorem Cpx.bw {w X X':qw}(h:Cpx w X ax cs)(hb:qY X X'):Cpx w X' ax cs:=⟨h.b.trans (hb.mono h.b.size),h.ka.bw hb,h.kr.bw hb,h.kg.bw hb⟩
theorem Cpx.set {w X:qw}(h:Cpx w X ax cs)(i:Nat)(v:Value):Cpx w (X.setCell ⟨(w.heap.size+1+1),i,none⟩ v) ax (cs.setIfInBounds i v)/\TMx X (X.setCell ⟨(w.heap.size+1+1),i,none⟩ v):=⟨⟨aG h.b (aC X _ i v) (fun k hk=>by omega) h.b.size,h.ka.other _ _ (by dsimp only;omega),h.kr.other _ _ (by dsimp only;omega),h.kg.set i v⟩,dS h.kg (aC X _ i v)⟩
theorem aNh {W:qw}{q:Nat}(k1:Blk W q z15 43)(v0 v1 v2 v3 v4 v5 v6 v7 v8 v9 v10 v11 v12 v13 v14:Value)(Q:Ending->World->Prop)(tmps:Array Value)(h2:tmps[2]?=some (.pointer (qP q)))(hQ:Q (.returned (.agg #[v0,v1,v2,v3,v4,v5,v6,v7,v8,v9,v10,v11,v12,v13,v14])) (dP W q v0 v1 v2 v3 v4 v5 v6 v7 v8 v9 v10 v11 v12 v13 v14)):
 bodyPost prog f40 Q Exit.ret ⟨tmps,[]⟩ (dP W q v0 v1 v2 v3 v4 v5 v6 v7 v8 v9 v10 v11 v12 v13 v14):=by
 obtain ⟨t0,t1,t2,t3,t4,t5,t6,t7,t8,t9,t10,t11,t12,t13,t14⟩:=(gI k1 v0 v1 v2 v3 v4 v5 v6 v7 v8 v9 v10 v11 v12 v13 v14).mc;refine bodyPost_ret_by (v:=.agg #[v0,v1,v2,v3,v4,v5,v6,v7,v8,v9,v10,v11,v12,v13,v14]) ?_ rfl hQ;simp [results,results40,go_sem,h2,t0,t1,t2,t3,t4,t5,t6,t7,t8,t9,t10,t11,t12,t13,t14]
theorem aCi {w W0 X w4:qw}{b base:Nat}{v:Value}{β:Nat->Nat}(O:OMp W0 base v L β)(hb:b<=base)(B:Below b w W0)(hs:b<=W0.heap.size)(B1:qY W0 X)(hgr:X.grownBy w4 v.ownBlock):Below b w w4:=
 aG (B.trans (B1.mono hs)) (S:=fun q=>v.ownBlock=some q) ⟨hgr.os,hgr.tape,hgr.output,hgr.size,fun q hq hs=>hgr.block q hq (fun e=>hs e.symm)⟩ (fun q hq=>xM hb (O.o.lt q hq).1) (xM hs B1.size)
def CpP (w:qw)(C:Cn)(e:Ending)(w':qw):Prop:=qY w w'/\∃ N base mid L β,e=.returned (mnV N)/\MxO w' base mid C N L β/\w.heap.size<=base/\mid<=w'.heap.size
theorem aLg {w XX X1 X2 X3 X4 X5:qw}{q1 q2 q3 q4:Nat}{a0 ak af ar ao al ah:qO}{c0 ck cf cr co cl ch:Nat}{L':List (PMod×Mb)}{β':Nat->Nat}(hb:qY w XX)(O1:OMp X1 b1 (qS a0 M.mn c0) L' β')(e1:L'.map (fun x=>x.1)=aD M.ms)(hb1:w.heap.size<=b1)(T1:TMx X1 XX)
 (O2:OI X2 q1 (qS ak M.kn ck) M.kz) (T2:TMx X2 XX) (h1:X1.heap.size<=q1) (O3:gL X3 q2 (qS af M.fn cf) (qS ar M.rn cr) (qS ao M.on co) M.fz M.rz M.oz) (T3:TMx X3 XX) (h2:q1<=q2) (O4:OG 142 4 bS X4 q3 (qS al M.ln cl) M.lz) (T4:TMx X4 XX) (h3:q1<=q3) (O5:OG 135 4 cP X5 q4 (qS ah M.hn ch) M.hz) (T5:TMx X5 XX) (h4:q1<=q4) (hq:q1<=XX.heap.size):
 CpP w M.cn (.returned (.agg (qX M a0 M.mn c0 ak M.kn ck af M.fn cf ar M.rn cr ao M.on co al M.ln cl ah M.hn ch))) XX:=by
 refine ⟨hb,⟨a0,M.mn,c0,L'.map mdP,M.cs,M.cw,M.ck,M.cd,M.pc,ak,M.kn,ck,M.kz,af,M.fn,cf,M.fz,ar,M.rn,cr,M.rz,ao,M.on,co,M.oz,M.md,M.bk,al,M.ln,cl,M.lz,ah,M.hn,ch,M.hz,M.tn⟩,b1,q1,L',β',rfl,⟨O1.tm T1,e1,O2.tm T2,aHz (aGc O3 T3) h2,(O4.kept T4 (jN O4 (by decide))).mono h3,(O5.kept T5 (jN O5 (by decide))).mono h4,?_,?_,⟨rfl,rfl,rfl,rfl,rfl,rfl,rfl,rfl⟩,⟨rfl,rfl,rfl,rfl,rfl,rfl,rfl⟩⟩,hb1,hq⟩
 .have:=O1.lo;have:=O1.mono 0 L'.length (xC _) aN;have:=O1.hi;omega
 .exact xM O1.hi h1
theorem fO (M:Mn)(g b1 o1 b2 o2 b3 o3 b4 o4:Nat)(Ls:List (PMod×Mb))(w:qw)(H:MnS w M g b1 o1 b2 o2 b3 o3 b4 o4 Ls):qC 40 #[.agg (qA M)] w (CpP w M.cn):=by
 obtain ⟨iM,hiM,hiM0,hiM1,hiM2⟩:=info_parts aKx;obtain ⟨⟨ea,ek,ef,er,eo⟩,hm,hln,hle,hk,hf,hr,ho,hl,hh,zm,zk,zq,zl,zh⟩:=H;try unfold qA at *
 try unfold qL at *
 rw [ea] at hm ⊢;rw [ek] at hk ⊢;rw [ef] at hf ⊢;rw [er] at hr ⊢;rw [eo] at ho ⊢;obtain ⟨w1,hw1⟩:=eqx (((w.alloc (.cells (qX M (qP g) M.mn M.mc (some ⟨b1,o1,none⟩) M.kn M.kc (some ⟨b2,o2,none⟩) M.fn M.fc (some ⟨b3,o3,none⟩) M.rn M.rc (some ⟨b4,o4,none⟩) M.on M.oc M.la M.ln M.lc M.ha M.hn M.hc) 43)).alloc (.cells qZ 43)).alloc (.cells (qX M none 0 0 (some ⟨b1,o1,none⟩) M.kn M.kc (some ⟨b2,o2,none⟩) M.fn M.fc (some ⟨b3,o3,none⟩) M.rn M.rc (some ⟨b4,o4,none⟩) M.on M.oc M.la M.ln M.lc M.ha M.hn M.hc) 43));have B1:qY w w1:=by rw [hw1];exact ((brf.alloc aN _).alloc (by simp) _).alloc (by simp;omega) _
 have K1:Cpx w w1 (qX M (qP g) M.mn M.mc (some ⟨b1,o1,none⟩) M.kn M.kc (some ⟨b2,o2,none⟩) M.fn M.fc (some ⟨b3,o3,none⟩) M.rn M.rc (some ⟨b4,o4,none⟩) M.on M.oc M.la M.ln M.lc M.ha M.hn M.hc) (qX M none 0 0 (some ⟨b1,o1,none⟩) M.kn M.kc (some ⟨b2,o2,none⟩) M.fn M.fc (some ⟨b3,o3,none⟩) M.rn M.rc (some ⟨b4,o4,none⟩) M.on M.oc M.la M.ln M.lc M.ha M.hn M.hc):=by
  refine ⟨B1,?_,?_,?_⟩
  .rw [hw1];exact ((Blk.new _ _ _).alloc _).alloc _
  .rw [hw1];have:=(Blk.new (w.alloc (.cells (qX M (qP g) M.mn M.mc (some ⟨b1,o1,none⟩) M.kn M.kc (some ⟨b2,o2,none⟩) M.fn M.fc (some ⟨b3,o3,none⟩) M.rn M.rc (some ⟨b4,o4,none⟩) M.on M.oc M.la M.ln M.lc M.ha M.hn M.hc) 43)) z15 43).alloc (.cells (qX M none 0 0 (some ⟨b1,o1,none⟩) M.kn M.kc (some ⟨b2,o2,none⟩) M.fn M.fc (some ⟨b3,o3,none⟩) M.rn M.rc (some ⟨b4,o4,none⟩) M.on M.oc M.la M.ln M.lc M.ha M.hn M.hc) 43);simpa [z15] using this
  .rw [hw1];have:=Blk.new ((w.alloc (.cells (qX M (qP g) M.mn M.mc (some ⟨b1,o1,none⟩) M.kn M.kc (some ⟨b2,o2,none⟩) M.fn M.fc (some ⟨b3,o3,none⟩) M.rn M.rc (some ⟨b4,o4,none⟩) M.on M.oc M.la M.ln M.lc M.ha M.hn M.hc) 43)).alloc (.cells qZ 43)) (qX M none 0 0 (some ⟨b1,o1,none⟩) M.kn M.kc (some ⟨b2,o2,none⟩) M.fn M.fc (some ⟨b3,o3,none⟩) M.rn M.rc (some ⟨b4,o4,none⟩) M.on M.oc M.la M.ln M.lc M.ha M.hn M.hc) 43;simpa using this
 have hz1:w1.heap.size=w.heap.size+1+1+1:=by rw [hw1];simp
 have S0:=aMo w1 w1.heap.size aN;have HSR:=aO (fun (X:qw) (hX:qY w X)=>hm.bw hX);have HKF:=aO (fun (X:qw) (hX:qY w X)=>aBh M.pc b1 o1 M.kn M.kc M.kz X (hk.bw hX) zk);have HMF:=aO (fun (X:qw) (hX:qY w X)=>aDk b2 o2 b3 o3 b4 o4 M.fn M.fc M.rn M.rc M.on M.oc M.fz M.rz M.oz X (hf.bw hX) (hr.bw hX) (ho.bw hX) zq);have HLF:=aO (fun (X:qw) (hX:qY w X)=>aFo M.la M.ln M.lc M.lz X (hl.bw hX) zl);have HHF:=aO (fun (X:qw) (hX:qY w X)=>aFp M.ha M.hn M.hc M.hz X (hh.bw hX) zh);have HLE:=aO (xA hln hle);have HZ1:=aO hz1;have x0:=K1.ka.cell 0;have HK1:=aO (xA K1 S0);have HW1:=aO hw1;obtain ⟨B,hB⟩:=eqx (w1.heap.size);rw [<- hB] at HK1;have HBB:=aO (show w.heap.size+1+1<B by omega);clear hw1 B1 K1 S0 hm hk hf hr ho hl hh zk zq zl zh hln hle ea ek ef er eo hz1 hB;go_enter func40,ntmps40
 go_wp2_with (rw [<- HW1.out])
 go_loopw [11] (fun i wr=>∃ (j:Nat) (a0:qO) (c0:Nat) (L':List (PMod×Mb)) (β':Nat->Nat),j<=M.mn/\i=qI j/\OMp wr B (qS a0 j c0) L' β'/\L'.map (fun x=>x.1)=(Ls.take j).map (fun x=>x.1)/\Cpx w wr (qX M (qP g) M.mn M.mc (some ⟨b1,o1,none⟩) M.kn M.kc (some ⟨b2,o2,none⟩) M.fn M.fc (some ⟨b3,o3,none⟩) M.rn M.rc (some ⟨b4,o4,none⟩) M.on M.oc M.la M.ln M.lc M.ha M.hn M.hc) (qX M a0 j c0 (some ⟨b1,o1,none⟩) M.kn M.kc (some ⟨b2,o2,none⟩) M.fn M.fc (some ⟨b3,o3,none⟩) M.rn M.rc (some ⟨b4,o4,none⟩) M.on M.oc M.la M.ln M.lc M.ha M.hn M.hc)) (fun i _=>M.mn-(intOf i).toNat)
 case atStart=>exact ⟨0,none,0,[],_,xC _,rfl,HK1.out.2,by simp,HK1.out.1⟩
 case round=>
  obtain ⟨j,a0,c0,L',β',hj,rfl,O,hL,K⟩:=hrel;have hl':L'.length=j:=by have h1:=congrArg List.length hL;have h2:=HLE.out.1;simp at h1;omega
  clear x0 HK1 HW1;by_cases hlt:j<M.mn
  .have hlt':(j:Int)<(M.mn:Int):=by omega
   have hj0:(0:Int)<=(j:Int):=by omega
   obtain ⟨⟨P,⟨b1,d1,b2,d2,bq,b3,d3,b5,d5,b6,d6,b7,d7⟩⟩,hx⟩:∃ x,Ls[j]?=some x:=⟨Ls[j]'(by have:=HLE.out.1;omega),xN _⟩;obtain ⟨⟨s0,s1,s2,s3,s4,s5,s6,s7⟩,ms,R⟩:=(HSR.out wr K.b).srcM hx;obtain ⟨W1,hW1,b1',km⟩:=nwb wr (qM P.nm b1 P.tz.length d1 b2 bq.length d2 b3 P.dz.length d3 P.bss b5 P.rz.length d5 b6 P.ss.length d6 b7 P.es.length d7) 138;obtain ⟨q0,q1,q2,q3,q4,q5,q6,q7⟩:=Blk.eight' km;have HCM:=aO (fun (X:qw) (hX:qY W1 X)=>uN P b1 d1 b2 d2 bq b3 d3 b5 d5 b6 d6 b7 d7 X ((ms.bw b1').bw hX) R);have K1:=K.bw b1';have O1:=O.bw b1';have p1:=K1.kg.cell 0;simp only [Array.getElem?_eq_getElem,List.getElem?_toArray,List.getElem?_cons_succ,List.getElem?_cons_zero] at p1;have HK1:=aO (xA O1 (xA K1 (xA hl' hL)));have HX:=aO (xA hx R);have HW1:=aO hW1;have hsB:B<=W1.heap.size:=by have:=O1.lo;have:=O1.hi;have:=O1.mono 0 L'.length (xC _) aN;omega
   clear ms R O K hW1 b1' km K1 O1 hL hx;go_wp2_with (rw [<- HW1.out])
   clear s0 s1 s2 s3 s4 s5 s6 s7
   go_region_law
    (first
      | (go_simp;go_at_call 94;first|refine (HCM.out _ brf).mono ?_|refine (HCM.out _ brf.drew).mono ?_
         rintro e w6 ⟨x,rfl,M6,hb6⟩;replace hb6:qY W1 w6:=(by first|exact hb6|exact dG hb6)
         have p1':w6.cell? ⟨(w.heap.size+1+1),0,none⟩=some (qS a0 j c0):=(HK1.out.2.1.bw hb6).kg.cell 0;have p1a:(w6.alloc (.cells (qM P.nm x.a1 P.tz.length x.c1 x.a2 x.bl.length x.c2 x.a3 P.dz.length x.c3 P.bss x.a5 P.rz.length x.c5 x.a6 P.ss.length x.c6 x.a7 P.es.length x.c7) 138)).cell? ⟨(w.heap.size+1+1),0,none⟩=some (qS a0 j c0):=((HK1.out.2.1.bw hb6).kg.alloc _).cell 0;have bA:qY w6 (w6.alloc (.cells (qM P.nm x.a1 P.tz.length x.c1 x.a2 x.bl.length x.c2 x.a3 P.dz.length x.c3 P.bss x.a5 P.rz.length x.c5 x.a6 P.ss.length x.c6 x.a7 P.es.length x.c7) 138)):=brf.alloc aN _;have HOW6:=aO (aGb hl' (HK1.out.1.bw (hb6.trans (bA.mono hb6.size))).o);have HNW6:=aO (bT w6 (qM P.nm x.a1 P.tz.length x.c1 x.a2 x.bl.length x.c2 x.a3 P.dz.length x.c3 P.bss x.a5 P.rz.length x.c5 x.a6 P.ss.length x.c6 x.a7 P.es.length x.c7) 138 (clB (P,x)) rfl);have hs6:B<=(w6.alloc (.cells (qM P.nm x.a1 P.tz.length x.c1 x.a2 x.bl.length x.c2 x.a3 P.dz.length x.c3 P.bss x.a5 P.rz.length x.c5 x.a6 P.ss.length x.c6 x.a7 P.es.length x.c7) 138)).heap.size:=xM hsB (xM hb6.size bA.size);have HPU:=aO (fun (v':Value) (w4:qw) hown (hgr:World.grownBy _ w4 _)=>xA (HK1.out.1.push (x:=(P,x)) (v':=v') (w4:=w4) hl' hb6 M6 HX.out.2 bA hown hgr) (xA (aCi HK1.out.1 (by have:=HBB.out;omega) HK1.out.2.1.b HK1.out.2.1.b.size (hb6.trans (bA.mono hb6.size)) hgr) (show TMx W1 w4\/True from .inr trivial)));have HKK:=aO (fun (w4:qw) (hgr:World.grownBy _ w4 _)=>xA (cK hgr ((HK1.out.2.1.bw hb6).ka.alloc (.cells (qM P.nm x.a1 P.tz.length x.c1 x.a2 x.bl.length x.c2 x.a3 P.dz.length x.c3 P.bss x.a5 P.rz.length x.c5 x.a6 P.ss.length x.c6 x.a7 P.es.length x.c7) 138)) (fun e=>by obtain ⟨c,kk⟩:=aE HOW6.out e.symm;exact absurd (aI kk ((HK1.out.2.1.bw hb6).ka.alloc (.cells (qM P.nm x.a1 P.tz.length x.c1 x.a2 x.bl.length x.c2 x.a3 P.dz.length x.c3 P.bss x.a5 P.rz.length x.c5 x.a6 P.ss.length x.c6 x.a7 P.es.length x.c7) 138))) (by decide))) (xA (cK hgr ((HK1.out.2.1.bw hb6).kr.alloc (.cells (qM P.nm x.a1 P.tz.length x.c1 x.a2 x.bl.length x.c2 x.a3 P.dz.length x.c3 P.bss x.a5 P.rz.length x.c5 x.a6 P.ss.length x.c6 x.a7 P.es.length x.c7) 138)) (fun e=>by obtain ⟨c,kk⟩:=aE HOW6.out e.symm;exact absurd (aI kk ((HK1.out.2.1.bw hb6).kr.alloc (.cells (qM P.nm x.a1 P.tz.length x.c1 x.a2 x.bl.length x.c2 x.a3 P.dz.length x.c3 P.bss x.a5 P.rz.length x.c5 x.a6 P.ss.length x.c6 x.a7 P.es.length x.c7) 138))) (by decide))) (cK hgr ((HK1.out.2.1.bw hb6).kg.alloc (.cells (qM P.nm x.a1 P.tz.length x.c1 x.a2 x.bl.length x.c2 x.a3 P.dz.length x.c3 P.bss x.a5 P.rz.length x.c5 x.a6 P.ss.length x.c6 x.a7 P.es.length x.c7) 138)) (fun e=>by obtain ⟨c,kk⟩:=aE HOW6.out e.symm;exact absurd (aI kk ((HK1.out.2.1.bw hb6).kg.alloc (.cells (qM P.nm x.a1 P.tz.length x.c1 x.a2 x.bl.length x.c2 x.a3 P.dz.length x.c3 P.bss x.a5 P.rz.length x.c5 x.a6 P.ss.length x.c6 x.a7 P.es.length x.c7) 138))) (by decide)))));clear M6 hb6 bA)
      | (refine step_append_lies _ (by rfl) _ _ 36 (by rfl) B 138 iM _ 8 _ underlying36 hiM hiM0 hiM1 hiM2 rfl (by decide) (qS a0 j c0) j (L'.flatMap clB) (by rfl) HOW6.out ⟨w6.heap.size,0,none⟩ 1 1 (clB (P,x)) (by rfl) (by rfl) HNW6.out (by intro u hu;simp [clB,clH,hdP] at hu;rcases hu with rfl|rfl|rfl|rfl|rfl|rfl|rfl|rfl<;>rfl) (by decide) (by unfold maxLen;omega) (by omega) hs6 _ rfl ?_;intro g4 c4 w4 hown hgr _ _;have HPX:=aO (xA (HPU.out _ w4 hown hgr) (HKK.out w4 hgr));have p14:w4.cell? ⟨(w.heap.size+1+1),0,none⟩=some (qS a0 j c0):=HPX.out.2.2.2.cell 0;have f4:=HPX.out.2.2.2.frozen 0;clear hown hgr))
   all_goals
    clear q0 q1 q2 q3 q4 q5 q6 q7 p1 p1' p1a p14 f4 HOW6 HNW6 HPU HKK hs6;go_wp2
    go_roundw
    case rel=>
     obtain ⟨⟨PO,bw,_⟩,ka,kr,kg⟩:=HPX.out;have KX:Cpx w w4 _ _:=⟨bw,ka,kr,kg⟩;obtain ⟨KY,TY⟩:=KX.set 0 (qS (qP g4) (j+1) c4);exact ⟨j+1,some ⟨g4,0,none⟩,c4,_,_,by omega,by go_num,PO.tm TY,by rw [List.map_append,HK1.out.2.2.2,lC HX.out.1];rfl,KY⟩
    case measure=>simp [intOf];omega
  .have hlt':¬ (j:Int)<(M.mn:Int):=by omega
   obtain rfl:j=M.mn:=by omega
   rw [<- HLE.out.1,List.take_length,HLE.out.2] at hL;have x5:=K.ka.cell 5;have x6:=K.ka.cell 6;have HKC:=aO (HKF.out wr K.b);have HO:=aO (xA O (xA hL K));clear O hL K;go_wp2_with fail
   refine HKC.out.mono ?_;rintro e w2 ⟨ak,ck,rfl,O2,hb2⟩;obtain ⟨O,hL,K⟩:=HO.out;have K2:=K.bw hb2;obtain ⟨K3,T3⟩:=(K2.set 5 (qI M.pc)).1.set 6 (qS ak M.kn ck);have T2:=(K2.set 5 (qI M.pc)).2;simp only [yA,yB,yC] at K3;have y5:=K2.kg.cell 5;have y6:=K2.kg.cell 6;have yf:=K2.kg.frozen;obtain ⟨X3,hX3⟩:=eqx ((w2.setCell ⟨(w.heap.size+1+1),5,none⟩ (qI M.pc)).setCell ⟨(w.heap.size+1+1),6,none⟩ (qS ak M.kn ck));rw [<- hX3] at K3 T3;have HT3:=aO (xA (T2.trans T3) (xA K3 (xA O2 (cR hb2))));have x7:=K3.ka.cell 7;have x8:=K3.ka.cell 8;have x9:=K3.ka.cell 9;have HMC:=aO (HMF.out X3 K3.b);have HX3:=aO hX3;clear x5 x6 O hL K K2 K3 T3 T2 hX3 O2 hb2 HKC;go_wp2_with (rw [<- HX3.out])
   refine HMC.out.mono ?_;rintro e w4 ⟨af,cf,ar,cr,ao,co,rfl,O4,hb4⟩;have K4:=HT3.out.2.1.bw hb4;obtain ⟨K5,T5⟩:=((K4.set 7 (qS af M.fn cf)).1.set 8 (qS ar M.rn cr)).1.set 9 (qS ao M.on co);have T4:=(K4.set 7 (qS af M.fn cf)).2.trans ((K4.set 7 (qS af M.fn cf)).1.set 8 (qS ar M.rn cr)).2;simp only [yA,yB,yC] at K5;have y7:=K4.kg.cell 7;have y8:=K4.kg.cell 8;have y9:=K4.kg.cell 9;have yf4:=K4.kg.frozen;obtain ⟨X5,hX5⟩:=eqx (((w4.setCell ⟨(w.heap.size+1+1),7,none⟩ (qS af M.fn cf)).setCell ⟨(w.heap.size+1+1),8,none⟩ (qS ar M.rn cr)).setCell ⟨(w.heap.size+1+1),9,none⟩ (qS ao M.on co));rw [<- hX5] at K5 T5;have HT5:=aO (xA (T4.trans T5) (xA K5 (xA O4 (cR hb4))));have x12:=K5.ka.cell 12;have HLC:=aO (HLF.out X5 K5.b);have HX5:=aO hX5;clear x7 x8 x9 y5 y6 yf K4 K5 T4 T5 hX5 O4 hb4 HMC HX3;go_wp2_with (rw [<- HX5.out])
   refine HLC.out.mono ?_;rintro e w6 ⟨al,cl,rfl,O6,hb6⟩;have K6:=HT5.out.2.1.bw hb6;obtain ⟨K7,T7⟩:=K6.set 12 (qS al M.ln cl);simp only [yA,yB,yC] at K7;have y12:=K6.kg.cell 12;have yf6:=K6.kg.frozen;obtain ⟨X7,hX7⟩:=eqx (w6.setCell ⟨(w.heap.size+1+1),12,none⟩ (qS al M.ln cl));rw [<- hX7] at K7 T7;have HT7:=aO (xA T7 (xA K7 (xA O6 (cR hb6))));have x13:=K7.ka.cell 13;have HHC:=aO (HHF.out X7 K7.b);have HX7:=aO hX7;clear x12 y7 y8 y9 yf4 K6 K7 T7 hX7 O6 hb6 HLC HX5;go_wp2_with (rw [<- HX7.out])
   refine HHC.out.mono ?_;rintro e w8 ⟨ah,ch,rfl,O8,hb8⟩;have K8:=HT7.out.2.1.bw hb8;obtain ⟨K9,T9⟩:=K8.set 13 (qS ah M.hn ch);simp only [yA,yB,yC] at K9;have y13:=K8.kg.cell 13;have yf8:=K8.kg.frozen;obtain ⟨X9,hX9⟩:=eqx (w8.setCell ⟨(w.heap.size+1+1),13,none⟩ (qS ah M.hn ch));rw [<- hX9] at K9 T9;obtain ⟨u0,u1,u2,u3,u4,u5,u6,u7,u8,u9,u10,u11,u12,u13,u14⟩:=K9.kg.mc;have KZ:=K9.kr;unfold z15 at KZ;obtain ⟨r0,r1,r2,r3,r4,r5,r6,r7,r8,r9,r10,r11,r12,r13,r14⟩:=KZ.mc;have rf:=KZ.frozen
   have HE:=aO (show CpP w M.cn (.returned (.agg (qX M a0 M.mn c0 ak M.kn ck af M.fn cf ar M.rn cr ao M.on co al M.ln cl ah M.hn ch))) (dP X9 (w.heap.size+1) (qS a0 M.mn c0) (qI M.cs) (qI M.cw) (qI M.ck) (qI M.cd) (qI M.pc) (qS ak M.kn ck) (qS af M.fn cf) (qS ar M.rn cr) (qS ao M.on co) (qI M.md) (qI M.bk) (qS al M.ln cl) (qS ah M.hn ch) (qI M.tn)) from by
    have TE:=dS K9.kr (aS X9 (w.heap.size+1) (qS a0 M.mn c0) (qI M.cs) (qI M.cw) (qI M.ck) (qI M.cd) (qI M.pc) (qS ak M.kn ck) (qS af M.fn cf) (qS ar M.rn cr) (qS ao M.on co) (qI M.md) (qI M.bk) (qS al M.ln cl) (qS ah M.hn ch) (qI M.tn));have U9:=T9.trans TE;have U7:=(HT7.out.1.trans (cR hb8)).trans U9;have U5:=(HT5.out.1.trans HT7.out.2.2.2).trans U7;have U3:=(HT3.out.1.trans HT5.out.2.2.2).trans U5;have U1:=HT3.out.2.2.2.trans U3
    exact aLg (aG K9.b (aS _ _ _ _ _ _ _ _ _ _ _ _ _ _ _ _ _ ) (fun j hj=>by omega) K9.b.size) HO.out.1 HO.out.2.1 (by have:=HBB.out;omega) U1 HT3.out.2.2.1 U3 aN HT5.out.2.2.1 U5 (by have h1:=HT3.out.1.size;have h2:=HT3.out.2.2.2.size;omega) HT7.out.2.2.1 U7 (by have h1:=HT3.out.1.size;have h2:=HT3.out.2.2.2.size;have h3:=HT5.out.1.size;have h4:=HT5.out.2.2.2.size;omega) O8 U9 (by have h1:=HT3.out.1.size;have h2:=HT3.out.2.2.2.size;have h3:=HT5.out.1.size;have h4:=HT5.out.2.2.2.size;have h5:=HT7.out.1.size;have h6:=HT7.out.2.2.2.size;omega) U1.size)
   have HKR:=aO K9.kr;have HX9:=aO hX9;clear x13 y12 yf6 K8 K9 T9 hX9 O8 hb8 HHC HX7 KZ;go_wp2_with (rw [<- HX9.out])
   exact aNh HKR.out _ _ _ _ _ _ _ _ _ _ _ _ _ _ _ _ _ rfl HE.out
theorem aQg {xs:List SlT}{i:Nat}(h:(xs.getD i zSl).1=false):aln xs i:=fun k _ q=>by have:=q.1;rw [h] at this;cases this
theorem aAz (M:Mn)(i:Nat)(w:qw)(h:MnD w M)(hi:i<M.ln):
 qC 147 #[.agg #[qS M.ma M.mn M.mc,qI M.cs,qI M.cw,qI M.ck,qI M.cd,qI M.pc,qS M.ka M.kn M.kc,qS M.fa M.fn M.fc,qS M.ra M.rn M.rc,qS M.oa M.on M.oc,qI M.md,qI M.bk,qS M.la M.ln M.lc,qS M.ha M.hn M.hc,qI M.tn],qI i] w (Yn (slk (aD M.ms) M.tn (M.lz.getD i zSl)/\aln M.lz i) w):=by
 have hl:=h.l.1;have hmx:=h.l.2.1;unfold maxLen at hmx;have hi':(i:Int)<(M.ln:Int):=by omega
 obtain ⟨U,hU,bU,kU⟩:=nwb w #[qS M.ma M.mn M.mc,qI M.cs,qI M.cw,qI M.ck,qI M.cd,qI M.pc,qS M.ka M.kn M.kc,qS M.fa M.fn M.fc,qS M.ra M.rn M.rc,qS M.oa M.on M.oc,qI M.md,qI M.bk,qS M.la M.ln M.lc,qS M.ha M.hn M.hc,qI M.tn] 43;have HLU:=zh (h.l.bw bU);have HMU:=zh (h.m.bw bU);have HPQ:=zh (dW h.m);have HNO0:=zh (fun (k:Nat) (hk:k<i) (q:cmn (M.lz.getD i zSl) (M.lz.getD k zSl))=>aLr hk q);have HST0:=zh (fun (k:Nat) (hF:∀ j,j<k->¬ cmn (M.lz.getD i zSl) (M.lz.getD j zSl)) (q:¬ cmn (M.lz.getD i zSl) (M.lz.getD k zSl))=>aLq hF q);have HYES:Zh ((∀ j,j<i->¬ cmn (M.lz.getD i zSl) (M.lz.getD j zSl))->aln M.lz i):=fun q=>q;have HAF:=zh (fun q=>aQg (xs:=M.lz) (i:=i) q);clear h;generalize M.la=la at *;obtain ⟨g,f,rfl,q0,q1,q2,q3⟩:=HLU.o.at i hi _ _ _ _ rfl;generalize M.lz.getD i zSl=x at *;obtain ⟨x0,x1,x2,x3⟩:=x;dsimp only at q0 q1 q2 q3;obtain ⟨V,hV,bV,kV⟩:=nwb U #[.bool x0,qI x1,qI x2,qI x3] 142;have BV:=bU.trans (bV.mono bU.size);have kU':=kU.bw bV;have y12:=kU.e12;have HTH:=zh (gS M.ma M.mn M.mc M.ms x1 x2 V (HMU.o.s.bw bV));rw [HPQ.o x1 x2] at HTH
 have HC:=zh (fun (X:qw) (hX:qY V X)=>show (X.cell? (qR w.heap.size 0)=some (qS M.ma M.mn M.mc)/\X.cell? (qR w.heap.size 12)=some (qS (some (qR g f)) M.ln M.lc)/\X.cell? (qR w.heap.size 14)=some (qI M.tn))/\X.cell? (qR U.heap.size 0)=some (.bool x0)/\X.cell? (qR U.heap.size 1)=some (qI x1)/\X.cell? (qR U.heap.size 2)=some (qI x2)/\X.cell? (qR U.heap.size 3)=some (qI x3) from
  ⟨⟨(kU'.bw hX).cell 0,(kU'.bw hX).cell 12,(kU'.bw hX).cell 14⟩,(kV.bw hX).cell 0,(kV.bw hX).cell 1,(kV.bw hX).cell 2,(kV.bw hX).cell 3⟩)
 have HLV:=zh (HLU.o.bw bV);have HBB:=zh BV;have HU:=zh hU;have HV:=zh hV;clear hU hV bU bV kU kU' kV BV HLU HMU HPQ;obtain ⟨⟨p0,p12,p14⟩,s0,s1,s2,s3⟩:=HC.o V brf;cases x0 with
 | false=>
   have HAL:=zh (HAF.o rfl);rw [aNv];clear HTH HC HNO0 HST0 HYES HAF HLV p0 p12 p14;by_cases e1:x1=0
   .by_cases e2:x2=0
    .by_cases e3:x3=0
     .subst e1 e2 e3;go_enter func147,ntmps147
      go_wp2_with (rw [<- HU.o])
      go_ret;exact pN ⟨rfl,HAL.o⟩ (by have:=HBB.o;rw [HV.o] at this;exact this)
     .have e3':(x3==0)=false:=by simp [e3]
      have HX:Zh (¬ (false,x1,x2,x3)=zSl):=fun q=>e3 (by unfold zSl at q;simp at q;exact q.2.2);subst e1 e2;clear e3;go_enter func147,ntmps147
      go_wp2_with (first|rw [<- HU.o]|rw [<- HV.o])
      go_ret;exact cU (fun q=>HX.o q.1) HBB.o
    .have e2':(x2==0)=false:=by simp [e2]
     have HX:Zh (¬ (false,x1,x2,x3)=zSl):=fun q=>e2 (by unfold zSl at q;simp at q;exact q.2.1);subst e1;clear e2;go_enter func147,ntmps147
     go_wp2_with (first|rw [<- HU.o]|rw [<- HV.o])
     go_ret;exact cU (fun q=>HX.o q.1) HBB.o
   .have e1':(x1==0)=false:=by simp [e1]
    have HX:Zh (¬ (false,x1,x2,x3)=zSl):=fun q=>e1 (by unfold zSl at q;simp at q;exact q.1);clear e1;go_enter func147,ntmps147
    go_wp2_with (first|rw [<- HU.o]|rw [<- HV.o])
    go_ret;exact cU (fun q=>HX.o q.1) HBB.o
 | true=>
   rw [aF4];clear HAF;by_cases c2:0<=pcq (aD M.ms) x1 x2
   .have HC2:=zh c2;rw [xR c2] at HTH;clear c2;go_enter func147,ntmps147
    go_wp2_with (first|rw [<- HU.o]|rw [<- HV.o])
    refine HTH.o.mono ?_;rintro e X1 ⟨rfl,hb1⟩;have HX1:=zh hb1;have HB1:=zh (HBB.o.trans (hb1.mono HBB.o.size));clear p0 p12 p14 s0 s1 s2 s3 q0 q1 q2 q3 y12;obtain ⟨⟨p0,p12,p14⟩,s0,s1,s2,s3⟩:=HC.o X1 hb1;clear hb1 HTH HU HV;by_cases c3:x2<0
    .go_wp2;go_ret;exact cU (fun q=>by have:=q.1.1;omega) HB1.o
    by_cases c4:x3<1
    .go_wp2;go_ret;exact cU (fun q=>by have:=q.1.2.2.1;omega) HB1.o
    by_cases c5:M.tn<x3
    .go_wp2;go_ret;exact cU (fun q=>by have:=q.1.2.2.2;omega) HB1.o
    have HSK:Zh (0<=x2/\0<=pcq (aD M.ms) x1 x2/\1<=x3/\x3<=M.tn):=⟨by omega,HC2.o,by omega,by omega⟩;go_wp2;clear p0 p12 p14 s0 s1 s2 s3;go_loopw [6] (fun j wr=>∃ k:Nat,k<=i/\j=qI k/\(∀ j,j<k->¬ cmn (true,x1,x2,x3) (M.lz.getD j zSl))/\qY V wr) (qf i)
    .exact ⟨0,xC _,rfl,fun j hj=>absurd hj (by omega),HX1.o⟩
    .obtain ⟨k,hk,rfl,hF,hB⟩:=hrel;by_cases hlt:k<i
     .have hlt':(k:Int)<(i:Int):=by omega
      have hkn:(k:Int)<(M.ln:Int):=by omega
      obtain ⟨g',f',hg',q0,q1,q2,q3⟩:=(HLV.o.bw hB).at k (by omega) _ _ _ _ rfl;simp at hg';obtain ⟨rfl,rfl⟩:=hg';obtain ⟨⟨r0,r12,r14⟩,_⟩:=HC.o wr hB;have HNO:=zh (HNO0.o k hlt);have HST:=zh (HST0.o k hF);generalize M.lz.getD k zSl=y at *;obtain ⟨o0,o1,o2,o3⟩:=y;dsimp only at q0 q1 q2 q3;obtain ⟨W,hW,bW,kW⟩:=nwb wr #[.bool o0,qI o1,qI o2,qI o3] 142;have BW:=hB.trans (bW.mono hB.size);have HBW:=zh BW;have HW:=zh hW;obtain ⟨_,t0,t1,t2,t3⟩:=HC.o W BW;obtain ⟨p0,p1,p2,p3⟩:=kW.z4;clear hW bW kW BW hB hF HNO0 HST0 HYES HLV;cases o0 with
      | false=>
        have HN:=zh (HST.o (fun q=>by have:=q.2.1;cases this));clear HNO HST;go_wp2_with (rw [<- HW.o])
        go_roundw
        .exact ⟨k+1,by omega,by go_num,HN.o,HBW.o⟩
        .simp [qf,intOf];omega
      | true=>
        by_cases c3:o3=x3
        .subst c3;have HN:=zh (HNO.o ⟨rfl,rfl,.inl rfl⟩);clear HNO HST;go_wp2_with (rw [<- HW.o])
         go_ret;exact cU (fun q=>HN.o q.2) (HBB.o.trans (HBW.o.mono HBB.o.size))
        .have c3':(o3==x3)=false:=by simp [c3]
         by_cases c1:o1=x1
         .by_cases c2:o2=x2
          .have HN:=zh (HNO.o ⟨rfl,rfl,.inr ⟨c1,c2⟩⟩);subst c1 c2;clear HNO HST c3;go_wp2_with (rw [<- HW.o])
           go_ret;exact cU (fun q=>HN.o q.2) (HBB.o.trans (HBW.o.mono HBB.o.size))
          .have c2':(o2==x2)=false:=by simp [c2]
           have HN:=zh (HST.o (fun q=>by rcases q.2.2 with e|e;exact c3 e;exact c2 e.2));subst c1;clear HNO HST c3 c2;go_wp2_with (rw [<- HW.o])
           go_roundw
           .exact ⟨k+1,by omega,by go_num,HN.o,HBW.o⟩
           .simp [qf,intOf];omega
         .have c1':(o1==x1)=false:=by simp [c1]
          have HN:=zh (HST.o (fun q=>by rcases q.2.2 with e|e;exact c3 e;exact c1 e.1));clear HNO HST c3 c1;go_wp2_with (rw [<- HW.o])
          go_roundw
          .exact ⟨k+1,by omega,by go_num,HN.o,HBW.o⟩
          .simp [qf,intOf];omega
     .have HY:=zh (HYES.o (fun j hj=>hF j (by omega)));have HB:=zh hB;clear hB hF;go_wp2;go_ret;exact pN ⟨HSK.o,HY.o⟩ (HBB.o.trans (HB.o.mono HBB.o.size))
   .have HC2:=zh c2;rw [xS c2] at HTH;clear c2;go_enter func147,ntmps147
    go_wp2_with (first|rw [<- HU.o]|rw [<- HV.o])
    refine HTH.o.mono ?_;rintro e X1 ⟨rfl,hb1⟩;have HB1:=zh (HBB.o.trans (hb1.mono HBB.o.size));clear hb1 HTH HC HU HV;go_wp2;go_ret;exact cU (fun q=>by have h1:=HC2.o;have h2:=q.1.2.1;omega) HB1.o
theorem aCz (M:Mn)(m b t:Int)(w:qw)(h:MnD w M):
 qC 59 #[.agg #[qS M.ma M.mn M.mc,qI M.cs,qI M.cw,qI M.ck,qI M.cd,qI M.pc,qS M.ka M.kn M.kc,qS M.fa M.fn M.fc,qS M.ra M.rn M.rc,qS M.oa M.on M.oc,qI M.md,qI M.bk,qS M.la M.ln M.lc,qS M.ha M.hn M.hc,qI M.tn],.agg #[qI m,qI b,qI t]] w fun e w'=>e=.returned (.bool (decide (tgk (aD M.ms) m b t/\M.tn<1000000000)))/\qY w w':=by
 obtain ⟨V,hV⟩:=eqx ((w.alloc (.cells #[qS M.ma M.mn M.mc,qI M.cs,qI M.cw,qI M.ck,qI M.cd,qI M.pc,qS M.ka M.kn M.kc,qS M.fa M.fn M.fc,qS M.ra M.rn M.rc,qS M.oa M.on M.oc,qI M.md,qI M.bk,qS M.la M.ln M.lc,qS M.ha M.hn M.hc,qI M.tn] 43)).alloc (.cells #[qI m,qI b,qI t] 58));have bV:qY w V:=by rw [hV];exact bal.alloc (by simp) _
 have kM:Blk V w.heap.size #[qS M.ma M.mn M.mc,qI M.cs,qI M.cw,qI M.ck,qI M.cd,qI M.pc,qS M.ka M.kn M.kc,qS M.fa M.fn M.fc,qS M.ra M.rn M.rc,qS M.oa M.on M.oc,qI M.md,qI M.bk,qS M.la M.ln M.lc,qS M.ha M.hn M.hc,qI M.tn] 43:=by rw [hV];exact (Blk.new _ _ _).alloc _
 have kT:Blk V (w.heap.size+1) #[qI m,qI b,qI t] 58:=by rw [hV];have:=Blk.new (w.alloc (.cells #[qS M.ma M.mn M.mc,qI M.cs,qI M.cw,qI M.ck,qI M.cd,qI M.pc,qS M.ka M.kn M.kc,qS M.fa M.fn M.fc,qS M.ra M.rn M.rc,qS M.oa M.on M.oc,qI M.md,qI M.bk,qS M.la M.ln M.lc,qS M.ha M.hn M.hc,qI M.tn] 43)) #[qI m,qI b,qI t] 58;simpa using this
 have hm:=h.m.bw bV;have HIP:=zh (gS M.ma M.mn M.mc M.ms m b V hm.s);rw [dW hm m b] at HIP;obtain ⟨r,hr⟩:=eqx (decide (tgk (aD M.ms) m b t/\M.tn<1000000000));rw [<- hr];have HR:=zh hr;have HV:=zh hV;have HK:=zh (xA bV (xA kM kT));have hmx:=hm.s.2.1;unfold maxLen at hmx;have x0:=kM.cell 0;have x14:=kM.cell 14;have y0:=kT.cell 0;have y1:=kT.cell 1;clear hV hr;by_cases c:0<=pcq (aD M.ms) m b
 .rw [xR c] at HIP;by_cases c2:M.tn<1000000000
  .have c2':¬ M.tn ≥ 1000000000:=by omega
   obtain ⟨⟨m0,m1⟩,_⟩:=mC hm c;have m0':¬ m<0:=by omega
   have HP:=zh (fun (D:Md) (hD:M.ms.getD m.toNat aK=D) (X:qw) (hX:qY V X)=>yK hm c hD X hX);obtain ⟨gm,om,ea,v0,v1,v2,v3,v4,v5,v6,v7⟩:=hm.s.at m.toNat (by omega);obtain ⟨D,hD⟩:=eqx (M.ms.getD m.toNat aK);rw [<- hD] at v0 v1 v2 v3 v4 v5 v6 v7;have HPD:=zh (HP.o D hD.symm);have HRQ:=zh (show r=decide (0<=t/\t<=pcq (aD M.ms) m b) from by rw [HR.o];unfold tgk;simp [c,c2]);clear HR;generalize pcq (aD M.ms) m b=q at *;rw [ea] at x0 HIP HK HV ⊢
   have HC:=zh (fun (X:qw) (hX:qY V X)=>show (X.cell? (qR w.heap.size 0)=some (qS (some (qR gm om)) M.mn M.mc)/\X.cell? (qR (w.heap.size+1) 0)=some (qI m)/\X.cell? (qR (w.heap.size+1) 1)=some (qI b)/\X.cell? (qR (w.heap.size+1) 2)=some (qI t))/\X.cell? (qR gm (om+m.toNat*8))=some (.string D.nm)/\X.cell? (qR gm (om+m.toNat*8+1))=some (qS D.ta D.tn D.tc)/\X.cell? (qR gm (om+m.toNat*8+2))=some (qS D.ba D.bn D.bc)/\X.cell? (qR gm (om+m.toNat*8+3))=some (qS D.da D.dn D.dc)/\X.cell? (qR gm (om+m.toNat*8+4))=some (qI D.bss)/\X.cell? (qR gm (om+m.toNat*8+5))=some (qS D.ra D.rn D.rc)/\X.cell? (qR gm (om+m.toNat*8+6))=some (qS D.ia D.im D.ic)/\X.cell? (qR gm (om+m.toNat*8+7))=some (qS D.ea D.en D.ec) from
    ⟨⟨(HK.o.2.1.bw hX).cell 0,(kT.bw hX).cell 0,(kT.bw hX).cell 1,(kT.bw hX).cell 2⟩,aB hX v0,aB hX v1,aB hX v2,aB hX v3,aB hX v4,aB hX v5,aB hX v6,aB hX v7⟩)
   clear HP hD h hm bV kM kT c v0 v1 v2 v3 v4 v5 v6 v7 ea;go_enter func59,ntmps59
   go_wp2_with (rw [<- HV.o])
   refine HIP.o.mono ?_;rintro e X1 ⟨rfl,hb1⟩;have HX1:=zh hb1;have z14:=(HK.o.2.1.bw hb1).e14;have HP2:=zh (fun (X:qw) (hX:qY X1 X)=>(HPD.o X (HX1.o.trans (hX.mono HX1.o.size))).mono (fun e w' he=>show ∃ xa xn xc,e=.returned (.tuple #[qS xa xn xc,.bool true])/\(xn:Int)=q/\qY V w' from he));obtain ⟨⟨p0,p1,p2,p3⟩,u0,u1,u2,u3,u4,u5,u6,u7⟩:=HC.o X1 hb1;clear hb1 HIP HV HPD x0 x14 y0 y1;go_wp2_with fail
   clear z14
   go_region_held3 (fun w'=>w'.cell? (qR w.heap.size 0)=some (qS (some (qR gm om)) M.mn M.mc)/\w'.cell? (qR (w.heap.size+1) 0)=some (qI m)/\w'.cell? (qR (w.heap.size+1) 1)=some (qI b)/\w'.cell? (qR gm (om+m.toNat*8))=some (.string D.nm)/\w'.cell? (qR gm (om+m.toNat*8+1))=some (qS D.ta D.tn D.tc)/\w'.cell? (qR gm (om+m.toNat*8+2))=some (qS D.ba D.bn D.bc)/\w'.cell? (qR gm (om+m.toNat*8+3))=some (qS D.da D.dn D.dc)/\w'.cell? (qR gm (om+m.toNat*8+4))=some (qI D.bss)/\w'.cell? (qR gm (om+m.toNat*8+5))=some (qS D.ra D.rn D.rc)/\w'.cell? (qR gm (om+m.toNat*8+6))=some (qS D.ia D.im D.ic)/\w'.cell? (qR gm (om+m.toNat*8+7))=some (qS D.ea D.en D.ec)) (go_keep)
    (first
      | (go_at_call 115;first
          | with_reducible refine (HP2.o _ brf).mono ?_
          | with_reducible refine (HP2.o _ brf.drew).mono ?_
         rintro e w1 ⟨xa,xn,xc,rfl,hxn,hb1⟩;have HXN:=zh hxn;have HB1:=zh hb1;obtain ⟨⟨z0,z1,z2,z3⟩,t0,t1,t2,t3,t4,t5,t6,t7⟩:=HC.o w1 hb1
         clear hb1 hxn))
   clear p0 p1 p2 p3 u0 u1 u2 u3 u4 u5 u6 u7 t0 t1 t2 t3 t4 t5 t6 t7 HP2 HC HX1 z0 z1 z2;by_cases d1:0<=t
   .have d1':t ≥ 0:=d1;by_cases d2:t<=(xn:Int)
    .have e:=zh (show r=true from by rw [HRQ.o,<- HXN.o];simp [d1,d2]);clear HRQ HXN;go_wp2;go_ret;exact ⟨aA e.o.symm,HK.o.1.trans (HB1.o.mono HK.o.1.size)⟩
    .have e:=zh (show r=false from by rw [HRQ.o,<- HXN.o];simp [d1];omega);clear HRQ HXN;go_wp2;go_ret;exact ⟨aA e.o.symm,HK.o.1.trans (HB1.o.mono HK.o.1.size)⟩
   .have d1':¬ t ≥ 0:=d1;have e:=zh (show r=false from by rw [HRQ.o];simp;omega);clear HRQ HXN;go_wp2;go_ret;exact ⟨aA e.o.symm,HK.o.1.trans (HB1.o.mono HK.o.1.size)⟩
  .have c2':M.tn ≥ 1000000000:=by omega
   have e:=zh (show r=false from by rw [HR.o];simp [c2]);clear h hm HR bV;go_enter func59,ntmps59
   go_wp2_with (rw [<- HV.o])
   refine HIP.o.mono ?_;rintro e X1 ⟨rfl,hb1⟩;have z14:=(HK.o.2.1.bw hb1).e14;go_wp2;go_ret;exact ⟨aA e.o.symm,HK.o.1.trans (hb1.mono HK.o.1.size)⟩
 .rw [xS c] at HIP;have e:=zh (show r=false from by rw [HR.o];exact xS (fun k=>c k.1.1));clear h hm HR bV;go_enter func59,ntmps59
  go_wp2_with (rw [<- HV.o])
  refine HIP.o.mono ?_;rintro e X1 ⟨rfl,hb1⟩;go_wp2;go_ret;exact ⟨aA e.o.symm,HK.o.1.trans (hb1.mono HK.o.1.size)⟩
