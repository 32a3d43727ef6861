import Derived.Test.YtncccmeomcaabaaGreatC13
import Derived.Test.YtncccmeomcaabaaGreatC14
set_option linter.all false
set_option maxHeartbeats 16000000
namespace Go.Proofs.YtncccmeomcaabaaGreat
open Go.RowKit Classical
open Go.Proofs.Tryz
set_option maxRecDepth 100000
variable {L:List (PMod×Mb)}{M:Mn}{a:qO}{ax cs:Array Value}{b1 base cap k n q:Nat}{cd:Int}{ms:List Md}{ps:List PMod}{v:Value}{xs:List FrT}
def z8m:Array Value:=#[.string ⟨#[]⟩,qS none 0 0,qS none 0 0,qS none 0 0,qI 0,qS none 0 0,qS none 0 0,qS none 0 0]
def aJl (W:qw)(k:Nat)(v0 v1 v2 v3 v4 v5 v6 v7:Value):World:=(((((((W.setCell (qR k 0) v0).setCell (qR k 1) v1).setCell (qR k 2) v2).setCell (qR k 3) v3).setCell (qR k 4) v4).setCell (qR k 5) v5).setCell (qR k 6) v6).setCell (qR k 7) v7
theorem wY (W:qw)(k:Nat)(v0 v1 v2 v3 v4 v5 v6 v7:Value):Turn (fun j=>j=k) W (aJl W k v0 v1 v2 v3 v4 v5 v6 v7):=(((((((aC W k 0 v0).trans (aC _ k 1 v1)).trans (aC _ k 2 v2)).trans (aC _ k 3 v3)).trans (aC _ k 4 v4)).trans (aC _ k 5 v5)).trans (aC _ k 6 v6)).trans (aC _ k 7 v7)
theorem aL3 {W:qw}{t:TypeId}(h:Blk W k z8m t)(v0 v1 v2 v3 v4 v5 v6 v7:Value):Blk (aJl W k v0 v1 v2 v3 v4 v5 v6 v7) k #[v0,v1,v2,v3,v4,v5,v6,v7] t:=by
 have k:=(((((((h.set 0 v0).set 1 v1).set 2 v2).set 3 v3).set 4 v4).set 5 v5).set 6 v6).set 7 v7;have e:((((((((z8m.setIfInBounds 0 v0).setIfInBounds 1 v1).setIfInBounds 2 v2).setIfInBounds 3 v3).setIfInBounds 4 v4).setIfInBounds 5 v5).setIfInBounds 6 v6).setIfInBounds 7 v7)=#[v0,v1,v2,v3,v4,v5,v6,v7]:=by unfold z8m;simp
 rw [e] at k;exact k
theorem aP1 {W:qw}(k1:Blk W q z8m 138)(v0 v1 v2 v3 v4 v5 v6 v7:Value)(Q:Ending->World->Prop)(tmps:Array Value)(h2:tmps[2]?=some (.pointer (qP q)))(hQ:Q (.returned (.agg #[v0,v1,v2,v3,v4,v5,v6,v7])) (aJl W q v0 v1 v2 v3 v4 v5 v6 v7)):
 bodyPost prog f94 Q Exit.ret ⟨tmps,[]⟩ (aJl W q v0 v1 v2 v3 v4 v5 v6 v7):=by
 obtain ⟨t0,t1,t2,t3,t4,t5,t6,t7⟩:=Blk.eight' (aL3 k1 v0 v1 v2 v3 v4 v5 v6 v7);refine bodyPost_ret_by (v:=.agg #[v0,v1,v2,v3,v4,v5,v6,v7]) ?_ rfl hQ;simp [results,results94,go_sem,h2,t0,t1,t2,t3,t4,t5,t6,t7]
theorem Cpb.nil {W0 X:qw}{gm:Nat}{t1:qO}{e1:Nat}{tz:qi}{nm v2 v3 v4 v5 v6 v7:Value}(h:Cpm W0 X gm #[nm,qS t1 tz.length e1,v2,v3,v4,v5,v6,v7])(ht:OG 3 1 clI X W0.heap.size (qS t1 tz.length e1) tz):Cpb W0 (X.setCell (qR gm 2) (qS none 0 0)) gm X.heap.size t1 e1 tz none 0 [] nm v3 v4 v5 v6 v7:=by
 obtain ⟨c2,t2⟩:=h.set 2 (qS none 0 0);refine ⟨c2,ht.kept t2 (fun k hk e=>?_),⟨⟨rfl,.inl ⟨rfl,rfl⟩⟩,by simp,by simp⟩,fun k hk=>(ht.lt k hk).2,h.k.lt,by simp⟩;subst e;obtain ⟨c,kb⟩:=aD ht hk;exact absurd (aH kb h.k) (by decide)
def CmP (w:qw)(P:PMod)(e:Ending)(w':qw):Prop:=∃ x:Mb,e=.returned (.agg (qM P.nm x.a1 P.tz.length x.c1 x.a2 x.bl.length x.c2 x.a3 P.dz.length x.c3 P.bss x.a5 P.rz.length x.c5 x.a6 P.ss.length x.c6 x.a7 P.es.length x.c7))/\MOb w' w.heap.size (P,x)/\qY w w'
theorem ModO.setG {W:qw}{G:Nat}{x:PMod×Mb}(h:MOb W base x)(kb:Blk W G cs 138){W':qw}(t:Turn (fun j=>j=G) W W'):MOb W' base x:=ModO.keptS h t (fun ho hne k hk e=>by
 subst e;obtain ⟨c,k2⟩:=aD ho hk
 exact hne (aH k2 kb))
theorem uX (P:PMod)(b1:qO)(d1:Nat)(b2:qO)(d2:Nat)(bq:List Bk)(b3:qO)(d3:Nat)(b5:qO)(d5:Nat)(b6:qO)(d6:Nat)(b7:qO)(d7:Nat)(w:qw)(H:Msr w (P,⟨b1,d1,b2,d2,bq,b3,d3,b5,d5,b6,d6,b7,d7⟩))(R:PmG P):
 qC 94 #[.agg (qM P.nm b1 P.tz.length d1 b2 bq.length d2 b3 P.dz.length d3 P.bss b5 P.rz.length d5 b6 P.ss.length d6 b7 P.es.length d7)] w (CmP w P):=by
 obtain ⟨iB,hiB,hB0,hB1,hB2⟩:=info_parts aLe;obtain ⟨w1,hw1⟩:=eqx (((w.alloc (.cells (qM P.nm b1 P.tz.length d1 b2 bq.length d2 b3 P.dz.length d3 P.bss b5 P.rz.length d5 b6 P.ss.length d6 b7 P.es.length d7) 138)).alloc (.cells #[.string ⟨#[]⟩,qS none 0 0,qS none 0 0,qS none 0 0,qI 0,qS none 0 0,qS none 0 0,qS none 0 0] 138)).alloc (.cells (qM P.nm b1 P.tz.length d1 b2 bq.length d2 b3 P.dz.length d3 P.bss b5 P.rz.length d5 b6 P.ss.length d6 b7 P.es.length d7) 138));have B1:qY w w1:=by rw [hw1];exact (bal.alloc (by simp) _).alloc (by simp;omega) _
 have kb:Blk w1 w.heap.size (qM P.nm b1 P.tz.length d1 b2 bq.length d2 b3 P.dz.length d3 P.bss b5 P.rz.length d5 b6 P.ss.length d6 b7 P.es.length d7) 138:=by rw [hw1];exact ((Blk.new _ _ _).alloc _).alloc _
 have kr:Blk w1 (w.heap.size+1) z8m 138:=by rw [hw1];have:=(Blk.new (w.alloc (.cells (qM P.nm b1 P.tz.length d1 b2 bq.length d2 b3 P.dz.length d3 P.bss b5 P.rz.length d5 b6 P.ss.length d6 b7 P.es.length d7) 138)) z8m 138).alloc (.cells (qM P.nm b1 P.tz.length d1 b2 bq.length d2 b3 P.dz.length d3 P.bss b5 P.rz.length d5 b6 P.ss.length d6 b7 P.es.length d7) 138);simpa [z8m] using this
 have kg:Blk w1 (w.heap.size+1+1) (qM P.nm b1 P.tz.length d1 b2 bq.length d2 b3 P.dz.length d3 P.bss b5 P.rz.length d5 b6 P.ss.length d6 b7 P.es.length d7) 138:=by rw [hw1];have:=Blk.new ((w.alloc (.cells (qM P.nm b1 P.tz.length d1 b2 bq.length d2 b3 P.dz.length d3 P.bss b5 P.rz.length d5 b6 P.ss.length d6 b7 P.es.length d7) 138)).alloc (.cells #[.string ⟨#[]⟩,qS none 0 0,qS none 0 0,qS none 0 0,qI 0,qS none 0 0,qS none 0 0,qS none 0 0] 138)) (qM P.nm b1 P.tz.length d1 b2 bq.length d2 b3 P.dz.length d3 P.bss b5 P.rz.length d5 b6 P.ss.length d6 b7 P.es.length d7) 138;simpa using this
 have C1:Cpm w w1 (w.heap.size+1+1) (qM P.nm b1 P.tz.length d1 b2 bq.length d2 b3 P.dz.length d3 P.bss b5 P.rz.length d5 b6 P.ss.length d6 b7 P.es.length d7):=⟨B1,kg,by omega⟩;have HSR:=zh (fun (X:qw) (hX:qY w X)=>H.bw hX);have HW1:=zh hw1;have HRR:=zh R;have HT:=zh (mY b1 P.tz.length d1 P.tz w1 (HSR.o w1 B1).t R.t.1);have hbn:bq.length<=1048576:=by have h1:=R.b.1;rw [<- H.bls,xH] at h1;exact h1
 have x1:=kb.cell 1;have HK1:=zh (xA C1 (xA kb kr));clear hw1 B1 kb kr kg C1 H R;go_enter func94,ntmps94
 go_wp2_with (rw [<- HW1.o])
 refine HT.o.mono ?_;rintro e w2 ⟨t1,e1,rfl,O2,hb2⟩;clear x1 HT;obtain ⟨C1,kb,kr⟩:=HK1.o;have C2:=C1.bw hb2;obtain ⟨C3,t3⟩:=C2.set 1 (qS t1 P.tz.length e1);have O3:=aGl O2 C2.k (by decide) 1 (qS t1 P.tz.length e1);simp only [yA,yB,yC] at C3;have C4:=Cpb.nil C3 (OG.mono O3 C1.b.size);have y1:=C2.k.cell 1;have yf1:=C2.k.frozen 1;have y2:=C3.k.cell 2;have yf2:=C3.k.frozen 2;obtain ⟨X3,hX3⟩:=eqx ((w2.setCell ⟨(w.heap.size+1+1),1,none⟩ (qS t1 P.tz.length e1)).setCell ⟨(w.heap.size+1+1),2,none⟩ (qS none 0 0));rw [<- hX3] at C4;have kb3:Blk X3 w.heap.size (qM P.nm b1 P.tz.length d1 b2 bq.length d2 b3 P.dz.length d3 P.bss b5 P.rz.length d5 b6 P.ss.length d6 b7 P.es.length d7) 138:=by rw [hX3];exact ((kb.bw hb2).other _ _ (by dsimp only;omega)).other _ _ (by dsimp only;omega)
 have kr3:Blk X3 (w.heap.size+1) z8m 138:=by rw [hX3];exact ((kr.bw hb2).other _ _ (by dsimp only;omega)).other _ _ (by dsimp only;omega)
 obtain ⟨lo,hlo⟩:=eqx ((w2.setCell ⟨(w.heap.size+1+1),1,none⟩ (qS t1 P.tz.length e1)).heap.size);rw [<- hlo] at C4;have x2:=kb3.cell 2;have HC4:=zh (xA C4 (xA kb3 kr3));have HX3:=zh hX3;clear C1 kb kr C2 C3 t3 O2 O3 hb2 C4 hX3 kb3 kr3 hlo HK1 HW1;go_wp2_with (rw [<- HX3.o])
 go_loopw [15] (fun i wr=>∃ (k:Nat) (a2:qO) (c2:Nat) (bl:List Bk),k<=bq.length/\i=qI k/\bl.map (fun B=>B.2.2.2)=(bq.take k).map (fun B=>B.2.2.2)/\Cpb w wr (w.heap.size+1+1) lo t1 e1 P.tz a2 c2 bl (.string P.nm) (qS b3 P.dz.length d3) (qI P.bss) (qS b5 P.rz.length d5) (qS b6 P.ss.length d6) (qS b7 P.es.length d7)/\Blk wr w.heap.size (qM P.nm b1 P.tz.length d1 b2 bq.length d2 b3 P.dz.length d3 P.bss b5 P.rz.length d5 b6 P.ss.length d6 b7 P.es.length d7) 138/\Blk wr (w.heap.size+1) z8m 138) (qf bq.length)
 .exact ⟨0,_,_,[],xC _,rfl,by simp,HC4.o⟩
 .obtain ⟨k,a2,c2,bl,hk,rfl,hbl,C,kb,kr⟩:=hrel;have hbll:bl.length=k:=by have:=congrArg List.length hbl;simp at this;omega
  have hb255:bl.length<=1048576:=by omega
  clear y1 yf1 y2 yf2 x2 HC4 hbll HX3;by_cases hkl:k<bq.length
  .have hkl':(k:Int)<(bq.length:Int):=by omega
   have hk0:(0:Int)<=(k:Int):=by omega
   have ms:=HSR.o wr C.c.b;obtain ⟨gb,A,Cc,zs,eb2,hB,p3,oz⟩:=ms.b k hkl;dsimp only at eb2 hB p3 oz;subst eb2;have hzl:zs.length<=1048576:=(HRR.o.b.2 zs (by rw [<- ms.bls,List.mem_map];exact ⟨_,List.mem_of_getElem? hB,rfl⟩)).1;have p1:=C.c.k.cell 2;simp only [Array.getElem?_eq_getElem,List.getElem?_toArray,List.getElem?_cons_succ,List.getElem?_cons_zero] at p1;have HCL:=zh (fun (X:qw) (hX:qY wr X)=>mY A zs.length Cc zs X (oz.bw hX) hzl);have HC:=zh (xA C (xA kb kr));have HBB:=zh (xA hB hbl);clear ms oz C hB hbl kb kr;go_wp2_with fail
   go_region_law
    (first
      | (go_simp;go_at_call 163;first|refine (HCL.o _ brf).mono ?_|refine (HCL.o _ brf.drew).mono ?_
         rintro e w6 ⟨A6,D6,rfl,O6,hb6⟩;replace hb6:qY wr w6:=(by first|exact hb6|exact dH hb6)
         have C6:=HC.o.1.bw hb6;have p1':w6.cell? (qR (w.heap.size+1+1) 2)=some (qS a2 bl.length c2):=C6.c.k.cell 2;have p1a:(w6.alloc (.cells #[qS A6 zs.length D6] 25)).cell? (qR (w.heap.size+1+1) 2)=some (qS a2 bl.length c2):=(C6.c.k.alloc _).cell 2;have HOW6:=zh (C6.bw (brf.alloc aN (.cells #[qS A6 zs.length D6] 25))).b.head;have HNW6:=zh (bJ w6 _ 25 [qS A6 zs.length D6] rfl);have HBK:=zh (fun w4 d hown hgr=>HC.o.1.bank (w4:=w4) (d:=d) (O6.bw (brf.alloc aN (.cells #[qS A6 zs.length D6] 25))) (hb6.trans ((brf.alloc aN (.cells #[qS A6 zs.length D6] 25)).mono hb6.size)) hown hgr);have HKK:=zh (fun w4 (hgr:World.grownBy _ w4 _)=>xA (cL hgr ((HC.o.2.1.bw hb6).alloc (.cells #[qS A6 zs.length D6] 25)) (fun e=>by obtain ⟨c,kk⟩:=aD HOW6.o e.symm;exact absurd (aH kk ((HC.o.2.1.bw hb6).alloc (.cells #[qS A6 zs.length D6] 25))) (by decide))) (cL hgr ((HC.o.2.2.bw hb6).alloc (.cells #[qS A6 zs.length D6] 25)) (fun e=>by obtain ⟨c,kk⟩:=aD HOW6.o e.symm;exact absurd (aH kk ((HC.o.2.2.bw hb6).alloc (.cells #[qS A6 zs.length D6] 25))) (by decide))));have HSZ6:=zh (C6.bw (brf.alloc aN (.cells #[qS A6 zs.length D6] 25))).lh;clear O6 hb6 C6)
      | (refine step_append_lies _ (by rfl) _ _ 114 (by rfl) lo 25 iB (qS none 0 0) 1 24 underlying114 hiB hB0 hB1 hB2 rfl (by decide) (qS a2 bl.length c2) bl.length (bl.map fun B=>qS B.1 B.2.1 B.2.2.1) (by rfl) HOW6.o (qR w6.heap.size 0) 1 1 [qS A6 zs.length D6] (by rfl) (by rfl) HNW6.o (by intro u hu;simp at hu;subst hu;rfl) (by decide) (by unfold maxLen;omega) (by omega) HSZ6.o _ rfl ?_;intro g4 c4 w4 hown hgr hat hlt4;have HB4:=zh (xA (HBK.o w4 _ hown hgr) (HKK.o w4 hgr));have p14:w4.cell? (qR (w.heap.size+1+1) 2)=some (qS a2 bl.length c2):=HB4.o.1.1.k.cell 2;have f4:=HB4.o.1.1.k.frozen 2;clear hown hgr hat))
   all_goals
    clear p1 p1' p1a p14 p3 f4 HOW6 HNW6 HBK HKK HSZ6;go_wp2
    go_roundw
    .obtain ⟨a',c',ed,CF⟩:=HB4.o.1.2;exact ⟨k+1,a',c',_,by omega,by go_num,by rw [List.map_append,HBB.o.2,lP HBB.o.1];rfl,CF,HB4.o.2.1.other _ _ (by dsimp only;omega),HB4.o.2.2.other _ _ (by dsimp only;omega)⟩
    .simp [qf,intOf];omega
  .have hkl':¬ (k:Int)<(bq.length:Int):=by omega
   obtain rfl:k=bq.length:=by omega
   rw [List.take_length] at hbl;have x3:=kb.cell 3;have HCA:=zh (aF2 b3 P.dz.length d3 P.dz wr (HSR.o wr C.c.b).d HRR.o.d.1);have HC:=zh (xA C (xA kb kr));have HBB:=zh (show bl.map (fun B=>B.2.2.2)=P.bl by rw [hbl];exact (HSR.o wr C.c.b).bls);clear C hbl kb kr;go_wp2_with fail
   refine HCA.o.mono ?_;rintro e w7 ⟨a3,c3,rfl,o7,k7⟩;obtain ⟨C7,D7,P7,T7,_⟩:=HC.o.1.row (v3':=qS a3 P.dz.length c3) o7 k7 (by decide) 3 rfl;have y3:=C7.c.k.cell 3;have yf3:=C7.c.k.frozen 3;obtain ⟨X7,hX7⟩:=eqx (w7.setCell ⟨(w.heap.size+1+1),3,none⟩ (qS a3 P.dz.length c3));rw [<- hX7] at D7 P7 T7;have kb7:Blk X7 w.heap.size (qM P.nm b1 P.tz.length d1 b2 bq.length d2 b3 P.dz.length d3 P.bss b5 P.rz.length d5 b6 P.ss.length d6 b7 P.es.length d7) 138:=by rw [hX7];exact (HC.o.2.1.bw k7).other _ _ (by dsimp only;omega)
   have kr7:Blk X7 (w.heap.size+1) z8m 138:=by rw [hX7];exact (HC.o.2.2.bw k7).other _ _ (by dsimp only;omega)
   have x5:=kb7.cell 5;have HCB:=zh (mY b5 P.rz.length d5 P.rz X7 (HSR.o X7 D7.c.b).r HRR.o.r.1);have HD7:=zh (xA D7 (xA P7 (xA kb7 (xA kr7 (xM HC.o.1.c.b.size (Nat.le_refl wr.heap.size))))));have HX7:=zh hX7;clear x3 C7 D7 P7 T7 hX7 o7 k7 kb7 kr7 HCA;go_wp2_with (rw [<- HX7.o])
   refine HCB.o.mono ?_;rintro e w8 ⟨a5,c5,rfl,o8,k8⟩;obtain ⟨C8,D8,P8,T8,_⟩:=HD7.o.1.row (v5':=qS a5 P.rz.length c5) o8 k8 (by decide) 5 rfl;have HAP:=zh (HD7.o.1.apart o8);have y5:=C8.c.k.cell 5;have yf5:=C8.c.k.frozen 5;obtain ⟨X8,hX8⟩:=eqx (w8.setCell ⟨(w.heap.size+1+1),5,none⟩ (qS a5 P.rz.length c5));rw [<- hX8] at D8 P8 T8;have kb8:Blk X8 w.heap.size (qM P.nm b1 P.tz.length d1 b2 bq.length d2 b3 P.dz.length d3 P.bss b5 P.rz.length d5 b6 P.ss.length d6 b7 P.es.length d7) 138:=by rw [hX8];exact (HD7.o.2.2.1.bw k8).other _ _ (by dsimp only;omega)
   have kr8:Blk X8 (w.heap.size+1) z8m 138:=by rw [hX8];exact (HD7.o.2.2.2.1.bw k8).other _ _ (by dsimp only;omega)
   have x6:=kb8.cell 6;have HCD:=zh (aFz b6 P.ss.length d6 P.ss X8 (HSR.o X8 D8.c.b).i HRR.o.i.1);have HD8:=zh (xA D8 (xA P8 (xA (cH T8 HD7.o.1.c.k HD7.o.2.1 (by decide)) (xA kb8 kr8))));have HX8:=zh hX8;clear x5 y3 yf3 C8 D8 P8 T8 hX8 o8 k8 kb8 kr8 HCB;go_wp2_with (rw [<- HX8.o])
   refine HCD.o.mono ?_;rintro e w9 ⟨a6,c6,rfl,o9,k9⟩;obtain ⟨C9,D9,P9,T9,_⟩:=HD8.o.1.row (v6':=qS a6 P.ss.length c6) o9 k9 (by decide) 6 rfl;have y6:=C9.c.k.cell 6;have yf6:=C9.c.k.frozen 6;obtain ⟨X9,hX9⟩:=eqx (w9.setCell ⟨(w.heap.size+1+1),6,none⟩ (qS a6 P.ss.length c6));rw [<- hX9] at D9 P9 T9;have kb9:Blk X9 w.heap.size (qM P.nm b1 P.tz.length d1 b2 bq.length d2 b3 P.dz.length d3 P.bss b5 P.rz.length d5 b6 P.ss.length d6 b7 P.es.length d7) 138:=by rw [hX9];exact (HD8.o.2.2.2.1.bw k9).other _ _ (by dsimp only;omega)
   have kr9:Blk X9 (w.heap.size+1) z8m 138:=by rw [hX9];exact (HD8.o.2.2.2.2.bw k9).other _ _ (by dsimp only;omega)
   have x7:=kb9.cell 7;have HCE:=zh (aFy b7 P.es.length d7 P.es X9 (HSR.o X9 D9.c.b).e HRR.o.e.1);have HD9:=zh (xA D9 (xA P9 (xA (cH T9 HD8.o.1.c.k HD8.o.2.1 (by decide)) (xA (cH T9 HD8.o.1.c.k HD8.o.2.2.1 (by decide)) (xA kb9 kr9)))));have HX9:=zh hX9;clear x6 y5 yf5 C9 D9 P9 T9 hX9 o9 k9 kb9 kr9 HCD;go_wp2_with (rw [<- HX9.o])
   refine HCE.o.mono ?_;rintro e w10 ⟨a7,c7,rfl,o10,k10⟩;obtain ⟨C10,D10,P10,T10,_⟩:=HD9.o.1.row (v7':=qS a7 P.es.length c7) o10 k10 (by decide) 7 rfl;have y7:=C10.c.k.cell 7;have yf7:=C10.c.k.frozen 7;obtain ⟨XX,hXX⟩:=eqx (w10.setCell ⟨(w.heap.size+1+1),7,none⟩ (qS a7 P.es.length c7));rw [<- hXX] at D10 P10 T10;have kr10:Blk XX (w.heap.size+1) z8m 138:=by rw [hXX];exact (HD9.o.2.2.2.2.2.bw k10).other _ _ (by dsimp only;omega)
   have HMO:=zh (D10.done (P:=P) HBB.o HRR.o.d.2 (cH T10 HD9.o.1.c.k HD9.o.2.2.2.1 (by decide)) HC.o.1.c.b.size (cH T10 HD9.o.1.c.k HD9.o.2.2.1 (by decide)) HD7.o.1.c.b.size (cH T10 HD9.o.1.c.k HD9.o.2.1 (by decide)) HD8.o.1.c.b.size P10 HD9.o.1.c.b.size HAP.o);obtain ⟨x0,x1,x2,x3,x4,x5,x6,x8⟩:=Blk.eight' D10.c.k;have KZ:=kr10;unfold z8m at KZ;obtain ⟨r0,r1,r2,r3,r4,r5,r6,r7⟩:=Blk.eight' KZ;have rf:=kr10.frozen;have HF:Zh (CmP w P (.returned (.agg (qM P.nm t1 P.tz.length e1 a2 bl.length c2 a3 P.dz.length c3 P.bss a5 P.rz.length c5 a6 P.ss.length c6 a7 P.es.length c7))) (aJl XX (w.heap.size+1) (.string P.nm) (qS t1 P.tz.length e1) (qS a2 bl.length c2) (qS a3 P.dz.length c3) (qI P.bss) (qS a5 P.rz.length c5) (qS a6 P.ss.length c6) (qS a7 P.es.length c7))):=⟨⟨t1,e1,a2,c2,bl,a3,c3,a5,c5,a6,c6,a7,c7⟩,rfl,ModO.setG (x:=(P,(⟨t1,e1,a2,c2,bl,a3,c3,a5,c5,a6,c6,a7,c7⟩:Mb))) HMO.o kr10 (wY _ _ _ _ _ _ _ _ _ _),aG D10.c.b (wY _ _ _ _ _ _ _ _ _ _) (fun j hj=>by omega) D10.c.b.size⟩;have HKR:=zh kr10;have HXE:=zh hXX;clear x7 y6 yf6 C10 D10 P10 T10 hXX o10 k10 kr10 KZ HCE HMO;go_wp2_with (rw [<- HXE.o])
   exact aP1 HKR.o _ _ _ _ _ _ _ _ _ _ rfl HF.o
theorem aM9 (w:qw)(base g:Nat)(hb:base<=g)(h:Blk w g #[] 3):OI w base (qS (qP g) 0 0) []:=
 ⟨⟨rfl,.inr ⟨g,0,#[],rfl,hb,h,aN,xC _,rfl,rfl⟩⟩,fun _ h=>by cases h⟩
theorem aPn (w:qw)(base:Nat):OI w base (qS none 0 0) []:=⟨⟨rfl,.inl ⟨rfl,rfl⟩⟩,fun _ h=>by cases h⟩
theorem aDe (pc:Int)(b off cap:Nat)(w:qw):
 qC 84 #[.agg #[qI pc,qS (some (qR b off)) 0 cap]] w (iU w pc 0 []):=by
 obtain ⟨i0,hi,hz0,hz1,hz2⟩:=info_parts jV;go_enter func84,ntmps84
 go_wp2
 go_region_law (first
  | (refine step_append_room rfl _ _ 25 rfl 3 i0 1 underlying25 hi hz1 (w.heap.size+1+1) 0 0 0 rfl (qR b off) 0 cap [] rfl rfl (by intro j u hj;simp at hj) (by intro u hu;simp at hu) aN (by intro j hj;simp at hj) ?_;simp only [World.setCells]))
 all_goals
  have x3:=Blk.new ((w.alloc (.cells #[qI pc,qS (some (qR b off)) 0 cap] 38)).alloc (.cells #[qI pc,qS (some (qR (w.heap.size+1+1) 0)) 0 0] 38)) #[] 3;try unfold qY at *
  simp only [xF] at x3;have hB:qY w (((w.alloc (.cells #[qI pc,qS (some (qR b off)) 0 cap] 38)).alloc (.cells #[qI pc,qS (some (qR (w.heap.size+1+1) 0)) 0 0] 38)).alloc (.cells #[] 3)):=(bal.alloc (by simp) _).alloc (by simp;omega) _;have HX:=zh (xA x3 hB);clear x3 hB;go_wp2;exact bodyPost_ret (v:=.agg #[qI pc,qS (some (qR (w.heap.size+1+1) 0)) 0 0]) (by simp [results,results84,go_sem]) rfl ⟨_,_,rfl,aM9 _ _ _ (by omega) (by exact HX.o.1),HX.o.2.drew⟩
theorem wV (pc:Int)(b off cap:Nat)(w:qw):
 qC 95 #[.agg #[qI pc,qS (some (qR b off)) 0 cap]] w (iU w pc 0 []):=by
 obtain ⟨i0,hi,hz0,hz1,hz2⟩:=info_parts jV;go_enter func95,ntmps95
 go_wp2
 go_region
 all_goals
  have hB:qY w ((w.alloc (.cells #[qI pc,qS (some (qR b off)) 0 cap] 38)).alloc (.cells #[qI pc,qS none 0 0] 38)):=bal.alloc (by simp) _;have HX:=zh hB;clear hB;go_wp2;exact bodyPost_ret (v:=.agg #[qI pc,qS none 0 0]) (by simp [results,results95,go_sem]) rfl ⟨_,_,rfl,aPn _ _,HX.o.drew⟩
theorem wW (pc:Int)(b off n cap:Nat)(zs:qi)(w:qw)(h:IS w (some (qR b off)) n cap zs)(hn0:0<n)(hn:n<=1048576):
 qC 95 #[.agg #[qI pc,qS (some (qR b off)) n cap]] w (iU w pc n zs):=by
 obtain ⟨i0,hi,hz0,hz1,hz2⟩:=info_parts jV;have hl:=h.1;have hB0:qY w ((w.alloc (.cells #[qI pc,qS (some (qR b off)) n cap] 38)).alloc (.cells #[qI 0,qS none 0 0] 38)):=bal.alloc (by simp) _;have h':=h.bw hB0;have kr:=Blk.new (w.alloc (.cells #[qI pc,qS (some (qR b off)) n cap] 38)) #[qI 0,qS none 0 0] 38;try unfold qY at *
 simp only [xF] at kr;have hnews:=zh (aBi h');have hone:=zh (ints_oneCell .i64 zs);have hlen:=zh (show (zs.map (Value.int .i64)).length=n*1 by simp;omega);have HB:=zh hB0;have KR:=zh kr;have HH:=zh h;have kb:=(Blk.new w #[qI pc,qS (some (qR b off)) n cap] 38).alloc (.cells #[qI 0,qS none 0 0] 38);have KB:=zh kb;clear hB0 kr h h' kb;go_enter func95,ntmps95
 go_wp2
 go_region_law (first
  | (refine step_append_lies _ rfl _ _ 25 rfl (w.heap.size+1+1) 3 i0 (qI 0) 1 8 underlying25 hi hz0 hz1 hz2 rfl (by decide) (qS none 0 0) 0 [] rfl ⟨rfl,.inl ⟨rfl,rfl⟩⟩ (qR b off) n cap (zs.map (Value.int .i64)) rfl hlen.o (by exact hnews.o) hone.o hn0 (by unfold maxLen;omega) (by omega) (by simp only [heap_drew,xF];omega) _ rfl ?_;intro g cap1 w1 hown1 hgr1 hat1 hlt1;obtain ⟨c1,c2,c3⟩:=(cL hgr1 (by exact KB.o) (by intro e;cases e)).two';have kr1:=zh (cL hgr1 (by exact KR.o) (by intro e;cases e));obtain ⟨r1,r2,r3⟩:=kr1.o.two'))
 all_goals
  have hown2:w1.ownsRow (w.heap.size+1+1) 3 1 (qS (qP g) n cap1) n (zs.map (Value.int .i64)):=by simpa using hown1
  have o1:OI w1 (w.heap.size+1+1) (qS (qP g) n cap1) zs:=⟨by rw [hl];exact hown2,HH.o.2.2.1⟩;have hB1:qY w w1:=HB.o.drew.grown hgr1 (by simp only [heap_drew,xF];omega) (fun k hk=>by cases hk);have hz:=(kr1.o.set 0 (qI pc)).set 1 (qS (qP g) n cap1);have o2:=((o1.other (qR (w.heap.size+1) 0) (qI pc) (by dsimp only;omega)).other (qR (w.heap.size+1) 1) (qS (qP g) n cap1) (by dsimp only;omega)).mono (base':=w.heap.size) (by omega);have hB2:=(hB1.setCell (p:=(qR (w.heap.size+1) 0)) (by dsimp only;omega) (qI pc)).setCell (p:=(qR (w.heap.size+1) 1)) (by dsimp only;omega) (qS (qP g) n cap1);have hz':Blk ((w1.setCell (qR (w.heap.size+1) 0) (qI pc)).setCell (qR (w.heap.size+1) 1) (qS (qP g) n cap1)) (w.heap.size+1) #[qI pc,qS (qP g) n cap1] 38:=by simpa using hz
  obtain ⟨p1,p2,p3⟩:=hz'.two';have HX:=zh (xA o2 hB2);clear hz hz' o1 o2 hB1 hB2 hown1 hown2 hgr1 hat1 hlt1;go_wp2;exact bodyPost_ret (v:=.agg #[qI pc,qS (qP g) n cap1]) (by simp [results,results95,go_sem,p1,p2]) rfl ⟨some (qR g 0),cap1,rfl,HX.o.1,HX.o.2⟩
theorem aFb (pc:Int)(b off n cap:Nat)(zs:qi)(w:qw)(h:IS w (some (qR b off)) n cap zs)(hn:n<=1048576):
 qC 84 #[.agg #[qI pc,qS (some (qR b off)) n cap]] w (iU w pc n zs):=by
 by_cases h0:n=0
 .subst h0;obtain rfl:zs=[]:=xE h.1;exact aDe pc b off cap w
 .exact aDf pc b off n cap zs w h (by omega) hn
theorem aBu (pc:Int)(b off n cap:Nat)(zs:qi)(w:qw)(h:IS w (some (qR b off)) n cap zs)(hn:n<=1048576):
 qC 95 #[.agg #[qI pc,qS (some (qR b off)) n cap]] w (iU w pc n zs):=by
 by_cases h0:n=0
 .subst h0;obtain rfl:zs=[]:=xE h.1;exact wV pc b off cap w
 .exact wW pc b off n cap zs w h (by omega) hn
def mnV (M:Mn):Value:=.agg (qA M)
structure MnS (w:qw)(M:Mn)(g b1 o1 b2 o2 b3 o3 b4 o4:Nat)(L:List (PMod×Mb)):Prop where
 a:M.ma=some ⟨g,0,none⟩/\M.ka=some ⟨b1,o1,none⟩/\M.fa=some ⟨b2,o2,none⟩/\M.ra=some ⟨b3,o3,none⟩/\M.oa=some ⟨b4,o4,none⟩
 m:OMq w M.ma L
 n:L.length=M.mn
 e:L.map (fun x=>x.1)=aE M.ms
 k:IS w M.ka M.kn M.kc M.kz
 f:BS w M.fa M.fn M.fc M.fz
 r:BS w M.ra M.rn M.rc M.rz
 o:BS w M.oa M.on M.oc M.oz
 l:Srd bY w M.la M.ln M.lc M.lz
 h:Srd bC w M.ha M.hn M.hc M.hz
 z:M.mn<=1048576/\M.kn<=1048576/\M.fn+M.rn+M.on<=1048576/\M.ln<=1048576/\M.hn<=1048576
theorem MnS.bw {w w':qw}{g o1 b2 o2 b3 o3 b4 o4:Nat}(h:MnS w M g b1 o1 b2 o2 b3 o3 b4 o4 L)(hb:qY w w'):MnS w' M g b1 o1 b2 o2 b3 o3 b4 o4 L:=⟨h.a,h.m.bw hb,h.n,h.e,h.k.bw hb,h.f.bw hb,h.r.bw hb,h.o.bw hb,h.l.bw hb,h.h.bw hb,h.z⟩
structure Cpx (w X:qw)(ax cs:Array Value):Prop where
 b:qY w X
 ka:Blk X w.heap.size ax 43
 kr:Blk X (w.heap.size+1) z15 43
 kg:Blk X (w.heap.size+1+1) cs 43
theorem Cpx.bw {w X X':qw}(h:Cpx w X ax cs)(hb:qY X X'):Cpx w X' ax cs:=⟨h.b.trans (hb.mono h.b.size),h.ka.bw hb,h.kr.bw hb,h.kg.bw hb⟩
theorem Cpx.set {w X:qw}(h:Cpx w X ax cs)(i:Nat)(v:Value):Cpx w (X.setCell ⟨(w.heap.size+1+1),i,none⟩ v) ax (cs.setIfInBounds i v)/\TMx X (X.setCell ⟨(w.heap.size+1+1),i,none⟩ v):=⟨⟨aG h.b (aC X _ i v) (fun k hk=>by omega) h.b.size,h.ka.other _ _ (by dsimp only;omega),h.kr.other _ _ (by dsimp only;omega),h.kg.set i v⟩,iZ h.kg (aC X _ i v)⟩
theorem aN1 {W:qw}(k1:Blk W q z15 43)(v0 v1 v2 v3 v4 v5 v6 v7 v8 v9 v10 v11 v12 v13 v14:Value)(Q:Ending->World->Prop)(tmps:Array Value)(h2:tmps[2]?=some (.pointer (qP q)))(hQ:Q (.returned (.agg #[v0,v1,v2,v3,v4,v5,v6,v7,v8,v9,v10,v11,v12,v13,v14])) (mL W q v0 v1 v2 v3 v4 v5 v6 v7 v8 v9 v10 v11 v12 v13 v14)):
 bodyPost prog f40 Q Exit.ret ⟨tmps,[]⟩ (mL W q v0 v1 v2 v3 v4 v5 v6 v7 v8 v9 v10 v11 v12 v13 v14):=by
 obtain ⟨t0,t1,t2,t3,t4,t5,t6,t7,t8,t9,t10,t11,t12,t13,t14⟩:=(iQ k1 v0 v1 v2 v3 v4 v5 v6 v7 v8 v9 v10 v11 v12 v13 v14).mc;refine bodyPost_ret_by (v:=.agg #[v0,v1,v2,v3,v4,v5,v6,v7,v8,v9,v10,v11,v12,v13,v14]) ?_ rfl hQ;simp [results,results40,go_sem,h2,t0,t1,t2,t3,t4,t5,t6,t7,t8,t9,t10,t11,t12,t13,t14]
theorem aCv {w W0 X w4:qw}{b:Nat}{β:Nat->Nat}(O:OMp W0 base v L β)(hb:b<=base)(B:Below b w W0)(hs:b<=W0.heap.size)(B1:qY W0 X)(hgr:X.grownBy w4 v.ownBlock):Below b w w4:=
 aG (B.trans (B1.mono hs)) (S:=fun q=>v.ownBlock=some q) ⟨hgr.os,hgr.tape,hgr.output,hgr.size,fun q hq hs=>hgr.block q hq (fun e=>hs e.symm)⟩ (fun q hq=>xM hb (O.o.lt q hq).1) (xM hs B1.size)
def CpP (w:qw)(C:Cn)(e:Ending)(w':qw):Prop:=qY w w'/\∃ N base mid L β,e=.returned (mnV N)/\MxO w' base mid C N L β/\w.heap.size<=base/\mid<=w'.heap.size
theorem aLw {w XX X1 X2 X3 X4 X5:qw}{q1 q2 q3 q4:Nat}{a0 ak af ar ao al ah:qO}{c0 ck cf cr co cl ch:Nat}{L':List (PMod×Mb)}{β':Nat->Nat}(hb:qY w XX)(O1:OMp X1 b1 (qS a0 M.mn c0) L' β')(e1:L'.map (fun x=>x.1)=aE M.ms)(hb1:w.heap.size<=b1)(T1:TMx X1 XX)
 (O2:OI X2 q1 (qS ak M.kn ck) M.kz) (T2:TMx X2 XX) (h1:X1.heap.size<=q1) (O3:gK X3 q2 (qS af M.fn cf) (qS ar M.rn cr) (qS ao M.on co) M.fz M.rz M.oz) (T3:TMx X3 XX) (h2:q1<=q2) (O4:OG 142 4 bY X4 q3 (qS al M.ln cl) M.lz) (T4:TMx X4 XX) (h3:q1<=q3) (O5:OG 135 4 bC X5 q4 (qS ah M.hn ch) M.hz) (T5:TMx X5 XX) (h4:q1<=q4) (hq:q1<=XX.heap.size):
 CpP w M.cn (.returned (.agg (qX M a0 M.mn c0 ak M.kn ck af M.fn cf ar M.rn cr ao M.on co al M.ln cl ah M.hn ch))) XX:=by
 refine ⟨hb,⟨a0,M.mn,c0,L'.map mdP,M.cs,M.cw,M.ck,M.cd,M.pc,ak,M.kn,ck,M.kz,af,M.fn,cf,M.fz,ar,M.rn,cr,M.rz,ao,M.on,co,M.oz,M.md,M.bk,al,M.ln,cl,M.lz,ah,M.hn,ch,M.hz,M.tn⟩,b1,q1,L',β',rfl,⟨O1.tm T1,e1,O2.tm T2,aId (aGq O3 T3) h2,(O4.kept T4 (jT O4 (by decide))).mono h3,(O5.kept T5 (jT O5 (by decide))).mono h4,?_,?_,⟨rfl,rfl,rfl,rfl,rfl,rfl,rfl,rfl⟩,⟨rfl,rfl,rfl,rfl,rfl,rfl,rfl⟩⟩,hb1,hq⟩
 .have:=O1.lo;have:=O1.mono 0 L'.length (xC _) aN;have:=O1.hi;omega
 .exact xM O1.hi h1
theorem jX (M:Mn)(g b1 o1 b2 o2 b3 o3 b4 o4:Nat)(Ls:List (PMod×Mb))(w:qw)(H:MnS w M g b1 o1 b2 o2 b3 o3 b4 o4 Ls):qC 40 #[.agg (qA M)] w (CpP w M.cn):=by
 obtain ⟨iM,hiM,hiM0,hiM1,hiM2⟩:=info_parts aLd;obtain ⟨⟨ea,ek,ef,er,eo⟩,hm,hln,hle,hk,hf,hr,ho,hl,hh,zm,zk,zq,zl,zh⟩:=H;try unfold qA at *
 try unfold qL at *
 rw [ea] at hm ⊢;rw [ek] at hk ⊢;rw [ef] at hf ⊢;rw [er] at hr ⊢;rw [eo] at ho ⊢;obtain ⟨w1,hw1⟩:=eqx (((w.alloc (.cells (qX M (qP g) M.mn M.mc (some ⟨b1,o1,none⟩) M.kn M.kc (some ⟨b2,o2,none⟩) M.fn M.fc (some ⟨b3,o3,none⟩) M.rn M.rc (some ⟨b4,o4,none⟩) M.on M.oc M.la M.ln M.lc M.ha M.hn M.hc) 43)).alloc (.cells qZ 43)).alloc (.cells (qX M none 0 0 (some ⟨b1,o1,none⟩) M.kn M.kc (some ⟨b2,o2,none⟩) M.fn M.fc (some ⟨b3,o3,none⟩) M.rn M.rc (some ⟨b4,o4,none⟩) M.on M.oc M.la M.ln M.lc M.ha M.hn M.hc) 43));have B1:qY w w1:=by rw [hw1];exact ((brf.alloc aN _).alloc (by simp) _).alloc (by simp;omega) _
 have K1:Cpx w w1 (qX M (qP g) M.mn M.mc (some ⟨b1,o1,none⟩) M.kn M.kc (some ⟨b2,o2,none⟩) M.fn M.fc (some ⟨b3,o3,none⟩) M.rn M.rc (some ⟨b4,o4,none⟩) M.on M.oc M.la M.ln M.lc M.ha M.hn M.hc) (qX M none 0 0 (some ⟨b1,o1,none⟩) M.kn M.kc (some ⟨b2,o2,none⟩) M.fn M.fc (some ⟨b3,o3,none⟩) M.rn M.rc (some ⟨b4,o4,none⟩) M.on M.oc M.la M.ln M.lc M.ha M.hn M.hc):=by
  refine ⟨B1,?_,?_,?_⟩
  .rw [hw1];exact ((Blk.new _ _ _).alloc _).alloc _
  .rw [hw1];have:=(Blk.new (w.alloc (.cells (qX M (qP g) M.mn M.mc (some ⟨b1,o1,none⟩) M.kn M.kc (some ⟨b2,o2,none⟩) M.fn M.fc (some ⟨b3,o3,none⟩) M.rn M.rc (some ⟨b4,o4,none⟩) M.on M.oc M.la M.ln M.lc M.ha M.hn M.hc) 43)) z15 43).alloc (.cells (qX M none 0 0 (some ⟨b1,o1,none⟩) M.kn M.kc (some ⟨b2,o2,none⟩) M.fn M.fc (some ⟨b3,o3,none⟩) M.rn M.rc (some ⟨b4,o4,none⟩) M.on M.oc M.la M.ln M.lc M.ha M.hn M.hc) 43);simpa [z15] using this
  .rw [hw1];have:=Blk.new ((w.alloc (.cells (qX M (qP g) M.mn M.mc (some ⟨b1,o1,none⟩) M.kn M.kc (some ⟨b2,o2,none⟩) M.fn M.fc (some ⟨b3,o3,none⟩) M.rn M.rc (some ⟨b4,o4,none⟩) M.on M.oc M.la M.ln M.lc M.ha M.hn M.hc) 43)).alloc (.cells qZ 43)) (qX M none 0 0 (some ⟨b1,o1,none⟩) M.kn M.kc (some ⟨b2,o2,none⟩) M.fn M.fc (some ⟨b3,o3,none⟩) M.rn M.rc (some ⟨b4,o4,none⟩) M.on M.oc M.la M.ln M.lc M.ha M.hn M.hc) 43;simpa using this
 have hz1:w1.heap.size=w.heap.size+1+1+1:=by rw [hw1];simp
 have S0:=aM7 w1 w1.heap.size aN;have HSR:=aO (fun (X:qw) (hX:qY w X)=>hm.bw hX);have HKF:=aO (fun (X:qw) (hX:qY w X)=>aBu M.pc b1 o1 M.kn M.kc M.kz X (hk.bw hX) zk);have HMF:=aO (fun (X:qw) (hX:qY w X)=>aDv b2 o2 b3 o3 b4 o4 M.fn M.fc M.rn M.rc M.on M.oc M.fz M.rz M.oz X (hf.bw hX) (hr.bw hX) (ho.bw hX) zq);have HLF:=aO (fun (X:qw) (hX:qY w X)=>aF0 M.la M.ln M.lc M.lz X (hl.bw hX) zl);have HHF:=aO (fun (X:qw) (hX:qY w X)=>aF1 M.ha M.hn M.hc M.hz X (hh.bw hX) zh);have HLE:=aO (xA hln hle);have HZ1:=aO hz1;have x0:=K1.ka.cell 0;have HK1:=aO (xA K1 S0);have HW1:=aO hw1;obtain ⟨B,hB⟩:=eqx (w1.heap.size);rw [<- hB] at HK1;have HBB:=aO (show w.heap.size+1+1<B by omega);clear hw1 B1 K1 S0 hm hk hf hr ho hl hh zk zq zl zh hln hle ea ek ef er eo hz1 hB;go_enter func40,ntmps40
 go_wp2_with (rw [<- HW1.out])
 go_loopw [11] (fun i wr=>∃ (j:Nat) (a0:qO) (c0:Nat) (L':List (PMod×Mb)) (β':Nat->Nat),j<=M.mn/\i=qI j/\OMp wr B (qS a0 j c0) L' β'/\L'.map (fun x=>x.1)=(Ls.take j).map (fun x=>x.1)/\Cpx w wr (qX M (qP g) M.mn M.mc (some ⟨b1,o1,none⟩) M.kn M.kc (some ⟨b2,o2,none⟩) M.fn M.fc (some ⟨b3,o3,none⟩) M.rn M.rc (some ⟨b4,o4,none⟩) M.on M.oc M.la M.ln M.lc M.ha M.hn M.hc) (qX M a0 j c0 (some ⟨b1,o1,none⟩) M.kn M.kc (some ⟨b2,o2,none⟩) M.fn M.fc (some ⟨b3,o3,none⟩) M.rn M.rc (some ⟨b4,o4,none⟩) M.on M.oc M.la M.ln M.lc M.ha M.hn M.hc)) (fun i _=>M.mn-(intOf i).toNat)
 case atStart=>exact ⟨0,none,0,[],_,xC _,rfl,HK1.out.2,by simp,HK1.out.1⟩
 case round=>
  obtain ⟨j,a0,c0,L',β',hj,rfl,O,hL,K⟩:=hrel;have hl':L'.length=j:=by have h1:=congrArg List.length hL;have h2:=HLE.out.1;simp at h1;omega
  clear x0 HK1 HW1;by_cases hlt:j<M.mn
  .have hlt':(j:Int)<(M.mn:Int):=by omega
   have hj0:(0:Int)<=(j:Int):=by omega
   obtain ⟨⟨P,⟨b1,d1,b2,d2,bq,b3,d3,b5,d5,b6,d6,b7,d7⟩⟩,hx⟩:∃ x,Ls[j]?=some x:=⟨Ls[j]'(by have:=HLE.out.1;omega),xN _⟩;obtain ⟨⟨s0,s1,s2,s3,s4,s5,s6,s7⟩,ms,R⟩:=(HSR.out wr K.b).srcM hx;obtain ⟨W1,hW1,b1',km⟩:=nwb wr (qM P.nm b1 P.tz.length d1 b2 bq.length d2 b3 P.dz.length d3 P.bss b5 P.rz.length d5 b6 P.ss.length d6 b7 P.es.length d7) 138;obtain ⟨q0,q1,q2,q3,q4,q5,q6,q7⟩:=Blk.eight' km;have HCM:=aO (fun (X:qw) (hX:qY W1 X)=>uX P b1 d1 b2 d2 bq b3 d3 b5 d5 b6 d6 b7 d7 X ((ms.bw b1').bw hX) R);have K1:=K.bw b1';have O1:=O.bw b1';have p1:=K1.kg.cell 0;simp only [Array.getElem?_eq_getElem,List.getElem?_toArray,List.getElem?_cons_succ,List.getElem?_cons_zero] at p1;have HK1:=aO (xA O1 (xA K1 (xA hl' hL)));have HX:=aO (xA hx R);have HW1:=aO hW1;have hsB:B<=W1.heap.size:=by have:=O1.lo;have:=O1.hi;have:=O1.mono 0 L'.length (xC _) aN;omega
   clear ms R O K hW1 b1' km K1 O1 hL hx;go_wp2_with (rw [<- HW1.out])
   clear s0 s1 s2 s3 s4 s5 s6 s7
   go_region_law
    (first
      | (go_simp;go_at_call 94;first|refine (HCM.out _ brf).mono ?_|refine (HCM.out _ brf.drew).mono ?_
         rintro e w6 ⟨x,rfl,M6,hb6⟩;replace hb6:qY W1 w6:=(by first|exact hb6|exact dH hb6)
         have p1':w6.cell? ⟨(w.heap.size+1+1),0,none⟩=some (qS a0 j c0):=(HK1.out.2.1.bw hb6).kg.cell 0;have p1a:(w6.alloc (.cells (qM P.nm x.a1 P.tz.length x.c1 x.a2 x.bl.length x.c2 x.a3 P.dz.length x.c3 P.bss x.a5 P.rz.length x.c5 x.a6 P.ss.length x.c6 x.a7 P.es.length x.c7) 138)).cell? ⟨(w.heap.size+1+1),0,none⟩=some (qS a0 j c0):=((HK1.out.2.1.bw hb6).kg.alloc _).cell 0;have bA:qY w6 (w6.alloc (.cells (qM P.nm x.a1 P.tz.length x.c1 x.a2 x.bl.length x.c2 x.a3 P.dz.length x.c3 P.bss x.a5 P.rz.length x.c5 x.a6 P.ss.length x.c6 x.a7 P.es.length x.c7) 138)):=brf.alloc aN _;have HOW6:=aO (aGp hl' (HK1.out.1.bw (hb6.trans (bA.mono hb6.size))).o);have HNW6:=aO (bJ w6 (qM P.nm x.a1 P.tz.length x.c1 x.a2 x.bl.length x.c2 x.a3 P.dz.length x.c3 P.bss x.a5 P.rz.length x.c5 x.a6 P.ss.length x.c6 x.a7 P.es.length x.c7) 138 (clB (P,x)) rfl);have hs6:B<=(w6.alloc (.cells (qM P.nm x.a1 P.tz.length x.c1 x.a2 x.bl.length x.c2 x.a3 P.dz.length x.c3 P.bss x.a5 P.rz.length x.c5 x.a6 P.ss.length x.c6 x.a7 P.es.length x.c7) 138)).heap.size:=xM hsB (xM hb6.size bA.size);have HPU:=aO (fun (v':Value) (w4:qw) hown (hgr:World.grownBy _ w4 _)=>xA (HK1.out.1.push (x:=(P,x)) (v':=v') (w4:=w4) hl' hb6 M6 HX.out.2 bA hown hgr) (xA (aCv HK1.out.1 (by have:=HBB.out;omega) HK1.out.2.1.b HK1.out.2.1.b.size (hb6.trans (bA.mono hb6.size)) hgr) (show TMx W1 w4\/True from .inr trivial)));have HKK:=aO (fun (w4:qw) (hgr:World.grownBy _ w4 _)=>xA (cL hgr ((HK1.out.2.1.bw hb6).ka.alloc (.cells (qM P.nm x.a1 P.tz.length x.c1 x.a2 x.bl.length x.c2 x.a3 P.dz.length x.c3 P.bss x.a5 P.rz.length x.c5 x.a6 P.ss.length x.c6 x.a7 P.es.length x.c7) 138)) (fun e=>by obtain ⟨c,kk⟩:=aD HOW6.out e.symm;exact absurd (aH kk ((HK1.out.2.1.bw hb6).ka.alloc (.cells (qM P.nm x.a1 P.tz.length x.c1 x.a2 x.bl.length x.c2 x.a3 P.dz.length x.c3 P.bss x.a5 P.rz.length x.c5 x.a6 P.ss.length x.c6 x.a7 P.es.length x.c7) 138))) (by decide))) (xA (cL hgr ((HK1.out.2.1.bw hb6).kr.alloc (.cells (qM P.nm x.a1 P.tz.length x.c1 x.a2 x.bl.length x.c2 x.a3 P.dz.length x.c3 P.bss x.a5 P.rz.length x.c5 x.a6 P.ss.length x.c6 x.a7 P.es.length x.c7) 138)) (fun e=>by obtain ⟨c,kk⟩:=aD HOW6.out e.symm;exact absurd (aH kk ((HK1.out.2.1.bw hb6).kr.alloc (.cells (qM P.nm x.a1 P.tz.length x.c1 x.a2 x.bl.length x.c2 x.a3 P.dz.length x.c3 P.bss x.a5 P.rz.length x.c5 x.a6 P.ss.length x.c6 x.a7 P.es.length x.c7) 138))) (by decide))) (cL hgr ((HK1.out.2.1.bw hb6).kg.alloc (.cells (qM P.nm x.a1 P.tz.length x.c1 x.a2 x.bl.length x.c2 x.a3 P.dz.length x.c3 P.bss x.a5 P.rz.length x.c5 x.a6 P.ss.length x.c6 x.a7 P.es.length x.c7) 138)) (fun e=>by obtain ⟨c,kk⟩:=aD HOW6.out e.symm;exact absurd (aH kk ((HK1.out.2.1.bw hb6).kg.alloc (.cells (qM P.nm x.a1 P.tz.length x.c1 x.a2 x.bl.length x.c2 x.a3 P.dz.length x.c3 P.bss x.a5 P.rz.length x.c5 x.a6 P.ss.length x.c6 x.a7 P.es.length x.c7) 138))) (by decide)))));clear M6 hb6 bA)
      | (refine step_append_lies _ (by rfl) _ _ 36 (by rfl) B 138 iM _ 8 _ underlying36 hiM hiM0 hiM1 hiM2 rfl (by decide) (qS a0 j c0) j (L'.flatMap clB) (by rfl) HOW6.out ⟨w6.heap.size,0,none⟩ 1 1 (clB (P,x)) (by rfl) (by rfl) HNW6.out (by intro u hu;simp [clB,clH,hdP] at hu;rcases hu with rfl|rfl|rfl|rfl|rfl|rfl|rfl|rfl<;>rfl) (by decide) (by unfold maxLen;omega) (by omega) hs6 _ rfl ?_;intro g4 c4 w4 hown hgr _ _;have HPX:=aO (xA (HPU.out _ w4 hown hgr) (HKK.out w4 hgr));have p14:w4.cell? ⟨(w.heap.size+1+1),0,none⟩=some (qS a0 j c0):=HPX.out.2.2.2.cell 0;have f4:=HPX.out.2.2.2.frozen 0;clear hown hgr))
   all_goals
    clear q0 q1 q2 q3 q4 q5 q6 q7 p1 p1' p1a p14 f4 HOW6 HNW6 HPU HKK hs6;go_wp2
    go_roundw
    case rel=>
     obtain ⟨⟨PO,bw,_⟩,ka,kr,kg⟩:=HPX.out;have KX:Cpx w w4 _ _:=⟨bw,ka,kr,kg⟩;obtain ⟨KY,TY⟩:=KX.set 0 (qS (qP g4) (j+1) c4);exact ⟨j+1,some ⟨g4,0,none⟩,c4,_,_,by omega,by go_num,PO.tm TY,by rw [List.map_append,HK1.out.2.2.2,lP HX.out.1];rfl,KY⟩
    case measure=>simp [intOf];omega
  .have hlt':¬ (j:Int)<(M.mn:Int):=by omega
   obtain rfl:j=M.mn:=by omega
   rw [<- HLE.out.1,List.take_length,HLE.out.2] at hL;have x5:=K.ka.cell 5;have x6:=K.ka.cell 6;have HKC:=aO (HKF.out wr K.b);have HO:=aO (xA O (xA hL K));clear O hL K;go_wp2_with fail
   refine HKC.out.mono ?_;rintro e w2 ⟨ak,ck,rfl,O2,hb2⟩;obtain ⟨O,hL,K⟩:=HO.out;have K2:=K.bw hb2;obtain ⟨K3,T3⟩:=(K2.set 5 (qI M.pc)).1.set 6 (qS ak M.kn ck);have T2:=(K2.set 5 (qI M.pc)).2;simp only [yA,yB,yC] at K3;have y5:=K2.kg.cell 5;have y6:=K2.kg.cell 6;have yf:=K2.kg.frozen;obtain ⟨X3,hX3⟩:=eqx ((w2.setCell ⟨(w.heap.size+1+1),5,none⟩ (qI M.pc)).setCell ⟨(w.heap.size+1+1),6,none⟩ (qS ak M.kn ck));rw [<- hX3] at K3 T3;have HT3:=aO (xA (T2.trans T3) (xA K3 (xA O2 (cS hb2))));have x7:=K3.ka.cell 7;have x8:=K3.ka.cell 8;have x9:=K3.ka.cell 9;have HMC:=aO (HMF.out X3 K3.b);have HX3:=aO hX3;clear x5 x6 O hL K K2 K3 T3 T2 hX3 O2 hb2 HKC;go_wp2_with (rw [<- HX3.out])
   refine HMC.out.mono ?_;rintro e w4 ⟨af,cf,ar,cr,ao,co,rfl,O4,hb4⟩;have K4:=HT3.out.2.1.bw hb4;obtain ⟨K5,T5⟩:=((K4.set 7 (qS af M.fn cf)).1.set 8 (qS ar M.rn cr)).1.set 9 (qS ao M.on co);have T4:=(K4.set 7 (qS af M.fn cf)).2.trans ((K4.set 7 (qS af M.fn cf)).1.set 8 (qS ar M.rn cr)).2;simp only [yA,yB,yC] at K5;have y7:=K4.kg.cell 7;have y8:=K4.kg.cell 8;have y9:=K4.kg.cell 9;have yf4:=K4.kg.frozen;obtain ⟨X5,hX5⟩:=eqx (((w4.setCell ⟨(w.heap.size+1+1),7,none⟩ (qS af M.fn cf)).setCell ⟨(w.heap.size+1+1),8,none⟩ (qS ar M.rn cr)).setCell ⟨(w.heap.size+1+1),9,none⟩ (qS ao M.on co));rw [<- hX5] at K5 T5;have HT5:=aO (xA (T4.trans T5) (xA K5 (xA O4 (cS hb4))));have x12:=K5.ka.cell 12;have HLC:=aO (HLF.out X5 K5.b);have HX5:=aO hX5;clear x7 x8 x9 y5 y6 yf K4 K5 T4 T5 hX5 O4 hb4 HMC HX3;go_wp2_with (rw [<- HX5.out])
   refine HLC.out.mono ?_;rintro e w6 ⟨al,cl,rfl,O6,hb6⟩;have K6:=HT5.out.2.1.bw hb6;obtain ⟨K7,T7⟩:=K6.set 12 (qS al M.ln cl);simp only [yA,yB,yC] at K7;have y12:=K6.kg.cell 12;have yf6:=K6.kg.frozen;obtain ⟨X7,hX7⟩:=eqx (w6.setCell ⟨(w.heap.size+1+1),12,none⟩ (qS al M.ln cl));rw [<- hX7] at K7 T7;have HT7:=aO (xA T7 (xA K7 (xA O6 (cS hb6))));have x13:=K7.ka.cell 13;have HHC:=aO (HHF.out X7 K7.b);have HX7:=aO hX7;clear x12 y7 y8 y9 yf4 K6 K7 T7 hX7 O6 hb6 HLC HX5;go_wp2_with (rw [<- HX7.out])
   refine HHC.out.mono ?_;rintro e w8 ⟨ah,ch,rfl,O8,hb8⟩;have K8:=HT7.out.2.1.bw hb8;obtain ⟨K9,T9⟩:=K8.set 13 (qS ah M.hn ch);simp only [yA,yB,yC] at K9;have y13:=K8.kg.cell 13;have yf8:=K8.kg.frozen;obtain ⟨X9,hX9⟩:=eqx (w8.setCell ⟨(w.heap.size+1+1),13,none⟩ (qS ah M.hn ch));rw [<- hX9] at K9 T9;obtain ⟨u0,u1,u2,u3,u4,u5,u6,u7,u8,u9,u10,u11,u12,u13,u14⟩:=K9.kg.mc;have KZ:=K9.kr;unfold z15 at KZ;obtain ⟨r0,r1,r2,r3,r4,r5,r6,r7,r8,r9,r10,r11,r12,r13,r14⟩:=KZ.mc;have rf:=KZ.frozen
   have HE:=aO (show CpP w M.cn (.returned (.agg (qX M a0 M.mn c0 ak M.kn ck af M.fn cf ar M.rn cr ao M.on co al M.ln cl ah M.hn ch))) (mL X9 (w.heap.size+1) (qS a0 M.mn c0) (qI M.cs) (qI M.cw) (qI M.ck) (qI M.cd) (qI M.pc) (qS ak M.kn ck) (qS af M.fn cf) (qS ar M.rn cr) (qS ao M.on co) (qI M.md) (qI M.bk) (qS al M.ln cl) (qS ah M.hn ch) (qI M.tn)) from by
    have TE:=iZ K9.kr (cG X9 (w.heap.size+1) (qS a0 M.mn c0) (qI M.cs) (qI M.cw) (qI M.ck) (qI M.cd) (qI M.pc) (qS ak M.kn ck) (qS af M.fn cf) (qS ar M.rn cr) (qS ao M.on co) (qI M.md) (qI M.bk) (qS al M.ln cl) (qS ah M.hn ch) (qI M.tn));have U9:=T9.trans TE;have U7:=(HT7.out.1.trans (cS hb8)).trans U9;have U5:=(HT5.out.1.trans HT7.out.2.2.2).trans U7;have U3:=(HT3.out.1.trans HT5.out.2.2.2).trans U5;have U1:=HT3.out.2.2.2.trans U3
    exact aLw (aG K9.b (cG _ _ _ _ _ _ _ _ _ _ _ _ _ _ _ _ _ ) (fun j hj=>by omega) K9.b.size) HO.out.1 HO.out.2.1 (by have:=HBB.out;omega) U1 HT3.out.2.2.1 U3 aN HT5.out.2.2.1 U5 (by have h1:=HT3.out.1.size;have h2:=HT3.out.2.2.2.size;omega) HT7.out.2.2.1 U7 (by have h1:=HT3.out.1.size;have h2:=HT3.out.2.2.2.size;have h3:=HT5.out.1.size;have h4:=HT5.out.2.2.2.size;omega) O8 U9 (by have h1:=HT3.out.1.size;have h2:=HT3.out.2.2.2.size;have h3:=HT5.out.1.size;have h4:=HT5.out.2.2.2.size;have h5:=HT7.out.1.size;have h6:=HT7.out.2.2.2.size;omega) U1.size)
   have HKR:=aO K9.kr;have HX9:=aO hX9;clear x13 y12 yf6 K8 K9 T9 hX9 O8 hb8 HHC HX7 KZ;go_wp2_with (rw [<- HX9.out])
   exact aN1 HKR.out _ _ _ _ _ _ _ _ _ _ _ _ _ _ _ _ _ rfl HE.out
theorem aLk (hk:k<xs.length)(h:¬ frk ps (xs.getD k zFr)):¬ jW ps cd xs:=fun f=>h (f.2 k hk)
theorem aG6 (hl:xs.length=n)(h0:(n:Int)<=cd)(hk:¬ k<n)(h:∀ i,i<k->frk ps (xs.getD i zFr)):jW ps cd xs:=⟨by rw [hl];exact h0,fun i hi=>h i (by omega)⟩
theorem aQm {w:qw}(h:MSD w a n cap ms){m b:Int}(hp:0<=pcq (aE ms) m b):∃ gm om D,a=some (qR gm om)/\ms.getD m.toNat aK=D/\(0<=m/\m<(n:Int))/\∀ X,qY w X->X.cell? (qR gm (om+m.toNat*8))=some (.string D.nm)/\X.cell? (qR gm (om+m.toNat*8+1))=some (qS D.ta D.tn D.tc)/\X.cell? (qR gm (om+m.toNat*8+2))=some (qS D.ba D.bn D.bc)/\X.cell? (qR gm (om+m.toNat*8+3))=some (qS D.da D.dn D.dc)/\X.cell? (qR gm (om+m.toNat*8+4))=some (qI D.bss)/\X.cell? (qR gm (om+m.toNat*8+5))=some (qS D.ra D.rn D.rc)/\X.cell? (qR gm (om+m.toNat*8+6))=some (qS D.ia D.im D.ic)/\X.cell? (qR gm (om+m.toNat*8+7))=some (qS D.ea D.en D.ec):=by
 obtain ⟨⟨h0,h1⟩,_⟩:=kJ h hp;obtain ⟨gm,om,rfl,v0,v1,v2,v3,v4,v5,v6,v7⟩:=h.s.at m.toNat (by omega);exact ⟨gm,om,_,rfl,rfl,⟨h0,h1⟩,fun X hX=>⟨aB hX v0,aB hX v1,aB hX v2,aB hX v3,aB hX v4,aB hX v5,aB hX v6,aB hX v7⟩⟩
theorem tW (M:Mn)(w:qw)(h:MnD w M):
 qC 82 #[.agg (qA M)] w (Yn (jW (aE M.ms) M.cd M.hz) w):=by
 obtain ⟨V,hV,bV,kV⟩:=nwb w (qA M) 43;have hl:=h.h.1;have hmx:=h.h.2.1;have hmy:=h.m.s.2.1;unfold maxLen at hmx hmy;have HD:=zh (h.bw bV);have HV:=zh hV;have HK:=zh (xA bV kV);have HC:=zh (fun (X:qw) (hX:qY V X)=>show X.cell? (qR w.heap.size 0)=some (qS M.ma M.mn M.mc)/\X.cell? (qR w.heap.size 4)=some (qI M.cd)/\X.cell? (qR w.heap.size 13)=some (qS M.ha M.hn M.hc) from ⟨(kV.bw hX).cell 0,(kV.bw hX).cell 4,(kV.bw hX).cell 13⟩);clear hV kV bV h;by_cases c0:M.cd<(M.hn:Int)
 .have HN:Zh (¬ jW (aE M.ms) M.cd M.hz):=fun f=>by have:=f.1;omega
  obtain ⟨y0,y4,y13⟩:=HC.o V brf;go_enter func82,ntmps82
  go_wp2_with (rw [<- HV.o])
  go_ret;exact cV HN.o (HK.o.1)
 have c0':(M.hn:Int)<=M.cd:=by omega
 have HRE:=zh (Below.refl V.heap.size V);obtain ⟨y0,y4,y13⟩:=HC.o V brf;go_enter func82,ntmps82
 go_wp2_with (rw [<- HV.o])
 clear y0 y4 y13;go_loopw [3] (fun i wr=>∃ k:Nat,k<=M.hn/\i=qI k/\(∀ i,i<k->frk (aE M.ms) (M.hz.getD i zFr))/\qY V wr) (qf M.hn)
 .exact ⟨0,xC _,rfl,fun i hi=>absurd hi (by omega),HRE.o⟩
 .obtain ⟨k,hk,rfl,hF,hB⟩:=hrel;obtain ⟨y0,y4,y13⟩:=HC.o wr hB;have HB:=zh hB;by_cases hlt:k<M.hn
  .have hlt':(k:Int)<(M.hn:Int):=by omega
   obtain ⟨g,f,hg,q0,q1,q2,q3⟩:=(HD.o.h.bw hB).at k hlt _ _ _ _ rfl;have HNO:=zh (fun (q:¬ frk (aE M.ms) (M.hz.getD k zFr))=>aLk (cd:=M.cd) (show k<M.hz.length by omega) q)
   have HST:=zh (fun (q:frk (aE M.ms) (M.hz.getD k zFr)) (i:Nat) (hi:i<k+1)=>show frk (aE M.ms) (M.hz.getD i zFr) from by
    by_cases e:i=k
    .rw [e];exact q
    .exact hF i (by omega))
   generalize M.hz.getD k zFr=x at *;obtain ⟨x0,x1,x2,x3⟩:=x;dsimp only at q0 q1 q2 q3;obtain ⟨U,hU,bU,kU⟩:=nwb wr (qW x0 x1 x2 x3) 135;have BU:=hB.trans (bU.mono hB.size);have HTH:=zh (gR M.ma M.mn M.mc M.ms x0 x1 U (HD.o.m.s.bw BU));rw [dX HD.o.m x0 x1] at HTH;have HBU:=zh BU;have HU:=zh hU;have HKU:=zh kU;rw [hg] at y13;obtain ⟨j0,_,_⟩:=HC.o U BU;have j1:=kU.cell 0;have j2:=kU.cell 1;clear hB hF hU kU bU BU hg;by_cases c1:0<=pcq (aE M.ms) x0 x1
   .rw [xR c1] at HTH;obtain ⟨gm,om,D,ha,hD,⟨m0,m1⟩,hcell⟩:=aQm (HD.o.m.bw HBU.o) c1;have HP:=zh (fun (X:qw) (hX:qY U X)=>oX (HD.o.m.bw HBU.o) c1 hD X hX);have HMC:=zh (fun (X:qw) (hX:qY U X)=>xA (hcell X hX) (xA (HC.o X (HBU.o.trans (hX.mono HBU.o.size))).1 (xA ((HKU.o.bw hX).cell 0) (xA ((HKU.o.bw hX).cell 1) (xA ((HKU.o.bw hX).cell 2) ((HKU.o.bw hX).cell 3))))));have HFK:=zh (show frk (aE M.ms) (x0,x1,x2,x3) ↔ (0<=x2/\x2<=pcq (aE M.ms) x0 x1)/\0<=x3/\x3<=4294967295 from by unfold frk tgk;simp [c1]);generalize pcq (aE M.ms) x0 x1=q at *;rw [ha] at y0 j0 HTH;have HA:=zh ha;clear hcell hD c1 ha;go_wp2_with (rw [<- HU.o])
    refine HTH.o.mono ?_;rintro e X1 ⟨rfl,hb1⟩;obtain ⟨⟨u0,u1,u2,u3,u4,u5,u6,u7⟩,z0,t0,t1,t2,t3⟩:=HMC.o X1 hb1;have HX1:=zh hb1;have HP2:=zh (fun (X:qw) (hX:qY X1 X)=>(HP.o X (HX1.o.trans (hX.mono HX1.o.size))).mono (fun e w' he=>show ∃ xa xn xc,e=.returned (.tuple #[qS xa xn xc,.bool true])/\(xn:Int)=q/\qY U w' from he));rw [HA.o] at z0;clear hb1 q0 q1 q2 q3 y0 y4 y13 j0 j1 j2 HTH HU HP;by_cases c3:x3<0
    .have HN:=zh (HNO.o (fun f=>by have:=HFK.o.1 f;omega));go_wp2;go_ret;exact cV HN.o (HK.o.1.trans ((HBU.o.trans (HX1.o.mono HBU.o.size)).mono HK.o.1.size))
    by_cases c4:4294967295<x3
    .have HN:=zh (HNO.o (fun f=>by have:=HFK.o.1 f;omega));go_wp2;go_ret;exact cV HN.o (HK.o.1.trans ((HBU.o.trans (HX1.o.mono HBU.o.size)).mono HK.o.1.size))
    go_wp2_with fail
    go_region_held3 (fun w'=>w'.cell? (qR w.heap.size 0)=some (qS (some (qR gm om)) M.mn M.mc)/\w'.cell? (qR wr.heap.size 0)=some (qI x0)/\w'.cell? (qR wr.heap.size 1)=some (qI x1)/\w'.cell? (qR gm (om+x0.toNat*8))=some (.string D.nm)/\w'.cell? (qR gm (om+x0.toNat*8+1))=some (qS D.ta D.tn D.tc)/\w'.cell? (qR gm (om+x0.toNat*8+2))=some (qS D.ba D.bn D.bc)/\w'.cell? (qR gm (om+x0.toNat*8+3))=some (qS D.da D.dn D.dc)/\w'.cell? (qR gm (om+x0.toNat*8+4))=some (qI D.bss)/\w'.cell? (qR gm (om+x0.toNat*8+5))=some (qS D.ra D.rn D.rc)/\w'.cell? (qR gm (om+x0.toNat*8+6))=some (qS D.ia D.im D.ic)/\w'.cell? (qR gm (om+x0.toNat*8+7))=some (qS D.ea D.en D.ec)) (go_keep)
     (first
       | (go_at_call 115;first
           | with_reducible refine (HP2.o _ brf).mono ?_
           | with_reducible refine (HP2.o _ brf.drew).mono ?_
          rintro e w1 ⟨xa,xn,xc,rfl,hxn,hb1⟩;have HXN:=zh hxn;have HB1:=zh hb1;obtain ⟨⟨s0,s1,s2,s3,s4,s5,s6,s7⟩,p0,r0,r1,r2,r3⟩:=HMC.o w1 hb1;rw [HA.o] at p0
          clear hb1 hxn))
    clear u0 u1 u2 u3 u4 u5 u6 u7 s0 s1 s2 s3 s4 s5 s6 s7 z0 t0 t1 t2 t3 HP2;have HE:=zh (HBU.o.trans (HB1.o.mono HBU.o.size));by_cases c5:x2<0
    .have HN:=zh (HNO.o (fun f=>by have:=HFK.o.1 f;omega));go_wp2;go_ret;exact cV HN.o (HK.o.1.trans (HE.o.mono HK.o.1.size))
    by_cases c6:(xn:Int)<x2
    .have HN:=zh (HNO.o (fun f=>by have h1:=HFK.o.1 f;have h2:=HXN.o;omega));go_wp2;go_ret;exact cV HN.o (HK.o.1.trans (HE.o.mono HK.o.1.size))
    have HY:=zh (HST.o (HFK.o.2 (by have h2:=HXN.o;omega)));go_wp2
    go_roundw
    .exact ⟨k+1,by omega,by go_num,HY.o,HE.o⟩
    .simp [qf,intOf];omega
   .rw [xS c1] at HTH;have HN:=zh (HNO.o (fun f=>c1 f.1.1));go_wp2_with (rw [<- HU.o])
    refine HTH.o.mono ?_;rintro e X1 ⟨rfl,hb1⟩;go_wp2;go_ret;exact cV HN.o (HK.o.1.trans ((HBU.o.trans (hb1.mono HBU.o.size)).mono HK.o.1.size))
  .have HY:=zh (aG6 hl c0' hlt hF);clear hB hF;go_wp2;go_ret;exact pZ HY.o (HK.o.1.trans (HB.o.mono HK.o.1.size))
theorem rI (x0 x1 x2 x3:Int)(w:qw):
 qC 93 #[.agg (qW x0 x1 x2 x3)] w (qB w (.agg (qT x0 x1 x2))):=by
 go_enter func93,ntmps93
 go_wp2;refine bodyPost_ret (v:=.agg (qT x0 x1 x2)) (by simp [results,results93,go_sem]) rfl ⟨rfl,?_⟩;exact bal.alloc (by simp) _
theorem aAk (M:Mn)(w:qw)(h:MnD w M):
 qC 160 #[.agg (qA M)] w (Yn (jW (aE M.ms) M.cd M.hz) w):=by
 obtain ⟨V,hV,bV,kV⟩:=nwb w (qA M) 43;have hl:=h.h.1;have hmx:=h.h.2.1;unfold maxLen at hmx;have HDh:=zh (h.h.bw bV);have HDm:=zh (h.m.bw bV);have HV:=zh hV;have HK:=zh (xA bV kV);have HC:=zh (fun (X:qw) (hX:qY V X)=>show X.cell? (qR w.heap.size 0)=some (qS M.ma M.mn M.mc)/\X.cell? (qR w.heap.size 4)=some (qI M.cd)/\X.cell? (qR w.heap.size 13)=some (qS M.ha M.hn M.hc) from ⟨(kV.bw hX).cell 0,(kV.bw hX).cell 4,(kV.bw hX).cell 13⟩);clear hV kV bV h;generalize M.ha=hA at *;obtain ⟨y0,y4,y13⟩:=HC.o V brf;by_cases c0:M.cd<(M.hn:Int)
 .have HN:Zh (¬ jW (aE M.ms) M.cd M.hz):=fun f=>by have:=f.1;omega
  go_enter func160,ntmps160
  go_wp2_with (rw [<- HV.o])
  go_ret;exact cV HN.o (HK.o.1)
 have c0':(M.hn:Int)<=M.cd:=by omega
 have HRE:=zh (Below.refl V.heap.size V);go_enter func160,ntmps160
 go_wp2_with (rw [<- HV.o])
 clear y0 y4 y13;go_loopw [15] (fun i wr=>∃ k:Nat,k<=M.hn/\i=qI k/\(∀ i,i<k->frk (aE M.ms) (M.hz.getD i zFr))/\qY V wr) (qf M.hn)
 .exact ⟨0,xC _,rfl,fun i hi=>absurd hi (by omega),HRE.o⟩
 .obtain ⟨k,hk,rfl,hF,hB⟩:=hrel;have HB:=zh hB;by_cases hlt:k<M.hn
  .have hlt':(k:Int)<(M.hn:Int):=by omega
   obtain ⟨g,f,rfl,q0,q1,q2,q3⟩:=(HDh.o.bw hB).at k hlt _ _ _ _ rfl;have HNO:=zh (fun (q:¬ frk (aE M.ms) (M.hz.getD k zFr))=>aLk (cd:=M.cd) (show k<M.hz.length by omega) q)
   have HST:=zh (fun (q:frk (aE M.ms) (M.hz.getD k zFr)) (i:Nat) (hi:i<k+1)=>show frk (aE M.ms) (M.hz.getD i zFr) from by
    by_cases e:i=k
    .rw [e];exact q
    .exact hF i (by omega))
   generalize M.hz.getD k zFr=x at *;obtain ⟨x0,x1,x2,x3⟩:=x;dsimp only at q0 q1 q2 q3;obtain ⟨U,hU,bU,kU⟩:=nwb wr (qW x0 x1 x2 x3) 135;have BU:=hB.trans (bU.mono hB.size);have HBU:=zh BU;have HU:=zh hU;have HMC:=zh (fun (X:qw) (hX:qY U X)=>show X.cell? (qR w.heap.size 0)=some (qS M.ma M.mn M.mc)/\X.cell? (qR wr.heap.size 0)=some (qI x0)/\X.cell? (qR wr.heap.size 1)=some (qI x1)/\X.cell? (qR wr.heap.size 2)=some (qI x2)/\X.cell? (qR wr.heap.size 3)=some (qI x3) from ⟨(HC.o X (BU.trans (hX.mono BU.size))).1,(kU.bw hX).cell 0,(kU.bw hX).cell 1,(kU.bw hX).cell 2,(kU.bw hX).cell 3⟩);have HTG:=zh (fun (X:qw) (hX:qY U X)=>(rI x0 x1 x2 x3 X).mono (fun e w' he=>show e=.returned (.agg (qT x0 x1 x2))/\qY U w' from ⟨he.1,hX.trans (he.2.mono hX.size)⟩));have HTO:=zh (fun (X:qw) (hX:qY U X)=>(jA M.ma M.mn M.mc M.ms x0 x1 x2 X ((HDm.o.bw BU).bw hX)).mono (fun e w' he=>show e=.returned (.bool (decide (tgk (aE M.ms) x0 x1 x2)))/\qY U w' from ⟨he.1,hX.trans (he.2.mono hX.size)⟩));have HIW:=zh (cD x3);have HFK:Zh (frk (aE M.ms) (x0,x1,x2,x3) ↔ tgk (aE M.ms) x0 x1 x2/\0<=x3/\x3<=4294967295):=Iff.rfl;clear hB hF hU kU bU BU;by_cases c1:tgk (aE M.ms) x0 x1 x2
   .rw [xR c1] at HTO;by_cases c2:0<=x3/\x3<=4294967295
    .rw [xR c2] at HIW;have HY:=zh (HST.o (HFK.o.2 ⟨c1,c2⟩));clear c1 c2;obtain ⟨p0,t0,t1,t2,t3⟩:=HMC.o U brf;go_wp2_with (rw [<- HU.o])
     first|(go_region_held3 (fun w'=>w'.cell? (qR w.heap.size 0)=some (qS M.ma M.mn M.mc)/\w'.cell? (qR wr.heap.size 0)=some (qI x0)/\w'.cell? (qR wr.heap.size 1)=some (qI x1)/\w'.cell? (qR wr.heap.size 2)=some (qI x2)/\w'.cell? (qR wr.heap.size 3)=some (qI x3)) (go_keep)
      (first
        | (go_at_call 93;first
            | with_reducible refine (HTG.o _ brf).mono ?_
            | with_reducible refine (HTG.o _ brf.drew).mono ?_
           rintro e w1 ⟨rfl,hb1⟩;have HB1:=zh hb1;obtain ⟨r0,s0,s1,s2,s3⟩:=HMC.o w1 hb1
           clear hb1)
        | (go_at_call 126;first
            | with_reducible refine (HTO.o _ HB1.o).mono ?_
            | with_reducible refine (HTO.o _ HB1.o.drew).mono ?_
           rintro e w2 ⟨rfl,hb2⟩;have HB2:=zh hb2;obtain ⟨n0,m0,m1,m2,m3⟩:=HMC.o w2 hb2
           clear hb2)
        | (go_at_call 190;refine (HIW.o _).mono ?_;rintro e w3 ⟨rfl,rfl⟩)))|fail
     have HE:=zh (HBU.o.trans (HB2.o.mono HBU.o.size));clear p0 t0 t1 t2 t3 r0 s0 s1 s2 s3 n0 m0 m1 m2 m3 HTG HTO HMC HB1 HB2;go_wp2
     go_roundw
     .exact ⟨k+1,by omega,by go_num,HY.o,HE.o⟩
     .simp [qf,intOf];omega
    .rw [xS c2] at HIW;have HN:=zh (HNO.o (fun f=>c2 (HFK.o.1 f).2));clear c1 c2;obtain ⟨p0,t0,t1,t2,t3⟩:=HMC.o U brf;go_wp2_with (rw [<- HU.o])
     first|(go_region_held3 (fun w'=>w'.cell? (qR w.heap.size 0)=some (qS M.ma M.mn M.mc)/\w'.cell? (qR wr.heap.size 0)=some (qI x0)/\w'.cell? (qR wr.heap.size 1)=some (qI x1)/\w'.cell? (qR wr.heap.size 2)=some (qI x2)/\w'.cell? (qR wr.heap.size 3)=some (qI x3)) (go_keep)
      (first
        | (go_at_call 93;first
            | with_reducible refine (HTG.o _ brf).mono ?_
            | with_reducible refine (HTG.o _ brf.drew).mono ?_
           rintro e w1 ⟨rfl,hb1⟩;have HB1:=zh hb1;obtain ⟨r0,s0,s1,s2,s3⟩:=HMC.o w1 hb1
           clear hb1)
        | (go_at_call 126;first
            | with_reducible refine (HTO.o _ HB1.o).mono ?_
            | with_reducible refine (HTO.o _ HB1.o.drew).mono ?_
           rintro e w2 ⟨rfl,hb2⟩;have HB2:=zh hb2;obtain ⟨n0,m0,m1,m2,m3⟩:=HMC.o w2 hb2
           clear hb2)
        | (go_at_call 190;refine (HIW.o _).mono ?_;rintro e w3 ⟨rfl,rfl⟩)))|fail
     have HE:=zh (HBU.o.trans (HB2.o.mono HBU.o.size));clear p0 t0 t1 t2 t3 r0 s0 s1 s2 s3 n0 m0 m1 m2 m3 HTG HTO HMC HB1 HB2;go_wp2;go_ret;exact cV HN.o (HK.o.1.trans (HE.o.mono HK.o.1.size))
   .rw [xS c1] at HTO
    .have HN:=zh (HNO.o (fun f=>c1 (HFK.o.1 f).1));clear c1;go_wp2_with (rw [<- HU.o])
     refine wp_region_held_drew (S:=(fun w'=>w'.cell? (qR w.heap.size 0)=some (qS M.ma M.mn M.mc)/\w'.cell? (qR wr.heap.size 0)=some (qI x0)/\w'.cell? (qR wr.heap.size 1)=some (qI x1)/\w'.cell? (qR wr.heap.size 2)=some (qI x2)/\w'.cell? (qR wr.heap.size 3)=some (qI x3))) (by kernel_rfl) ?_ (fun hHeld=>?_)
     .exact HMC.o _ brf.drew
     refine tkV 0 ?_ rfl ?_ ?_;rotate_left
     ·(intro w hSw;(try dsimp only at hSw);go_simp;try with_reducible rfl)
     try simp only [yD,yE,yF,Act.put,yA,yB,yC]
     refine tkV 1 ?_ rfl ?_ ?_;rotate_left
     ·(intro w hSw;(try dsimp only at hSw);go_simp;try with_reducible rfl)
     try simp only [yD,yE,yF,Act.put,yA,yB,yC]
     refine tkV 2 ?_ rfl ?_ ?_;rotate_left
     ·(intro w hSw;(try dsimp only at hSw);go_simp;try with_reducible rfl)
     try simp only [yD,yE,yF,Act.put,yA,yB,yC]
     refine wpAnyH_ready (rs:=[3]) (by kernel_rfl) (by simp) (AllReadyH.cons rfl (fun K hK=>?_) AllReadyH.nil);go_simp;refine (HTG.o _ brf.drew).mono ?_;rintro e w1 ⟨rfl,hb1⟩;have HB1:=zh hb1;clear hb1;try go_wp2_with fail
     refine hK.out _ _ ?_ (fun hHeld=>?_)
     .exact HMC.o _ HB1.o
     clear hK K;try simp only [yD,yE,yF,Act.put,yA,yB,yC]
     refine wpAnyH_ready (rs:=[4]) (by kernel_rfl) (by simp) (AllReadyH.cons rfl (fun K hK=>?_) AllReadyH.nil);go_simp;refine (HTO.o _ HB1.o).mono ?_;rintro e w2 ⟨rfl,hb2⟩;have HB2:=zh hb2;clear hb2;try go_wp2_with fail
     refine hK.out _ _ ?_ (fun hHeld=>?_)
     .exact HMC.o _ HB2.o
     clear hK K;try simp only [yD,yE,yF,Act.put,yA,yB,yC]
     refine tkV 5 ?_ rfl ?_ ?_;rotate_left
     ·(intro w hSw;(try dsimp only at hSw);go_simp;try with_reducible rfl)
     try simp only [yD,yE,yF,Act.put,yA,yB,yC]
     refine tkV 6 ?_ rfl ?_ ?_;rotate_left
     ·(intro w hSw;(try dsimp only at hSw);go_simp;try with_reducible rfl)
     try simp only [yD,yE,yF,Act.put,yA,yB,yC]
     refine tkS 7 rfl ?_;try simp only [yD,yE,yF,Act.put,yA,yB,yC]
     refine tkS 8 rfl ?_;try simp only [yD,yE,yF,Act.put,yA,yB,yC]
     refine tkS 9 rfl ?_;try simp only [yD,yE,yF,Act.put,yA,yB,yC]
     refine tkS 10 rfl ?_;try simp only [yD,yE,yF,Act.put,yA,yB,yC]
     refine tkV 11 ?_ rfl ?_ ?_;rotate_left
     ·(intro w hSw;(try dsimp only at hSw);go_simp;try with_reducible rfl)
     try simp only [yD,yE,yF,Act.put,yA,yB,yC]
     refine wpAnyH_done (by kernel_rfl) ?_ _;have HE:=zh (HBU.o.trans (HB2.o.mono HBU.o.size));clear HTG HTO HMC HB1 HB2;go_wp2;go_ret;exact cV HN.o (HK.o.1.trans (HE.o.mono HK.o.1.size))
  .have HY:=zh (aG6 hl c0' hlt hF);clear hB hF;go_wp2;go_ret;exact pZ HY.o (HK.o.1.trans (HB.o.mono HK.o.1.size))
section
variable {zc:Array Value}{t:TypeId}{n g:Nat}{ms m:List Md}{L:Lay}{W0 X Y:qw}{o:Option Nat}{b0:qO}{d0:Nat}{ys:List PB}{b2:qO}{d2:Nat}{b5:qO}{d5:Nat}{us:List TB}
end
theorem aH5 {W w:qw}{c:Nat}{ms':List Md}(h:RowM W c n ms ms')(hl:ms'.length=n)(hm:MS w a n cap ms):upS (gG ms' (fun i=>bnF (ms'.getD i aK))) n<=3*(n+upS (fun j=>(ms.getD j aK).size) n):=by
 have key:∀ i,i<n->gG ms' (fun i=>bnF (ms'.getD i aK)) i<=2+3*(ms.getD i aK).size:=fun i hi=>by
  have hc:=(h.2.2 i (by omega)).2;have e1:=(uV (hm.2.2.2.1 i hi) hc).2
  have e2:(ms'.getD i aK).tn=(ms.getD i aK).tn/\(ms'.getD i aK).bn=(ms.getD i aK).bn/\(ms'.getD i aK).dn=(ms.getD i aK).dn/\(ms'.getD i aK).rn=(ms.getD i aK).rn/\(ms'.getD i aK).im=(ms.getD i aK).im/\(ms'.getD i aK).en=(ms.getD i aK).en:=by
   obtain ⟨g1,g2,g3,g5,g6,g7,gs,e,_⟩:=hc;rw [e];exact ⟨rfl,rfl,rfl,rfl,rfl,rfl⟩
  obtain ⟨f1,f2,f3,f4,f5,f6⟩:=e2;have e3:(ms.getD i aK).size=(ms.getD i aK).nm.size+(ms.getD i aK).tn+((ms.getD i aK).bn+upS (fun j=>((ms.getD i aK).bl.getD j zB).2.1) (ms.getD i aK).bn)+(ms.getD i aK).dn+(ms.getD i aK).rn+((ms.getD i aK).im+upS (fun j=>((ms.getD i aK).ss.getD j zS).size) (ms.getD i aK).im)+((ms.getD i aK).en+upS (fun j=>((ms.getD i aK).es.getD j zE).1.size) (ms.getD i aK).en):=rfl;unfold gG;rw [e1,f1,f3,f4,f5,f6,e3];omega
 have hsum:∀ q,q<=n->upS (gG ms' (fun i=>bnF (ms'.getD i aK))) q<=2*q+3*upS (fun j=>(ms.getD j aK).size) q:=by
  intro q
  induction q with
  | zero=>intro _;simp [upS]
  | succ q ih=>
    intro hq;have h1:=ih (by omega);have h2:=key q (by omega);show upS _ q+gG ms' (fun i=>bnF (ms'.getD i aK)) q<=2*(q+1)+3*(upS _ q+(ms.getD q aK).size);omega
 have:=hsum n aN;omega
def aRa (ps:List PMod)(L:Lay):Decidable (vG ps L):=
 have:=lokD ps L
 have:∀ b s,Decidable (sOk L b s):=fun _ _=>inferInstance
 decidable_of_iff (Lok ps L/\∀ m,m<ps.length->∀ b,b<(ps.getD m zP).bl.length+1->∀ s,s<L.slots.length+1->0<=pcq ps (m:Int) ((b:Int)-1)->sOk L ((b:Int)-1) ((s:Int)-1)->(plR ps L (m:Int) ((b:Int)-1) ((s:Int)-1)).length<=8) (by
  unfold vG;refine and_congr_right fun _=>⟨fun h m b s hp hs=>?_,fun h m _ b _ s _=>h m _ _⟩
  have hmb:(0<=m/\m<(ps.length:Int))/\(b=-1\/(0<=b/\b<((ps.getD m.toNat zP).bl.length:Int))):=by
   unfold pcq at hp;split at hp
   .refine ⟨by assumption,?_⟩;split at hp
    .exact .inl (by assumption)
    .split at hp
     .exact .inr (by assumption)
     .exact absurd hp (by decide)
   .exact absurd hp (by decide)
  have hs':=hs.fit;have:=h m.toNat (by omega) (b+1).toNat (by omega) (s+1).toNat (by omega);rw [show ((m.toNat:Nat):Int)=m by omega,show (((b+1).toNat:Nat):Int)-1=b by omega,show (((s+1).toNat:Nat):Int)-1=s by omega] at this
  exact this hp hs)
def aQ2 (ps:List PMod)(L:Lay)(cs cw T:Int)(rz:qi)(xs:List SlT):Decidable (cW ps L cs cw T rz xs):=by unfold cW nF slk aln cmn;infer_instance
def aQ8 (M:Mn):Decidable (MOk M):=
 have:=aRa (aE M.ms) M.L;have:=aQ2 (aE M.ms) M.L M.cs M.cw M.tn M.rz M.lz;have:Decidable (vY (aE M.ms) M.cs M.md M.bk M.lz):=by unfold vY;infer_instance
 have:Decidable (jW (aE M.ms) M.cd M.hz):=by unfold jW;infer_instance
 decidable_of_iff (lkc (aE M.ms) M.cs M.cw M.ck M.cd=0/\vG (aE M.ms) M.L/\cok M.pc M.kn M.kz=true/\mok M.fn M.rn M.on=true/\imF (aE M.ms) M.L=M.fz/\(M.rn:Int)=M.L.ram/\(0<=M.tn/\M.tn<=1000000000)/\cW (aE M.ms) M.L M.cs M.cw M.tn M.rz M.lz/\vY (aE M.ms) M.cs M.md M.bk M.lz/\jW (aE M.ms) M.cd M.hz) ⟨fun ⟨h1,h2,h3,h4,h5,h6,h7,h8,h9,h10⟩=>⟨h1,h2,h3,h4,h5,h6,h7,h8,h9,h10⟩,fun h=>⟨h.l,h.p,h.c,h.b,h.f,h.r,h.t,h.s,h.n,h.h⟩⟩
theorem aNr {W:qw}(k1:Blk W q z15 43)(v0 v1 v2 v3 v4 v5 v6 v7 v8 v9 v10 v11 v12 v13 v14:Value)(Q:Ending->World->Prop)(tmps:Array Value)(h2:tmps[2]?=some (.pointer (qP q)))(hQ:Q (.returned (.agg #[v0,v1,v2,v3,v4,v5,v6,v7,v8,v9,v10,v11,v12,v13,v14])) (mL W q v0 v1 v2 v3 v4 v5 v6 v7 v8 v9 v10 v11 v12 v13 v14)):
 bodyPost prog f30 Q Exit.ret ⟨tmps,[]⟩ (mL W q v0 v1 v2 v3 v4 v5 v6 v7 v8 v9 v10 v11 v12 v13 v14):=by
 obtain ⟨t0,t1,t2,t3,t4,t5,t6,t7,t8,t9,t10,t11,t12,t13,t14⟩:=(iQ k1 v0 v1 v2 v3 v4 v5 v6 v7 v8 v9 v10 v11 v12 v13 v14).mc;refine bodyPost_ret_by (v:=.agg #[v0,v1,v2,v3,v4,v5,v6,v7,v8,v9,v10,v11,v12,v13,v14]) ?_ rfl hQ;simp [results,results30,go_sem,h2,t0,t1,t2,t3,t4,t5,t6,t7,t8,t9,t10,t11,t12,t13,t14]
theorem vC {W w6:qw}{o:Obj}(hv:v.ownBlock=some W.heap.size)(G:(W.alloc o).grownBy w6 v.ownBlock):qY W w6:=pM (brf.alloc aN o) (by simp) hv G
theorem jI (M:Mn)(g b1 o1 b2 o2 b3 o3 b4 o4:Nat)(Ls:List (PMod×Mb))(w:qw)(H:MnS w M g b1 o1 b2 o2 b3 o3 b4 o4 Ls):qC 30 #[.agg (qA M)] w (CpP w M.cn):=by
 obtain ⟨iS,hiS,hiS0,hiS1,hiS2⟩:=info_parts aFi;obtain ⟨iF,hiF,hiF0,hiF1,hiF2⟩:=info_parts uB;obtain ⟨⟨ea,ek,ef,er,eo⟩,hm,hln,hle,hk,hf,hr,ho,hl,hh,zm,zk,zq,zl,zh⟩:=H;try unfold qA at *
 try unfold qL at *
 rw [ea] at hm ⊢;rw [ek] at hk ⊢;rw [ef] at hf ⊢;rw [er] at hr ⊢;rw [eo] at ho ⊢;obtain ⟨w1,hw1⟩:=eqx (((w.alloc (.cells (qX M (qP g) M.mn M.mc (some ⟨b1,o1,none⟩) M.kn M.kc (some ⟨b2,o2,none⟩) M.fn M.fc (some ⟨b3,o3,none⟩) M.rn M.rc (some ⟨b4,o4,none⟩) M.on M.oc M.la M.ln M.lc M.ha M.hn M.hc) 43)).alloc (.cells qZ 43)).alloc (.cells (qX M (qP g) M.mn M.mc (some ⟨b1,o1,none⟩) M.kn M.kc (some ⟨b2,o2,none⟩) M.fn M.fc (some ⟨b3,o3,none⟩) M.rn M.rc (some ⟨b4,o4,none⟩) M.on M.oc M.la M.ln M.lc M.ha M.hn M.hc) 43));have B1:qY w w1:=by rw [hw1];exact ((brf.alloc aN _).alloc (by simp) _).alloc (by simp;omega) _
 have K1:Cpx w w1 (qX M (qP g) M.mn M.mc (some ⟨b1,o1,none⟩) M.kn M.kc (some ⟨b2,o2,none⟩) M.fn M.fc (some ⟨b3,o3,none⟩) M.rn M.rc (some ⟨b4,o4,none⟩) M.on M.oc M.la M.ln M.lc M.ha M.hn M.hc) (qX M (qP g) M.mn M.mc (some ⟨b1,o1,none⟩) M.kn M.kc (some ⟨b2,o2,none⟩) M.fn M.fc (some ⟨b3,o3,none⟩) M.rn M.rc (some ⟨b4,o4,none⟩) M.on M.oc M.la M.ln M.lc M.ha M.hn M.hc):=by
  refine ⟨B1,?_,?_,?_⟩
  .rw [hw1];exact ((Blk.new _ _ _).alloc _).alloc _
  .rw [hw1];have:=(Blk.new (w.alloc (.cells (qX M (qP g) M.mn M.mc (some ⟨b1,o1,none⟩) M.kn M.kc (some ⟨b2,o2,none⟩) M.fn M.fc (some ⟨b3,o3,none⟩) M.rn M.rc (some ⟨b4,o4,none⟩) M.on M.oc M.la M.ln M.lc M.ha M.hn M.hc) 43)) z15 43).alloc (.cells (qX M (qP g) M.mn M.mc (some ⟨b1,o1,none⟩) M.kn M.kc (some ⟨b2,o2,none⟩) M.fn M.fc (some ⟨b3,o3,none⟩) M.rn M.rc (some ⟨b4,o4,none⟩) M.on M.oc M.la M.ln M.lc M.ha M.hn M.hc) 43);simpa [z15] using this
  .rw [hw1];have:=Blk.new ((w.alloc (.cells (qX M (qP g) M.mn M.mc (some ⟨b1,o1,none⟩) M.kn M.kc (some ⟨b2,o2,none⟩) M.fn M.fc (some ⟨b3,o3,none⟩) M.rn M.rc (some ⟨b4,o4,none⟩) M.on M.oc M.la M.ln M.lc M.ha M.hn M.hc) 43)).alloc (.cells qZ 43)) (qX M (qP g) M.mn M.mc (some ⟨b1,o1,none⟩) M.kn M.kc (some ⟨b2,o2,none⟩) M.fn M.fc (some ⟨b3,o3,none⟩) M.rn M.rc (some ⟨b4,o4,none⟩) M.on M.oc M.la M.ln M.lc M.ha M.hn M.hc) 43;simpa using this
 have HMS:=aO (aE5 g M.mn M.mc Ls w1 (hm.bw B1) hln zm);have HKF:=aO (fun (X:qw) (hX:qY w X)=>aFb M.pc b1 o1 M.kn M.kc M.kz X (hk.bw hX) zk);have HMF:=aO (fun (X:qw) (hX:qY w X)=>aFe b2 o2 b3 o3 b4 o4 M.fn M.fc M.rn M.rc M.on M.oc M.fz M.rz M.oz X (hf.bw hX) (hr.bw hX) (ho.bw hX) zq);have HLF:=aO (fun (X:qw) (hX:qY w X)=>hl.bw hX);have HHF:=aO (fun (X:qw) (hX:qY w X)=>hh.bw hX);have HLE:=aO hle;have HSL:=aO (xA hl.1 hh.1);have HBW:=aO (show w.heap.size<=w1.heap.size from B1.size);have x0:=K1.ka.cell 0;have HK1:=aO K1;have HW1:=aO hw1;clear hw1 B1 K1 hm hk hf hr ho hl hh zk zq hln hle ea ek ef er eo zm;go_enter func30,ntmps30
 go_wp2_with (rw [<- HW1.out])
 refine HMS.out.mono ?_;rintro e wr ⟨a0,c0,L',β',rfl,O,hL,hbr⟩;rw [HLE.out] at hL;have K0:=HK1.out.bw hbr;obtain ⟨K,T⟩:=K0.set 0 (qS a0 M.mn c0);simp only [yA,yB,yC] at K;have y0:=K0.kg.cell 0;have yf0:=K0.kg.frozen;obtain ⟨X1,hX1⟩:=eqx (wr.setCell ⟨(w.heap.size+1+1),0,none⟩ (qS a0 M.mn c0));rw [<- hX1] at K T;have x5:=K.ka.cell 5;have x6:=K.ka.cell 6;have HKC:=aO (HKF.out X1 K.b);have HO:=aO (xA (O.tm T) (xA hL K));have HX1:=aO hX1;clear O hL K K0 T hX1 hbr HMS x0 HW1 HK1;go_wp2_with (rw [<- HX1.out])
 refine HKC.out.mono ?_;rintro e w2 ⟨ak,ck,rfl,O2,hb2⟩;obtain ⟨O,hL,K⟩:=HO.out;have K2:=K.bw hb2;obtain ⟨K3,T3⟩:=(K2.set 5 (qI M.pc)).1.set 6 (qS ak M.kn ck);have T2:=(K2.set 5 (qI M.pc)).2;simp only [yA,yB,yC] at K3;have y5:=K2.kg.cell 5;have y6:=K2.kg.cell 6;have yf:=K2.kg.frozen;obtain ⟨X3,hX3⟩:=eqx ((w2.setCell ⟨(w.heap.size+1+1),5,none⟩ (qI M.pc)).setCell ⟨(w.heap.size+1+1),6,none⟩ (qS ak M.kn ck));rw [<- hX3] at K3 T3;have HT3:=aO (xA (T2.trans T3) (xA K3 (xA O2 (cS hb2))));have x7:=K3.ka.cell 7;have x8:=K3.ka.cell 8;have x9:=K3.ka.cell 9;have HMC:=aO (HMF.out X3 K3.b);have HX3:=aO hX3;clear x5 x6 y0 yf0 O hL K K2 K3 T3 T2 hX3 O2 hb2 HKC HX1;go_wp2_with (rw [<- HX3.out])
 refine HMC.out.mono ?_;rintro e w4 ⟨af,cf,ar,cr,ao,co,rfl,O4,hb4⟩;have K4:=HT3.out.2.1.bw hb4;obtain ⟨K5,T5⟩:=((K4.set 7 (qS af M.fn cf)).1.set 8 (qS ar M.rn cr)).1.set 9 (qS ao M.on co);have T4:=(K4.set 7 (qS af M.fn cf)).2.trans ((K4.set 7 (qS af M.fn cf)).1.set 8 (qS ar M.rn cr)).2;simp only [yA,yB,yC] at K5;have y7:=K4.kg.cell 7;have y8:=K4.kg.cell 8;have y9:=K4.kg.cell 9;have yf4:=K4.kg.frozen;obtain ⟨X5,hX5⟩:=eqx (((w4.setCell ⟨(w.heap.size+1+1),7,none⟩ (qS af M.fn cf)).setCell ⟨(w.heap.size+1+1),8,none⟩ (qS ar M.rn cr)).setCell ⟨(w.heap.size+1+1),9,none⟩ (qS ao M.on co));rw [<- hX5] at K5 T5;have HT5:=aO (xA (T4.trans T5) (xA K5 (xA O4 (cS hb4))));have bA:qY X5 (X5.alloc (.cells #[] 142)):=brf.alloc aN _;have x12:=(K5.bw bA).ka.cell 12;have HSC:=aO (HLF.out _ (K5.bw bA).b);have HOW:=aO (bK 142 4 bY X5 X5.heap.size aN);have HX5:=aO hX5;have hll:=HSL.out.1;have hhl:=HSL.out.2;clear x7 x8 x9 y5 y6 yf K4 K5 T4 T5 hX5 O4 hb4 HMC HX3 bA;go_wp2_with (first|(at_builtin;refine bH rfl _ _ 40 rfl X5.heap.size 142 iS _ 4 32 underlying40 hiS hiS0 hiS1 hiS2 rfl (by decide) (qS (qP X5.heap.size) 0 0) [] rfl HOW.out M.la M.ln M.lc M.lz rfl HSC.out (fun _=>rfl) (fun y u hu=>by simp [bY] at hu;rcases hu with rfl|rfl|rfl|rfl<;>rfl) (by unfold maxLen;simp;omega) (by simp;omega) (by simp) ?_;intro v' w6 O6 G6;rw [List.nil_append] at O6;obtain ⟨al,cl,rfl⟩:=aR O6;rw [hll] at O6 ⊢;have hb6:=vC rfl G6;have K6:=HT5.out.2.1.bw hb6;obtain ⟨K7,T7⟩:=K6.set 12 (qS al M.ln cl);simp only [yA,yB,yC] at K7;have y12:=K6.kg.cell 12;have yf6:=K6.kg.frozen;obtain ⟨X7,hX7⟩:∃ X7,X7=w6.setCell ⟨(w.heap.size+1+1),12,none⟩ (qS al M.ln cl):=⟨_,rfl⟩;rw [<- hX7] at K7 T7;have HT7:=aO (xA T7 (xA K7 (xA O6 (cS hb6))));have bB:qY X7 (X7.alloc (.cells #[] 135)):=brf.alloc aN _;have x13:=(K7.bw bB).ka.cell 13;have HSD:=aO (HHF.out _ (K7.bw bB).b);have HOX:=aO (bK 135 4 bC X7 X7.heap.size aN);have HX7:=aO hX7;clear x12 K6 K7 T7 hX7 O6 G6 hb6 bB HOW HSC)|(at_builtin;refine bH rfl _ _ 41 rfl X7.heap.size 135 iF _ 4 32 underlying41 hiF hiF0 hiF1 hiF2 rfl (by decide) (qS (qP X7.heap.size) 0 0) [] rfl HOX.out M.ha M.hn M.hc M.hz rfl HSD.out (fun _=>rfl) (fun y u hu=>by simp [bC] at hu;rcases hu with rfl|rfl|rfl|rfl<;>rfl) (by unfold maxLen;simp;omega) (by simp;omega) (by simp) ?_;intro v' w8 O8 G8;rw [List.nil_append] at O8;obtain ⟨ah,ch,rfl⟩:=aR O8;rw [hhl] at O8 ⊢;have hb8:=vC rfl G8;have K8:=HT7.out.2.1.bw hb8;obtain ⟨K9,T9⟩:=K8.set 13 (qS ah M.hn ch);simp only [yA,yB,yC] at K9;have y13:=K8.kg.cell 13;have yf8:=K8.kg.frozen;obtain ⟨X9,hX9⟩:∃ X9,X9=w8.setCell ⟨(w.heap.size+1+1),13,none⟩ (qS ah M.hn ch):=⟨_,rfl⟩;rw [<- hX9] at K9 T9;obtain ⟨u0,u1,u2,u3,u4,u5,u6,u7,u8,u9,u10,u11,u12,u13,u14⟩:=K9.kg.mc;have KZ:=K9.kr;unfold z15 at KZ;obtain ⟨r0,r1,r2,r3,r4,r5,r6,r7,r8,r9,r10,r11,r12,r13,r14⟩:=KZ.mc;have rf:=KZ.frozen;have HE:=aO (xA T9 (xA K9 (xA O8 (cS hb8))));have HX9:=aO hX9;clear x13 K8 K9 T9 hX9 O8 G8 hb8 KZ HOX HSD)|rw [<- HX5.out]|rw [<- HX7.out]|rw [<- HX9.out])
 have HF:=show CpP w M.cn (.returned (.agg (qX M a0 M.mn c0 ak M.kn ck af M.fn cf ar M.rn cr ao M.on co al M.ln cl ah M.hn ch))) (mL X9 (w.heap.size+1) (qS a0 M.mn c0) (qI M.cs) (qI M.cw) (qI M.ck) (qI M.cd) (qI M.pc) (qS ak M.kn ck) (qS af M.fn cf) (qS ar M.rn cr) (qS ao M.on co) (qI M.md) (qI M.bk) (qS al M.ln cl) (qS ah M.hn ch) (qI M.tn)) from by
  obtain ⟨T9,K9,O8,T8⟩:=HE.out;have TE:=iZ K9.kr (cG X9 (w.heap.size+1) (qS a0 M.mn c0) (qI M.cs) (qI M.cw) (qI M.ck) (qI M.cd) (qI M.pc) (qS ak M.kn ck) (qS af M.fn cf) (qS ar M.rn cr) (qS ao M.on co) (qI M.md) (qI M.bk) (qS al M.ln cl) (qS ah M.hn ch) (qI M.tn));have U9:=T9.trans TE;have U7:=(HT7.out.1.trans T8).trans U9;have U5:=(HT5.out.1.trans HT7.out.2.2.2).trans U7;have U3:=(HT3.out.1.trans HT5.out.2.2.2).trans U5;have U1:=HT3.out.2.2.2.trans U3;exact aLw (aG K9.b (cG _ _ _ _ _ _ _ _ _ _ _ _ _ _ _ _ _ ) (fun j hj=>by omega) K9.b.size) HO.out.1 HO.out.2.1 HBW.out U1 HT3.out.2.2.1 U3 aN HT5.out.2.2.1 U5 (by have h1:=HT3.out.1.size;have h2:=HT3.out.2.2.2.size;omega) HT7.out.2.2.1 U7 (by have h1:=HT3.out.1.size;have h2:=HT3.out.2.2.2.size;have h3:=HT5.out.1.size;have h4:=HT5.out.2.2.2.size;omega) O8 U9 (by have h1:=HT3.out.1.size;have h2:=HT3.out.2.2.2.size;have h3:=HT5.out.1.size;have h4:=HT5.out.2.2.2.size;have h5:=HT7.out.1.size;have h6:=HT7.out.2.2.2.size;omega) U1.size
 exact aNr HE.out.2.1.kr _ _ _ _ _ _ _ _ _ _ _ _ _ _ _ _ _ rfl HF
