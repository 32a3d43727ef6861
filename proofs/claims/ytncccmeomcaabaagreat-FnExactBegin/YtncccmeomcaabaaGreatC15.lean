import Derived.Below
import Derived.Orders
import Derived.Test.YtncccmeomcaabaaGreatC12
import Derived.Test.YtncccmeomcaabaaGreatC13
import Derived.Test.YtncccmeomcaabaaGreatC14
set_option linter.all false
set_option maxHeartbeats 16000000
namespace Go.Proofs.YtncccmeomcaabaaGreat
open Go.RowKit Classical
set_option maxRecDepth 100000
variable {C:Cn}{L:Lay}{b m:Int}{i:Nat}{ps:List PMod}{xs:List SlT}
structure Cv (C:Cn)(L:Lay):Prop where
 k:lkc C.ps C.cs C.cw C.ck C.cd=0
 e:L=lkL C.ps C.cs C.cw C.ck C.cd
 b:mok C.fz.length C.rz.length C.oz.length=true
 r:(C.rz.length:Int)=L.ram
 g:C.kz.length=8
 s:cW C.ps L C.cs C.cw C.tn C.rz C.lz
 n:vY C.ps C.cs C.md C.bk C.lz
 t:0<=C.tn/\C.tn<=1000000000
theorem aPi (x:Int):rnd x%32=0:=by unfold rnd;omega
theorem aO0 (ps:List PMod):∀ i,Ra ps i%32=0
 | 0=>rfl
 | i+1=>by
   have h1:=aO0 ps i;have h2:=aPi (((ps.getD i zP).dz.length:Int)+(ps.getD i zP).bss);unfold Ra dsz;omega
theorem aPb {s c k d:Int}(h:lkc ps s c k d=0)(hi:i<(lkL ps s c k d).slots.length):(lkL ps s c k d).slots.getD i 0%4=0:=by
 have e:lkL ps s c k d=lay ps s c k:=by unfold lkL;rw [if_pos h]
 rw [e] at hi ⊢;have h1:=(eQ.1 h).1;unfold cfo at h1;simp at h1;have hl:(lay ps s c k).slots.length=s.toNat:=by simp [lay]
 rw [hl] at hi;have e2:(lay ps s c k).slots.getD i 0=slt ps c k i:=by simp [lay,xB,hi]
 rw [e2];unfold slt;have q1:=aO0 ps ps.length
 have q2:((i:Int)*rnd (4*c))%32=0:=by
  unfold rnd;rw [<- Int.mul_assoc];exact Int.mul_emod_left _ _
 omega
theorem Cv.cf (h:Cv C L):(1<=C.cw/\C.cw<=64)/\C.ps.length<=4/\(L.slots.length:Int)=C.cs/\C.lz.length=L.slots.length/\Lok C.ps L:=by
 have h1:=eQ.1 h.k;have hc:=h1.1;unfold cfo at hc;simp at hc;have e:lkL C.ps C.cs C.cw C.ck C.cd=lay C.ps C.cs C.cw C.ck:=by unfold lkL;rw [if_pos h.k]
 have hl:(L.slots.length:Int)=C.cs:=by rw [h.e,e];simp [lay];omega
 have hs:=h.s.1;exact ⟨by omega,h1.2.2.1,hl,by omega,by rw [h.e,e];exact aE3 h.k⟩
theorem Cv.slot (h:Cv C L)(hi:i<C.lz.length):65536<=L.slots.getD i 0/\(L.slots.getD i 0-65536).toNat+slz C.cw<=C.rz.length/\L.slots.getD i 0%4=0/\i<L.slots.length/\0<C.cs/\L.slots.getD i 0<=100000:=by
 have hl:=h.cf.2.2.2.1;have hr:=h.r;have e:=h.e;have h1:=sG h.k (i:=i) (by rw [<- e];omega);have h2:=aPb h.k (i:=i) (by rw [<- e];omega);rw [<- e] at h1 h2;exact ⟨h1.1,by omega,h2,by omega,h1.2.2.2.2,by omega⟩
theorem aB3 {w:qw}{a:qO}{n cap:Nat}{ms:List Md}(h:MSD w a n cap ms)(hp:0<=pcq (aE ms) m b)(hb:0<=b):∃ gm om gb ob,a=some (qR gm om)/\(0<=m/\m<(n:Int))/\b<(((ms.getD m.toNat aK).bn:Nat):Int)/\(ms.getD m.toNat aK).bn<=9223372036854775807/\(ms.getD m.toNat aK).ba=some (qR gb ob)/\w.cell? (qR gm (om+m.toNat*8+2))=some (.slice (some (qR gb ob)) (ms.getD m.toNat aK).bn (ms.getD m.toNat aK).bc)/\w.cell? (qR gb (ob+b.toNat))=some (.slice ((ms.getD m.toNat aK).bl.getD b.toNat zB).1 ((ms.getD m.toNat aK).bl.getD b.toNat zB).2.1 ((ms.getD m.toNat aK).bl.getD b.toNat zB).2.2.1)/\IS w ((ms.getD m.toNat aK).bl.getD b.toNat zB).1 ((ms.getD m.toNat aK).bl.getD b.toNat zB).2.1 ((ms.getD m.toNat aK).bl.getD b.toNat zB).2.2.1 (bnk (aE ms) m b):=by
 obtain ⟨⟨h0,h1⟩,hq⟩:=kJ h hp;obtain ⟨gm,om,rfl,v0,v1,v2,v3,v4,v5,v6,v7⟩:=h.s.at m.toNat (by omega);have hd:=h.d m.toNat (by omega);have hn:=h.s.1;have hbn:bnk (aE ms) m b=((ms.getD m.toNat aK).pm.bl).getD b.toNat []:=by unfold bnk;rw [cI]
 generalize ms.getD m.toNat aK=D at *
 have hlt:b<(D.bn:Int):=by
  unfold pcn at hq;rw [if_neg (by omega)] at hq;by_cases c:0<=b/\b<(D.bn:Int)
  .exact c.2
  .rw [if_neg c] at hq;omega
 obtain ⟨b1,b2,b3,b4,b5⟩:=hd.b;unfold maxLen at b2;obtain ⟨gb,ob,hba,hc⟩:=b3 (by omega);have r:=b4 b.toNat (by omega);have ec:=hc b.toNat (by omega)
 have e1:bnk (aE ms) m b=(D.bl.getD b.toNat zB).2.2.2:=by
  rw [hbn];simp [Md.pm,xB,show b.toNat<D.bl.length by omega]
 rw [<- e1] at r;rw [hba] at v2;exact ⟨gm,om,gb,ob,rfl,⟨h0,h1⟩,hlt,by omega,hba,v2,ec,r⟩
theorem aLo (h:Cv C L)(hi:i<C.lz.length)(hp:0<=pcq C.ps m b)(hb:0<=b):bN C.rz (L.slots.getD i 0-65536).toNat (bnk C.ps m b) (slz C.cw/4)=ovr C.rz (L.slots.getD i 0-65536).toNat (bkb C.ps C.cw m b):=by
 obtain ⟨h1,h2,_,_,h5,_⟩:=h.slot hi;obtain ⟨c1,c2⟩:=h.cf.1;have hz4:4*(slz C.cw/4)=slz C.cw:=by have:=(fK c1 c2).1;unfold rnd at this;omega
 have hf:=(aBz h.k h5 hp hb).1;rw [aNz _ _ _ _ (by omega) (by omega),hz4];rfl
def BiP (w1 w:qw)(G g:Nat)(Y:Lyb)(C:Cn)(M:Mn)(v13:Value)(m b:Int)(e:Ending)(w':qw):Prop:=e=.returned (.tuple #[])/\∃ oa on oc,Mg w1 w' G Y { C with tn:=C.tn+1,lz:=C.lz.set (slq C.lz m b) (true,m,b,C.tn+1),rz:=ovr C.rz (Y.L.slots.getD (slq C.lz m b) 0-65536).toNat (bkb C.ps C.cw m b) } { M with tn:=C.tn+1,lz:=C.lz.set (slq C.lz m b) (true,m,b,C.tn+1),rz:=ovr C.rz (Y.L.slots.getD (slq C.lz m b) 0-65536).toNat (bkb C.ps C.cw m b),oa:=oa,on:=on,oc:=oc,oz:=C.oz } v13 (.slice (some (qR g 0)) 1 1)/\TGx w w'
theorem aDy (w1:qw)(G g:Nat)(Y:Lyb)(C:Cn)(M:Mn)(v13:Value)(m b t:Int)(w:qw)(h:Mg w1 w G Y C M v13 (.slice (some (qR g 0)) 1 1))(hr:Blk w g #[.int .i64 65536,.int .i64 14,.int .i64 0,.bool false,.bool true,.bool false] 214)(hv:Cv C Y.L)(hp:0<=pcq C.ps m b)(hb:0<=b)(hl:C.lz.length≠0)(ht:C.tn<1000000000):
 qC 129 #[.pointer (some (qR G 0)),.agg (qT m b t)] w (BiP w1 w G g Y C M v13 m b):=by
 obtain ⟨V,hV,bV,kV⟩:=nwb w (qT m b t) 58;have hg:=h.bw bV;have hrV:=hr.bw bV;have hGw:G<w.heap.size:=h.k.lt;obtain ⟨⟨_,e2,_,_,_,_,_,e8⟩,e9,e10⟩:=h.vs;obtain ⟨⟨c1,c2⟩,hn4',hcs,hlz,hLk⟩:=hv.cf;have hsq:=mN (xs:=C.lz) m b hl;obtain ⟨s1,s2,s3,s4,s5,s6⟩:=hv.slot hsq
 have hqs:QS bY zSl V M.la M.ln M.lc C.lz:=by
  obtain ⟨base,mid,Ls,β,mm,_⟩:=hg.m;exact tB bO mm.l
 have hln:C.lz.length=M.ln:=hqs.1
 obtain ⟨gl,hgl⟩:∃ gl,M.la=some ⟨gl,0,none⟩:=by
  obtain ⟨base,mid,Ls,β,mm,_⟩:=hg.m;obtain ⟨g',cp,e,_⟩:=World.ownsRow.form mm.l (by omega);simp only [Value.slice.injEq] at e;exact ⟨g',e.1⟩
 have HSW:=zh (jB M.la M.ln M.lc C.lz m b V hqs);have x12:V.cell? (qR G 12)=some (.slice M.la M.ln M.lc):=hg.k.cell 12;obtain ⟨y0,y1,y2,_⟩:=kV.three
 have HEND:=zh (fun (X:qw) (oa:qO) (on oc:Nat) (hX:Mg w1 X G Y { C with rz:=ovr C.rz (Y.L.slots.getD (slq C.lz m b) 0-65536).toNat (bkb C.ps C.cw m b) } { M with rz:=ovr C.rz (Y.L.slots.getD (slq C.lz m b) 0-65536).toNat (bkb C.ps C.cw m b),oa:=oa,on:=on,oc:=oc,oz:=C.oz } v13 (.slice (some (qR g 0)) 1 1))=>show Mg w1 (X.setCell (qR G 14) (.int .i64 (C.tn+1))) G Y { C with rz:=ovr C.rz (Y.L.slots.getD (slq C.lz m b) 0-65536).toNat (bkb C.ps C.cw m b),tn:=C.tn+1 } { M with rz:=ovr C.rz (Y.L.slots.getD (slq C.lz m b) 0-65536).toNat (bkb C.ps C.cw m b),oa:=oa,on:=on,oc:=oc,oz:=C.oz,tn:=C.tn+1 } v13 (.slice (some (qR g 0)) 1 1) from
  hX.put 14 (.int .i64 (C.tn+1)) rfl (fun x=>by have:=x.scal M.pc M.md M.bk (C.tn+1);exact ⟨this.m,this.e,this.k,this.q,this.l,this.h,this.bm,this.bh,⟨x.vs.1,x.vs.2.1,x.vs.2.2.1,x.vs.2.2.2.1,x.vs.2.2.2.2.1,x.vs.2.2.2.2.2.1,x.vs.2.2.2.2.2.2.1,rfl⟩,this.vz⟩))
 have HGL:=zh (fun (X:qw) (C':Cn) (M':Mn) (hX:Mg w1 X G Y C' M' v13 (.slice (some (qR g 0)) 1 1)) (e:M'.la=some (qR gl 0)) (e':slq C.lz m b<M'.ln)=>show (∃ cs,Blk X gl cs 142)/\gl≠G/\(∃ u,X.cell? (qR gl (slq C.lz m b*4))=some u)/\(∃ u,X.cell? (qR gl (slq C.lz m b*4+1))=some u)/\(∃ u,X.cell? (qR gl (slq C.lz m b*4+2))=some u)/\(∃ u,X.cell? (qR gl (slq C.lz m b*4+3))=some u)/\∀ i,X.frozen? (qR gl i)=false from by
  obtain ⟨base,mid,Ls,β,mm,_⟩:=hX.m;have ml:=mm.l;rw [e] at ml;obtain ⟨cs,kb⟩:=aD ml (k:=gl) rfl;obtain ⟨gg,q,hq⟩:=oL bO zSl ml (slq C.lz m b) e';cases q
  exact ⟨⟨cs,kb⟩,fun q=>by subst q;exact absurd (aH kb hX.k) (by decide),⟨_,hq 0 (by omega) _ rfl⟩,⟨_,hq 1 (by omega) _ rfl⟩,⟨_,hq 2 (by omega) _ rfl⟩,⟨_,hq 3 (by omega) _ rfl⟩,fun i=>kb.frozen i⟩)
 have HSLT:=zh (fun (X:qw) (oa:qO) (on oc:Nat) (hX:Mg w1 X G Y { C with rz:=ovr C.rz (Y.L.slots.getD (slq C.lz m b) 0-65536).toNat (bkb C.ps C.cw m b),tn:=C.tn+1 } { M with rz:=ovr C.rz (Y.L.slots.getD (slq C.lz m b) 0-65536).toNat (bkb C.ps C.cw m b),oa:=oa,on:=on,oc:=oc,oz:=C.oz,tn:=C.tn+1 } v13 (.slice (some (qR g 0)) 1 1)) (hT:TGx w X)=>show BiP w1 w G g Y C M v13 m b (.returned (.tuple #[])) ((((X.setCell (qR gl (slq C.lz m b*4)) (.bool true)).setCell (qR gl (slq C.lz m b*4+1)) (.int .i64 m)).setCell (qR gl (slq C.lz m b*4+2)) (.int .i64 b)).setCell (qR gl (slq C.lz m b*4+3)) (.int .i64 (C.tn+1))).drew from by
  refine ⟨rfl,oa,on,oc,?_⟩;obtain ⟨base,mid,Ls,β,mm,m1,m2⟩:=hX.m;have ml:=mm.l;have ml':OG 142 4 bY X mid (.slice (some (qR gl 0)) M.ln M.lc) C.lz:=by rw [<- hgl];exact ml
  obtain ⟨cs,kb⟩:=aD ml' (k:=gl) rfl;have T:=(((aC X gl (slq C.lz m b*4) (.bool true)).trans (aC _ gl (slq C.lz m b*4+1) (.int .i64 m))).trans (aC _ gl (slq C.lz m b*4+2) (.int .i64 b))).trans (aC _ gl (slq C.lz m b*4+3) (.int .i64 (C.tn+1)));have lo:=(ml'.lt gl rfl).1;have fin:Mg w1 ((((X.setCell (qR gl (slq C.lz m b*4)) (.bool true)).setCell (qR gl (slq C.lz m b*4+1)) (.int .i64 m)).setCell (qR gl (slq C.lz m b*4+2)) (.int .i64 b)).setCell (qR gl (slq C.lz m b*4+3)) (.int .i64 (C.tn+1))) G Y { C with tn:=C.tn+1,lz:=C.lz.set (slq C.lz m b) (true,m,b,C.tn+1),rz:=ovr C.rz (Y.L.slots.getD (slq C.lz m b) 0-65536).toNat (bkb C.ps C.cw m b) } { M with tn:=C.tn+1,lz:=C.lz.set (slq C.lz m b) (true,m,b,C.tn+1),rz:=ovr C.rz (Y.L.slots.getD (slq C.lz m b) 0-65536).toNat (bkb C.ps C.cw m b),oa:=oa,on:=on,oc:=oc,oz:=C.oz } v13 (.slice (some (qR g 0)) 1 1):=⟨aG hX.b T (fun j hj=>by have:=mm.bm;omega) hX.b.size,hX.g,aF T hX.k (fun e=>by have:=aH (by rw [e] at hX;exact hX.k) kb;revert this;decide),⟨base,mid,Ls,β,mm.slot hgl (slq C.lz m b) (by show _<M.ln;omega) true m b (C.tn+1),m1,m2⟩,hX.l⟩
  exact ⟨fin.bw brf.drew,(hT.trans (dT T (fun j hj=>by subst hj;exact ⟨cs,_,kb,.inr (.inr (.inl rfl))⟩))).trans (bD brf.drew)⟩)
 have hglw:gl<w.heap.size:=by
  obtain ⟨⟨cs,kb⟩,_⟩:=HGL.o w C M h hgl (by omega);exact kb.lt
 have HTB:=zh (fun (X:qw) (hX:TGx V X)=>show X.cell? (qR w.heap.size 0)=some (.int .i64 m)/\X.cell? (qR w.heap.size 1)=some (.int .i64 b) from ⟨(hX.blk kV (by unfold gkd;decide)).cell 0,(hX.blk kV (by unfold gkd;decide)).cell 1⟩);have HV:=zh hV;have HBV:=zh (bD bV);have e8':=e8;have hs0:(0:Int)<=((slq C.lz m b:Nat):Int):=by omega
 have hsl:slq C.lz m b<M.ln:=by omega
 have ht0:0<=C.tn:=hv.t.1;have hs1:((slq C.lz m b:Nat):Int)<(M.ln:Int):=by omega
 have hn1:¬ gl=w.heap.size:=by omega
 have hn2:¬ w.heap.size=gl:=by omega
 have hn3:¬ G=w.heap.size:=by omega
 have hn4:¬ w.heap.size=G:=by omega
 by_cases c:hld C.lz m b=-1
 .rw [c] at HSW;have HSF:=zh (fun (X:qw) (hX:qY V X)=>sI M.la M.ln M.lc C.lz X (hqs.bw hX));rw [show lst C.lz M.ln=slq C.lz m b by unfold slq;rw [if_pos c,hln]] at HSF;have hms:=(hg.mnd hn4').m;rw [<- e9] at hp;obtain ⟨gm,om,gb,ob,ea,⟨m0,m1⟩,b1,b2,eb,u2,ub,_⟩:=aB3 hms hp hb
  have HFI:=zh (fun (X:qw) (hX:qY V X)=>(aLp w1 G g Y C M v13 (slq C.lz m b) ((M.ms.getD m.toNat aK).bl.getD b.toNat zB).1 ((M.ms.getD m.toNat aK).bl.getD b.toNat zB).2.1 ((M.ms.getD m.toNat aK).bl.getD b.toNat zB).2.2.1 (bnk C.ps m b) X (hg.bw hX) (hrV.bw hX) hv.b ⟨c1,c2⟩ s4 s1 s2 s3 (fun {X C' M' vr'} hX' em ep=>by
   have q:=(aB3 (hX'.mnd (by rw [ep];exact hn4')).m (m:=m) (b:=b) (by rw [em];exact hp) hb).choose_spec.choose_spec.choose_spec.choose_spec.2.2.2.2.2.2.2;rw [em,e9] at q
   exact q)).mono (fun e w' he=>show e=.returned (.tuple #[])/\∃ oa on oc,Mg w1 w' G Y { C with rz:=ovr C.rz (Y.L.slots.getD (slq C.lz m b) 0-65536).toNat (bkb C.ps C.cw m b) } { M with rz:=ovr C.rz (Y.L.slots.getD (slq C.lz m b) 0-65536).toNat (bkb C.ps C.cw m b),oa:=oa,on:=on,oc:=oc,oz:=C.oz } v13 (.slice (some (qR g 0)) 1 1)/\TGx V w'/\w'.cell? (qR G 0)=some (.slice (some (qR gm om)) M.mn M.mc)/\w'.cell? (qR gm (om+m.toNat*8+2))=some (.slice (some (qR gb ob)) (M.ms.getD m.toNat aK).bn (M.ms.getD m.toNat aK).bc)/\w'.cell? (qR gb (ob+b.toNat))=some (.slice ((M.ms.getD m.toNat aK).bl.getD b.toNat zB).1 ((M.ms.getD m.toNat aK).bl.getD b.toNat zB).2.1 ((M.ms.getD m.toNat aK).bl.getD b.toNat zB).2.2.1) from by
   obtain ⟨he,oa,on,oc,h1,h2⟩:=he;rw [aLo hv hsq (by rw [<- e9];exact hp) hb] at h1;obtain ⟨gm',om',gb',ob',ea',_,_,_,eb',u2',ub',_⟩:=aB3 (h1.mnd hn4').m (m:=m) (b:=b) hp hb;have ea'':=ea.symm.trans ea';have eb'':=eb.symm.trans eb';cases ea''
   cases eb''
   exact ⟨he,oa,on,oc,h1,(bD hX).trans h2,by have q:=h1.k.cell 0;rw [q];show some (Value.slice M.ma M.mn M.mc)=_;rw [ea],u2',ub'⟩))
  generalize (M.ms.getD m.toNat aK).bl.getD b.toNat zB=B at *;generalize (M.ms.getD m.toNat aK).bn=dn at *;generalize (M.ms.getD m.toNat aK).bc=dc at *;have HC:=zh (fun (X:qw) (hX:qY V X)=>show X.cell? (qR G 0)=some (.slice (some (qR gm om)) M.mn M.mc)/\X.cell? (qR gm (om+m.toNat*8+2))=some (.slice (some (qR gb ob)) dn dc)/\X.cell? (qR gb (ob+b.toNat))=some (.slice B.1 B.2.1 B.2.2.1) from ⟨by rw [<- ea];exact (hg.bw hX).k.cell 0,aB hX u2,aB hX ub⟩);generalize slq C.lz m b=s at *;rw [hgl] at HSW HSF x12;have hmx:=hms.s.2.1;unfold maxLen at hmx;clear h hr hv hp hg hrV hqs hms e2 e8 e9 e10 hcs hlz hLk hsq s1 s2 s3 s4 s5 s6 ea eb u2 ub c1 c2 c bV kV hV y2;go_enter Tryz.func129,Tryz.ntmps129
  go_wp2_with (rw [<- HV.o])
  refine HSW.o.mono ?_;rintro e X1 ⟨rfl,hb1⟩;have HB1:=zh hb1;clear hb1 y0 y1 x12 HV;go_wp2_with fail
  refine (HSF.o X1 HB1.o).mono ?_;rintro e X2 ⟨rfl,hb2⟩;have HB2:=zh (HB1.o.trans (hb2.mono HB1.o.size));obtain ⟨x0,u2,ub⟩:=HC.o X2 HB2.o;obtain ⟨y0,y1⟩:=HTB.o X2 (bD HB2.o);have HF2:=zh (fun (X:qw) (hX:qY X2 X)=>HFI.o X (HB2.o.trans (hX.mono HB2.o.size)));clear hb2 HB1 HSF HC HFI;go_wp2_with fail
  go_region_held3 (fun w'=>w'.cell? (qR G 0)=some (.slice (some (qR gm om)) M.mn M.mc)/\w'.cell? (qR gm (om+m.toNat*8+2))=some (.slice (some (qR gb ob)) dn dc)/\w'.cell? (qR gb (ob+b.toNat))=some (.slice B.1 B.2.1 B.2.2.1)/\w'.cell? (qR w.heap.size 0)=some (.int .i64 m)/\w'.cell? (qR w.heap.size 1)=some (.int .i64 b)) (go_keep)
   (first
     | (go_at_call 178;first
         | with_reducible refine (HF2.o _ brf).mono ?_
         | with_reducible refine (HF2.o _ brf.drew).mono ?_
        rintro e X3 ⟨rfl,oa,on,oc,hE,hT,z0,z2,zb⟩;obtain ⟨t0,t1⟩:=HTB.o X3 hT;have HE:=zh (xA hE hT)
        clear hE hT))
  clear t0 t1 x0 y0 y1 u2 ub z0 z2 zb HF2 HB2;have x14:X3.cell? (qR G 14)=some (.int .i64 C.tn):=by rw [<- e8'];exact HE.o.1.k.cell 14
  have f14:=HE.o.1.k.frozen 14;obtain ⟨X4,hX4⟩:=eqx (X3.setCell ⟨G,14,none⟩ (.int .i64 (C.tn+1)));have hE4:=HEND.o X3 oa on oc HE.o.1;rw [<- hX4] at hE4;have z14:X4.cell? (qR G 14)=some (.int .i64 (C.tn+1)):=hE4.k.cell 14;obtain ⟨_,hgG,⟨v0,l0⟩,⟨v1,l1⟩,⟨v2,l2⟩,⟨v3,l3⟩,lf⟩:=HGL.o X4 _ _ hE4 hgl hsl;have hT4:TGx V X4:=by rw [hX4];exact HE.o.2.trans (dT (aC _ G 14 _) (fun j hj=>by subst hj;exact ⟨_,_,HE.o.1.k,.inr (.inl rfl)⟩))
  obtain ⟨t0,t1⟩:=HTB.o X4 hT4;have hn5:¬ gl=G:=hgG;have hn6:¬ G=gl:=fun e=>hgG e.symm;have HFF:=zh (HSLT.o X4 oa on oc hE4 (HBV.o.trans hT4));have HX4:=zh hX4;clear hE4 hX4 hT4 hgG HE HEND HSLT HGL HTB;go_wp2_with (rw [<- HX4.o])
  clear x14 f14
  go_region_held3 (fun w'=>w'.cell? (qR G 14)=some (.int .i64 (C.tn+1))/\w'.cell? (qR w.heap.size 0)=some (.int .i64 m)/\w'.cell? (qR w.heap.size 1)=some (.int .i64 b)) (go_keep) (fail)
  all_goals
   go_wp2
   go_end0
   exact HFF.o
 .have hnn:((((slq C.lz m b:Nat):Int)) == -1)=false:=by simp
  rw [show hld C.lz m b=((slq C.lz m b:Nat):Int) by unfold slq;rw [if_neg c];have:=fZ C.lz m b;omega] at HSW
  have HZ:=zh (fun (X:qw) (hX:qY V X)=>show Mg w1 X G Y { C with rz:=ovr C.rz (Y.L.slots.getD (slq C.lz m b) 0-65536).toNat (bkb C.ps C.cw m b) } { M with rz:=ovr C.rz (Y.L.slots.getD (slq C.lz m b) 0-65536).toNat (bkb C.ps C.cw m b),oa:=M.oa,on:=M.on,oc:=M.oc,oz:=C.oz } v13 (.slice (some (qR g 0)) 1 1) from by
   have e:M.rz=C.rz/\M.oz=C.oz:=by obtain ⟨_,_,_,_,mm,_⟩:=h.m;exact ⟨mm.vz.2.2.2.1,mm.vz.2.2.2.2.1⟩
   have q:=hg.bw hX;rw [aMm hv.s c s2];rw [show M={ M with rz:=C.rz,oa:=M.oa,on:=M.on,oc:=M.oc,oz:=C.oz } by rw [<- e.1,<- e.2]] at q
   exact q)
  generalize slq C.lz m b=s at *;rw [hgl] at HSW x12;clear h hr hv hp hg hrV hqs e2 e8 e9 e10 hcs hlz hLk hsq s1 s2 s3 s4 s5 s6 c1 c2 c bV kV hV y2;go_enter Tryz.func129,Tryz.ntmps129
  go_wp2_with (rw [<- HV.o])
  refine HSW.o.mono ?_;rintro e X3 ⟨rfl,hb1⟩;have HE:=zh (xA (HZ.o X3 hb1) (bD hb1));clear hb1 y0 y1 x12 HV HZ HSW;have x14:X3.cell? (qR G 14)=some (.int .i64 C.tn):=by rw [<- e8'];exact HE.o.1.k.cell 14
  have f14:=HE.o.1.k.frozen 14;obtain ⟨X4,hX4⟩:=eqx (X3.setCell ⟨G,14,none⟩ (.int .i64 (C.tn+1)));have hE4:=HEND.o X3 M.oa M.on M.oc HE.o.1;rw [<- hX4] at hE4;have z14:X4.cell? (qR G 14)=some (.int .i64 (C.tn+1)):=hE4.k.cell 14;obtain ⟨_,hgG,⟨v0,l0⟩,⟨v1,l1⟩,⟨v2,l2⟩,⟨v3,l3⟩,lf⟩:=HGL.o X4 _ _ hE4 hgl hsl;have hT4:TGx V X4:=by rw [hX4];exact HE.o.2.trans (dT (aC _ G 14 _) (fun j hj=>by subst hj;exact ⟨_,_,HE.o.1.k,.inr (.inl rfl)⟩))
  obtain ⟨t0,t1⟩:=HTB.o X4 hT4;have hn5:¬ gl=G:=hgG;have hn6:¬ G=gl:=fun e=>hgG e.symm;have HFF:=zh (HSLT.o X4 M.oa M.on M.oc hE4 (HBV.o.trans hT4));have HX4:=zh hX4;clear hE4 hX4 hT4 hgG HE HEND HSLT HGL HTB;go_wp2_with (rw [<- HX4.o])
  clear x14 f14
  go_region_held3 (fun w'=>w'.cell? (qR G 14)=some (.int .i64 (C.tn+1))/\w'.cell? (qR w.heap.size 0)=some (.int .i64 m)/\w'.cell? (qR w.heap.size 1)=some (.int .i64 b)) (go_keep) (fail)
  all_goals
   go_wp2
   go_end0
   exact HFF.o
theorem oY (m b:Int):∀ (xs:List SlT) (i:Nat),(fN m b i xs=-1->∀ j,j<xs.length->¬ usd m b (xs.getD j zSl))/\(∀ k:Nat,k<xs.length->usd m b (xs.getD k zSl)->(∀ j,j<k->¬ usd m b (xs.getD j zSl))->fN m b i xs=(i+k:Nat))/\(∀ j:Nat,((i+j:Nat):Int)<fN m b i xs->¬ usd m b (xs.getD j zSl))
 | [],i=>⟨fun _ j hj=>by simp at hj,fun k hk=>by simp at hk,fun j hj=>by unfold fN at hj;omega⟩
 | x::xs,i=>by
   obtain ⟨h1,h2,h3⟩:=oY m b xs (i+1);unfold fN;by_cases c:usd m b x
   .rw [if_pos c];refine ⟨fun e=>by omega,fun k hk hu hn=>?_,fun j hj=>by omega⟩;cases k with
    | zero=>rfl
    | succ k=>exact absurd c (by simpa using hn 0 (by omega))
   .rw [if_neg c];refine ⟨fun e j hj=>?_,fun k hk hu hn=>?_,fun j hj=>?_⟩
    .cases j with
     | zero=>simpa using c
     | succ j=>simpa using h1 e j (by simpa using hj)
    .cases k with
     | zero=>exact absurd (by simpa using hu) c
     | succ k=>
       rw [h2 k (by simpa using hk) (by simpa using hu) (fun j hj=>by simpa using hn (j+1) (by omega))];congr 1;omega
    .cases j with
     | zero=>simpa using c
     | succ j=>simpa using h3 j (by rw [show i+1+j=i+(j+1) by omega];exact hj)
theorem aG3 (h:xs.length≠0)(T:Int):hld (xs.set (slq xs m b) (true,m,b,T)) m b=((slq xs m b:Nat):Int):=by
 have hs:=mN (xs:=xs) m b h;obtain ⟨h1,_,h3⟩:=oY m b xs 0
 have e:=(oY m b (xs.set (slq xs m b) (true,m,b,T)) 0).2.1 (slq xs m b) (by simpa using hs) (by simp [xB,hs,usd]) (fun j hj=>by
  have e1:(xs.set (slq xs m b) (true,m,b,T)).getD j zSl=xs.getD j zSl:=by
   rw [xB,List.getElem?_set_ne (by omega),<- xB]
  rw [e1];by_cases c:hld xs m b=-1
  .exact h1 c j (by omega)
  .refine h3 j ?_;have q:slq xs m b=(hld xs m b).toNat:=by unfold slq;rw [if_neg c]
   have r:=fZ xs m b;show ((0+j:Nat):Int)<hld xs m b
   omega)
 rw [Nat.zero_add] at e;exact e
theorem aFm {cs cw T:Int}{rz:qi}(h:cW ps L cs cw T rz xs)(m:Int):hld xs m (-1)=-1:=by
 have key:∀ (ys:List SlT) (i:Nat),(∀ j,j<ys.length->¬ usd m (-1) (ys.getD j zSl))->fN m (-1) i ys=-1:=by
  intro ys
  induction ys with
  | nil=>intro i _;rfl
  | cons y ys ih=>
    intro i hy;unfold fN;rw [if_neg (by simpa using hy 0 (by simp))];exact ih (i+1) (fun j hj=>by simpa using hy (j+1) (by simpa using hj))
 refine key xs 0 (fun j hj hu=>?_);have h0:=(h.2 j hj).1;unfold slk at h0;obtain ⟨u1,u2,u3⟩:=hu;rcases h0 with h1|h1
 .rw [u1] at h1;exact absurd h1.1 (by decide)
 .have:=h1.2.1;omega
theorem Cv.cz (h:Cv C L):Cz C L:=by
 obtain ⟨_,h1,h2,h3,h4⟩:=h.cf;refine ⟨h4,h1,h.n.1,?_⟩;by_cases e:C.bk=-1
 .rw [e];exact .inl (aFm h.s _)
 .rcases fZ C.lz C.md C.bk with q|q
  .exact .inl q
  .exact .inr ⟨e,q.1,by omega⟩
theorem aP0 (h:Cv C L){t:Int}(hp:0<=pcq C.ps m b):Cz (gJ C L m b t) L:=by
 obtain ⟨_,h1,h2,h3,h4⟩:=h.cf;unfold gJ;by_cases c:C.lz.length≠0/\b≠-1
 .rw [if_pos c];refine ⟨h4,h1,hp,.inr ⟨c.2,?_⟩⟩;show 0<=hld (C.lz.set (slq C.lz m b) (true,m,b,C.tn+1)) m b/\hld (C.lz.set (slq C.lz m b) (true,m,b,C.tn+1)) m b<_;rw [aG3 c.1];have:=mN (xs:=C.lz) m b c.1;omega
 .rw [if_neg c];refine ⟨h4,h1,hp,.inl ?_⟩;show hld C.lz m b=-1;by_cases e:b=-1
  .rw [e];exact aFm h.s _
  .have:C.lz=[]:=xE (xZ.1 (fun q=>c ⟨q,e⟩));rw [this];rfl
section
variable {W:qw}{base mid:Nat}{C:Cn}{M:Mn}{Ls:List (PMod×Mb)}{β:Nat->Nat}
theorem MxO.smd (h:MxO W base mid C M Ls β)(v:Int):MxO W base mid { C with md:=v } { M with md:=v } Ls β:=⟨h.m,h.e,h.k,h.q,h.l,h.h,h.bm,h.bh,⟨h.vs.1,h.vs.2.1,h.vs.2.2.1,h.vs.2.2.2.1,h.vs.2.2.2.2.1,rfl,h.vs.2.2.2.2.2.2⟩,h.vz⟩
theorem MxO.sbk (h:MxO W base mid C M Ls β)(v:Int):MxO W base mid { C with bk:=v } { M with bk:=v } Ls β:=⟨h.m,h.e,h.k,h.q,h.l,h.h,h.bm,h.bh,⟨h.vs.1,h.vs.2.1,h.vs.2.2.1,h.vs.2.2.2.1,h.vs.2.2.2.2.1,h.vs.2.2.2.2.2.1,rfl,h.vs.2.2.2.2.2.2.2⟩,h.vz⟩
theorem MxO.spc (h:MxO W base mid C M Ls β)(v:Int):MxO W base mid { C with pc:=v } { M with pc:=v } Ls β:=⟨h.m,h.e,h.k,h.q,h.l,h.h,h.bm,h.bh,⟨h.vs.1,h.vs.2.1,h.vs.2.2.1,h.vs.2.2.2.1,rfl,h.vs.2.2.2.2.2⟩,h.vz⟩
end
theorem Mg.reg {w1 W:qw}{G:Nat}{Y:Lyb}{M:Mn}{v13 vr:Value}(h:Mg w1 W G Y C M v13 vr){gk:Nat}(e:M.ka=some (qR gk 0))(i:Nat)(hi:i<M.kn)(z:Int)(hz:wfi z):Mg w1 (W.setCell (qR gk i) (.int .i64 z)) G Y { C with kz:=C.kz.set i z } { M with kz:=C.kz.set i z } v13 vr:=by
 obtain ⟨base,mid,Ls,β,mm,q1,q2⟩:=h.m;have mk:=mm.k;rw [e] at mk;obtain ⟨cs,kb⟩:=aD mk.1 (k:=gk) rfl;have lo:=(mk.lt gk rfl).1;have bm:=mm.bm;have T:=aC W gk i (.int .i64 z);exact ⟨aG h.b T (fun j hj=>by omega) h.b.size,h.g,aF T h.k (fun s=>by have s':G=gk:=s;have k:=h.k;rw [s'] at k;exact absurd (aH kb k) (by decide)),⟨base,mid,Ls,β,mm.reg e i hi z hz,q1,q2⟩,h.l⟩
theorem aEo (h:Lok ps L)(hp:0<=pcq ps m b):0<=dY L (plc ps m.toNat) b (-1)/\dY L (plc ps m.toNat) b (-1)<=100000:=by
 have K:=kZ h
 have hm:0<=m/\m<(ps.length:Int):=by
  unfold pcq at hp;split at hp
  .assumption
  .exact absurd hp (by decide)
 have hv:=K.v m.toNat (by omega);have v4:=(cB hv).2.2.2.1;have n4:=K.n.2;have r1:=cO K.v m.toNat (by omega);have r2:=eC hv;unfold dY;unfold pcq at hp;rw [if_pos hm] at hp;by_cases c:b=-1
 .rw [if_pos c];show 0<=Fl ps m.toNat/\Fl ps m.toNat<=100000;omega
 .rw [if_neg c] at hp;rw [if_neg c,if_pos rfl];split at hp
  .rename_i hb;have r3:=cE hv b.toNat (by omega)
   have e:(plc ps m.toNat).banks.getD b.toNat 0=Fl ps m.toNat+tsz (ps.getD m.toNat zP)+cC (ps.getD m.toNat zP) b.toNat:=by
    unfold plc;generalize ps.getD m.toNat zP=P at *;simp [xB,show b.toNat<P.bl.length by omega]
   rw [e];omega
  .exact absurd hp (by decide)
def EtP (w1 w:qw)(G:Nat)(Y:Lyb)(C:Cn)(M:Mn)(v13:Value)(m b t:Int)(e:Ending)(w':qw):Prop:=
 if C.tn<1000000000/\tgk C.ps m b t then e=.returned (.bool true)/\∃ M' vr',Mg w1 w' G Y (gJ C Y.L m b t) M' v13 vr'/\TGx w w' else e=.returned (.bool false)/\∃ vr',Mg w1 w' G Y C M v13 vr'/\TGx w w'
theorem aI4 (w1:qw)(G:Nat)(Y:Lyb)(C:Cn)(M:Mn)(v13 vr:Value)(m b t:Int)(w:qw)(h:Mg w1 w G Y C M v13 vr)(hv:Cv C Y.L):
 qC 68 #[.pointer (some (qR G 0)),.agg (qT m b t)] w (EtP w1 w G Y C M v13 m b t):=by
 obtain ⟨V,hV,bV,kV⟩:=nwb w (qT m b t) 58;have hGw:G<w.heap.size:=h.k.lt;have HRA:=zh (aH8 w1 G Y C M v13 vr V (h.bw bV));have HTB:=zh (fun (X:qw) (hX:TGx V X)=>show X.cell? (qR w.heap.size 0)=some (.int .i64 m)/\X.cell? (qR w.heap.size 1)=some (.int .i64 b)/\X.cell? (qR w.heap.size 2)=some (.int .i64 t) from ⟨(hX.blk kV (by unfold gkd;decide)).cell 0,(hX.blk kV (by unfold gkd;decide)).cell 1,(hX.blk kV (by unfold gkd;decide)).cell 2⟩);have HTK:=zh (fun (X:qw) (vr':Value) (hX:Mg w1 X G Y C M v13 vr')=>wZ w1 G Y C M v13 vr' m b t X hX hv.cf.2.1);have HV:=zh hV;obtain ⟨y0,y1,y2,_⟩:=kV.three;have HKV:=zh kV;have HTV:=zh (bD bV);clear hV bV kV;by_cases c0:C.tn<1000000000/\tgk C.ps m b t
 .refine Calls.mono (R:=fun e w'=>e=.returned (.bool true)/\∃ M' vr',Mg w1 w' G Y (gJ C Y.L m b t) M' v13 vr'/\TGx w w') ?_ (fun e w' he=>by unfold EtP;rw [if_pos c0];exact he);rw [xR c0] at HTK;obtain ⟨ht,hp,t0,t1⟩:=c0;obtain ⟨_,hn4,hcs,hlz,hLk⟩:=hv.cf;have hz3:=aP0 (t:=t) hv hp;have KN:=mS (s:=0) h.l hLk hp;have hn3:¬ G=w.heap.size:=by omega
  have hn4':¬ w.heap.size=G:=by omega
  have hcs1:=h.vs.1.1;have hk8:=hv.g;have HDO:=zh (fun (X:qw) (M':Mn) (vr':Value) (hX:Mg w1 X G Y (gJ C Y.L m b t) M' v13 vr')=>(oU w1 G Y _ M' v13 vr' X hX hz3).2 .returning);by_cases K:C.lz.length≠0/\b≠-1
  focus
   have hb:0<=b:=by have:=KN.bb;omega
   have HBI:=zh (fun (X:qw) (g:Nat) (hX:Mg w1 X G Y C M v13 (.slice (some (qR g 0)) 1 1)) (hr:Blk X g #[.int .i64 65536,.int .i64 14,.int .i64 0,.bool false,.bool true,.bool false] 214)=>aDy w1 G g Y C M v13 m b t X hX hr hv hp hb K.1 ht);have hc1:(M.cs !=0)=true:=by rw [hcs1];simp;omega
   have hc2:(b !=-1)=true:=by simp [K.2]
   have HSQ:=zh (show 65536<=Y.L.slots.getD (slq C.lz m b) 0/\Y.L.slots.getD (slq C.lz m b) 0<=100000 from by have:=hv.slot (mN (xs:=C.lz) m b K.1);omega);clear hv
   go_enter_defers Tryz.func68,Tryz.ntmps68
   go_wp2_with (rw [<- HV.o])
   refine HRA.o.mono ?_;rintro e X1 ⟨rfl,g,h1,k1,T1⟩;have HE1:=zh (xA h1 (xA k1 T1));obtain ⟨z0,z1,z2⟩:=HTB.o X1 T1;clear y0 y1 y2 h1 k1 T1 HRA HV;go_wp2_with fail
   refine (HTK.o X1 _ HE1.o.1).mono ?_;rintro e X2 ⟨rfl,hb2⟩;have HE2:=zh (xA (HE1.o.1.bw hb2) (xA (HE1.o.2.1.bw hb2) (HE1.o.2.2.trans (bD hb2))));clear hb2 z0 z1 z2 HE1;obtain ⟨z0,z1,z2⟩:=HTB.o X2 HE2.o.2.2;have x1:X2.cell? (qR G 1)=some (.int .i64 M.cs):=HE2.o.1.k.cell 1;go_wp2_with fail
   refine (HBI.o X2 g HE2.o.1 HE2.o.2.1).mono ?_;rintro e X3 ⟨rfl,oa,on,oc,h3⟩;obtain ⟨h3,T3⟩:=h3;obtain ⟨C1,hC1⟩:∃ C1:Cn,C1={ C with tn:=C.tn+1,lz:=C.lz.set (slq C.lz m b) (true,m,b,C.tn+1),rz:=ovr C.rz (Y.L.slots.getD (slq C.lz m b) 0-65536).toNat (bkb C.ps C.cw m b) }:=⟨_,rfl⟩;obtain ⟨M1,hM1⟩:∃ M1:Mn,M1={ M with tn:=C.tn+1,lz:=C.lz.set (slq C.lz m b) (true,m,b,C.tn+1),rz:=ovr C.rz (Y.L.slots.getD (slq C.lz m b) 0-65536).toNat (bkb C.ps C.cw m b),oa:=oa,on:=on,oc:=oc,oz:=C.oz }:=⟨_,rfl⟩;rw [<- hC1,<- hM1] at h3;have hC1k:C1.kz=C.kz:=by rw [hC1]
   have hC1p:C1.ps=C.ps:=by rw [hC1]
   obtain ⟨S,hS⟩:∃ S:Int,S=((slq C.lz m b:Nat):Int):=⟨_,rfl⟩;have hC1s:hld C1.lz m b=S:=by rw [hC1,hS];exact aG3 K.1 _
   have hSfit:S=-1\/(b≠-1/\0<=S/\S<(Y.L.slots.length:Int)):=.inr ⟨K.2,by omega,by have:=mN (xs:=C.lz) m b K.1;omega⟩
   have hSb:0<=dY Y.L (plc C.ps m.toNat) b S/\dY Y.L (plc C.ps m.toNat) b S<=100000:=by
    unfold dY;rw [if_neg K.2,if_neg (by omega),hS,xY];have:=HSQ.o;omega
   have HE:=zh (xA h3 (HE2.o.2.2.trans T3));have HFN:=zh (show { C1 with md:=m,bk:=b,pc:=dY Y.L (plc C.ps m.toNat) b S+4*t,kz:=C1.kz.set 7 (plc C.ps m.toNat).data }=gJ C Y.L m b t by rw [hC1,hS];unfold gJ;rw [if_pos K]);clear h3 T3 z0 z1 z2 x1 hC1 hM1;obtain ⟨z0,z1,z2⟩:=HTB.o X3 HE.o.2
  rotate_left
  focus
   have hK:C.lz.length=0\/b=-1:=by
    by_cases q:b=-1
    .exact .inr q
    .exact .inl (xZ.1 (fun q'=>K ⟨q',q⟩))
   have hcc:(M.cs !=0)=false\/((M.cs !=0)=true/\(b !=-1)=false):=by
    by_cases q:M.cs=0
    .exact .inl (by simp [q])
    .refine .inr ⟨by simp [q],?_⟩;rcases hK with hK|hK
     .exact absurd (by omega) q
     .simp [hK]
   obtain ⟨C1,hC1⟩:∃ C1:Cn,C1=C:=⟨_,rfl⟩;obtain ⟨M1,hM1⟩:∃ M1:Mn,M1=M:=⟨_,rfl⟩;obtain ⟨S,hS⟩:∃ S:Int,S=-1:=⟨_,rfl⟩
   have HC1s:=zh (show hld C1.lz m b=S by
    rw [hC1,hS];rcases hK with hK|hK
    .rw [xE hK];rfl
    .rw [hK];exact aFm hv.s _)
   have HSfit:Zh (S=-1\/(b≠-1/\0<=S/\S<(Y.L.slots.length:Int))):=.inl hS;have HSb:=zh (show 0<=dY Y.L (plc C.ps m.toNat) b S/\dY Y.L (plc C.ps m.toNat) b S<=100000 by rw [hS];exact aEo hLk hp);have HFN:=zh (show { C1 with md:=m,bk:=b,pc:=dY Y.L (plc C.ps m.toNat) b S+4*t,kz:=C1.kz.set 7 (plc C.ps m.toNat).data }=gJ C Y.L m b t by rw [hC1,hS];unfold gJ;rw [if_neg K]);have HM1:=zh (xA hC1 hM1);have HS:=zh hS;clear hv hK K hC1 hM1 hS hcs1;rcases hcc with hc1|⟨hc1,hc2⟩
   all_goals
    go_enter_defers Tryz.func68,Tryz.ntmps68
    go_wp2_with (rw [<- HV.o])
    refine HRA.o.mono ?_;rintro e X1 ⟨rfl,g,h1,k1,T1⟩;have HE1:=zh (xA h1 T1);obtain ⟨z0,z1,z2⟩:=HTB.o X1 T1;clear y0 y1 y2 h1 k1 T1 HRA HV;go_wp2_with fail
    refine (HTK.o X1 _ HE1.o.1).mono ?_;rintro e X3 ⟨rfl,hb2⟩;have HE:Zh (Mg w1 X3 G Y C1 M1 v13 (.slice (some (qR g 0)) 1 1)/\TGx V X3):=⟨by rw [HM1.o.1,HM1.o.2];exact HE1.o.1.bw hb2,HE1.o.2.trans (bD hb2)⟩;clear hb2 z0 z1 z2 HE1;obtain ⟨z0,z1,z2⟩:=HTB.o X3 HE.o.2;have x1:X3.cell? (qR G 1)=some (.int .i64 M.cs):=by rw [<- HM1.o.2];exact HE.o.1.k.cell 1
    have hC1k:C1.kz=C.kz:=by rw [HM1.o.1]
    have hC1p:C1.ps=C.ps:=by rw [HM1.o.1]
    have hC1s:=HC1s.o;have hSfit:=HSfit.o;have hSb:=HSb.o;have hS:=HS.o
  all_goals
   have e3:C1.kz.length=8:=by rw [hC1k];exact hk8
   obtain ⟨gk,hgk,hgkn⟩:∃ gk,M1.ka=some ⟨gk,0,none⟩/\M1.kn=8:=by
    obtain ⟨base,mid,Ls,β,mm,_⟩:=HE.o.1.m;have hl:=oK mm.k;obtain ⟨g',cp,e,_⟩:=World.ownsRow.form mm.k.1 (by omega);simp only [Value.slice.injEq] at e;exact ⟨g',e.1,by omega⟩
   have x10:X3.cell? (qR G 10)=some (.int .i64 M1.md):=HE.o.1.k.cell 10;have x11:X3.cell? (qR G 11)=some (.int .i64 M1.bk):=HE.o.1.k.cell 11;have f1:=HE.o.1.k.frozen;obtain ⟨X4,hX4⟩:=eqx (((X3.setCell ⟨G,10,none⟩ (.int .i64 m)).setCell ⟨G,11,none⟩ (.int .i64 b)).drew);have h4:Mg w1 X4 G Y { C1 with md:=m,bk:=b } { M1 with md:=m,bk:=b } v13 (.slice (some (qR g 0)) 1 1):=by rw [hX4];exact ((HE.o.1.put 10 (.int .i64 m) rfl (fun x=>x.smd m)).put 11 (.int .i64 b) rfl (fun x=>x.sbk b)).bw brf.drew
   have T4:TGx V X4:=by rw [hX4];exact (HE.o.2.trans (dT ((aC _ G 10 _).trans (aC _ G 11 _)) (fun j hj=>by subst hj;exact ⟨_,_,HE.o.1.k,.inr (.inl rfl)⟩))).trans (bD brf.drew)
   have HX4:=zh hX4;have HE4:=zh (xA h4 T4);have HSL:=zh (fun (X:qw) (hX:qY X4 X)=>(sH w1 G Y _ _ v13 (.slice (some (qR g 0)) 1 1) X (h4.bw hX)).mono (fun e w' he=>show e=.returned (.int .i64 S)/\qY X4 w' from ⟨by rw [he.1];show Ending.returned (.int .i64 (hld C1.lz m b))=_;rw [hC1s],hX.trans (he.2.mono hX.size)⟩));obtain ⟨Z,hZ⟩:=eqx (dY Y.L (plc C.ps m.toNat) b S)
   have HOR:=zh (fun (X:qw) (hX:qY X4 X)=>(jF Y.L Y.a0 Y.c0 Y.xs Y.a2 Y.c2 Y.a5 Y.c5 Y.ts m b t S X (h4.bw hX).ly KN.m0 KN.m1 KN.bb hSfit).mono (fun e w' he=>show e=.returned (.int .i64 Z)/\qY X4 w'/\((w'.setCell (qR G 5) (.int .i64 (Z+4*t))).cell? (qR G 15)=some (.slice Y.a0 Y.xs.length Y.c0)/\(w'.setCell (qR G 5) (.int .i64 (Z+4*t))).cell? (qR G 16)=some (.int .i64 Y.L.stack)/\(w'.setCell (qR G 5) (.int .i64 (Z+4*t))).cell? (qR G 17)=some (.slice Y.a2 Y.L.slots.length Y.c2)/\(w'.setCell (qR G 5) (.int .i64 (Z+4*t))).cell? (qR G 18)=some (.int .i64 Y.L.flash)/\(w'.setCell (qR G 5) (.int .i64 (Z+4*t))).cell? (qR G 19)=some (.int .i64 Y.L.ram)/\(w'.setCell (qR G 5) (.int .i64 (Z+4*t))).cell? (qR G 20)=some (.slice Y.a5 Y.ts.length Y.c5))/\(w'.cell? (qR G 5)=some (.int .i64 M1.pc)/\w'.frozen? (qR G 5)=false) from by
    have hb:=hX.trans (he.2.mono hX.size);have q:=(h4.bw hb);have q5:=q.put 5 (.int .i64 (Z+4*t)) rfl (fun x=>x.spc (Z+4*t))
    exact ⟨by rw [he.1,hZ,aA0,KN.p],hb,⟨q5.k.cell 15,q5.k.cell 16,q5.k.cell 17,q5.k.cell 18,q5.k.cell 19,q5.k.cell 20⟩,q.k.cell 5,q.k.frozen 5⟩))
   have HC:=zh (fun (X:qw) (hX:qY X4 X)=>show (X.cell? (qR G 15)=some (.slice Y.a0 Y.xs.length Y.c0)/\X.cell? (qR G 16)=some (.int .i64 Y.L.stack)/\X.cell? (qR G 17)=some (.slice Y.a2 Y.L.slots.length Y.c2)/\X.cell? (qR G 18)=some (.int .i64 Y.L.flash)/\X.cell? (qR G 19)=some (.int .i64 Y.L.ram)/\X.cell? (qR G 20)=some (.slice Y.a5 Y.ts.length Y.c5))/\X.cell? (qR w.heap.size 0)=some (.int .i64 m)/\X.cell? (qR w.heap.size 1)=some (.int .i64 b)/\X.cell? (qR w.heap.size 2)=some (.int .i64 t) from ⟨⟨(h4.bw hX).k.cell 15,(h4.bw hX).k.cell 16,(h4.bw hX).k.cell 17,(h4.bw hX).k.cell 18,(h4.bw hX).k.cell 19,(h4.bw hX).k.cell 20⟩,HTB.o X (T4.trans (bD hX))⟩);have HFN2:=zh (show { C1 with md:=m,bk:=b,pc:=Z+4*t,kz:=C1.kz.set 7 (plc C.ps m.toNat).data }=gJ C Y.L m b t by rw [hZ];exact HFN.o);have hz0:0<=Z:=by rw [hZ];exact hSb.1
   have hz1:Z<=100000:=by rw [hZ];exact hSb.2
   have ht2:t<=200:=by have:=KN.w.2;omega
   have hw1:IntKind.i64.wrap (4*t)=4*t:=by rw [xP,xQ _ (by omega)]
   have hw2:IntKind.i64.wrap (Z+4*t)=Z+4*t:=by rw [xP,xQ _ (by omega)]
   have hmm:=xA KN.m0 KN.m1;have hdd:=xA KN.d.1 KN.d.2.1
   have HPC:=zh (fun (X:qw) (hX:qY w1 X)=>show ∃ gp op,Y.a0=some (qR gp op)/\gp<w1.heap.size/\X.cell? (qR gp (op+m.toNat*4+2))=some (.int .i64 (plc C.ps m.toNat).data) from by
    obtain ⟨gp,op,e,_,_,q2,_⟩:=h.l.p.at m.toNat (by have:=KN.m0;have:=KN.m1;omega);rw [KN.p] at q2
    exact ⟨gp,op,e,xD w1 _ q2,aB hX q2⟩)
   have hax:=h.l.p.2.1;unfold maxLen at hax;clear h h4 T4 hX4 hC1k hC1p hC1s hZ hSfit hSb HFN KN hz3 hLk hcs hlz hn4 hS e3;generalize (plc C.ps m.toNat).data=dd at *;go_wp2_with fail
   go_region_held3 (fun w'=>w'.cell? (qR w.heap.size 0)=some (.int .i64 m)/\w'.cell? (qR w.heap.size 1)=some (.int .i64 b)/\w'.cell? (qR w.heap.size 2)=some (.int .i64 t)) (go_keep) (fail)
   rw [<- HX4.o];obtain ⟨⟨l0,l1,l2,l3,l4,l5⟩,z0',z1',z2'⟩:=HC.o X4 brf;clear x10 x11 f1 z0 z1 z2 HX4 HE;go_wp2_with fail
   go_region_held3 (fun w'=>(w'.cell? (qR G 15)=some (.slice Y.a0 Y.xs.length Y.c0)/\w'.cell? (qR G 16)=some (.int .i64 Y.L.stack)/\w'.cell? (qR G 17)=some (.slice Y.a2 Y.L.slots.length Y.c2)/\w'.cell? (qR G 18)=some (.int .i64 Y.L.flash)/\w'.cell? (qR G 19)=some (.int .i64 Y.L.ram)/\w'.cell? (qR G 20)=some (.slice Y.a5 Y.ts.length Y.c5))/\w'.cell? (qR w.heap.size 0)=some (.int .i64 m)/\w'.cell? (qR w.heap.size 1)=some (.int .i64 b)/\w'.cell? (qR w.heap.size 2)=some (.int .i64 t)) (go_keep)
    (first
      | (go_at_call 131;first
          | with_reducible refine (HSL.o _ brf).mono ?_
          | with_reducible refine (HSL.o _ brf.drew).mono ?_
         rintro e Xa ⟨rfl,hba⟩
         obtain ⟨⟨l0,l1,l2,l3,l4,l5⟩,z0',z1',z2'⟩:=HC.o Xa hba)
      | (go_at_call 130;with_reducible refine (HOR.o _ hba).mono ?_
         rintro e Xb ⟨rfl,hbb,⟨m0,m1,m2,m3,m4,m5⟩,p5,pf5⟩
         obtain ⟨⟨l0,l1,l2,l3,l4,l5⟩,z0',z1',z2'⟩:=HC.o Xb hbb))
   have hg5:Mg w1 Xb G Y { C1 with md:=m,bk:=b } { M1 with md:=m,bk:=b } v13 (.slice (some (qR g 0)) 1 1):=HE4.o.1.bw hbb;obtain ⟨X5,hX5⟩:=eqx (Xb.setCell ⟨G,5,none⟩ (.int .i64 (Z+4*t)));have h5:Mg w1 X5 G Y { C1 with md:=m,bk:=b,pc:=Z+4*t } { M1 with md:=m,bk:=b,pc:=Z+4*t } v13 (.slice (some (qR g 0)) 1 1):=by rw [hX5];exact hg5.put 5 (.int .i64 (Z+4*t)) rfl (fun x=>x.spc (Z+4*t))
   have T5:TGx V X5:=by rw [hX5];exact (HE4.o.2.trans (bD hbb)).trans (dT (aC _ G 5 _) (fun j hj=>by subst hj;exact ⟨_,_,hg5.k,.inr (.inl rfl)⟩))
   have x6:X5.cell? (qR G 6)=some (.slice (some (qR gk 0)) 8 M1.kc):=by have q:=h5.k.cell 6;rw [q];show some (Value.slice M1.ka M1.kn M1.kc)=_;rw [hgk,hgkn]
   obtain ⟨gp,op,ea0,hgp,xd⟩:=HPC.o X5 h5.b;have x15:X5.cell? (qR G 15)=some (.slice (some (qR gp op)) Y.xs.length Y.c0):=by rw [<- ea0];exact h5.k.cell 15
   obtain ⟨y0,_,_⟩:=HTB.o X5 T5
   obtain ⟨⟨u,x7⟩,xf,hkG,hkw,hk1,kgs,kgk⟩:(∃ u,X5.cell? ⟨gk,7,none⟩=some u)/\(∀ i,X5.frozen? ⟨gk,i,none⟩=false)/\gk≠G/\gk≠w.heap.size/\w1.heap.size<=gk/\∃ cs,Blk X5 gk cs 3:=by
    obtain ⟨base,mid,Ls,β,mm,q1,q2⟩:=h5.m;have mk:=mm.k;have mk':OI X5 mid (.slice (some (qR gk 0)) M1.kn M1.kc) C1.kz:=by rw [<- hgk];exact mk
    obtain ⟨cs,kb⟩:=aD mk'.1 (k:=gk) rfl;have lo:=(mk'.lt gk rfl).1;have bm:=mm.bm;refine ⟨⟨_,mk'.is.at 7 (by omega)⟩,kb.frozen,fun e=>?_,fun e=>?_,by omega,cs,kb⟩
    .subst e;exact absurd (aH kb h5.k) (by decide)
    .have kt:=T5.blk HKV.o (by unfold gkd;decide);rw [<- e] at kt;exact absurd (aH kb kt) (by decide)
   have hn5:¬ gk=G:=hkG;have hn6:¬ G=gk:=fun e=>hkG e.symm;have hn7:¬ gk=w.heap.size:=hkw;have hn8:¬ w.heap.size=gk:=fun e=>hkw e.symm;have hn9:¬ gk=gp:=by omega
   have hn10:¬ gp=gk:=by omega
   have h6:Mg w1 (X5.setCell (qR gk 7) (.int .i64 dd)).drew G Y (gJ C Y.L m b t) { M1 with md:=m,bk:=b,pc:=Z+4*t,kz:=C1.kz.set 7 dd } v13 (.slice (some (qR g 0)) 1 1):=by
    rw [<- HFN2.o];exact (h5.reg hgk 7 (by show 7<M1.kn;omega) dd (by unfold wfi;omega)).bw brf.drew
   have HE6:=zh (xA h6 ((T5.trans (dT (aC _ gk 7 (.int .i64 dd)) (fun j hj=>by subst hj;exact ⟨_,_,kgk,.inr (.inr (.inr rfl))⟩))).trans (bD brf.drew)));have HX5:=zh hX5;clear h5 T5 h6 kgk kgs hg5 hX5 HE4 hkG hkw hk1 ea0 hba hbb l0 l1 l2 l3 l4 l5 z0' z1' z2' HC HOR HSL HPC HFN2 HTB;go_wp2_with (rw [<- HX5.o])
   clear m0 m1 m2 m3 m4 m5 p5 pf5
   go_region_held3 (fun w'=>w'.cell? (qR G 6)=some (.slice (some (qR gk 0)) 8 M1.kc)/\w'.cell? (qR G 15)=some (.slice (some (qR gp op)) Y.xs.length Y.c0)/\w'.cell? (qR w.heap.size 0)=some (.int .i64 m)/\w'.cell? (qR gp (op+m.toNat*4+2))=some (.int .i64 dd)) (go_keep) (fail)
   go_wp2;refine leaves_cons (f:=91) (args:=#[.pointer (some (qR G 0))]) (by simp) (by simp [go_sem]) ?_;refine (HDO.o _ _ _ HE6.o.1).mono ?_;rintro e u' w'' ⟨rfl,rfl,A,k,c,hM,_,hT⟩;exact ⟨_,results_tmp rfl _ _ _,rfl,_,_,hM,HTV.o.trans (HE6.o.2.trans (dT hT (fun j hj=>by subst hj;exact ⟨_,_,HE6.o.1.k,.inr (.inl rfl)⟩)))⟩
 .refine Calls.mono (R:=fun e w'=>e=.returned (.bool false)/\∃ vr',Mg w1 w' G Y C M v13 vr'/\TGx w w') ?_ (fun e w' he=>by unfold EtP;rw [if_neg c0];exact he);rw [xS c0] at HTK;have HDO:=zh (fun (X:qw) (vr':Value) (hX:Mg w1 X G Y C M v13 vr')=>(oU w1 G Y C M v13 vr' X hX hv.cz).2 .returning);clear h hv c0
  go_enter_defers Tryz.func68,Tryz.ntmps68
  go_wp2_with (rw [<- HV.o])
  refine HRA.o.mono ?_;rintro e X1 ⟨rfl,g,h1,k1,T1⟩;have HE1:=zh (xA h1 (xA k1 T1));obtain ⟨z0,z1,z2⟩:=HTB.o X1 T1;clear y0 y1 y2 h1 k1 T1 HRA HV;go_wp2_with fail
  refine (HTK.o X1 _ HE1.o.1).mono ?_;rintro e X2 ⟨rfl,hb2⟩;have HE2:=zh (xA (HE1.o.1.bw hb2) (HE1.o.2.2.trans (bD hb2)));clear hb2 z0 z1 z2;go_wp2;refine leaves_cons (f:=91) (args:=#[.pointer (some (qR G 0))]) (by simp) (by simp [go_sem]) ?_;refine (HDO.o _ _ HE2.o.1).mono ?_;rintro e u' w'' ⟨rfl,rfl,A,k,c,hM,_,hT⟩;exact ⟨_,results_tmp rfl _ _ _,rfl,_,hM,HTV.o.trans (HE2.o.2.trans (dT hT (fun j hj=>by subst hj;exact ⟨_,_,HE2.o.1.k,.inr (.inl rfl)⟩)))⟩
theorem aGj (L:Lay)(b s:Int):s∈slF L b ↔ sOk L b s:=by
 unfold slF sOk;by_cases c:b=-1\/L.slots=[]
 .rw [if_pos c,if_pos c];simp
 .rw [if_neg c,if_neg c];simp only [List.mem_map,List.mem_range];constructor
  .rintro ⟨i,hi,rfl⟩;omega
  .intro h;exact ⟨s.toNat,by omega,by omega⟩
theorem aIr (h:Lok ps L):L.slots.length<=4:=by
 obtain ⟨hc,_⟩:=fY h.1;unfold cfo at hc;simp at hc;omega
theorem aAi (L:Lay)(a0:qO)(c0:Nat)(xs:List PB)(a2:qO)(c2:Nat)(a5:qO)(c5:Nat)(ts:List TB)(b:Int)(w:qw)(h:LyT w L a0 c0 xs a2 c2 a5 c5 ts)(hl:L.slots.length<=4):
 qC 189 #[.agg (qJ L a0 xs c0 a2 c2 a5 ts c5),qI b] w fun e w'=>∃ a n c,e=.returned (qS a n c)/\IS w' a n c (slF L b)/\qY w w':=by
 by_cases c:b=-1\/L.slots=[]
 .exact (aAh L a0 c0 xs a2 c2 a5 c5 ts b w h c).mono fun e w' ⟨a,c,he,hi,hb⟩=>⟨a,_,c,he,hi,hb⟩
 .refine (vT L a0 c0 xs a2 c2 a5 c5 ts b L.slots.length w (fun e=>c (.inl e)) (fun e=>c (.inr (xE e))) (by omega)).mono ?_;rintro e w' ⟨g,rfl,hr,hb⟩;have e2:slF L b=upN L.slots.length:=by unfold slF upN;rw [if_neg c]
  rw [e2];refine ⟨_,_,_,rfl,⟨lO _,by unfold maxLen;omega,fun z hz=>?_,fun _=>⟨g,0,rfl,fun i hi=>?_⟩,aN⟩,hb⟩
  .simp only [upN,List.mem_map,List.mem_range] at hz;obtain ⟨i,hi,rfl⟩:=hz;unfold wfi;omega
  .rw [Nat.zero_add];exact hr.cell i (by rw [lO];exact hi)
theorem Blk.c2 {w:qw}{b:Nat}{t:TypeId}{v0 v1 v2 v3 v4 v5 v6 v7:Value}(h:Blk w b #[v0,v1,v2,v3,v4,v5,v6,v7] t):w.cell? (qR b 2)=some v2:=h.cell 2
theorem aMo (h:∀ t:Nat,t<(slF L b).length->(plR ps L m b ((slF L b).getD t 0)).length<=8):F2 ps L m b:=fun s hs=>by
 obtain ⟨k,hk,e⟩:=aKy ((aGj L b s).2 hs);rw [<- e];exact h k hk
theorem aPc {t:Nat}(h:t<(slF L b).length):sOk L b ((slF L b).getD t 0):=(aGj L b _).1 (zG h)
theorem aAw (a:qO)(n cap:Nat)(ms:List Md)(L:Lay)(a0:qO)(c0:Nat)(xs:List PB)(a2:qO)(c2:Nat)(a5:qO)(c5:Nat)(ts:List TB)(w:qw)(h:MSD w a n cap ms)(hL:LyT w L a0 c0 xs a2 c2 a5 c5 ts)(hk:Lok (aE ms) L):
 qC 154 #[qS a n cap,.agg (qJ L a0 xs c0 a2 c2 a5 ts c5)] w fun e w'=>∃ r:Bool,e=.returned (.bool r)/\(r=true ↔ vG (aE ms) L)/\qY w w':=by
 obtain ⟨V,hV⟩:=eqx (w.alloc (.cells (qJ L a0 xs c0 a2 c2 a5 ts c5) 71));have hB:qY w V:=by rw [hV];exact bal
 have k0:Blk V w.heap.size (qJ L a0 xs c0 a2 c2 a5 ts c5) 71:=by rw [hV];exact Blk.new w _ _
 have HBV:=zh hB;have HM:=zh (h.bw hB);have HL2:=zh (hL.bw hB);have HV:=zh hV;have HK:=zh k0;have hn:=h.s.1;have hmx:=h.s.2.1;have hlx:=hL.s.2.1;unfold maxLen at hmx hlx;have HKX:Zh (∀ X,qY V X->X.cell? (qR w.heap.size 0)=some (qS a0 xs.length c0)/\X.cell? (qR w.heap.size 1)=some (qI L.stack)/\X.cell? (qR w.heap.size 2)=some (qS a2 L.slots.length c2)/\X.cell? (qR w.heap.size 3)=some (qI L.flash)/\X.cell? (qR w.heap.size 4)=some (qI L.ram)/\X.cell? (qR w.heap.size 5)=some (qS a5 ts.length c5)):=fun X hz=>(HK.o.bw hz).ly6;have HX:Zh (∀ X,qY V X->qY w X):=fun X hz=>HBV.o.trans (hz.mono HBV.o.size);have HC:=zh hk;have HPO:Zh (∀ X (m b s:Int),qY V X->(0<=m/\m<(n:Int))->(b=-1\/(0<=b/\b<((ms.getD m.toNat aK).bn:Int)))->sOk L b s->qC 161 #[qS a n cap,.agg (qJ L a0 xs c0 a2 c2 a5 ts c5),.agg (qT m b 0),qI s] X (fun e w'=>∃ A k c,e=.returned (.tuple #[qS A k c,.bool (decide ((plR (aE ms) L m b s).length<=8))])/\qY X w'/\qY V w')):=fun X m b s hz hm hb hs=>(sQ a n cap ms L a0 c0 xs a2 c2 a5 c5 ts m b 0 s X (HM.o.bw hz) (HL2.o.bw hz) hk ((aAy HM.o m b).2 ⟨hm,hb⟩) hs.fit).mono fun e w' ⟨A,k,c,he,_,hbb⟩=>⟨A,k,c,he,hbb,hz.trans (hbb.mono hz.size)⟩;have HSF:Zh (∀ X (b:Int),qY V X->qC 189 #[.agg (qJ L a0 xs c0 a2 c2 a5 ts c5),qI b] X (fun e w'=>∃ ra rn rc,e=.returned (qS ra rn rc)/\IS w' ra rn rc (slF L b)/\qY X w'/\qY V w')):=fun X b hz=>(aAi L a0 c0 xs a2 c2 a5 c5 ts b X (HL2.o.bw hz) (aIr hk)).mono fun e w' ⟨ra,rn,rc,he,hi,hbb⟩=>⟨ra,rn,rc,he,hi,hbb,hz.trans (hbb.mono hz.size)⟩;clear hV k0 h hL hB hk;go_enter Tryz.func154,Tryz.ntmps154
 go_wp2_with (rw [<- HV.o])
 clear HV;go_loopw [14] (fun i wr=>∃ m:Nat,m<=n/\i=qI m/\(∀ m':Nat,m'<m->∀ b:Int,(b=-1\/(0<=b/\b<((ms.getD m' aK).bn:Int)))->F2 (aE ms) L m' b)/\qY V wr) (qf n)
 .exact ⟨0,xC _,rfl,fun m' hm'=>absurd hm' (Nat.not_lt_zero _),brf⟩
 .obtain ⟨m,hm,rfl,hF,hB⟩:=hrel;have HF:=zh hF;have HB:=zh hB;clear hF hB;by_cases hlt:m<n
  .have hlt':(m:Int)<(n:Int):=by omega
   obtain ⟨gm,om,rfl,v0,v1,v2,v3,v4,v5,v6,v7⟩:=HM.o.s.at m hlt
   have hbx:(ms.getD m aK).bn<=9223372036854775806:=by
    have h1:=(kZ HC.o).v m (by rw [bT,hn];exact hlt);rw [cI (by rw [hn];exact hlt)] at h1;have h2:=(cB h1).2.2.2.1;have h3:=(HM.o.d m hlt).b.1;simp only [Md.pm,xH] at h2;omega
   obtain ⟨M,hM⟩:=eqx (ms.getD m aK);have HME:=zh hM;rw [<- hM] at v0 v1 v2 v3 v4 v5 v6 v7 hbx;clear hM;obtain ⟨bn,hbn⟩:=eqx (M.bn);have HBN:=zh (show bn=(ms.getD m aK).bn by rw [hbn,HME.o]);rw [<- hbn] at v2 hbx;clear hbn;have u0:=aB HB.o v0;have u1:=aB HB.o v1;have u2:=aB HB.o v2;have u3:=aB HB.o v3;have u4:=aB HB.o v4;have u5:=aB HB.o v5;have u6:=aB HB.o v6;have u7:=aB HB.o v7;clear v0 v1 v2 v3 v4 v5 v6 v7;generalize wr=wo at *;obtain ⟨V2,hV2⟩:=eqx (wo.alloc (.cells (qM M.nm M.ta M.tn M.tc M.ba bn M.bc M.da M.dn M.dc M.bss M.ra M.rn M.rc M.ia M.im M.ic M.ea M.en M.ec) 138));have HBV2:=zh (show qY V V2 by rw [hV2];exact HB.o.alloc HB.o.size _);have HKM:=zh (show Blk V2 wo.heap.size (qM M.nm M.ta M.tn M.tc M.ba bn M.bc M.da M.dn M.dc M.bss M.ra M.rn M.rc M.ia M.im M.ic M.ea M.en M.ec) 138 by rw [hV2];exact Blk.new _ _ _);have HV2:=zh hV2;clear hV2;go_wp2_with (rw [<- HV2.o])
   clear u0 u1 u2 u3 u4 u5 u6 u7;go_loopw [7] (fun i wr=>∃ q:Nat,q<=bn+1/\i=qI ((q:Int)-1)/\(∀ b:Int,-1<=b->b<(q:Int)-1->F2 (aE ms) L m b)/\Blk wr wo.heap.size (qM M.nm M.ta M.tn M.tc M.ba bn M.bc M.da M.dn M.dc M.bss M.ra M.rn M.rc M.ia M.im M.ic M.ea M.en M.ec) 138/\qY V wr) (fun i _=>bn+1-(intOf i+1).toNat)
   .exact ⟨0,xC _,rfl,fun b h1 h2=>by omega,HKM.o,HBV2.o⟩
   .obtain ⟨q,hq,rfl,hF2,hkm,hB3⟩:=hrel;have HF2:=zh hF2;have HK3:=zh hkm;have HB3:=zh hB3;have y2:=hkm.c2;clear hF2 hB3 hkm;by_cases hq2:q<bn+1
    .have hq2':(q:Int)-1<(bn:Int):=by omega
     obtain ⟨b,hb⟩:∃ b:Int,b=(q:Int)-1:=⟨_,rfl⟩;rw [<- hb] at hq2' ⊢;have hb0:-1<=b:=by omega
     have HBB:=zh hb
     have HBQ:=zh (show b=-1\/(0<=b/\b<((ms.getD ((m:Int)).toNat aK).bn:Int)) from by
      rw [xY,<- HBN.o]
      omega)
     clear hb;generalize wr=wp at *;have HS1:=zh (HSF.o wp b HB3.o);obtain ⟨z0,z1,z2,z3,z4,z5⟩:=HKX.o _ HB3.o;go_wp2_with fail
     refine HS1.o.mono ?_;rintro e X4 ⟨ra,rn,rc,rfl,hI,hbx4,hb4⟩;have HI4:=zh hI;have HK4:=zh (HK3.o.bw hbx4);have HB4:=zh hb4;have hrx:=hI.2.1;unfold maxLen at hrx;clear hI hbx4 hb4 HS1 z0 z1 z2 z3 z4 z5 y2;go_wp2_with fail
     go_loopw [30] (fun i wr=>∃ t:Nat,t<=rn/\i=qI t/\(∀ s':Nat,s'<t->(plR (aE ms) L m b ((slF L b).getD s' 0)).length<=8)/\IS wr ra rn rc (slF L b)/\Blk wr wo.heap.size (qM M.nm M.ta M.tn M.tc M.ba bn M.bc M.da M.dn M.dc M.bss M.ra M.rn M.rc M.ia M.im M.ic M.ea M.en M.ec) 138/\qY V wr) (qf rn)
     .exact ⟨0,xC _,rfl,fun s' hs'=>absurd hs' (Nat.not_lt_zero _),HI4.o,HK4.o,HB4.o⟩
     .obtain ⟨t,ht,rfl,hG,hI5,hk5,hB5⟩:=hrel;have HG:=zh hG;have HI5:=zh hI5;have HK5:=zh hk5;have HB5:=zh hB5;clear hG hk5 hB5;by_cases ht2:t<rn
      .have ht2':(t:Int)<(rn:Int):=by omega
       obtain ⟨rb,ro,rfl,hcc⟩:=hI5.2.2.2.1 (by omega);have r0:=hcc t ht2;have HSO:=zh (aPc (L:=L) (b:=b) (t:=t) (by rw [hI5.1];exact ht2));have HP3:=zh (HPO.o wr m b ((slF L b).getD t 0) HB5.o (by omega) HBQ.o HSO.o);obtain ⟨z0,z1,z2,z3,z4,z5⟩:=HKX.o _ HB5.o;obtain ⟨sv,hsv⟩:=eqx ((slF L b).getD t 0);rw [<- hsv] at r0 HP3 HSO;have HSV:=zh hsv;clear hcc hI5 hsv;go_wp2_with fail
       refine HP3.o.mono ?_;rintro e X6 ⟨A3,k3,c3',rfl,hbx6,hb6⟩;have HB6:=zh (xA hbx6 hb6);clear hbx6 hb6 HP3 z0 z1 z2 z3 z4 z5 r0;by_cases h83:(plR (aE ms) L m b sv).length<=8
       .rw [xR h83]
        have HN:=zh (show ∀ s':Nat,s'<t+1->(plR (aE ms) L m b ((slF L b).getD s' 0)).length<=8 from fun s' hs'=>by
         by_cases e:s'=t
         .rw [e,<- HSV.o];exact h83
         .exact HG.o s' (by omega))
        clear h83;go_wp2
        go_roundw
        .exact ⟨t+1,by omega,by go_num,HN.o,HI5.o.bw HB6.o.1,HK5.o.bw HB6.o.1,HB6.o.2⟩
        .simp [qf,intOf];omega
       .rw [xS h83];have HNO:=zh (aBn HM.o (m:=(m:Int)) (b:=b) (s:=sv) (by omega) HBQ.o HSO.o h83);clear h83;go_wp2;go_ret;exact ⟨false,rfl,by simp [HNO.o],HX.o _ HB6.o.2⟩
      .have HN:=zh (show ∀ b':Int,-1<=b'->b'<((q+1:Nat):Int)-1->F2 (aE ms) L m b' from fun b' h1 h2=>by
        by_cases e:b'=b
        .rw [e];exact aMo (fun t' ht'=>HG.o t' (by rw [HI5.o.1] at ht';omega))
        .exact HF2.o b' h1 (by have:=HBB.o;omega))
       have HBE:=zh (show b+1=((q+1:Nat):Int)-1 by have:=HBB.o;omega);clear hI5;go_wp2
       go_roundw
       .exact ⟨q+1,by omega,by rw [HBE.o],HN.o,HK5.o,HB5.o⟩
       .have:=HBB.o;simp [qf,intOf];omega
    .have HN:=zh (show ∀ m':Nat,m'<m+1->∀ b:Int,(b=-1\/(0<=b/\b<((ms.getD m' aK).bn:Int)))->F2 (aE ms) L m' b from fun m' hm' b hb=>by
      by_cases e:m'=m
      .subst e;rw [<- HBN.o] at hb;exact HF2.o b (by omega) (by omega)
      .exact HF.o m' (by omega) b hb)
     have hq3:(q:Int)-1=(bn:Int):=by omega
     rw [hq3];go_wp2
     go_roundw
     .exact ⟨m+1,by omega,by go_num,HN.o,HB3.o⟩
     .simp [qf,intOf];omega
  .have HN:=zh (aHa HM.o HC.o (fun m' hm'=>HF.o m' (by omega)));go_wp2;go_ret;exact ⟨true,rfl,by simp [HN.o],HX.o _ HB.o⟩
theorem RowI.oi {w:qw}{base g:Nat}{zs:qi}(h:RowI w g zs)(hb:base<=g)(hm:zs.length<=maxLen)(hz:∀ z∈zs,wfi z):OI w base (qS (qP g) zs.length zs.length) zs:=
 ⟨⟨by simp,.inr ⟨g,zs.length,(zs.map (Value.int .i64)).toArray,rfl,hb,h,aN,hm,by simp,by simp [xG]⟩⟩,hz⟩
end Go.Proofs.YtncccmeomcaabaaGreat
namespace Go.Proofs.YtncccmeomcaabaaGreat
open Go
variable {A a:Act}{K:Act->World->Prop}{P:Program}{Q:Exit->Act->World->Prop}{R:Ending->World->Prop}{args:Array Value}{f i t:Nat}{l:List Nat}{listed:Array Bool}{md:Region.Mode}{o:Oper}{ops:Array Oper}{v:Value}
def tU (n:Nat)(listed:Array Bool):Nat:=((List.range n).filter fun i=>!listed.getD i true).length
theorem aI2 {p q:Nat->Bool}(h:∀ x∈l,q x=true->p x=true)(hi:i∈l)(hp:p i=true)(hq:q i=false):(l.filter q).length<(l.filter p).length:=by
 induction l with
 | nil=>cases hi
 | cons x xs ih=>
   have hle:(xs.filter q).length<=(xs.filter p).length:=by
    clear ih hi
    induction xs with
    | nil=>simp
    | cons y ys ih2=>
      have h2:=ih2 (fun z hz=>h z (by simp only [List.mem_cons] at hz ⊢;rcases hz with e|e;exact .inl e;exact .inr (.inr e)));have h3:=h y (by simp);cases hq':q y with
      | false=>cases hp':p y<;>simp [List.filter_cons,hq',hp']<;>omega
      | true=>simp [List.filter_cons,hq',h3 hq'];omega
   have h1:=h x (by simp);rcases List.mem_cons.1 hi with e|e
   .subst e;simp [List.filter_cons,hp,hq];omega
   .have h4:=ih (fun z hz=>h z (by simp [hz])) e;cases hq':q x with
    | false=>cases hp':p x<;>simp [List.filter_cons,hq',hp']<;>omega
    | true=>simp [List.filter_cons,hq',h1 hq'];omega
theorem yX {n:Nat}(hi:i<n)(h:listed.getD i true=false):tU n (listed.setIfInBounds i true)<tU n listed:=by
 have hs:i<listed.size:=by
  rcases Nat.lt_or_ge i listed.size with h'|h'
  .exact h'
  .simp [Array.getElem?_eq_none h'] at h
 refine aI2 (i:=i) (fun x _ hx=>?_) (by simpa using hi) (by rw [h];rfl) (by simp [hs]);by_cases hxi:i=x
 .subst hxi;rw [h];rfl
 .rw [getD_set_ne true hxi] at hx;exact hx
theorem aHp {P:Program}{ops:Array Oper}{Q:Exit->Act->World->Prop}{md:Region.Mode}(Inv:Array Bool->Act->World->Prop)
 (hstep:∀ (listed:Array Bool) (a:Act) (w:qw) (i:Nat) (K:Act->World->Prop),Inv listed a w->i∈Region.ready md ops listed->(∀ a' w',Inv (listed.setIfInBounds i true) a' w'->K a' w')->wpOp P ops Q i K a w)
 (hend:∀ (listed:Array Bool) (a:Act) (w:qw),Inv listed a w->Region.ready md ops listed=[]->Q .normal a w):
 ∀ (fuel:Nat) (listed:Array Bool) (a:Act) (w:qw),tU ops.size listed<=fuel->Inv listed a w->wpAny P md ops Q fuel listed a w:=by
 intro fuel
 induction fuel with
 | zero=>
   intro listed a w hf h
   have hr:Region.ready md ops listed=[]:=by
    rw [List.eq_nil_iff_forall_not_mem];intro i hi;obtain ⟨h0,o,ho,_⟩:=mem_ready.1 hi;have:=yX (n:=ops.size) (Array.getElem?_eq_some_iff.1 ho).1 h0;omega
   exact ⟨hr,hend _ _ _ h hr⟩
 | succ fuel ih=>
   intro listed a w hf h;refine ⟨fun hr=>hend _ _ _ h hr,fun i hi=>hstep listed a w i _ h hi fun a' w' h'=>ih _ a' w' ?_ h'⟩;obtain ⟨h0,o,ho,_⟩:=mem_ready.1 hi;have:=yX (n:=ops.size) (Array.getElem?_eq_some_iff.1 ho).1 h0;omega
theorem aIs (n:Nat)(listed:Array Bool):tU n listed<=n:=by
 unfold tU;exact xM (List.length_filter_le _ _) (by simp)
theorem vH {Q:Exit->Act->World->Prop}{id:Nat}{w:qw}(hm:P.follows .mixedOrders=true)(Inv:Array Bool->Act->World->Prop)
 (h0:Inv (Array.replicate ops.size false) a { w with drawn:=w.drawn+1 })
 (hstep:∀ (listed:Array Bool) (a:Act) (w:qw) (i:Nat) (K:Act->World->Prop),Inv listed a w->i∈Region.ready .any ops listed->(∀ a' w',Inv (listed.setIfInBounds i true) a' w'->K a' w')->wpOp P ops Q i K a w)
 (hend:∀ (listed:Array Bool) (a:Act) (w:qw),Inv listed a w->Region.ready .any ops listed=[]->Q .normal a w):(Code.region id ops true).wp P Q a w:=
 wp_region_any hm (aHp Inv hstep hend _ _ _ _ (aIs _ _) h0)
theorem kD {id:Nat}{w:qw}(hm:P.follows .mixedOrders=true)(Inv:Act->Array Bool->Act->World->Prop)
 (h0:Inv A (Array.replicate ops.size false) A w.drew)
 (hstep:∀ (listed:Array Bool) (a:Act) (w:qw) (i:Nat) (K:Act->World->Prop),Inv A listed a w->i∈Region.ready .any ops listed->(∀ a' w',Inv A (listed.setIfInBounds i true) a' w'->K a' w')->wpOp P ops Q i K a w)
 (hend:∀ (listed:Array Bool) (a:Act) (w:qw),Inv A listed a w->Region.ready .any ops listed=[]->Q .normal a w):(Code.region id ops true).wp P Q A w:=
 vH hm (Inv A) h0 hstep hend
theorem aQ5 {w w':qw}(h:(execOp a.eval o).run P w=.ok (.value v) w')(hk:K (a.put o.dst v) w'):o.wp P a w K Q:=by
 unfold Oper.wp;rw [h];exact hk
theorem aQ6 {w w':qw}(h:(execOp a.eval o).run P w=.ok .skip w')(hk:K (a.put o.dst undef) w'):o.wp P a w K Q:=by
 unfold Oper.wp;rw [h];exact hk
theorem aQ7 {w w':qw}(h:(execOp a.eval o).run P w=.ok (.enter f args) w')(hc:Calls P f args w' R)(hk:∀ e w'',R e w''->∃ v,e=.returned v/\K (a.put o.dst v) w''):o.wp P a w K Q:=by
 unfold Oper.wp;rw [h];refine hc.mono fun e w'' hr=>?_;obtain ⟨v,rfl,hv⟩:=hk e w'' hr;exact hv
theorem aO4 {w:qw}(ho:ops[i]?=some o)(hg:o.guard=none)(h:o.wp P a w K Q):wpOp P ops Q i K a w:=by
 unfold wpOp;rw [ho];simp only [Region.wanted,hg];exact .inl h
theorem nB {w w':qw}(ho:ops[i]?=some o)(hg:o.guard=none)(h:(execOp a.eval o).run P w=.ok (.value v) w')(hk:K (a.put o.dst v) w'):wpOp P ops Q i K a w:=
 aO4 ho hg (aQ5 h hk)
theorem aQa {w w':qw}(ho:ops[i]?=some o)(hg:o.guard=none)(h:(execOp a.eval o).run P w=.ok .skip w')(hk:K (a.put o.dst undef) w'):wpOp P ops Q i K a w:=
 aO4 ho hg (aQ6 h hk)
theorem aI9 {w w':qw}(ho:ops[i]?=some o)(hg:o.guard=none)(h:(execOp a.eval o).run P w=.ok (.enter f args) w')(hc:Calls P f args w' R)(hk:∀ e w'',R e w''->∃ v,e=.returned v/\K (a.put o.dst v) w''):wpOp P ops Q i K a w:=
 aO4 ho hg (aQ7 h hc hk)
theorem bS (hi:i∈Region.ready md ops listed)(ho:ops[i]?=some o)(e:Edge)(he:e∈o.after)(hb:Region.binds md e=true):listed.getD e.on false=true:=by
 obtain ⟨_,o',ho',h⟩:=mem_ready.1 hi;rw [ho] at ho';injection ho' with e'
 subst e';exact h e he hb
theorem aJ7 (hr:Region.ready md ops listed=[])(i:Nat)(o:Oper)(ho:ops[i]?=some o)(hp:∀ e∈o.after,Region.binds md e=true->listed.getD e.on false=true):listed.getD i true=true:=by
 cases h:listed.getD i true
 .have:i∈Region.ready md ops listed:=mem_ready.2 ⟨h,o,ho,hp⟩;rw [hr] at this;cases this
 .rfl
theorem aOd {b:Act}(hd:a.defers=b.defers)(hs:a.tmps.size=b.tmps.size)(h:∀ t,t<a.tmps.size->a.tmps.getD t undef=b.tmps.getD t undef):a=b:=by
 obtain ⟨ta,da⟩:=a;obtain ⟨tb,db⟩:=b;dsimp only at hd hs h;subst hd;congr 1;refine Array.ext hs fun i h1 h2=>?_;have:=h i h1;simpa [h1,h2] using this
theorem aEl {t':Nat}(h:t≠t'):(a.put (some t) v).tmps.getD t' undef=a.tmps.getD t' undef:=by
 show (a.tmps.setIfInBounds t v).getD t' undef=_;simp [Array.getElem?_setIfInBounds_ne h]
theorem aPk (h:t<a.tmps.size):(a.put (some t) v).tmps.getD t undef=v:=by
 show (a.tmps.setIfInBounds t v).getD t undef=_;simp [h]
theorem put_sz {t:Option Nat}:(a.put t v).tmps.size=a.tmps.size:=by
 cases t with
 | none=>rfl
 | some t=>show (a.tmps.setIfInBounds t v).size=_;simp
theorem put_df {t:Option Nat}:(a.put t v).defers=a.defers:=by cases t<;>rfl
def sL (A:Act)(y:Nat->Value):List Nat->Act
 | []=>A
 | s::l=>(sL A y l).put (some s) (y s)
theorem oJ (A:Act)(y:Nat->Value):∀ l,(sL A y l).tmps.size=A.tmps.size
 | []=>rfl
 | s::l=>put_sz.trans (oJ A y l)
theorem pP (A:Act)(y:Nat->Value):∀ l,(sL A y l).defers=A.defers
 | []=>rfl
 | s::l=>put_df.trans (pP A y l)
theorem sK {A:Act}{y:Nat->Value}{t:Nat}:∀ {l:List Nat},t ∉ l->(sL A y l).tmps.getD t undef=A.tmps.getD t undef
 | [],_=>rfl
 | s::l,h=>(aEl (fun e=>h (by rw [e];exact List.mem_cons_self ..))).trans (sK (fun q=>h (List.mem_cons_of_mem _ q)))
theorem aCr {A:Act}{y:Nat->Value}{t:Nat}(ht:t<A.tmps.size):∀ {l:List Nat},t∈l->(sL A y l).tmps.getD t undef=y t
 | [],h=>by cases h
 | s::l,h=>by
   by_cases e:s=t
   .subst e;exact aPk (by rw [oJ];exact ht)
   .exact (aEl e).trans (aCr ht ((List.mem_cons.1 h).resolve_left (fun q=>e q.symm)))
theorem aGo (hd:a.defers=A.defers)(hs:a.tmps.size=A.tmps.size)(ho:∀ t,t ∉ l->a.tmps.getD t undef=A.tmps.getD t undef):a=sL A (fun t=>a.tmps.getD t undef) l:=by
 refine aOd (by rw [pP];exact hd) (by rw [oJ];exact hs) fun t ht=>?_;by_cases e:t∈l
 .rw [aCr (by omega) e]
 .rw [sK e];exact ho t e
theorem aPw {j:Nat}(h:(listed.setIfInBounds i true).getD j false=true):j=i\/listed.getD j false=true:=by
 by_cases e:i=j
 .exact .inl e.symm
 .rw [getD_set_ne false e] at h;exact .inr h
theorem aNi (hs:i<listed.size)(b:Bool):listed.getD i b=listed.getD i false:=by simp [hs]
theorem aHj (hr:Region.ready md ops listed=[])(h:((List.range ops.size).all fun i=>match ops[i]? with|some o=>o.after.all (fun e=>!Region.binds md e || decide (e.on<i))|none=>true)=true)(hs:listed.size=ops.size):∀ i,i<ops.size->listed.getD i false=true:=by
 intro i
 induction i using Nat.strongRecOn with
 | _ i ih=>
   intro hi;have h1:=List.all_eq_true.1 h i (List.mem_range.2 hi);rw [Array.getElem?_eq_getElem hi] at h1;dsimp only at h1;refine (aNi (by omega) true).symm.trans (aJ7 hr i ops[i] (Array.getElem?_eq_getElem hi) fun e he hb=>?_);have h2:=Array.all_eq_true'.1 h1 e he;rw [hb] at h2;simp at h2;exact ih e.on h2 (by omega)
