import Derived.Test.YtncccmeomcaabaaGreatP26
set_option linter.all false
set_option maxHeartbeats 16000000
namespace Go.Proofs.YtncccmeomcaabaaGreat
open Go.RowKit Classical
open Go.Proofs.Tryz
set_option maxRecDepth 100000
variable {C:Cn}{L:Lay}{b m:Int}{i:Nat}{ps:List PMod}
structure Cv (C:Cn)(L:Lay):Prop where
 k:lkc C.ps C.cs C.cw C.ck C.cd=0
 e:L=lkL C.ps C.cs C.cw C.ck C.cd
 b:mok C.fz.length C.rz.length C.oz.length=true
 r:(C.rz.length:Int)=L.ram
 g:C.kz.length=8
 s:cV C.ps L C.cs C.cw C.tn C.rz C.lz
 n:vM C.ps C.cs C.md C.bk C.lz
 t:0<=C.tn/\C.tn<=1000000000
theorem aOy (x:Int):rnd x%32=0:=by unfold rnd;omega
theorem aOg (ps:List PMod):∀ i,Ra ps i%32=0
 | 0=>rfl
 | i+1=>by
   have h1:=aOg ps i;have h2:=aOy (((ps.getD i zP).dz.length:Int)+(ps.getD i zP).bss);unfold Ra dsz;omega
theorem aOr {s c k d:Int}(h:lkc ps s c k d=0)(hi:i<(lkL ps s c k d).slots.length):(lkL ps s c k d).slots.getD i 0%4=0:=by
 have e:lkL ps s c k d=lay ps s c k:=by unfold lkL;rw [if_pos h]
 rw [e] at hi ⊢;have h1:=(fU.1 h).1;unfold cfo at h1;simp at h1;have hl:(lay ps s c k).slots.length=s.toNat:=by simp [lay]
 rw [hl] at hi;have e2:(lay ps s c k).slots.getD i 0=slt ps c k i:=by simp [lay,xB,hi]
 rw [e2];unfold slt;have q1:=aOg ps ps.length
 have q2:((i:Int)*rnd (4*c))%32=0:=by
  unfold rnd;rw [<- Int.mul_assoc];exact Int.mul_emod_left _ _
 omega
theorem Cv.cf (h:Cv C L):(1<=C.cw/\C.cw<=64)/\C.ps.length<=4/\(L.slots.length:Int)=C.cs/\C.lz.length=L.slots.length/\Lok C.ps L:=by
 have h1:=fU.1 h.k;have hc:=h1.1;unfold cfo at hc;simp at hc;have e:lkL C.ps C.cs C.cw C.ck C.cd=lay C.ps C.cs C.cw C.ck:=by unfold lkL;rw [if_pos h.k]
 have hl:(L.slots.length:Int)=C.cs:=by rw [h.e,e];simp [lay];omega
 have hs:=h.s.1;exact ⟨by omega,h1.2.2.1,hl,by omega,by rw [h.e,e];exact aEs h.k⟩
theorem Cv.slot (h:Cv C L)(hi:i<C.lz.length):65536<=L.slots.getD i 0/\(L.slots.getD i 0-65536).toNat+slz C.cw<=C.rz.length/\L.slots.getD i 0%4=0/\i<L.slots.length/\0<C.cs/\L.slots.getD i 0<=100000:=by
 have hl:=h.cf.2.2.2.1;have hr:=h.r;have e:=h.e;have h1:=rW h.k (i:=i) (by rw [<- e];omega);have h2:=aOr h.k (i:=i) (by rw [<- e];omega);rw [<- e] at h1 h2;exact ⟨h1.1,by omega,h2,by omega,h1.2.2.2.2,by omega⟩
theorem aBq {w:qw}{a:qO}{n cap:Nat}{ms:List Md}(h:MSD w a n cap ms)(hp:0<=pcq (aD ms) m b)(hb:0<=b):∃ gm om gb ob,a=some (qR gm om)/\(0<=m/\m<(n:Int))/\b<(((ms.getD m.toNat aK).bn:Nat):Int)/\(ms.getD m.toNat aK).bn<=9223372036854775807/\(ms.getD m.toNat aK).ba=some (qR gb ob)/\w.cell? (qR gm (om+m.toNat*8+2))=some (.slice (some (qR gb ob)) (ms.getD m.toNat aK).bn (ms.getD m.toNat aK).bc)/\w.cell? (qR gb (ob+b.toNat))=some (.slice ((ms.getD m.toNat aK).bl.getD b.toNat zB).1 ((ms.getD m.toNat aK).bl.getD b.toNat zB).2.1 ((ms.getD m.toNat aK).bl.getD b.toNat zB).2.2.1)/\IS w ((ms.getD m.toNat aK).bl.getD b.toNat zB).1 ((ms.getD m.toNat aK).bl.getD b.toNat zB).2.1 ((ms.getD m.toNat aK).bl.getD b.toNat zB).2.2.1 (bnk (aD ms) m b):=by
 obtain ⟨⟨h0,h1⟩,hq⟩:=mC h hp;obtain ⟨gm,om,rfl,v0,v1,v2,v3,v4,v5,v6,v7⟩:=h.s.at m.toNat (by omega);have hd:=h.d m.toNat (by omega);have hn:=h.s.1;have hbn:bnk (aD ms) m b=((ms.getD m.toNat aK).pm.bl).getD b.toNat []:=by unfold bnk;rw [cH]
 generalize ms.getD m.toNat aK=D at *
 have hlt:b<(D.bn:Int):=by
  unfold pcn at hq;rw [if_neg (by omega)] at hq;by_cases c:0<=b/\b<(D.bn:Int)
  .exact c.2
  .rw [if_neg c] at hq;omega
 obtain ⟨b1,b2,b3,b4,b5⟩:=hd.b;unfold maxLen at b2;obtain ⟨gb,ob,hba,hc⟩:=b3 (by omega);have r:=b4 b.toNat (by omega);have ec:=hc b.toNat (by omega)
 have e1:bnk (aD ms) m b=(D.bl.getD b.toNat zB).2.2.2:=by
  rw [hbn];simp [Md.pm,xB,show b.toNat<D.bl.length by omega]
 rw [<- e1] at r;rw [hba] at v2;exact ⟨gm,om,gb,ob,rfl,⟨h0,h1⟩,hlt,by omega,hba,v2,ec,r⟩
theorem aK8 (h:Cv C L)(hi:i<C.lz.length)(hp:0<=pcq C.ps m b)(hb:0<=b):bL C.rz (L.slots.getD i 0-65536).toNat (bnk C.ps m b) (slz C.cw/4)=ovr C.rz (L.slots.getD i 0-65536).toNat (bkb C.ps C.cw m b):=by
 obtain ⟨h1,h2,_,_,h5,_⟩:=h.slot hi;obtain ⟨c1,c2⟩:=h.cf.1;have hz4:4*(slz C.cw/4)=slz C.cw:=by have:=(fI c1 c2).1;unfold rnd at this;omega
 have hf:=(aBm h.k h5 hp hb).1;rw [aNf _ _ _ _ (by omega) (by omega),hz4];rfl
def BiP (w1 w:qw)(G g:Nat)(Y:Lyb)(C:Cn)(M:Mn)(v13:Value)(m b:Int)(e:Ending)(w':qw):Prop:=e=.returned (.tuple #[])/\∃ oa on oc,Mg w1 w' G Y { C with tn:=C.tn+1,lz:=C.lz.set (slq C.lz m b) (true,m,b,C.tn+1),rz:=ovr C.rz (Y.L.slots.getD (slq C.lz m b) 0-65536).toNat (bkb C.ps C.cw m b) } { M with tn:=C.tn+1,lz:=C.lz.set (slq C.lz m b) (true,m,b,C.tn+1),rz:=ovr C.rz (Y.L.slots.getD (slq C.lz m b) 0-65536).toNat (bkb C.ps C.cw m b),oa:=oa,on:=on,oc:=oc,oz:=C.oz } v13 (.slice (some (qR g 0)) 1 1)/\TGx w w'
theorem aDn (w1:qw)(G g:Nat)(Y:Lyb)(C:Cn)(M:Mn)(v13:Value)(m b t:Int)(w:qw)(h:Mg w1 w G Y C M v13 (.slice (some (qR g 0)) 1 1))(hr:Blk w g #[.int .i64 65536,.int .i64 14,.int .i64 0,.bool false,.bool true,.bool false] 214)(hv:Cv C Y.L)(hp:0<=pcq C.ps m b)(hb:0<=b)(hl:C.lz.length≠0)(ht:C.tn<1000000000):
 qC 129 #[.pointer (some (qR G 0)),.agg (qT m b t)] w (BiP w1 w G g Y C M v13 m b):=by
 obtain ⟨V,hV,bV,kV⟩:=nwb w (qT m b t) 58;have hg:=h.bw bV;have hrV:=hr.bw bV;have hGw:G<w.heap.size:=h.k.lt;obtain ⟨⟨_,e2,_,_,_,_,_,e8⟩,e9,e10⟩:=h.vs;obtain ⟨⟨c1,c2⟩,hn4',hcs,hlz,hLk⟩:=hv.cf;have hsq:=lX (xs:=C.lz) m b hl;obtain ⟨s1,s2,s3,s4,s5,s6⟩:=hv.slot hsq
 have hqs:QS bS zSl V M.la M.ln M.lc C.lz:=by
  obtain ⟨base,mid,Ls,β,mm,_⟩:=hg.m;exact sS bM mm.l
 have hln:C.lz.length=M.ln:=hqs.1
 obtain ⟨gl,hgl⟩:∃ gl,M.la=some ⟨gl,0,none⟩:=by
  obtain ⟨base,mid,Ls,β,mm,_⟩:=hg.m;obtain ⟨g',cp,e,_⟩:=World.ownsRow.form mm.l (by omega);simp only [Value.slice.injEq] at e;exact ⟨g',e.1⟩
 have HSW:=zh (iY M.la M.ln M.lc C.lz m b V hqs);have x12:V.cell? (qR G 12)=some (.slice M.la M.ln M.lc):=hg.k.cell 12;obtain ⟨y0,y1,y2,_⟩:=kV.three
 have HEND:=zh (fun (X:qw) (oa:qO) (on oc:Nat) (hX:Mg w1 X G Y { C with rz:=ovr C.rz (Y.L.slots.getD (slq C.lz m b) 0-65536).toNat (bkb C.ps C.cw m b) } { M with rz:=ovr C.rz (Y.L.slots.getD (slq C.lz m b) 0-65536).toNat (bkb C.ps C.cw m b),oa:=oa,on:=on,oc:=oc,oz:=C.oz } v13 (.slice (some (qR g 0)) 1 1))=>show Mg w1 (X.setCell (qR G 14) (.int .i64 (C.tn+1))) G Y { C with rz:=ovr C.rz (Y.L.slots.getD (slq C.lz m b) 0-65536).toNat (bkb C.ps C.cw m b),tn:=C.tn+1 } { M with rz:=ovr C.rz (Y.L.slots.getD (slq C.lz m b) 0-65536).toNat (bkb C.ps C.cw m b),oa:=oa,on:=on,oc:=oc,oz:=C.oz,tn:=C.tn+1 } v13 (.slice (some (qR g 0)) 1 1) from
  hX.put 14 (.int .i64 (C.tn+1)) rfl (fun x=>by have:=x.scal M.pc M.md M.bk (C.tn+1);exact ⟨this.m,this.e,this.k,this.q,this.l,this.h,this.bm,this.bh,⟨x.vs.1,x.vs.2.1,x.vs.2.2.1,x.vs.2.2.2.1,x.vs.2.2.2.2.1,x.vs.2.2.2.2.2.1,x.vs.2.2.2.2.2.2.1,rfl⟩,this.vz⟩))
 have HGL:=zh (fun (X:qw) (C':Cn) (M':Mn) (hX:Mg w1 X G Y C' M' v13 (.slice (some (qR g 0)) 1 1)) (e:M'.la=some (qR gl 0)) (e':slq C.lz m b<M'.ln)=>show (∃ cs,Blk X gl cs 142)/\gl≠G/\(∃ u,X.cell? (qR gl (slq C.lz m b*4))=some u)/\(∃ u,X.cell? (qR gl (slq C.lz m b*4+1))=some u)/\(∃ u,X.cell? (qR gl (slq C.lz m b*4+2))=some u)/\(∃ u,X.cell? (qR gl (slq C.lz m b*4+3))=some u)/\∀ i,X.frozen? (qR gl i)=false from by
  obtain ⟨base,mid,Ls,β,mm,_⟩:=hX.m;have ml:=mm.l;rw [e] at ml;obtain ⟨cs,kb⟩:=aE ml (k:=gl) rfl;obtain ⟨gg,q,hq⟩:=nZ bM zSl ml (slq C.lz m b) e';cases q
  exact ⟨⟨cs,kb⟩,fun q=>by subst q;exact absurd (aI kb hX.k) (by decide),⟨_,hq 0 (by omega) _ rfl⟩,⟨_,hq 1 (by omega) _ rfl⟩,⟨_,hq 2 (by omega) _ rfl⟩,⟨_,hq 3 (by omega) _ rfl⟩,fun i=>kb.frozen i⟩)
 have HSLT:=zh (fun (X:qw) (oa:qO) (on oc:Nat) (hX:Mg w1 X G Y { C with rz:=ovr C.rz (Y.L.slots.getD (slq C.lz m b) 0-65536).toNat (bkb C.ps C.cw m b),tn:=C.tn+1 } { M with rz:=ovr C.rz (Y.L.slots.getD (slq C.lz m b) 0-65536).toNat (bkb C.ps C.cw m b),oa:=oa,on:=on,oc:=oc,oz:=C.oz,tn:=C.tn+1 } v13 (.slice (some (qR g 0)) 1 1)) (hT:TGx w X)=>show BiP w1 w G g Y C M v13 m b (.returned (.tuple #[])) ((((X.setCell (qR gl (slq C.lz m b*4)) (.bool true)).setCell (qR gl (slq C.lz m b*4+1)) (.int .i64 m)).setCell (qR gl (slq C.lz m b*4+2)) (.int .i64 b)).setCell (qR gl (slq C.lz m b*4+3)) (.int .i64 (C.tn+1))).drew from by
  refine ⟨rfl,oa,on,oc,?_⟩;obtain ⟨base,mid,Ls,β,mm,m1,m2⟩:=hX.m;have ml:=mm.l;have ml':OG 142 4 bS X mid (.slice (some (qR gl 0)) M.ln M.lc) C.lz:=by rw [<- hgl];exact ml
  obtain ⟨cs,kb⟩:=aE ml' (k:=gl) rfl;have T:=(((aC X gl (slq C.lz m b*4) (.bool true)).trans (aC _ gl (slq C.lz m b*4+1) (.int .i64 m))).trans (aC _ gl (slq C.lz m b*4+2) (.int .i64 b))).trans (aC _ gl (slq C.lz m b*4+3) (.int .i64 (C.tn+1)));have lo:=(ml'.lt gl rfl).1;have fin:Mg w1 ((((X.setCell (qR gl (slq C.lz m b*4)) (.bool true)).setCell (qR gl (slq C.lz m b*4+1)) (.int .i64 m)).setCell (qR gl (slq C.lz m b*4+2)) (.int .i64 b)).setCell (qR gl (slq C.lz m b*4+3)) (.int .i64 (C.tn+1))) G Y { C with tn:=C.tn+1,lz:=C.lz.set (slq C.lz m b) (true,m,b,C.tn+1),rz:=ovr C.rz (Y.L.slots.getD (slq C.lz m b) 0-65536).toNat (bkb C.ps C.cw m b) } { M with tn:=C.tn+1,lz:=C.lz.set (slq C.lz m b) (true,m,b,C.tn+1),rz:=ovr C.rz (Y.L.slots.getD (slq C.lz m b) 0-65536).toNat (bkb C.ps C.cw m b),oa:=oa,on:=on,oc:=oc,oz:=C.oz } v13 (.slice (some (qR g 0)) 1 1):=⟨aG hX.b T (fun j hj=>by have:=mm.bm;omega) hX.b.size,hX.g,aF T hX.k (fun e=>by have:=aI (by rw [e] at hX;exact hX.k) kb;revert this;decide),⟨base,mid,Ls,β,mm.slot hgl (slq C.lz m b) (by show _<M.ln;omega) true m b (C.tn+1),m1,m2⟩,hX.l⟩
  exact ⟨fin.bw brf.drew,(hT.trans (iW T (fun j hj=>by subst hj;exact ⟨cs,_,kb,.inr (.inr (.inl rfl))⟩))).trans (cF brf.drew)⟩)
 have hglw:gl<w.heap.size:=by
  obtain ⟨⟨cs,kb⟩,_⟩:=HGL.o w C M h hgl (by omega);exact kb.lt
 have HTB:=zh (fun (X:qw) (hX:TGx V X)=>show X.cell? (qR w.heap.size 0)=some (.int .i64 m)/\X.cell? (qR w.heap.size 1)=some (.int .i64 b) from ⟨(hX.blk kV (by unfold gkd;decide)).cell 0,(hX.blk kV (by unfold gkd;decide)).cell 1⟩);have HV:=zh hV;have HBV:=zh (cF bV);have e8':=e8;have hs0:(0:Int)<=((slq C.lz m b:Nat):Int):=by omega
 have hsl:slq C.lz m b<M.ln:=by omega
 have ht0:0<=C.tn:=hv.t.1;have hs1:((slq C.lz m b:Nat):Int)<(M.ln:Int):=by omega
 have hn1:¬ gl=w.heap.size:=by omega
 have hn2:¬ w.heap.size=gl:=by omega
 have hn3:¬ G=w.heap.size:=by omega
 have hn4:¬ w.heap.size=G:=by omega
 by_cases c:hld C.lz m b=-1
 .rw [c] at HSW;have HSF:=zh (fun (X:qw) (hX:qY V X)=>rX M.la M.ln M.lc C.lz X (hqs.bw hX));rw [show lst C.lz M.ln=slq C.lz m b by unfold slq;rw [if_pos c,hln]] at HSF;have hms:=(hg.mnd hn4').m;rw [<- e9] at hp;obtain ⟨gm,om,gb,ob,ea,⟨m0,m1⟩,b1,b2,eb,u2,ub,_⟩:=aBq hms hp hb
  have HFI:=zh (fun (X:qw) (hX:qY V X)=>(aK9 w1 G g Y C M v13 (slq C.lz m b) ((M.ms.getD m.toNat aK).bl.getD b.toNat zB).1 ((M.ms.getD m.toNat aK).bl.getD b.toNat zB).2.1 ((M.ms.getD m.toNat aK).bl.getD b.toNat zB).2.2.1 (bnk C.ps m b) X (hg.bw hX) (hrV.bw hX) hv.b ⟨c1,c2⟩ s4 s1 s2 s3 (fun {X C' M' vr'} hX' em ep=>by
   have q:=(aBq (hX'.mnd (by rw [ep];exact hn4')).m (m:=m) (b:=b) (by rw [em];exact hp) hb).choose_spec.choose_spec.choose_spec.choose_spec.2.2.2.2.2.2.2;rw [em,e9] at q
   exact q)).mono (fun e w' he=>show e=.returned (.tuple #[])/\∃ oa on oc,Mg w1 w' G Y { C with rz:=ovr C.rz (Y.L.slots.getD (slq C.lz m b) 0-65536).toNat (bkb C.ps C.cw m b) } { M with rz:=ovr C.rz (Y.L.slots.getD (slq C.lz m b) 0-65536).toNat (bkb C.ps C.cw m b),oa:=oa,on:=on,oc:=oc,oz:=C.oz } v13 (.slice (some (qR g 0)) 1 1)/\TGx V w'/\w'.cell? (qR G 0)=some (.slice (some (qR gm om)) M.mn M.mc)/\w'.cell? (qR gm (om+m.toNat*8+2))=some (.slice (some (qR gb ob)) (M.ms.getD m.toNat aK).bn (M.ms.getD m.toNat aK).bc)/\w'.cell? (qR gb (ob+b.toNat))=some (.slice ((M.ms.getD m.toNat aK).bl.getD b.toNat zB).1 ((M.ms.getD m.toNat aK).bl.getD b.toNat zB).2.1 ((M.ms.getD m.toNat aK).bl.getD b.toNat zB).2.2.1) from by
   obtain ⟨he,oa,on,oc,h1,h2⟩:=he;rw [aK8 hv hsq (by rw [<- e9];exact hp) hb] at h1;obtain ⟨gm',om',gb',ob',ea',_,_,_,eb',u2',ub',_⟩:=aBq (h1.mnd hn4').m (m:=m) (b:=b) hp hb;have ea'':=ea.symm.trans ea';have eb'':=eb.symm.trans eb';cases ea''
   cases eb''
   exact ⟨he,oa,on,oc,h1,(cF hX).trans h2,by have q:=h1.k.cell 0;rw [q];show some (Value.slice M.ma M.mn M.mc)=_;rw [ea],u2',ub'⟩))
  generalize (M.ms.getD m.toNat aK).bl.getD b.toNat zB=B at *;generalize (M.ms.getD m.toNat aK).bn=dn at *;generalize (M.ms.getD m.toNat aK).bc=dc at *;have HC:=zh (fun (X:qw) (hX:qY V X)=>show X.cell? (qR G 0)=some (.slice (some (qR gm om)) M.mn M.mc)/\X.cell? (qR gm (om+m.toNat*8+2))=some (.slice (some (qR gb ob)) dn dc)/\X.cell? (qR gb (ob+b.toNat))=some (.slice B.1 B.2.1 B.2.2.1) from ⟨by rw [<- ea];exact (hg.bw hX).k.cell 0,aB hX u2,aB hX ub⟩);generalize slq C.lz m b=s at *;rw [hgl] at HSW HSF x12;have hmx:=hms.s.2.1;unfold maxLen at hmx;clear h hr hv hp hg hrV hqs hms e2 e8 e9 e10 hcs hlz hLk hsq s1 s2 s3 s4 s5 s6 ea eb u2 ub c1 c2 c bV kV hV y2;go_enter func129,ntmps129
  go_wp2_with (rw [<- HV.o])
  refine HSW.o.mono ?_;rintro e X1 ⟨rfl,hb1⟩;have HB1:=zh hb1;clear hb1 y0 y1 x12 HV;go_wp2_with fail
  refine (HSF.o X1 HB1.o).mono ?_;rintro e X2 ⟨rfl,hb2⟩;have HB2:=zh (HB1.o.trans (hb2.mono HB1.o.size));obtain ⟨x0,u2,ub⟩:=HC.o X2 HB2.o;obtain ⟨y0,y1⟩:=HTB.o X2 (cF HB2.o);have HF2:=zh (fun (X:qw) (hX:qY X2 X)=>HFI.o X (HB2.o.trans (hX.mono HB2.o.size)));clear hb2 HB1 HSF HC HFI;go_wp2_with fail
  go_region_held3 (fun w'=>w'.cell? (qR G 0)=some (.slice (some (qR gm om)) M.mn M.mc)/\w'.cell? (qR gm (om+m.toNat*8+2))=some (.slice (some (qR gb ob)) dn dc)/\w'.cell? (qR gb (ob+b.toNat))=some (.slice B.1 B.2.1 B.2.2.1)/\w'.cell? (qR w.heap.size 0)=some (.int .i64 m)/\w'.cell? (qR w.heap.size 1)=some (.int .i64 b)) (go_keep)
   (first
     | (go_at_call 178;first
         | with_reducible refine (HF2.o _ brf).mono ?_
         | with_reducible refine (HF2.o _ brf.drew).mono ?_
        rintro e X3 ⟨rfl,oa,on,oc,hE,hT,z0,z2,zb⟩;obtain ⟨t0,t1⟩:=HTB.o X3 hT;have HE:=zh (xA hE hT)
        clear hE hT))
  clear t0 t1 x0 y0 y1 u2 ub z0 z2 zb HF2 HB2;have x14:X3.cell? (qR G 14)=some (.int .i64 C.tn):=by rw [<- e8'];exact HE.o.1.k.cell 14
  have f14:=HE.o.1.k.frozen 14;obtain ⟨X4,hX4⟩:=eqx (X3.setCell ⟨G,14,none⟩ (.int .i64 (C.tn+1)));have hE4:=HEND.o X3 oa on oc HE.o.1;rw [<- hX4] at hE4;have z14:X4.cell? (qR G 14)=some (.int .i64 (C.tn+1)):=hE4.k.cell 14;obtain ⟨_,hgG,⟨v0,l0⟩,⟨v1,l1⟩,⟨v2,l2⟩,⟨v3,l3⟩,lf⟩:=HGL.o X4 _ _ hE4 hgl hsl;have hT4:TGx V X4:=by rw [hX4];exact HE.o.2.trans (iW (aC _ G 14 _) (fun j hj=>by subst hj;exact ⟨_,_,HE.o.1.k,.inr (.inl rfl)⟩))
  obtain ⟨t0,t1⟩:=HTB.o X4 hT4;have hn5:¬ gl=G:=hgG;have hn6:¬ G=gl:=fun e=>hgG e.symm;have HFF:=zh (HSLT.o X4 oa on oc hE4 (HBV.o.trans hT4));have HX4:=zh hX4;clear hE4 hX4 hT4 hgG HE HEND HSLT HGL HTB;go_wp2_with (rw [<- HX4.o])
  clear x14 f14
  go_region_held3 (fun w'=>w'.cell? (qR G 14)=some (.int .i64 (C.tn+1))/\w'.cell? (qR w.heap.size 0)=some (.int .i64 m)/\w'.cell? (qR w.heap.size 1)=some (.int .i64 b)) (go_keep) (fail)
  all_goals
   go_wp2
   go_end0
   exact HFF.o
 .have hnn:((((slq C.lz m b:Nat):Int)) == -1)=false:=by simp
  rw [show hld C.lz m b=((slq C.lz m b:Nat):Int) by unfold slq;rw [if_neg c];have:=fZ C.lz m b;omega] at HSW
  have HZ:=zh (fun (X:qw) (hX:qY V X)=>show Mg w1 X G Y { C with rz:=ovr C.rz (Y.L.slots.getD (slq C.lz m b) 0-65536).toNat (bkb C.ps C.cw m b) } { M with rz:=ovr C.rz (Y.L.slots.getD (slq C.lz m b) 0-65536).toNat (bkb C.ps C.cw m b),oa:=M.oa,on:=M.on,oc:=M.oc,oz:=C.oz } v13 (.slice (some (qR g 0)) 1 1) from by
   have e:M.rz=C.rz/\M.oz=C.oz:=by obtain ⟨_,_,_,_,mm,_⟩:=h.m;exact ⟨mm.vz.2.2.2.1,mm.vz.2.2.2.2.1⟩
   have q:=hg.bw hX;rw [aL3 hv.s c s2];rw [show M={ M with rz:=C.rz,oa:=M.oa,on:=M.on,oc:=M.oc,oz:=C.oz } by rw [<- e.1,<- e.2]] at q
   exact q)
  generalize slq C.lz m b=s at *;rw [hgl] at HSW x12;clear h hr hv hp hg hrV hqs e2 e8 e9 e10 hcs hlz hLk hsq s1 s2 s3 s4 s5 s6 c1 c2 c bV kV hV y2;go_enter func129,ntmps129
  go_wp2_with (rw [<- HV.o])
  refine HSW.o.mono ?_;rintro e X3 ⟨rfl,hb1⟩;have HE:=zh (xA (HZ.o X3 hb1) (cF hb1));clear hb1 y0 y1 x12 HV HZ HSW;have x14:X3.cell? (qR G 14)=some (.int .i64 C.tn):=by rw [<- e8'];exact HE.o.1.k.cell 14
  have f14:=HE.o.1.k.frozen 14;obtain ⟨X4,hX4⟩:=eqx (X3.setCell ⟨G,14,none⟩ (.int .i64 (C.tn+1)));have hE4:=HEND.o X3 M.oa M.on M.oc HE.o.1;rw [<- hX4] at hE4;have z14:X4.cell? (qR G 14)=some (.int .i64 (C.tn+1)):=hE4.k.cell 14;obtain ⟨_,hgG,⟨v0,l0⟩,⟨v1,l1⟩,⟨v2,l2⟩,⟨v3,l3⟩,lf⟩:=HGL.o X4 _ _ hE4 hgl hsl;have hT4:TGx V X4:=by rw [hX4];exact HE.o.2.trans (iW (aC _ G 14 _) (fun j hj=>by subst hj;exact ⟨_,_,HE.o.1.k,.inr (.inl rfl)⟩))
  obtain ⟨t0,t1⟩:=HTB.o X4 hT4;have hn5:¬ gl=G:=hgG;have hn6:¬ G=gl:=fun e=>hgG e.symm;have HFF:=zh (HSLT.o X4 M.oa M.on M.oc hE4 (HBV.o.trans hT4));have HX4:=zh hX4;clear hE4 hX4 hT4 hgG HE HEND HSLT HGL HTB;go_wp2_with (rw [<- HX4.o])
  clear x14 f14
  go_region_held3 (fun w'=>w'.cell? (qR G 14)=some (.int .i64 (C.tn+1))/\w'.cell? (qR w.heap.size 0)=some (.int .i64 m)/\w'.cell? (qR w.heap.size 1)=some (.int .i64 b)) (go_keep) (fail)
  all_goals
   go_wp2
   go_end0
   exact HFF.o
theorem aNa (e:Lok ps L):((imR ps L).length:Int)=L.ram:=by
 unfold imR;rw [if_pos e];have K:=kI e;have h3:=K.rr
 have h4:∀ i,i<=ps.length->(raB ps L i).length=L.ram.toNat:=by
  intro i
  induction i with
  | zero=>intro _;simp [raB]
  | succ i ih=>
    intro hi;have h5:=ih (by omega);have h6:=(K.at i (by omega)).2.2.2;rw [raB,aCc,lE]
    .exact h5
    .rw [h5,K.place i (by omega)];omega
 have:=h4 ps.length aN;omega
theorem aAv (M:Mn)(L:Lay)(a0:qO)(c0:Nat)(xs:List PB)(a2:qO)(c2:Nat)(a5:qO)(c5:Nat)(ts:List TB)(w:qw)(h:MnD w M)(hL:LyT w L a0 c0 xs a2 c2 a5 c5 ts)(hk:Lok (aD M.ms) L):
 qC 157 #[.agg (qA M),.agg (qJ L a0 xs c0 a2 c2 a5 ts c5)] w (Yn (mok M.fn M.rn M.on=true/\imF (aD M.ms) L=M.fz/\(M.rn:Int)=L.ram) w):=by
 obtain ⟨U,hU,bU,kU⟩:=nwb w (qA M) 43;obtain ⟨V,hV,bV,kV⟩:=nwb U (qJ L a0 xs c0 a2 c2 a5 ts c5) 71;have BV:=bU.trans (bV.mono bU.size);have kU':=kU.bw bV
 have HIM:=zh (show qC 191 #[qS M.ma M.mn M.mc,.agg (qJ L a0 xs c0 a2 c2 a5 ts c5)] V (fun e w'=>qY V w'/\∃ b1 n1 d1 b2 n2 d2 b3 n3 d3,e=.returned (.tuple #[.agg (qV b1 n1 d1 b2 n2 d2 b3 n3 d3),.bool true])/\OM w' V.heap.size (qS b1 n1 d1) (qS b2 n2 d2) (qS b3 n3 d3) (imF (aD M.ms) L) (imR (aD M.ms) L) []) from by
  have:=aE6 M.ma M.mn M.mc M.ms L a0 c0 xs a2 c2 a5 c5 ts V (h.m.bw BV) (hL.bw BV);unfold ImM at this;rw [xR hk] at this
  exact this)
 have HRL:=zh (aNa hk);have HFV:=zh (fun (X:qw) (hX:qY V X)=>(h.f.bw BV).bw hX);have HU:=zh hU;have HV:=zh hV;have HB:=zh BV;have HMO:=zh (fun (X:qw)=>tT M.fa M.ra M.oa M.fn M.fc M.rn M.rc M.on M.oc X);have hmr:=h.r.2.1;unfold maxLen at hmr;have HC:=zh (fun (X:qw) (hX:qY V X)=>show X.cell? (qR w.heap.size 0)=some (qS M.ma M.mn M.mc)/\X.cell? (qR w.heap.size 7)=some (qS M.fa M.fn M.fc)/\X.cell? (qR w.heap.size 8)=some (qS M.ra M.rn M.rc)/\X.cell? (qR w.heap.size 9)=some (qS M.oa M.on M.oc) from ⟨(kU'.bw hX).cell 0,(kU'.bw hX).cell 7,(kU'.bw hX).cell 8,(kU'.bw hX).cell 9⟩);obtain ⟨z0,z1,z2,z3,z4,z5⟩:=kV.ly6;obtain ⟨y0,y7,y8,y9⟩:=HC.o V brf;clear hU hV bU bV kU kU' kV BV h hL hk;go_enter func157,ntmps157
 go_wp2_with (first|rw [<- HU.o]|rw [<- HV.o])
 refine HIM.o.mono ?_;rintro e X1 ⟨hb1,b1,n1,d1,b2,n2,d2,b3,n3,d3,rfl,O⟩;obtain ⟨W,hW,bW,kW⟩:=nwb X1 (qV b1 n1 d1 b2 n2 d2 b3 n3 d3) 39;have BW:=hb1.trans (bW.mono hb1.size);have HW:=zh hW;have HBW:=zh BW;have HOF:=zh (fun (X:qw) (hX:qY W X)=>(((O.o1.bw bW).bw hX).bs));have HRN:=zh (show ((n2:Nat):Int)=L.ram from by rw [<- HRL.o,O.o2.bs.1]);have hn2:=O.o2.bs.2.1;unfold maxLen at hn2;have HKW:=zh kW;clear y0 y7 y8 y9 z0 z1 z2 z3 z4 z5 HU HV HIM hW bW kW hb1 O;obtain ⟨y0,y7,y8,y9⟩:=HC.o W BW;clear BW;have HBE:=zh (fun (X:qw) (hX:qY W X)=>kS M.fa b1 M.fn M.fc n1 d1 M.fz (imF (aD M.ms) L) X (HFV.o X (HBW.o.trans (hX.mono HBW.o.size))) (HOF.o X hX));by_cases c1:mok M.fn M.rn M.on=true
 .rw [c1] at HMO;have HC1:=zh c1;clear c1;go_wp2_with (rw [<- HW.o])
  refine (HMO.o _).mono ?_;rintro e X2 ⟨rfl,hb2⟩;have HB2:=zh (HBW.o.trans (hb2.mono HBW.o.size));have HBE2:=zh (HBE.o X2 hb2);clear y0 y7 y8 y9;obtain ⟨y0,y7,y8,y9⟩:=HC.o X2 HB2.o;have i0:=(HKW.o.bw hb2).e0;have i1:=(HKW.o.bw hb2).e1;clear hb2 HMO HBE HKW HOF HFV HC HW;by_cases c2:M.fz=imF (aD M.ms) L
  .rw [xR c2] at HBE2;have HC2:=zh c2.symm;clear c2;go_wp2_with fail
   refine HBE2.o.mono ?_;rintro e X3 ⟨rfl,rfl⟩;go_wp2;go_ret;have hrn:=HRN.o;refine ⟨_,rfl,?_,HB.o.trans (HB2.o.mono HB.o.size)⟩;constructor
   .intro q;exact ⟨HC1.o,HC2.o,by simp at q;omega⟩
   .intro q;have:=q.2.2;simp;omega
  .rw [xS c2] at HBE2;have HC2:Zh (¬ (mok M.fn M.rn M.on=true/\imF (aD M.ms) L=M.fz/\(M.rn:Int)=L.ram)):=fun q=>c2 q.2.1.symm;clear c2;go_wp2_with fail
   refine HBE2.o.mono ?_;rintro e X3 ⟨rfl,rfl⟩;go_wp2;go_ret;exact cU HC2.o (HB.o.trans (HB2.o.mono HB.o.size))
 .have e1:mok M.fn M.rn M.on=false:=by simpa using c1
  rw [e1] at HMO;have HC2:Zh (¬ (mok M.fn M.rn M.on=true/\imF (aD M.ms) L=M.fz/\(M.rn:Int)=L.ram)):=fun q=>c1 q.1;clear c1 e1;go_wp2_with (rw [<- HW.o])
  refine (HMO.o _).mono ?_;rintro e X2 ⟨rfl,hb2⟩;have HB2:=zh (HBW.o.trans (hb2.mono HBW.o.size));clear hb2;go_wp2;go_ret;exact cU HC2.o (HB.o.trans (HB2.o.mono HB.o.size))
theorem aD9 (M:Mn)(w:qw)(h:MnD w M):
 qC 159 #[.agg (qA M)] w (Yn (vM (aD M.ms) M.cs M.md M.bk M.lz) w):=by
 obtain ⟨U,hU,bU,kU⟩:=nwb w (qA M) 43;have HIP:=zh (kP M.ma M.mn M.mc M.ms M.md M.bk U (h.m.s.bw bU));rw [dW h.m M.md M.bk] at HIP;have HSW:=zh (fun (X:qw) (hX:qY U X)=>iY M.la M.ln M.lc M.lz M.md M.bk X ((h.l.bw bU).bw hX));have HU:=zh hU;have HB:=zh bU;have HC:=zh (fun (X:qw) (hX:qY U X)=>show X.cell? (qR w.heap.size 0)=some (qS M.ma M.mn M.mc)/\X.cell? (qR w.heap.size 1)=some (qI M.cs)/\X.cell? (qR w.heap.size 10)=some (qI M.md)/\X.cell? (qR w.heap.size 11)=some (qI M.bk)/\X.cell? (qR w.heap.size 12)=some (qS M.la M.ln M.lc) from ⟨(kU.bw hX).cell 0,(kU.bw hX).cell 1,(kU.bw hX).cell 10,(kU.bw hX).cell 11,(kU.bw hX).cell 12⟩);obtain ⟨y0,y1,y10,y11,y12⟩:=HC.o U brf;clear hU bU kU h;by_cases c1:0<=pcq (aD M.ms) M.md M.bk
 .rw [xR c1] at HIP;have HPR:Zh ((vM (aD M.ms) M.cs M.md M.bk M.lz) ↔ (M.cs=0\/M.bk=-1\/hld M.lz M.md M.bk≠-1)):=⟨fun q=>q.2,fun q=>⟨c1,q⟩⟩;clear c1;go_enter func159,ntmps159
  go_wp2_with (rw [<- HU.o])
  refine HIP.o.mono ?_;rintro e X1 ⟨rfl,hb1⟩;have HX1:=zh hb1;clear y0 y1 y10 y11 y12;obtain ⟨y0,y1,y10,y11,y12⟩:=HC.o X1 hb1;have HS1:=zh (HSW.o X1 hb1);clear hb1 HIP HU HSW HC;by_cases c2:M.cs=0
  .have c2':(M.cs !=0)=false:=by simp [c2]
   have HP:=zh (HPR.o.2 (.inl c2));clear c2;go_wp2;go_ret;exact pN HP.o (HB.o.trans (HX1.o.mono HB.o.size))
  have c2':(M.cs !=0)=true:=by simp [c2]
  by_cases c3:M.bk=-1
  .have c3':(M.bk !=-1)=false:=by simp [c3]
   have HP:=zh (HPR.o.2 (.inr (.inl c3)));clear c2 c3;go_wp2;go_ret;exact pN HP.o (HB.o.trans (HX1.o.mono HB.o.size))
  have c3':(M.bk !=-1)=true:=by simp [c3]
  have HP:Zh ((vM (aD M.ms) M.cs M.md M.bk M.lz) ↔ hld M.lz M.md M.bk≠-1):=⟨fun q=>by rcases HPR.o.1 q with e|e|e;exact absurd e c2;exact absurd e c3;exact e,fun q=>HPR.o.2 (.inr (.inr q))⟩;clear c2 c3 HPR;generalize hld M.lz M.md M.bk=r at *;go_wp2_with fail
  refine HS1.o.mono ?_;rintro e X2 ⟨rfl,hb2⟩;have HX2:=zh (HX1.o.trans (hb2.mono HX1.o.size));clear hb2 HS1;go_wp2;go_ret;exact ⟨_,rfl,by rw [HP.o];simp,HB.o.trans (HX2.o.mono HB.o.size)⟩
 .rw [xS c1] at HIP;have HN:Zh (¬ (vM (aD M.ms) M.cs M.md M.bk M.lz)):=fun q=>c1 q.1;clear c1;go_enter func159,ntmps159
  go_wp2_with (rw [<- HU.o])
  refine HIP.o.mono ?_;rintro e X1 ⟨rfl,hb1⟩;have HX1:=zh hb1;clear hb1 HIP HU;go_wp2;go_ret;exact cU HN.o (HB.o.trans (HX1.o.mono HB.o.size))
