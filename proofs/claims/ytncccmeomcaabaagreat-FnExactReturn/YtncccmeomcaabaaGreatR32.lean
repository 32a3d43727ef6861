import Derived.Test.YtncccmeomcaabaaGreatR31
set_option linter.all false
namespace Go.Proofs.YtncccmeomcaabaaGreat
open Go.RowKit Classical
open Go.Proofs.Tryz
set_option maxRecDepth 100000
variable {C:Cn}{L:Lay}{b m:Int}{i:Nat}
structure Cv (C:Cn)(L:Lay):Prop where
 k:lkc C.ps C.cs C.cw C.ck C.cd=0
 e:L=lkL C.ps C.cs C.cw C.ck C.cd
 b:mok C.fz.length C.rz.length C.oz.length=true
 r:(C.rz.length:Int)=L.ram
 g:C.kz.length=8
 s:cU C.ps L C.cs C.cw C.tn C.rz C.lz
 n:vA C.ps C.cs C.md C.bk C.lz
 t:0<=C.tn/\C.tn<=1000000000
theorem aOh (x:Int):rnd x%32=0:=by unfold rnd;omega
theorem aN0 (ps:List PMod):∀ i,Ra ps i%32=0
 | 0=>rfl
 | i+1=>by
   have h1:=aN0 ps i;have h2:=aOh (((ps.getD i zP).dz.length:Int)+(ps.getD i zP).bss);unfold Ra dsz;omega
theorem aOa {ps:List PMod}{s c k d:Int}(h:lkc ps s c k d=0)(hi:i<(lkL ps s c k d).slots.length):(lkL ps s c k d).slots.getD i 0%4=0:=by
 have e:lkL ps s c k d=lay ps s c k:=by unfold lkL;rw [if_pos h]
 rw [e] at hi ⊢;have h1:=(fU.1 h).1;unfold cfo at h1;simp at h1;have hl:(lay ps s c k).slots.length=s.toNat:=by simp [lay]
 rw [hl] at hi;have e2:(lay ps s c k).slots.getD i 0=slt ps c k i:=by simp [lay,xB,hi]
 rw [e2];unfold slt;have q1:=aN0 ps ps.length
 have q2:((i:Int)*rnd (4*c))%32=0:=by
  unfold rnd;rw [<- Int.mul_assoc];exact Int.mul_emod_left _ _
 omega
theorem Cv.cf (h:Cv C L):(1<=C.cw/\C.cw<=64)/\C.ps.length<=4/\(L.slots.length:Int)=C.cs/\C.lz.length=L.slots.length/\Lok C.ps L:=by
 have h1:=fU.1 h.k;have hc:=h1.1;unfold cfo at hc;simp at hc;have e:lkL C.ps C.cs C.cw C.ck C.cd=lay C.ps C.cs C.cw C.ck:=by unfold lkL;rw [if_pos h.k]
 have hl:(L.slots.length:Int)=C.cs:=by rw [h.e,e];simp [lay];omega
 have hs:=h.s.1;exact ⟨by omega,h1.2.2.1,hl,by omega,by rw [h.e,e];exact aEc h.k⟩
theorem Cv.slot (h:Cv C L)(hi:i<C.lz.length):65536<=L.slots.getD i 0/\(L.slots.getD i 0-65536).toNat+slz C.cw<=C.rz.length/\L.slots.getD i 0%4=0/\i<L.slots.length/\0<C.cs/\L.slots.getD i 0<=100000:=by
 have hl:=h.cf.2.2.2.1;have hr:=h.r;have e:=h.e;have h1:=rK h.k (i:=i) (by rw [<- e];omega);have h2:=aOa h.k (i:=i) (by rw [<- e];omega);rw [<- e] at h1 h2;exact ⟨h1.1,by omega,h2,by omega,h1.2.2.2.2,by omega⟩
theorem aBe {w:qw}{a:qO}{n cap:Nat}{ms:List Md}(h:MSD w a n cap ms)(hp:0<=pcq (aE ms) m b)(hb:0<=b):∃ gm om gb ob,a=some (qR gm om)/\(0<=m/\m<(n:Int))/\b<(((ms.getD m.toNat aK).bn:Nat):Int)/\(ms.getD m.toNat aK).bn<=9223372036854775807/\(ms.getD m.toNat aK).ba=some (qR gb ob)/\w.cell? (qR gm (om+m.toNat*8+2))=some (.slice (some (qR gb ob)) (ms.getD m.toNat aK).bn (ms.getD m.toNat aK).bc)/\w.cell? (qR gb (ob+b.toNat))=some (.slice ((ms.getD m.toNat aK).bl.getD b.toNat zB).1 ((ms.getD m.toNat aK).bl.getD b.toNat zB).2.1 ((ms.getD m.toNat aK).bl.getD b.toNat zB).2.2.1)/\IS w ((ms.getD m.toNat aK).bl.getD b.toNat zB).1 ((ms.getD m.toNat aK).bl.getD b.toNat zB).2.1 ((ms.getD m.toNat aK).bl.getD b.toNat zB).2.2.1 (bnk (aE ms) m b):=by
 obtain ⟨⟨h0,h1⟩,hq⟩:=nT h hp;obtain ⟨gm,om,rfl,v0,v1,v2,v3,v4,v5,v6,v7⟩:=h.s.at m.toNat (by omega);have hd:=h.d m.toNat (by omega);have hn:=h.s.1;have hbn:bnk (aE ms) m b=((ms.getD m.toNat aK).pm.bl).getD b.toNat []:=by unfold bnk;rw [cG]
 generalize ms.getD m.toNat aK=D at *
 have hlt:b<(D.bn:Int):=by
  unfold pcn at hq;rw [if_neg (by omega)] at hq;by_cases c:0<=b/\b<(D.bn:Int)
  .exact c.2
  .rw [if_neg c] at hq;omega
 obtain ⟨b1,b2,b3,b4,b5⟩:=hd.b;unfold maxLen at b2;obtain ⟨gb,ob,hba,hc⟩:=b3 (by omega);have r:=b4 b.toNat (by omega);have ec:=hc b.toNat (by omega)
 have e1:bnk (aE ms) m b=(D.bl.getD b.toNat zB).2.2.2:=by
  rw [hbn];simp [Md.pm,xB,show b.toNat<D.bl.length by omega]
 rw [<- e1] at r;rw [hba] at v2;exact ⟨gm,om,gb,ob,rfl,⟨h0,h1⟩,hlt,by omega,hba,v2,ec,r⟩
theorem aKs (h:Cv C L)(hi:i<C.lz.length)(hp:0<=pcq C.ps m b)(hb:0<=b):bL C.rz (L.slots.getD i 0-65536).toNat (bnk C.ps m b) (slz C.cw/4)=ovr C.rz (L.slots.getD i 0-65536).toNat (bkb C.ps C.cw m b):=by
 obtain ⟨h1,h2,_,_,h5,_⟩:=h.slot hi;obtain ⟨c1,c2⟩:=h.cf.1;have hz4:4*(slz C.cw/4)=slz C.cw:=by have:=(fH c1 c2).1;unfold rnd at this;omega
 have hf:=(aBa h.k h5 hp hb).1;rw [aM0 _ _ _ _ (by omega) (by omega),hz4];rfl
def BiP (w1 w:qw)(G g:Nat)(Y:Lyb)(C:Cn)(M:Mn)(v13:Value)(m b:Int)(e:Ending)(w':qw):Prop:=e=.returned (.tuple #[])/\∃ oa on oc,Mg w1 w' G Y { C with tn:=C.tn+1,lz:=C.lz.set (slq C.lz m b) (true,m,b,C.tn+1),rz:=ovr C.rz (Y.L.slots.getD (slq C.lz m b) 0-65536).toNat (bkb C.ps C.cw m b) } { M with tn:=C.tn+1,lz:=C.lz.set (slq C.lz m b) (true,m,b,C.tn+1),rz:=ovr C.rz (Y.L.slots.getD (slq C.lz m b) 0-65536).toNat (bkb C.ps C.cw m b),oa:=oa,on:=on,oc:=oc,oz:=C.oz } v13 (.slice (some (qR g 0)) 1 1)/\TGx w w'
set_option maxHeartbeats 8000000 in
theorem aDa (w1:qw)(G g:Nat)(Y:Lyb)(C:Cn)(M:Mn)(v13:Value)(m b t:Int)(w:qw)(h:Mg w1 w G Y C M v13 (.slice (some (qR g 0)) 1 1))(hr:Blk w g #[.int .i64 65536,.int .i64 14,.int .i64 0,.bool false,.bool true,.bool false] 214)(hv:Cv C Y.L)(hp:0<=pcq C.ps m b)(hb:0<=b)(hl:C.lz.length≠0)(ht:C.tn<1000000000):
 qC 129 #[.pointer (some (qR G 0)),.agg (qT m b t)] w (BiP w1 w G g Y C M v13 m b):=by
 obtain ⟨V,hV,bV,kV⟩:=nwb w (qT m b t) 58;have hg:=h.bw bV;have hrV:=hr.bw bV;have hGw:G<w.heap.size:=h.k.lt;obtain ⟨⟨_,e2,_,_,_,_,_,e8⟩,e9,e10⟩:=h.vs;obtain ⟨⟨c1,c2⟩,hn4',hcs,hlz,hLk⟩:=hv.cf;have hsq:=lW (xs:=C.lz) m b hl;obtain ⟨s1,s2,s3,s4,s5,s6⟩:=hv.slot hsq
 have hqs:QS bR zSl V M.la M.ln M.lc C.lz:=by
  obtain ⟨base,mid,Ls,β,mm,_⟩:=hg.m;exact oZ bM mm.l
 have hln:C.lz.length=M.ln:=hqs.1
 obtain ⟨gl,hgl⟩:∃ gl,M.la=some ⟨gl,0,none⟩:=by
  obtain ⟨base,mid,Ls,β,mm,_⟩:=hg.m;obtain ⟨g',cp,e,_⟩:=World.ownsRow.form mm.l (by omega);simp only [Value.slice.injEq] at e;exact ⟨g',e.1⟩
 have HSW:=zh (iR M.la M.ln M.lc C.lz m b V hqs);have x12:V.cell? (qR G 12)=some (.slice M.la M.ln M.lc):=hg.k.cell 12;obtain ⟨y0,y1,y2,_⟩:=kV.three
 have HEND:=zh (fun (X:qw) (oa:qO) (on oc:Nat) (hX:Mg w1 X G Y { C with rz:=ovr C.rz (Y.L.slots.getD (slq C.lz m b) 0-65536).toNat (bkb C.ps C.cw m b) } { M with rz:=ovr C.rz (Y.L.slots.getD (slq C.lz m b) 0-65536).toNat (bkb C.ps C.cw m b),oa:=oa,on:=on,oc:=oc,oz:=C.oz } v13 (.slice (some (qR g 0)) 1 1))=>show Mg w1 (X.setCell (qR G 14) (.int .i64 (C.tn+1))) G Y { C with rz:=ovr C.rz (Y.L.slots.getD (slq C.lz m b) 0-65536).toNat (bkb C.ps C.cw m b),tn:=C.tn+1 } { M with rz:=ovr C.rz (Y.L.slots.getD (slq C.lz m b) 0-65536).toNat (bkb C.ps C.cw m b),oa:=oa,on:=on,oc:=oc,oz:=C.oz,tn:=C.tn+1 } v13 (.slice (some (qR g 0)) 1 1) from
  hX.put 14 (.int .i64 (C.tn+1)) rfl (fun x=>by have:=x.scal M.pc M.md M.bk (C.tn+1);exact ⟨this.m,this.e,this.k,this.q,this.l,this.h,this.bm,this.bh,⟨x.vs.1,x.vs.2.1,x.vs.2.2.1,x.vs.2.2.2.1,x.vs.2.2.2.2.1,x.vs.2.2.2.2.2.1,x.vs.2.2.2.2.2.2.1,rfl⟩,this.vz⟩))
 have HGL:=zh (fun (X:qw) (C':Cn) (M':Mn) (hX:Mg w1 X G Y C' M' v13 (.slice (some (qR g 0)) 1 1)) (e:M'.la=some (qR gl 0)) (e':slq C.lz m b<M'.ln)=>show (∃ cs,Blk X gl cs 142)/\gl≠G/\(∃ u,X.cell? (qR gl (slq C.lz m b*4))=some u)/\(∃ u,X.cell? (qR gl (slq C.lz m b*4+1))=some u)/\(∃ u,X.cell? (qR gl (slq C.lz m b*4+2))=some u)/\(∃ u,X.cell? (qR gl (slq C.lz m b*4+3))=some u)/\∀ i,X.frozen? (qR gl i)=false from by
  obtain ⟨base,mid,Ls,β,mm,_⟩:=hX.m;have ml:=mm.l;rw [e] at ml;obtain ⟨cs,kb⟩:=aD ml (k:=gl) rfl;obtain ⟨gg,q,hq⟩:=nU bM zSl ml (slq C.lz m b) e';cases q
  exact ⟨⟨cs,kb⟩,fun q=>by subst q;exact absurd (aI kb hX.k) (by decide),⟨_,hq 0 (by omega) _ rfl⟩,⟨_,hq 1 (by omega) _ rfl⟩,⟨_,hq 2 (by omega) _ rfl⟩,⟨_,hq 3 (by omega) _ rfl⟩,fun i=>kb.frozen i⟩)
 have HSLT:=zh (fun (X:qw) (oa:qO) (on oc:Nat) (hX:Mg w1 X G Y { C with rz:=ovr C.rz (Y.L.slots.getD (slq C.lz m b) 0-65536).toNat (bkb C.ps C.cw m b),tn:=C.tn+1 } { M with rz:=ovr C.rz (Y.L.slots.getD (slq C.lz m b) 0-65536).toNat (bkb C.ps C.cw m b),oa:=oa,on:=on,oc:=oc,oz:=C.oz,tn:=C.tn+1 } v13 (.slice (some (qR g 0)) 1 1)) (hT:TGx w X)=>show BiP w1 w G g Y C M v13 m b (.returned (.tuple #[])) ((((X.setCell (qR gl (slq C.lz m b*4)) (.bool true)).setCell (qR gl (slq C.lz m b*4+1)) (.int .i64 m)).setCell (qR gl (slq C.lz m b*4+2)) (.int .i64 b)).setCell (qR gl (slq C.lz m b*4+3)) (.int .i64 (C.tn+1))).drew from by
  refine ⟨rfl,oa,on,oc,?_⟩;obtain ⟨base,mid,Ls,β,mm,m1,m2⟩:=hX.m;have ml:=mm.l;have ml':OG 142 4 bR X mid (.slice (some (qR gl 0)) M.ln M.lc) C.lz:=by rw [<- hgl];exact ml
  obtain ⟨cs,kb⟩:=aD ml' (k:=gl) rfl;have T:=(((aC X gl (slq C.lz m b*4) (.bool true)).trans (aC _ gl (slq C.lz m b*4+1) (.int .i64 m))).trans (aC _ gl (slq C.lz m b*4+2) (.int .i64 b))).trans (aC _ gl (slq C.lz m b*4+3) (.int .i64 (C.tn+1)));have lo:=(ml'.lt gl rfl).1;have fin:Mg w1 ((((X.setCell (qR gl (slq C.lz m b*4)) (.bool true)).setCell (qR gl (slq C.lz m b*4+1)) (.int .i64 m)).setCell (qR gl (slq C.lz m b*4+2)) (.int .i64 b)).setCell (qR gl (slq C.lz m b*4+3)) (.int .i64 (C.tn+1))) G Y { C with tn:=C.tn+1,lz:=C.lz.set (slq C.lz m b) (true,m,b,C.tn+1),rz:=ovr C.rz (Y.L.slots.getD (slq C.lz m b) 0-65536).toNat (bkb C.ps C.cw m b) } { M with tn:=C.tn+1,lz:=C.lz.set (slq C.lz m b) (true,m,b,C.tn+1),rz:=ovr C.rz (Y.L.slots.getD (slq C.lz m b) 0-65536).toNat (bkb C.ps C.cw m b),oa:=oa,on:=on,oc:=oc,oz:=C.oz } v13 (.slice (some (qR g 0)) 1 1):=⟨aG hX.b T (fun j hj=>by have:=mm.bm;omega) hX.b.size,hX.g,aF T hX.k (fun e=>by have:=aI (by rw [e] at hX;exact hX.k) kb;revert this;decide),⟨base,mid,Ls,β,mm.slot hgl (slq C.lz m b) (by show _<M.ln;omega) true m b (C.tn+1),m1,m2⟩,hX.l⟩
  exact ⟨fin.bw brf.drew,(hT.trans (dR T (fun j hj=>by subst hj;exact ⟨cs,_,kb,.inr (.inr (.inl rfl))⟩))).trans (bC brf.drew)⟩)
 have hglw:gl<w.heap.size:=by
  obtain ⟨⟨cs,kb⟩,_⟩:=HGL.o w C M h hgl (by omega);exact kb.lt
 have HTB:=zh (fun (X:qw) (hX:TGx V X)=>show X.cell? (qR w.heap.size 0)=some (.int .i64 m)/\X.cell? (qR w.heap.size 1)=some (.int .i64 b) from ⟨(hX.blk kV (by unfold gkd;decide)).cell 0,(hX.blk kV (by unfold gkd;decide)).cell 1⟩);have HV:=zh hV;have HBV:=zh (bC bV);have e8':=e8;have hs0:(0:Int)<=((slq C.lz m b:Nat):Int):=by omega
 have hsl:slq C.lz m b<M.ln:=by omega
 have ht0:0<=C.tn:=hv.t.1;have hs1:((slq C.lz m b:Nat):Int)<(M.ln:Int):=by omega
 have hn1:¬ gl=w.heap.size:=by omega
 have hn2:¬ w.heap.size=gl:=by omega
 have hn3:¬ G=w.heap.size:=by omega
 have hn4:¬ w.heap.size=G:=by omega
 by_cases c:hld C.lz m b=-1
 .rw [c] at HSW;have HSF:=zh (fun (X:qw) (hX:qY V X)=>rM M.la M.ln M.lc C.lz X (hqs.bw hX));rw [show lst C.lz M.ln=slq C.lz m b by unfold slq;rw [if_pos c,hln]] at HSF;have hms:=(hg.mnd hn4').m;rw [<- e9] at hp;obtain ⟨gm,om,gb,ob,ea,⟨m0,m1⟩,b1,b2,eb,u2,ub,_⟩:=aBe hms hp hb
  have HFI:=zh (fun (X:qw) (hX:qY V X)=>(aKt w1 G g Y C M v13 (slq C.lz m b) ((M.ms.getD m.toNat aK).bl.getD b.toNat zB).1 ((M.ms.getD m.toNat aK).bl.getD b.toNat zB).2.1 ((M.ms.getD m.toNat aK).bl.getD b.toNat zB).2.2.1 (bnk C.ps m b) X (hg.bw hX) (hrV.bw hX) hv.b ⟨c1,c2⟩ s4 s1 s2 s3 (fun {X C' M' vr'} hX' em ep=>by
   have q:=(aBe (hX'.mnd (by rw [ep];exact hn4')).m (m:=m) (b:=b) (by rw [em];exact hp) hb).choose_spec.choose_spec.choose_spec.choose_spec.2.2.2.2.2.2.2;rw [em,e9] at q
   exact q)).mono (fun e w' he=>show e=.returned (.tuple #[])/\∃ oa on oc,Mg w1 w' G Y { C with rz:=ovr C.rz (Y.L.slots.getD (slq C.lz m b) 0-65536).toNat (bkb C.ps C.cw m b) } { M with rz:=ovr C.rz (Y.L.slots.getD (slq C.lz m b) 0-65536).toNat (bkb C.ps C.cw m b),oa:=oa,on:=on,oc:=oc,oz:=C.oz } v13 (.slice (some (qR g 0)) 1 1)/\TGx V w'/\w'.cell? (qR G 0)=some (.slice (some (qR gm om)) M.mn M.mc)/\w'.cell? (qR gm (om+m.toNat*8+2))=some (.slice (some (qR gb ob)) (M.ms.getD m.toNat aK).bn (M.ms.getD m.toNat aK).bc)/\w'.cell? (qR gb (ob+b.toNat))=some (.slice ((M.ms.getD m.toNat aK).bl.getD b.toNat zB).1 ((M.ms.getD m.toNat aK).bl.getD b.toNat zB).2.1 ((M.ms.getD m.toNat aK).bl.getD b.toNat zB).2.2.1) from by
   obtain ⟨he,oa,on,oc,h1,h2⟩:=he;rw [aKs hv hsq (by rw [<- e9];exact hp) hb] at h1;obtain ⟨gm',om',gb',ob',ea',_,_,_,eb',u2',ub',_⟩:=aBe (h1.mnd hn4').m (m:=m) (b:=b) hp hb;have ea'':=ea.symm.trans ea';have eb'':=eb.symm.trans eb';cases ea''
   cases eb''
   exact ⟨he,oa,on,oc,h1,(bC hX).trans h2,by have q:=h1.k.cell 0;rw [q];show some (Value.slice M.ma M.mn M.mc)=_;rw [ea],u2',ub'⟩))
  generalize (M.ms.getD m.toNat aK).bl.getD b.toNat zB=B at *;generalize (M.ms.getD m.toNat aK).bn=dn at *;generalize (M.ms.getD m.toNat aK).bc=dc at *;have HC:=zh (fun (X:qw) (hX:qY V X)=>show X.cell? (qR G 0)=some (.slice (some (qR gm om)) M.mn M.mc)/\X.cell? (qR gm (om+m.toNat*8+2))=some (.slice (some (qR gb ob)) dn dc)/\X.cell? (qR gb (ob+b.toNat))=some (.slice B.1 B.2.1 B.2.2.1) from ⟨by rw [<- ea];exact (hg.bw hX).k.cell 0,aB hX u2,aB hX ub⟩);generalize slq C.lz m b=s at *;rw [hgl] at HSW HSF x12;have hmx:=hms.s.2.1;unfold maxLen at hmx;clear h hr hv hp hg hrV hqs hms e2 e8 e9 e10 hcs hlz hLk hsq s1 s2 s3 s4 s5 s6 ea eb u2 ub c1 c2 c bV kV hV y2;go_enter func129,ntmps129
  go_wp2_with (rw [<- HV.o])
  refine HSW.o.mono ?_;rintro e X1 ⟨rfl,hb1⟩;have HB1:=zh hb1;clear hb1 y0 y1 x12 HV;go_wp2_with fail
  refine (HSF.o X1 HB1.o).mono ?_;rintro e X2 ⟨rfl,hb2⟩;have HB2:=zh (HB1.o.trans (hb2.mono HB1.o.size));obtain ⟨x0,u2,ub⟩:=HC.o X2 HB2.o;obtain ⟨y0,y1⟩:=HTB.o X2 (bC HB2.o);have HF2:=zh (fun (X:qw) (hX:qY X2 X)=>HFI.o X (HB2.o.trans (hX.mono HB2.o.size)));clear hb2 HB1 HSF HC HFI;go_wp2_with fail
  go_region_held3 (fun w'=>w'.cell? (qR G 0)=some (.slice (some (qR gm om)) M.mn M.mc)/\w'.cell? (qR gm (om+m.toNat*8+2))=some (.slice (some (qR gb ob)) dn dc)/\w'.cell? (qR gb (ob+b.toNat))=some (.slice B.1 B.2.1 B.2.2.1)/\w'.cell? (qR w.heap.size 0)=some (.int .i64 m)/\w'.cell? (qR w.heap.size 1)=some (.int .i64 b)) (go_keep)
   (first
     | (go_at_call 178;first
         | with_reducible refine (HF2.o _ brf).mono ?_
         | with_reducible refine (HF2.o _ brf.drew).mono ?_
        rintro e X3 ⟨rfl,oa,on,oc,hE,hT,z0,z2,zb⟩;obtain ⟨t0,t1⟩:=HTB.o X3 hT;have HE:=zh (xA hE hT)
        clear hE hT))
  clear t0 t1 x0 y0 y1 u2 ub z0 z2 zb HF2 HB2;have x14:X3.cell? (qR G 14)=some (.int .i64 C.tn):=by rw [<- e8'];exact HE.o.1.k.cell 14
  have f14:=HE.o.1.k.frozen 14;obtain ⟨X4,hX4⟩:=eqx (X3.setCell ⟨G,14,none⟩ (.int .i64 (C.tn+1)));have hE4:=HEND.o X3 oa on oc HE.o.1;rw [<- hX4] at hE4;have z14:X4.cell? (qR G 14)=some (.int .i64 (C.tn+1)):=hE4.k.cell 14;obtain ⟨_,hgG,⟨v0,l0⟩,⟨v1,l1⟩,⟨v2,l2⟩,⟨v3,l3⟩,lf⟩:=HGL.o X4 _ _ hE4 hgl hsl;have hT4:TGx V X4:=by rw [hX4];exact HE.o.2.trans (dR (aC _ G 14 _) (fun j hj=>by subst hj;exact ⟨_,_,HE.o.1.k,.inr (.inl rfl)⟩))
  obtain ⟨t0,t1⟩:=HTB.o X4 hT4;have hn5:¬ gl=G:=hgG;have hn6:¬ G=gl:=fun e=>hgG e.symm;have HFF:=zh (HSLT.o X4 oa on oc hE4 (HBV.o.trans hT4));have HX4:=zh hX4;clear hE4 hX4 hT4 hgG HE HEND HSLT HGL HTB;go_wp2_with (rw [<- HX4.o])
  clear x14 f14
  go_region_held3 (fun w'=>w'.cell? (qR G 14)=some (.int .i64 (C.tn+1))/\w'.cell? (qR w.heap.size 0)=some (.int .i64 m)/\w'.cell? (qR w.heap.size 1)=some (.int .i64 b)) (go_keep) (fail)
  all_goals
   go_wp2
   go_end0
   exact HFF.o
 .have hnn:((((slq C.lz m b:Nat):Int)) == -1)=false:=by simp
  rw [show hld C.lz m b=((slq C.lz m b:Nat):Int) by unfold slq;rw [if_neg c];have:=fZ C.lz m b;omega] at HSW
  have HZ:=zh (fun (X:qw) (hX:qY V X)=>show Mg w1 X G Y { C with rz:=ovr C.rz (Y.L.slots.getD (slq C.lz m b) 0-65536).toNat (bkb C.ps C.cw m b) } { M with rz:=ovr C.rz (Y.L.slots.getD (slq C.lz m b) 0-65536).toNat (bkb C.ps C.cw m b),oa:=M.oa,on:=M.on,oc:=M.oc,oz:=C.oz } v13 (.slice (some (qR g 0)) 1 1) from by
   have e:M.rz=C.rz/\M.oz=C.oz:=by obtain ⟨_,_,_,_,mm,_⟩:=h.m;exact ⟨mm.vz.2.2.2.1,mm.vz.2.2.2.2.1⟩
   have q:=hg.bw hX;rw [aLn hv.s c s2];rw [show M={ M with rz:=C.rz,oa:=M.oa,on:=M.on,oc:=M.oc,oz:=C.oz } by rw [<- e.1,<- e.2]] at q
   exact q)
  generalize slq C.lz m b=s at *;rw [hgl] at HSW x12;clear h hr hv hp hg hrV hqs e2 e8 e9 e10 hcs hlz hLk hsq s1 s2 s3 s4 s5 s6 c1 c2 c bV kV hV y2;go_enter func129,ntmps129
  go_wp2_with (rw [<- HV.o])
  refine HSW.o.mono ?_;rintro e X3 ⟨rfl,hb1⟩;have HE:=zh (xA (HZ.o X3 hb1) (bC hb1));clear hb1 y0 y1 x12 HV HZ HSW;have x14:X3.cell? (qR G 14)=some (.int .i64 C.tn):=by rw [<- e8'];exact HE.o.1.k.cell 14
  have f14:=HE.o.1.k.frozen 14;obtain ⟨X4,hX4⟩:=eqx (X3.setCell ⟨G,14,none⟩ (.int .i64 (C.tn+1)));have hE4:=HEND.o X3 M.oa M.on M.oc HE.o.1;rw [<- hX4] at hE4;have z14:X4.cell? (qR G 14)=some (.int .i64 (C.tn+1)):=hE4.k.cell 14;obtain ⟨_,hgG,⟨v0,l0⟩,⟨v1,l1⟩,⟨v2,l2⟩,⟨v3,l3⟩,lf⟩:=HGL.o X4 _ _ hE4 hgl hsl;have hT4:TGx V X4:=by rw [hX4];exact HE.o.2.trans (dR (aC _ G 14 _) (fun j hj=>by subst hj;exact ⟨_,_,HE.o.1.k,.inr (.inl rfl)⟩))
  obtain ⟨t0,t1⟩:=HTB.o X4 hT4;have hn5:¬ gl=G:=hgG;have hn6:¬ G=gl:=fun e=>hgG e.symm;have HFF:=zh (HSLT.o X4 M.oa M.on M.oc hE4 (HBV.o.trans hT4));have HX4:=zh hX4;clear hE4 hX4 hT4 hgG HE HEND HSLT HGL HTB;go_wp2_with (rw [<- HX4.o])
  clear x14 f14
  go_region_held3 (fun w'=>w'.cell? (qR G 14)=some (.int .i64 (C.tn+1))/\w'.cell? (qR w.heap.size 0)=some (.int .i64 m)/\w'.cell? (qR w.heap.size 1)=some (.int .i64 b)) (go_keep) (fail)
  all_goals
   go_wp2
   go_end0
   exact HFF.o
section
variable {cf:Array Value}{tc:TypeId}{ct:Array Value}{tt:TypeId}{base:Nat}{R:List Rg}{w W5 W W':qw}{p:qO}{k q:Nat}
end
theorem Blk.tg3 {w:qw}{b:Nat}{t:TypeId}{v0 v1 v2:Value}(h:Blk w b #[v0,v1,v2] t):w.cell? (qR b 0)=some v0/\w.cell? (qR b 1)=some v1/\w.cell? (qR b 2)=some v2:=⟨h.cell 0,h.cell 1,h.cell 2⟩
