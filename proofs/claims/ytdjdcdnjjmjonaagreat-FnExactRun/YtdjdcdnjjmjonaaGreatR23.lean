import Derived.Test.YtdjdcdnjjmjonaaGreatR22
set_option linter.all false
set_option maxHeartbeats 8000000
namespace Go.Proofs.YtdjdcdnjjmjonaaGreat
open Go.RowKit
set_option maxRecDepth 100000
variable {C:Cn}{G i:Nat}{L:Lay}{b m:Int}{cs:Array Value}{e:Ending}{u v:Value}
structure Cv (C:Cn)(L:Lay):Prop where
 k:lkc C.ps C.cs C.cw C.ck C.cd=0
 e:L=lkL C.ps C.cs C.cw C.ck C.cd
 b:mok C.fz.length C.rz.length C.oz.length=true
 r:(C.rz.length:Int)=L.ram
 g:C.kz.length=8
 s:dM C.ps L C.cs C.cw C.tn C.rz C.lz
 n:aBb C.ps C.cs C.md C.bk C.lz
 t:0<=C.tn/\C.tn<=1000000000
theorem aVz (h:Cv C L)(m b i):0<=(bnk C.ps m b).getD i 0/\(bnk C.ps m b).getD i 0<=4294967295:=by
 have v:=(dX.1 h.k).2.2.2.1;unfold bnk;have:∀{l:qi},¬i<l.length->0<=l.getD i 0/\l.getD i 0<=4294967295:=λ{l}c=>by grind
 by_cases a:i<((C.ps.getD m.toNat zP).bl.getD b.toNat []).length
 .by_cases c2:b.toNat<(C.ps.getD m.toNat zP).bl.length
  .by_cases d:m.toNat<C.ps.length
   .exact(aC6$ v _ d).2 _ c2 _ a
   .rw[xB,xO J]at c2;exact absurd c2$ Nat.not_lt_zero _
  .grind
 .grind
def aOv (x):rnd x%32=0:=by unfold rnd;omega
def aLs (ps):∀i,Ra ps i%32=0
 | 0=>rfl
 | i+1=>by
   have:=aLs ps i;have:=aOv$ ((ps.getD i zP).dz.length:Int)+(ps.getD i zP).bss;unfold Ra dsz;omega
theorem aUz {ps:List PMod}{s c k d:Int}(h:lkc ps s c k d=0)(hi:i<(lkL ps s c k d).slots.length):(lkL ps s c k d).slots.getD i 0%4=0:=by
 have e:lkL ps s c k d=lay ps s c k:=by unfold lkL;rw[if_pos h]
 rw[e]at hi⊢;have a:=(dX.1 h).1;unfold cfo at a;simp at a;have f:(lay ps s c k).slots.length=s.toNat:=by simp[lay]
 rw[f]at hi;have e2:(lay ps s c k).slots.getD i 0=slt ps c k i:=by simp[lay,xB,hi]
 rw[e2];unfold slt;have:=aLs ps ps.length
 have:((i:Int)*rnd (4*c))%32=0:=by
  unfold rnd
  grind
 omega
def Cv.cf (h:Cv C L):(1<=C.cw/\C.cw<=64)/\C.ps.length<=4/\(L.slots.length:Int)=C.cs/\C.lz.length=L.slots.length/\Lok C.ps L:=by
 have a:=dX.1 h.k;have hc:=a.1;unfold cfo at hc;simp at hc;have e:lkL C.ps C.cs C.cw C.ck C.cd=lay C.ps C.cs C.cw C.ck:=by unfold lkL;rw[if_pos h.k]
 have d:(L.slots.length:Int)=C.cs:=by rw[h.e,e];simp[lay];omega
 have:=h.s.1;exact⟨J,a.2.2.1,d,J,by rw[h.e,e];exact aI7 h.k⟩
theorem Cv.slot (h:Cv C L)(hi:i<C.lz.length):65536<=L.slots.getD i 0/\(L.slots.getD i 0-65536).toNat+slz C.cw<=C.rz.length/\L.slots.getD i 0%4=0/\i<L.slots.length/\0<C.cs/\L.slots.getD i 0<=100000:=by
 have:=h.cf.2.2.2.1;have:=h.r;have:=h.e;have:=wD h.k (i:=i) (by grind);have:=aUz h.k (i:=i) (by grind)
 grind
theorem aFk {w:qw}{a:qO}{n k:Nat}{ms:List Md}(h:MSD w a n k ms)(l:0<=pcq (aI ms) m b)(q:0<=b):∃gm g d f,a=some (qR gm g)/\(0<=m/\m<(n:Int))/\b<(((ms.getD m.toNat aM).bn:Nat):Int)/\(ms.getD m.toNat aM).bn<=9223372036854775807/\(ms.getD m.toNat aM).ba=some (qR d f)/\w.cell? (qR gm$ g+m.toNat*8+2)=some (.slice (some$ qR d f) (ms.getD m.toNat aM).bn (ms.getD m.toNat aM).bc)/\w.cell? (qR d$ f+b.toNat)=some (.slice ((ms.getD m.toNat aM).bl.getD b.toNat zB).1 ((ms.getD m.toNat aM).bl.getD b.toNat zB).2.1 ((ms.getD m.toNat aM).bl.getD b.toNat zB).2.2.1)/\IS w ((ms.getD m.toNat aM).bl.getD b.toNat zB).1 ((ms.getD m.toNat aM).bl.getD b.toNat zB).2.1 ((ms.getD m.toNat aM).bl.getD b.toNat zB).2.2.1 (bnk (aI ms) m b):=by
 let⟨⟨x,y⟩,s⟩:=pF h l;obtain⟨gm,g,rfl,B,v1,v2,v3,v4,C,E,G⟩:=h.s.at m.toNat J;have hd:=h.d m.toNat J;have:=h.s.1;have j:bnk (aI ms) m b=((ms.getD m.toNat aM).pm.bl).getD b.toNat []:=by unfold bnk;rw[cZ]
 generalize ms.getD m.toNat aM=D at *
 have:b<(D.bn:Int):=by
  unfold pcn at s
  grind
 let⟨t,e,i,p,u⟩:=hd.b;unfold maxLen at e;let⟨d,f,A,hc⟩:=i J;have:=p b.toNat J;have:=hc b.toNat J
 have:bnk (aI ms) m b=(D.bl.getD b.toNat zB).2.2.2:=by
  rw[j];simp[Md.pm,xB,show b.toNat<D.bl.length from J]
 grind
def aQp (h:Cv C L)(hi:i<C.lz.length)(d:0<=pcq C.ps m b)(f:0<=b):cG C.rz (L.slots.getD i 0-65536).toNat (bnk C.ps m b) (slz C.cw/4)=ovr C.rz (L.slots.getD i 0-65536).toNat (bkb C.ps C.cw m b):=by
 let⟨k,l,_,_,j,_⟩:=h.slot hi;let⟨e,c2⟩:=h.cf.1;have a:4*(slz C.cw/4)=slz C.cw:=by have:=(gS e c2).1;unfold rnd at this;omega
 have g:=(aLo h.k j d f).1;rw[aTc _ _ _ _ J J,a];rfl
def BiP (w1 w:qw)(G g:Nat)(Y:Lyb)(C:Cn)(M:Mn)(v13:Value)(m b:Int)(e:Ending)(w':qw):Prop:=e=.returned (.tuple #[])/\∃oa on oc,Mg w1 w' G Y { C with tn:=C.tn+1,lz:=C.lz.set (slq C.lz m b) (true,m,b,C.tn+1),rz:=ovr C.rz (Y.L.slots.getD (slq C.lz m b) 0-65536).toNat (bkb C.ps C.cw m b) } { M with tn:=C.tn+1,lz:=C.lz.set (slq C.lz m b) (true,m,b,C.tn+1),rz:=ovr C.rz (Y.L.slots.getD (slq C.lz m b) 0-65536).toNat$ bkb C.ps C.cw m b,oa:=oa,on:=on,oc:=oc,oz:=C.oz } v13 (.slice (some$ qR g 0) 1 1)/\TGx w w'
def aHv (w1 G g Y C M a0 m b t w)(h:Mg w1 w G Y C M a0 (.slice (some$ qR g 0) 1 1))(hr:Blk w g #[.int .i64 65536,.int .i64 14,.int .i64 0,.bool false,.bool true,.bool false] 231)(O:Cv C Y.L)(hp:0<=pcq C.ps m b)(hb:0<=b)(hl:C.lz.length≠0)(ht:C.tn<1000000000):
 qC 282 #[.pointer$ some$ qR G 0,.agg$ qT m b t] w (BiP w1 w G g Y C M a0 m b):=by
 obtain⟨V,hV,bV,kV⟩:=nwb w (qT m b t) 121;have N:=h.bw bV;have a7:=hr.bw bV;have b4:G<w.heap.size:=h.k.lt;obtain⟨⟨_,e2,_,_,_,_,_,e8⟩,e9,e10⟩:=h.vs;obtain⟨⟨c1,c2⟩,ab,aj,ak,ai⟩:=O.cf;have S:=mO (xs:=C.lz) m b hl;obtain⟨s1,s2,s3,s4,s5,s6⟩:=O.slot S
 have I:QS cO zSl V M.la M.ln M.lc C.lz:=by
  obtain⟨a4,aN,Ls,β,mm,_⟩:=N.m;exact uC cH mm.l
 have ar:C.lz.length=M.ln:=I.1
 obtain⟨gl,a3⟩:∃gl,M.la=some ⟨gl,0,none⟩:=by
  obtain⟨a4,aN,Ls,β,mm,_⟩:=N.m;obtain⟨g',cp,e,_⟩:=World.ownsRow.form mm.l J;simp only[Value.slice.injEq]at e;exact⟨g',e.1⟩
 have f:=zh$ lH M.la M.ln M.lc C.lz m b V I;have Q:V.cell? (qR G 12)=some (.slice M.la M.ln M.lc):=N.k.cell 12;obtain⟨y0,y1,y2,_⟩:=kV.three
 have y:=zh (λ(X:qw)(oa:qO)(on oc:Nat)(a:Mg w1 X G Y { C with rz:=ovr C.rz (Y.L.slots.getD (slq C.lz m b) 0-65536).toNat (bkb C.ps C.cw m b) } { M with rz:=ovr C.rz (Y.L.slots.getD (slq C.lz m b) 0-65536).toNat$ bkb C.ps C.cw m b,oa:=oa,on:=on,oc:=oc,oz:=C.oz } a0 (.slice (some$ qR g 0) 1 1))=>show Mg w1 (X.setCell (qR G 14)$ .int .i64$ C.tn+1) G Y { C with rz:=ovr C.rz (Y.L.slots.getD (slq C.lz m b) 0-65536).toNat$ bkb C.ps C.cw m b,tn:=C.tn+1 } { M with rz:=ovr C.rz (Y.L.slots.getD (slq C.lz m b) 0-65536).toNat$ bkb C.ps C.cw m b,oa:=oa,on:=on,oc:=oc,oz:=C.oz,tn:=C.tn+1 } a0 (.slice (some$ qR g 0) 1 1)from
  a.put 14 (.int .i64$ C.tn+1) rfl (λx=>by have:=x.scal M.pc M.md M.bk$ C.tn+1;exact⟨this.m,this.e,this.k,this.q,this.l,this.h,this.bm,this.bh,⟨x.vs.1,x.vs.2.1,x.vs.2.2.1,x.vs.2.2.2.1,x.vs.2.2.2.2.1,x.vs.2.2.2.2.2.1,x.vs.2.2.2.2.2.2.1,rfl⟩,this.vz⟩))
 have H:=zh (λ(X:qw)(C':Cn)(M':Mn)(a:Mg w1 X G Y C' M' a0 (.slice (some$ qR g 0) 1 1))(e:M'.la=some (qR gl 0))(e':slq C.lz m b<M'.ln)=>show(∃cs,Blk X gl cs 132)/\gl≠G/\(∃u,X.cell? (qR gl$ slq C.lz m b*4)=some u)/\(∃u,X.cell? (qR gl$ slq C.lz m b*4+1)=some u)/\(∃u,X.cell? (qR gl$ slq C.lz m b*4+2)=some u)/\(∃u,X.cell? (qR gl$ slq C.lz m b*4+3)=some u)/\∀i,X.frozen? (qR gl i)=false by
  obtain⟨a4,aN,Ls,β,mm,_⟩:=a.m;have ml:=mm.l;rw[e]at ml;obtain⟨cs,kb⟩:=aE ml (k:=gl) rfl;obtain⟨gg,q,hq⟩:=sN cH zSl ml (slq C.lz m b) e';cases q
  exact⟨⟨cs,kb⟩,λq=>by subst q;exact absurd (aH kb a.k) Ja,⟨_,hq 0 J _ rfl⟩,⟨_,hq 1 J _ rfl⟩,⟨_,hq 2 J _ rfl⟩,⟨_,hq 3 J _ rfl⟩,λi=>kb.frozen i⟩)
 have p:=zh (λ(X:qw)(oa:qO)(on oc:Nat)(a:Mg w1 X G Y { C with rz:=ovr C.rz (Y.L.slots.getD (slq C.lz m b) 0-65536).toNat$ bkb C.ps C.cw m b,tn:=C.tn+1 } { M with rz:=ovr C.rz (Y.L.slots.getD (slq C.lz m b) 0-65536).toNat$ bkb C.ps C.cw m b,oa:=oa,on:=on,oc:=oc,oz:=C.oz,tn:=C.tn+1 } a0 (.slice (some$ qR g 0) 1 1))(hT:TGx w X)=>show BiP w1 w G g Y C M a0 m b (.returned$ .tuple #[]) ((((X.setCell (qR gl$ slq C.lz m b*4)$ .bool true).setCell (qR gl$ slq C.lz m b*4+1)$ .int .i64 m).setCell (qR gl$ slq C.lz m b*4+2)$ .int .i64 b).setCell (qR gl$ slq C.lz m b*4+3)$ .int .i64$ C.tn+1).drew by
  refine⟨rfl,oa,on,oc,?_⟩;obtain⟨a4,aN,Ls,β,mm,m1,m2⟩:=a.m;have ml:=mm.l;have ac:OG 132 4 cO X aN (.slice (some$ qR gl 0) M.ln M.lc) C.lz:=by rw[<-a3];exact ml
  obtain⟨cs,kb⟩:=aE ac (k:=gl) rfl;have T:=(((aD X gl (slq C.lz m b*4)$ .bool true).trans$ aD _ gl (slq C.lz m b*4+1)$ .int .i64 m).trans$ aD _ gl (slq C.lz m b*4+2)$ .int .i64 b).trans$ aD _ gl (slq C.lz m b*4+3)$ .int .i64$ C.tn+1;have lo:=(ac.lt gl rfl).1;have fin:Mg w1 ((((X.setCell (qR gl$ slq C.lz m b*4)$ .bool true).setCell (qR gl$ slq C.lz m b*4+1)$ .int .i64 m).setCell (qR gl$ slq C.lz m b*4+2)$ .int .i64 b).setCell (qR gl$ slq C.lz m b*4+3)$ .int .i64$ C.tn+1) G Y { C with tn:=C.tn+1,lz:=C.lz.set (slq C.lz m b) (true,m,b,C.tn+1),rz:=ovr C.rz (Y.L.slots.getD (slq C.lz m b) 0-65536).toNat (bkb C.ps C.cw m b) } { M with tn:=C.tn+1,lz:=C.lz.set (slq C.lz m b) (true,m,b,C.tn+1),rz:=ovr C.rz (Y.L.slots.getD (slq C.lz m b) 0-65536).toNat$ bkb C.ps C.cw m b,oa:=oa,on:=on,oc:=oc,oz:=C.oz } a0 (.slice (some$ qR g 0) 1 1):=⟨aF a.b T (λj hj=>jK mm.bm) a.b.size,a.g,aC T a.k (λe=>by have:=aH (by rw[e]at a;exact a.k) kb;revert this;decide),⟨a4,aN,Ls,β,mm.slot a3 (slq C.lz m b) (by show _<M.ln;omega) true m b$ C.tn+1,m1,m2⟩,a.l⟩
  exact⟨fin.bw brf.drew,(hT.trans (fI T (λj hj=>by subst hj;exact⟨cs,_,kb,.inr$ .inr$ .inl rfl⟩))).trans$ bN brf.drew⟩)
 have b0:gl<w.heap.size:=by
  obtain⟨⟨cs,kb⟩,_⟩:=H w C M h a3 J;exact kb.lt
 have D:=zh λ(X:qw)(a:TGx V X)=>show X.cell? (qh w 0)=some (.int .i64 m)/\X.cell? (qh w 1)=some (.int .i64 b)from⟨(a.blk kV Jg).cell 0,(a.blk kV Jg).cell 1⟩;have HV:=zh hV;have ae:=zh$ bN bV;have ag:=e8;have b9:(0:Int)<=((slq C.lz m b:Nat):Int):=J
 have ad:slq C.lz m b<M.ln:=J
 have b2:0<=C.tn:=O.t.1;have b5:((slq C.lz m b:Nat):Int)<(M.ln:Int):=J
 have b1:¬gl=w.heap.size:=J
 have b6:¬w.heap.size=gl:=J
 have b8:¬G=w.heap.size:=J
 have b7:¬w.heap.size=G:=J
 by_cases c:hld C.lz m b=-1
 .rw[c]at f;have K:=zb V λX a=>wF M.la M.ln M.lc C.lz X$ I.bw a;rw[show lst C.lz M.ln=slq C.lz m b by unfold slq;rw[if_pos c,ar]]at K;have a5:=(N.mnd ab).m;rw[<-e9]at hp;obtain⟨gm,om,gb,ob,ea,⟨m0,m1⟩,ba,bb,eb,u2,ub,_⟩:=aFk a5 hp hb
  have ah:=zh (λ(X:qw)(a:qY V X)=>(aQq w1 G g Y C M a0 (slq C.lz m b) ((M.ms.getD m.toNat aM).bl.getD b.toNat zB).1 ((M.ms.getD m.toNat aM).bl.getD b.toNat zB).2.1 ((M.ms.getD m.toNat aM).bl.getD b.toNat zB).2.2.1 (bnk C.ps m b) X (N.bw a) (a7.bw a) O.b ⟨c1,c2⟩ s4 s1 s2 s3 (aVz O m b) (λ{X C' M' bg}au em ep=>by
   have q:=(aFk (au.mnd (by rw[ep];exact ab)).m (m:=m) (b:=b) (by rw[em];exact hp) hb).choose_spec.choose_spec.choose_spec.choose_spec.2.2.2.2.2.2.2;rw[em,e9]at q
   exact q)).mono (λe w' he=>show e=.returned (.tuple #[])/\∃oa on oc,Mg w1 w' G Y { C with rz:=ovr C.rz (Y.L.slots.getD (slq C.lz m b) 0-65536).toNat (bkb C.ps C.cw m b) } { M with rz:=ovr C.rz (Y.L.slots.getD (slq C.lz m b) 0-65536).toNat$ bkb C.ps C.cw m b,oa:=oa,on:=on,oc:=oc,oz:=C.oz } a0 (.slice (some$ qR g 0) 1 1)/\TGx V w'/\w'.cell? (qR G 0)=some (.slice (some$ qR gm om) M.mn M.mc)/\w'.cell? (qR gm$ om+m.toNat*8+2)=some (.slice (some$ qR gb ob) (M.ms.getD m.toNat aM).bn (M.ms.getD m.toNat aM).bc)/\w'.cell? (qR gb$ ob+b.toNat)=some (.slice ((M.ms.getD m.toNat aM).bl.getD b.toNat zB).1 ((M.ms.getD m.toNat aM).bl.getD b.toNat zB).2.1 ((M.ms.getD m.toNat aM).bl.getD b.toNat zB).2.2.1)by
   obtain⟨he,oa,on,oc,h1,h2⟩:=he;rw[aQp O S (by rw[<-e9];exact hp) hb]at h1;obtain⟨bd,bf,bc,be,aw,_,_,_,ax,ay,az,_⟩:=aFk (h1.mnd ab).m (m:=m) (b:=b) hp hb;have am:=ea.symm.trans aw;have an:=eb.symm.trans ax;cases am
   cases an
   exact⟨he,oa,on,oc,h1,(bN a).trans h2,by have q:=h1.k.cell 0;rw[q];show some (Value.slice M.ma M.mn M.mc)=_;rw[ea],ay,az⟩))
  generalize (M.ms.getD m.toNat aM).bl.getD b.toNat zB=B at *;generalize (M.ms.getD m.toNat aM).bn=dn at *;generalize (M.ms.getD m.toNat aM).bc=dc at *;have HC:=zb V λX a=>show X.cell? (qR G 0)=some (.slice (some$ qR gm om) M.mn M.mc)/\X.cell? (qR gm$ om+m.toNat*8+2)=some (.slice (some$ qR gb ob) dn dc)/\X.cell? (qR gb$ ob+b.toNat)=some (.slice B.1 B.2.1 B.2.2.1)from⟨by rw[<-ea];exact(N.bw a).k.cell 0,aB a u2,aB a ub⟩;generalize slq C.lz m b=s at *;rw[a3]at f K Q;have ap:=a5.s.2.1;unfold maxLen at ap;clear h hr O hp N a7 I a5 e2 e8 e9 e10 aj ak ai S s1 s2 s3 s4 s5 s6 ea eb u2 ub c1 c2 c bV kV hV y2
  delta qC;go_in
  go_wp2_with (rw[<-HV.o])
  apply f.mono;rintro e X1 ⟨rfl,A⟩;have W:=zh A;clear A y0 y1 Q HV;go_wp2_with fail
  apply(K X1 W).mono;rintro e X2 ⟨rfl,af⟩;have U:=zh$ yT W af;obtain⟨x0,u2,ub⟩:=HC X2 U;obtain⟨y0,y1⟩:=D X2$ bN U;have Z:=zb X2 λX a=>ah X$ yT U a;clear af W K HC ah;go_wp2_with fail
  go_region_held3 (λw'=>w'.cell? (qR G 0)=some (.slice (some$ qR gm om) M.mn M.mc)/\w'.cell? (qR gm$ om+m.toNat*8+2)=some (.slice (some$ qR gb ob) dn dc)/\w'.cell? (qR gb$ ob+b.toNat)=some (.slice B.1 B.2.1 B.2.2.1)/\w'.cell? (qh w 0)=some (.int .i64 m)/\w'.cell? (qh w 1)=some (.int .i64 b)) (go_keep)
   (first
     | (go_at_call 304;first
         | with_reducible refine(Z.o _ brf).mono ?_
         | with_reducible refine(Z.o _ brf.drew).mono ?_
        rintro e P ⟨rfl,oa,on,oc,hE,hT,z0,z2,zb⟩;obtain⟨t0,t1⟩:=D P hT;have E:=zh$ xA hE hT
        clear hE hT))
  clear t0 t1 x0 y0 y1 u2 ub z0 z2 zb Z U;have aa:P.cell? (qR G 14)=some (.int .i64 C.tn):=by rw[<-ag];exact E.o.1.k.cell 14
  have a6:=E.1.k.frozen 14;obtain⟨X4,a1⟩:=aO$ P.setCell ⟨G,14,none⟩$ .int .i64$ C.tn+1;have d:=y P oa on oc E.1;rw[<-a1]at d;have av:X4.cell? (qR G 14)=some (.int .i64$ C.tn+1):=d.k.cell 14;obtain⟨_,a2,⟨v0,l0⟩,⟨v1,l1⟩,⟨v2,l2⟩,⟨v3,l3⟩,lf⟩:=H X4 _ _ d a3 ad;have l:TGx V X4:=by rw[a1];exact E.o.2.trans (fI (aD _ G 14 _) (λj hj=>by subst hj;exact⟨_,_,E.o.1.k,.inr$ .inl rfl⟩))
  obtain⟨t0,t1⟩:=D X4 l;have ao:¬gl=G:=a2;have aq:¬G=gl:=λe=>a2 e.symm;have a8:=zh$ p X4 oa on oc d$ ae.trans l;have a9:=zh a1;clear d a1 l a2 E y p H D;go_wp2_with (rw[<-a9.o])
  clear aa a6
  go_region_held3 (λw'=>w'.cell? (qR G 14)=some (.int .i64$ C.tn+1)/\w'.cell? (qh w 0)=some (.int .i64 m)/\w'.cell? (qh w 1)=some (.int .i64 b)) (go_keep) (fail)
  all_goals
   go_wp2
   go_end0
   exact a8
 .have b3:((((slq C.lz m b:Nat):Int)) == -1)=false:=Jb
  rw[show hld C.lz m b=((slq C.lz m b:Nat):Int)by unfold slq;rw[if_neg c];have:=lA C.lz m b;omega]at f
  have HZ:=zh (λ(X:qw)(a:qY V X)=>show Mg w1 X G Y { C with rz:=ovr C.rz (Y.L.slots.getD (slq C.lz m b) 0-65536).toNat (bkb C.ps C.cw m b) } { M with rz:=ovr C.rz (Y.L.slots.getD (slq C.lz m b) 0-65536).toNat$ bkb C.ps C.cw m b,oa:=M.oa,on:=M.on,oc:=M.oc,oz:=C.oz } a0 (.slice (some$ qR g 0) 1 1)by
   have e:M.rz=C.rz/\M.oz=C.oz:=by obtain⟨_,_,_,_,mm,_⟩:=h.m;exact⟨mm.vz.2.2.2.1,mm.vz.2.2.2.2.1⟩
   have q:=N.bw a;rw[aRl O.s c s2];rw[show M={ M with rz:=C.rz,oa:=M.oa,on:=M.on,oc:=M.oc,oz:=C.oz } by rw[<-e.1,<-e.2]]at q
   exact q)
  generalize slq C.lz m b=s at *;rw[a3]at f Q;clear h hr O hp N a7 I e2 e8 e9 e10 aj ak ai S s1 s2 s3 s4 s5 s6 c1 c2 c bV kV hV y2
  delta qC;go_in
  go_wp2_with (rw[<-HV.o])
  apply f.mono;rintro e P ⟨rfl,A⟩;have E:=zh$ xA (HZ P A)$ bN A;clear A y0 y1 Q HV HZ f;have aa:P.cell? (qR G 14)=some (.int .i64 C.tn):=by rw[<-ag];exact E.o.1.k.cell 14
  have a6:=E.1.k.frozen 14;obtain⟨X4,a1⟩:=aO$ P.setCell ⟨G,14,none⟩$ .int .i64$ C.tn+1;have d:=y P M.oa M.on M.oc E.1;rw[<-a1]at d;have av:X4.cell? (qR G 14)=some (.int .i64$ C.tn+1):=d.k.cell 14;obtain⟨_,a2,⟨v0,l0⟩,⟨v1,l1⟩,⟨v2,l2⟩,⟨v3,l3⟩,lf⟩:=H X4 _ _ d a3 ad;have l:TGx V X4:=by rw[a1];exact E.o.2.trans (fI (aD _ G 14 _) (λj hj=>by subst hj;exact⟨_,_,E.o.1.k,.inr$ .inl rfl⟩))
  obtain⟨t0,t1⟩:=D X4 l;have ao:¬gl=G:=a2;have aq:¬G=gl:=λe=>a2 e.symm;have a8:=zh$ p X4 M.oa M.on M.oc d$ ae.trans l;have a9:=zh a1;clear d a1 l a2 E y p H D;go_wp2_with (rw[<-a9.o])
  clear aa a6
  go_region_held3 (λw'=>w'.cell? (qR G 14)=some (.int .i64$ C.tn+1)/\w'.cell? (qh w 0)=some (.int .i64 m)/\w'.cell? (qh w 1)=some (.int .i64 b)) (go_keep) (fail)
  all_goals
   go_wp2
   go_end0
   exact a8
def aGg (op d a i v g pc rg s1 s2 s3 b w)(h:Pr w g pc rg s1 s2 s3 b)(H:0<=d)(M:d<=7)(v0:0<=v)(v1:v<=4294967295):
 qC 206 #[.pointer$ qP g,.agg$ qW op d a i,.int .u32 v] w λe w'=>e=.returned (.agg #[qI 0,qI 0])/\Pr w' g ((pc+4)%4294967296) (rg.set d.toNat v) s1 s2 s3 b/\Turn (λj=>j=g) w w':=by
 have q:qY w ((w.alloc$ .cells (qW op d a i) 186).alloc$ .cells #[qI 0,qI 0] 80):=bal.alloc Jb _;have s:=h.bw q;have:=h.blk.lt;have:=s.reg d.toNat J;have:=s.blk.frozen;have l:=h.setreg d.toNat J v ⟨v0,v1⟩;have x:=zh λw h=>kS g pc (rg.set d.toNat v) s1 s2 s3 b w h
 delta qC;go_in
 go_wp2
 go_region
 have f:=l.bw$ (brf.alloc aQ$ .cells (qW op d a i) 186).alloc Jb$ .cells #[qI 0,qI 0] 80;go_wp2_with fail
 refine(x _ ?_).mono ?_;exact⟨f.blk,f.len,f.pcw,f.rgw⟩;rintro e K ⟨rfl,rfl⟩;have:(((w.setCell (qR g$ 1+d.toNat)$ .int .u32 v).alloc$ .cells (qW op d a i) 186).alloc$ .cells #[qI 0,qI 0] 80).cell? (qR g 0)=some (.int .u32 pc):=f.pc;have:=l.pc;have:=l.blk.frozen;let⟨u,hu⟩:=aO$ (pc+4)%4294967296;have B:0<=u/\u<=4294967295:=J
 rw[<-hu];have D:=zh hu;have p:=zh$ (l.setpc u B).bw$ (brf.alloc aQ$ .cells (qW op d a i) 186).alloc Jb$ .cells #[qI 0,qI 0] 80;have k:=zh$ (((aK w g (1+d.toNat)$ .int .u32 v).trans$ aK _ g 0$ .int .u32 u).trans$ cK _$ .cells (qW op d a i) 186).trans$ cK _$ .cells #[qI 0,qI 0] 80;clear hu;go_wp2;refine bodyPost_ret (v:=.agg #[qI 0,qI 0]) (by simp[results,Tryz.results206,go_sem]) rfl ⟨rfl,?_,⟨k.o.os,k.o.tape,k.o.output,k.o.size,k.o.block⟩⟩;rw[<-D.o];exact⟨p.blk,p.len,p.pcw,p.rgw⟩
structure Cy where
 n1:Nat
 n2:Nat
 n3:Nat
 x1:qi
 x2:qi
 x3:qi
 rn:Nat
 rs:List Rg
structure Mz extends Cy where
 g:Nat
 b:Nat
 a1:qO
 a2:qO
 a3:qO
 ra:qO
 c1:Nat
 c2:Nat
 c3:Nat
 rc:Nat
abbrev Mz.v1 (M:Mz):Value:=qS M.a1 M.n1 M.c1
abbrev Mz.v2 (M:Mz):Value:=qS M.a2 M.n2 M.c2
abbrev Mz.v3 (M:Mz):Value:=qS M.a3 M.n3 M.c3
abbrev Mz.v4 (M:Mz):Value:=qS M.ra M.rn M.rc
abbrev Mz.st (M:Mz)(a3:qO)(n3 c3:Nat)(x1 x2 x3:qi):Mz:={ M with a3:=a3,n3:=n3,c3:=c3,x1:=x1,x2:=x2,x3:=x3 }
abbrev Px (w:qw)(M:Mz)(pc:Int)(rg:qi):Prop:=Pr w M.g pc rg M.v1 M.v2 M.v3 M.v4
structure Pz (w:qw)(M:Mz)(pc:Int)(rg:qi):Prop where
 p:Px w M pc rg
 o:cB w M.b M.v1 M.v2 M.v3 M.x1 M.x2 M.x3
 f:∀v,v=M.v1\/v=M.v2\/v=M.v3->v.ownBlock≠some M.g
 b:M.b<=w.heap.size
abbrev Uz (M:Mz)(j:Nat):Prop:=j=M.g\/M.v2.ownBlock=some j\/M.v3.ownBlock=some j
variable {w W X:qw}{M:Mz}{pc pc':Int}{rg rg':qi}
def Pz.bw (h:Pz w M pc rg)(a:qY w W):Pz W M pc rg:=⟨h.p.bw a,aY h.o a,h.f,xM h.b a.size⟩
def Pz.turn (h:Pz w M pc rg)(a:Turn (λj=>j=M.g) w W)(f:Px W M pc' rg'):Pz W M pc' rg':=
 have k:∀v,v=M.v1\/v=M.v2\/v=M.v3->∀k,v.ownBlock=some k->¬k=M.g:=λv g k d e=>h.f v g$ e ▸ d
 ⟨f,⟨aP a h.o.1$ k _$ .inl rfl,aP a h.o.2.1$ k _$ .inr$ .inl rfl,aP a h.o.2.2.1$ k _$ .inr$ .inr rfl,h.o.2.2.2⟩,h.f,xM h.b a.size⟩
theorem rB {W:qw}{base:Nat}{d:qi}{t:TypeId}(h:OB W base v d)(f:Blk W G cs t)(j:t≠5):v.ownBlock≠some G:=by
 obtain⟨q,⟨b,_⟩|⟨g,i,k,rfl,l,p,_⟩⟩:=h.1
 .rw[b];intro e;cases e
 .intro e;have a:some g=some G:=e;injection a with a
  subst a;unfold Blk at f
  grind
def Pz.box {t:TypeId}(h:Pz W M pc rg)(l:Blk W G cs t)(g:t≠5)(f:G≠M.g)(a:Turn (λj=>j=G) W X):Pz X M pc rg:=
 have k:∀{v zs},OB W M.b v zs->OB X M.b v zs:=λh=>aP a h λk d e=>rB h l g (by rw[d];exact congrArg some e)
 ⟨⟨aC a h.p.blk λe=>f e.symm,h.p.len,h.p.pcw,h.p.rgw⟩,⟨k h.o.1,k h.o.2.1,k h.o.2.2.1,h.o.2.2.2⟩,h.f,xM h.b a.size⟩
structure Res where
 did:Int
 num:Int
 pc:Int
 rg:qi
 x1:qi
 x2:qi
 x3:qi
def OpP (w:qw)(M:Mz)(r:Res)(e:Ending)(W:qw):Prop:=
 ∃a3 n3 c3,e=.returned (.agg #[qI r.did,qI r.num])/\Pz W (M.st a3 n3 c3 r.x1 r.x2 r.x3) r.pc r.rg/\Turn (Uz M) w W
abbrev evs (W:qw)(G:Nat)(i j:Int):qw:=(W.setCell (qR G 0) (qI i)).setCell (qR G 1) (qI j)
theorem pG {a3:qO}{n3 c3:Nat}{x1 x2 x3:qi}(p:M.g<w.heap.size)(h:Pz W (M.st a3 n3 c3 x1 x2 x3) pc rg)(d:Blk W G #[u,v] 80)(a:Turn (Uz M) w W)(l:w.heap.size<=G)(i j):
 Zh (OpP w M ⟨i,j,pc,rg,x1,x2,x3⟩ (.returned$ .agg #[qI i,qI j])$ evs W G i j)/\(evs W G i j).cell? (qR G 0)=some (qI i)/\(evs W G i j).cell? (qR G 1)=some (qI j):=by
 have f:=(aK W G 0$ qI i).trans$ aK _ G 1$ qI j;have g:=(d.set 0$ qI i).set 1$ qI j;refine⟨⟨a3,n3,c3,rfl,h.box d Ja (by grind) f,⟨a.os,a.tape,a.output,xM a.size f.size,λk d b=>(f.block k (jK a.size) (λe=>by grind)).trans$ a.block k d b⟩⟩,?_,?_⟩
 .rw[g.cell];rfl
 .rw[g.cell];rfl
def Pz.drew (h:Pz w M pc rg):Pz w.drew M pc rg:=⟨⟨h.p.blk,h.p.len,h.p.pcw,h.p.rgw⟩,h.o,h.f,h.b⟩
def Pz.kp (h:Pz X M pc rg)(T:Turn (Uz M) X W){t:TypeId}(k:Blk X G cs t)(a:t≠5)(d:G≠M.g):Blk W G cs t:=
 aC T k (by rintro(e|e|e);exact d e;exact rB h.o.2.1 k a e;exact rB h.o.2.2.1 k a e)
def gZ {r:Res}(h:Pz X M pc rg)(f:qY w X)(d:M.g<w.heap.size)(g:Blk X G #[u,v] 80)(a:w.heap.size<=G)(q:OpP X M r e W):
 e=.returned (.agg #[qI r.did,qI r.num])/\Turn (Uz M) X W/\Zh (OpP w M r e$ evs W G r.did r.num)/\(evs W G r.did r.num).cell? (qR G 0)=some (qI r.did)/\(evs W G r.did r.num).cell? (qR G 1)=some (qI r.num):=by
 obtain⟨k,p,l,rfl,H,T⟩:=q;let⟨b,i,j⟩:=pG d H (h.kp T g Ja J) ((aG f).trans T) a r.did r.num;exact⟨rfl,T,b,i,j⟩
theorem wI (n1 n2 n3 x1 x2 p s)(d:∀z∈x1,0<=z/\z<=255)(g:∀z∈x2,0<=z/\z<=255):0<=(rd n1 n2 n3 x1 x2 p s).1/\(rd n1 n2 n3 x1 x2 p s).1<=4294967295:=by
 unfold rd;split
 .next f=>
  have:s.toNat<=4:=by rcases eD f.2 with rfl|rfl|rfl<;>decide
  have k:∀{l:qi}(n:Nat),(∀z∈l,0<=z/\z<=255)->_:=λ{l}n h=>nW ((l.drop n).take s.toNat) (λz a=>h z$ List.mem_of_mem_drop$ List.mem_of_mem_take a) (by grind)
  repeat' split
  all_goals first|exact k _ d|exact k _ g|simp
 .simp
theorem Pr.mem {w:qw}{g:Nat}{pc:Int}{rg:qi}{s1 s2 s3 s4:Value}(h:Pr w g pc rg s1 s2 s3 s4):w.cell? (qR g 9)=some s1/\w.cell? (qR g 10)=some s2/\w.cell? (qR g 11)=some s3/\w.cell? (qR g 12)=some s4:=by
 have a:=h.len;refine⟨?_,?_,?_,?_⟩<;>rw[h.blk.cell,Array.getElem?_append_right (by grind)]<;>simp[a]
abbrev Cy.rd (C:Cy)(p s:Int):Int×Int:=Go.Proofs.YtdjdcdnjjmjonaaGreat.rd C.n1 C.n2 C.n3 C.x1 C.x2 p s
abbrev Cy.al (C:Cy)(p s k:Int):Bool:=alw C.rs C.rn p s k
abbrev Cy.wr (C:Cy)(p s v:Int):qi×qi×qi×Int:=wrm C.n1 C.n2 C.n3 C.x1 C.x2 C.x3 p s v
abbrev m32 (x:Int):Int:=x%4294967296
abbrev Cy.go (C:Cy)(did num pc:Int)(rg:qi):Res:=⟨did,num,pc,rg,C.x1,C.x2,C.x3⟩
def atz (rg:qi)(a i:Int):Int:=m32$ rg.getD a.toNat 0+eA i
def ldz (C:Cy)(pc:Int)(rg:qi)(d a i s:Int):Res:=
 if C.al (atz rg a i) s 1=true then if (C.rd (atz rg a i) s).2=0 then C.go 0 0 (m32$ pc+4) (rg.set d.toNat (C.rd (atz rg a i) s).1) else C.go 5 (C.rd (atz rg a i) s).2 pc rg
 else C.go 5 5 pc rg
def stz (C:Cy)(pc:Int)(rg:qi)(d a i s:Int):Res:=
 if C.al (atz rg a i) s 2=true then
  let q:=C.wr (atz rg a i) s$ rg.getD d.toNat 0
  if q.2.2.2=0 then ⟨0,0,m32$ pc+4,rg,q.1,q.2.1,q.2.2.1⟩ else ⟨5,q.2.2.2,pc,rg,q.1,q.2.1,q.2.2.1⟩
 else C.go 5 5 pc rg
variable {w W X:qw}{M:Mz}{pc pc':Int}{rg rg':qi}
def opT {i j:Int}(h:Pz w M pc rg)(q:e=.returned (.agg #[qI i,qI j])/\Px W M pc' rg'/\Turn (λj=>j=M.g) w W):OpP w M (M.go i j pc' rg') e W:=
 ⟨M.a3,M.n3,M.c3,q.1,h.turn q.2.2 q.2.1,q.2.2.mono λ_=>.inl⟩
def aV7 (op d a i s w)(h:Pz w M pc rg)(k:RS w M.ra M.rn M.rc M.rs)(d0:0<=d)(d1:d<=7)(a0:0<=a)(a7:a<=7)(i0:0<=i)(i1:i<=65535):
 qC 222 #[.pointer$ qP M.g,.agg$ qW op d a i,qI s] w (OpP w M$ ldz M.toCy pc rg d a i s):=by
 have l:qY w ((w.alloc$ .cells (qW op d a i) 186).alloc$ .cells #[qI 0,qI 0] 80):=bal.alloc Jb _;have kb:=(Blk.new w (qW op d a i) 186).alloc$ .cells #[qI 0,qI 0] 80;have O:=Blk.new (w.alloc$ .cells (qW op d a i) 186) #[qI 0,qI 0] 80;simp only[xF]at O;have N:=h.bw l;have V:=k.bw l;have p:=h.p.blk.lt;have Y:=zh λw h=>sL op d a i M.g pc rg M.v1 M.v2 M.v3 M.v4 w h a0 a7 i0 i1;have hv:=wI M.n1 M.n2 M.n3 M.x1 M.x2 (atz rg a i) s h.o.1.2 h.o.2.1.2;let⟨r,G⟩:=aO$ ldz M.toCy pc rg d a i s;rw[<-G];unfold ldz Cy.al Cy.rd at G;rw[show(rg.getD a.toNat 0+eA i)%4294967296=atz rg a i from rfl]at Y;have Z:0<=atz rg a i/\atz rg a i<=4294967295:=by unfold atz m32;omega
 generalize atz rg a i=z at *;have X:=zh λw h=>iH M.ra M.rn M.rc M.rs z s 1 w h ⟨J,J⟩;have HR:=zh λw h1 h2=>iRd M.a1 M.a2 M.a3 M.n1 M.c1 M.n2 M.c2 M.n3 M.c3 M.x1 M.x2 z s w h1 h2 Z.1 Z.2;generalize alw M.rs M.rn z s 1=A at *;generalize rd M.n1 M.n2 M.n3 M.x1 M.x2 z s=R at *;obtain⟨v,f⟩:=R;have y:=zh G;clear G k;obtain⟨v0,v1⟩:=hv;have HP:=zh λw(h:Pz w M pc rg)=>(aGg op d a i v M.g pc rg M.v1 M.v2 M.v3 M.v4 w h.p d0 d1 v0 v1).mono λe W q=>opT h q
 delta qC;go_in
 go_wp2_with fail
 apply(Y _ N.p).mono;rintro e w1 ⟨rfl,D⟩;have Q:=N.bw D;have P:=Q.p.mem;go_wp2_with fail
 apply(X _$ V.bw D).mono;rintro e w2 ⟨rfl,I⟩;have t:=Q.bw I;have K:=l.trans$ (yT D I).mono Jc;have B:=(kb.bw D).bw I;have j:=(O.bw D).bw I;clear P Q N kb O l V D I;have P:=t.p.mem;have e1:=j.two';cases A
 .have k:=y.o;rw[if_neg Jb]at k;subst k;let⟨b,u,C⟩:=pG p t j (aG K) J 5 5;clear t j B K;go_wp2;exact bodyPost_ret (v:=.agg #[qI 5,qI 5]) (by simp[results,Tryz.results222,go_sem,u,C]) rfl b.o
 .go_wp2_with fail
  apply(HR _ t.o.1.bs t.o.2.1.bs).mono;rintro e w3 ⟨rfl,H⟩;have E:=t.bw H;have x:=B.bw H;have g:=j.bw H;have U:=yT K H;clear H P e1 t B j K;have e1:=g.two';have q1:=x.four';by_cases S:f=0
  .subst S;have k:=y.o;simp only[reduceIte]at k;subst k;go_wp2_with fail
   apply(HP _ E).mono;intro e w4 q;obtain⟨rfl,t4,b,u,C⟩:=gZ E U p g J q;have k4:=E.kp t4 g Ja J;clear q1 e1 E x q g;have e1:=k4.two';go_wp2;exact bodyPost_ret (v:=.agg #[qI 0,qI 0]) (by simp[results,Tryz.results222,go_sem,u,C]) rfl b.o
  .have a1:(f !=0)=true:=by simpa using S
   have k:=y.o;simp only[reduceIte,S]at k;subst k;let⟨b,u,C⟩:=pG p E g (aG U) J 5 f;clear E g x;go_wp2;exact bodyPost_ret (v:=.agg #[qI 5,qI f]) (by simp[results,Tryz.results222,go_sem,u,C]) rfl b.o
