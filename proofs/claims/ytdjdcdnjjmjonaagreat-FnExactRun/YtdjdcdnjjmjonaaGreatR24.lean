import Derived.Deep.MidRow
import Derived.Test.YtdjdcdnjjmjonaaGreatR23
set_option linter.all false
set_option maxHeartbeats 16000000
namespace Go.Proofs.YtdjdcdnjjmjonaaGreat
open Go.RowKit
open Go.Proofs.Tryz
set_option maxRecDepth 100000
variable {C:Cn}{L:Lay}{b m:Int}{ps:List PMod}{xs:List SlT}
theorem nZ (m b):∀(xs:List SlT)(i:Nat),(gW m b i xs=-1->∀j,j<xs.length->¬usd m b (xs.getD j zSl))/\(∀k:Nat,k<xs.length->usd m b (xs.getD k zSl)->(∀j,j<k->¬usd m b (xs.getD j zSl))->gW m b i xs=(i+k:Nat))/\(∀j:Nat,((i+j:Nat):Int)<gW m b i xs->¬usd m b (xs.getD j zSl))
 | [],i=>⟨λ_ j a=>by grind,λk d=>by grind,λj a=>by unfold gW at a;omega⟩
 | x::xs,i=>by
   obtain⟨g,p,l⟩:=nZ m b xs$ i+1;unfold gW;by_cases c:usd m b x
   .rw[if_pos c];refine⟨λe=>J,λk d hu f=>?_,λj a=>J⟩;cases k with
    | zero=>rfl
    | succ k=>exact absurd c (by simpa using f 0 J)
   .rw[if_neg c];refine⟨λe j a=>?_,λk d hu f=>?_,λj a=>?_⟩
    .cases j with
     | zero=>simpa using c
     | succ j=>simpa using g e j (by grind)
    .cases k with
     | zero=>exact absurd (by grind) c
     | succ k=>
       grind
    .cases j with
     | zero=>simpa using c
     | succ j=>simpa using l j (by grind)
def aEy (h:xs.length≠0)(T):hld (xs.set (slq xs m b) (true,m,b,T)) m b=((slq xs m b:Nat):Int):=by
 have hs:=mO (xs:=xs) m b h;let⟨d,_,f⟩:=nZ m b xs 0
 have e:=(nZ m b (xs.set (slq xs m b) (true,m,b,T)) 0).2.1 (slq xs m b) (by simpa using hs) (by simp[xB,hs,usd]) (λj a=>by
  have e1:(xs.set (slq xs m b) (true,m,b,T)).getD j zSl=xs.getD j zSl:=by
   rw[xB,List.getElem?_set_ne J,<-xB]
  rw[e1];by_cases c:hld xs m b=-1
  .exact d c j J
  .refine f j ?_;have:slq xs m b=(hld xs m b).toNat:=by unfold slq;rw[if_neg c]
   show((0+j:Nat):Int)<hld xs m b
   omega)
 rw[Nat.zero_add]at e;exact e
theorem aEz {cs g T:Int}{rz:qi}(h:dM ps L cs g T rz xs)(m):hld xs m (-1)=-1:=by
 have d:∀(a:List SlT)(i:Nat),(∀j,j<a.length->¬usd m (-1) (a.getD j zSl))->gW m (-1) i a=-1:=by
  intro a
  induction a with
  | nil=>intro i _;rfl
  | cons y a ih=>
    intro i e;unfold gW;rw[if_neg (by simpa using e 0 Jb)];exact ih (i+1) (λj f=>by simpa using e (j+1) (by grind))
 refine d xs 0 λj f hu=>?_;have k:=(h.2 j f).1;obtain⟨b,p,q⟩:=hu;rcases k with l|l
 .grind
 .grind
theorem Cv.cz (h:Cv C L):Cz C L:=by
 let⟨_,a,d,f,b⟩:=h.cf;refine⟨b,a,h.n.1,?_⟩;by_cases e:C.bk=-1
 .rw[e];exact .inl$ aEz h.s _
 .rcases lA C.lz C.md C.bk with q|q
  .grind
  .grind
def aVu (h:Cv C L){t:Int}(a:0<=pcq C.ps m b):Cz (dG C L m b t) L:=by
 let⟨_,d,g,i,f⟩:=h.cf;unfold dG;by_cases c:C.lz.length≠0/\b≠-1
 .rw[if_pos c];refine⟨f,d,a,.inr ⟨c.2,?_⟩⟩;show 0<=hld (C.lz.set (slq C.lz m b) (true,m,b,C.tn+1)) m b/\hld (C.lz.set (slq C.lz m b) (true,m,b,C.tn+1)) m b<_;rw[aEy c.1];have:=mO (xs:=C.lz) m b c.1;omega
 .rw[if_neg c];refine⟨f,d,a,.inl ?_⟩;show hld C.lz m b=-1;by_cases e:b=-1
  .rw[e];exact aEz h.s _
  .have:C.lz=[]:=xE$ xZ.1 λq=>c ⟨q,e⟩;rw[this];rfl
section
variable {W:qw}{base aN:Nat}{C:Cn}{M:Mn}{Ls:List (PMod×Mb)}{β:Nat->Nat}
def MxO.smd (h:MxO W base aN C M Ls β)(v):MxO W base aN { C with md:=v } { M with md:=v } Ls β:=⟨h.m,h.e,h.k,h.q,h.l,h.h,h.bm,h.bh,⟨h.vs.1,h.vs.2.1,h.vs.2.2.1,h.vs.2.2.2.1,h.vs.2.2.2.2.1,rfl,h.vs.2.2.2.2.2.2⟩,h.vz⟩
def MxO.sbk (h:MxO W base aN C M Ls β)(v):MxO W base aN { C with bk:=v } { M with bk:=v } Ls β:=⟨h.m,h.e,h.k,h.q,h.l,h.h,h.bm,h.bh,⟨h.vs.1,h.vs.2.1,h.vs.2.2.1,h.vs.2.2.2.1,h.vs.2.2.2.2.1,h.vs.2.2.2.2.2.1,rfl,h.vs.2.2.2.2.2.2.2⟩,h.vz⟩
def MxO.spc (h:MxO W base aN C M Ls β)(v):MxO W base aN { C with pc:=v } { M with pc:=v } Ls β:=⟨h.m,h.e,h.k,h.q,h.l,h.h,h.bm,h.bh,⟨h.vs.1,h.vs.2.1,h.vs.2.2.1,h.vs.2.2.2.1,rfl,h.vs.2.2.2.2.2⟩,h.vz⟩
end
def Mg.reg {d W:qw}{G:Nat}{Y:Lyb}{M:Mn}{a vr:Value}(h:Mg d W G Y C M a vr){gk:Nat}(e:M.ka=some (qR gk 0))(i)(hi:i<M.kn)(z)(hz:wfi z):Mg d (W.setCell (qR gk i)$ .int .i64 z) G Y { C with kz:=C.kz.set i z } { M with kz:=C.kz.set i z } a vr:=by
 let⟨l,aN,g,u,b,q,t⟩:=h.m;have mk:=b.k;rw[e]at mk;let⟨w,kb⟩:=aE mk.1 (k:=gk) rfl;have:=(mk.lt gk rfl).1;have:=b.bm;have T:=aD W gk i$ .int .i64 z;exact⟨aF h.b T (λj p=>J) h.b.size,h.g,aC T h.k (λs=>by have f:G=gk:=s;have k:=h.k;rw[f]at k;exact absurd (aH kb k) Ja),⟨l,aN,g,u,b.reg e i hi z hz,q,t⟩,h.l⟩
theorem aEf (h:Lok ps L)(a:0<=pcq ps m b):0<=eE L (plc ps m.toNat) b (-1)/\eE L (plc ps m.toNat) b (-1)<=100000:=by
 have K:=nB h
 have f:0<=m/\m<(ps.length:Int):=by
  unfold pcq at a
  grind
 have d:=K.v m.toNat J;have:=(cJ d).2.2.2.1;have:=K.n.2;have:=fP K.v m.toNat J;have:=iL d;unfold eE;unfold pcq at a;rw[if_pos f]at a;by_cases c:b=-1
 .rw[if_pos c];show 0<=Fl ps m.toNat/\Fl ps m.toNat<=100000;omega
 .rw[if_neg c]at a;rw[if_neg c,if_pos rfl];split at a
  .rename_i i;have:=cT d b.toNat J
   have:(plc ps m.toNat).banks.getD b.toNat 0=Fl ps m.toNat+tsz (ps.getD m.toNat zP)+cS (ps.getD m.toNat zP) b.toNat:=by
    unfold plc
    grind
   grind
  .grind
def EtP (w1 w:qw)(G:Nat)(Y:Lyb)(C:Cn)(M:Mn)(v13:Value)(m b t:Int)(e:Ending)(w':qw):Prop:=
 if C.tn<1000000000/\tgk C.ps m b t then e=.returned (.bool true)/\∃M' vr',Mg w1 w' G Y (dG C Y.L m b t) M' v13 vr'/\TGx w w'/\Rgn w' vr' (plQ (dG C Y.L m b t) Y.L) else e=.returned (.bool false)/\∃vr',Mg w1 w' G Y C M v13 vr'/\TGx w w'
def aCz (w1 G Y C M a0 vr m b t w)(h:Mg w1 w G Y C M a0 vr)(Q:Cv C Y.L):
 qC 239 #[.pointer$ some$ qR G 0,.agg$ qT m b t] w (EtP w1 w G Y C M a0 m b t):=by
 let⟨V,hV,bV,kV⟩:=nwb w (qT m b t) 121;have:G<w.heap.size:=h.k.lt;have I:=zh$ aMf w1 G Y C M a0 vr V$ h.bw bV;have D:=zh λ(X:qw)(d:TGx V X)=>show qn X w 0=some (.int .i64 m)/\qn X w 1=some (.int .i64 b)/\qn X w 2=some (.int .i64 t)from⟨(d.blk kV Jg).cell 0,(d.blk kV Jg).cell 1,(d.blk kV Jg).cell 2⟩;have a3:=zh λ(X:qw)(a1:Value)(d:Mg w1 X G Y C M a0 a1)=>aB4 w1 G Y C M a0 a1 m b t X d Q.cf.2.1;have HV:=zh hV;have y0:=kV.three;have bg:=zh kV;have av:=zh$ bN bV;clear hV bV kV;by_cases c0:C.tn<1000000000/\tgk C.ps m b t
 .refine Calls.mono (R:=λe W=>e=.returned (.bool true)/\∃M' a1,Mg w1 W G Y (dG C Y.L m b t) M' a0 a1/\TGx w W/\Rgn W a1 (plQ (dG C Y.L m b t) Y.L)) ?_ (λe W he=>by unfold EtP;rw[if_pos c0];exact he);rw[xR c0]at a3;obtain⟨ht,hp,t0,t1⟩:=c0;let⟨_,bo,bj,bn,ai⟩:=Q.cf;have az:=aVu (t:=t) Q hp;have H:=mR (s:=0) h.l ai hp;have:¬G=w.heap.size:=J
  have:¬w.heap.size=G:=J
  have aq:=h.vs.1.1;have bh:=Q.g;have ad:=zh λ(X:qw)(M':Mn)(a1:Value)(d:Mg w1 X G Y (dG C Y.L m b t) M' a0 a1)=>(sY w1 G Y _ M' a0 a1 X d az).2 .returning;by_cases K:C.lz.length≠0/\b≠-1
  focus
   have hb:0<=b:=jK H.bb;have bd:=zh λ(X:qw)(g:Nat)(d:Mg w1 X G Y C M a0 (.slice (qP g) 1 1))(hr:Blk X g #[.int .i64 65536,.int .i64 14,.int .i64 0,.bool false,.bool true,.bool false] 231)=>aHv w1 G g Y C M a0 m b t X d hr Q hp hb K.1 ht;have aw:(M.cs !=0)=true:=by rw[aq];simp;omega
   have b7:(b !=-1)=true:=by simp[K.2]
   have be:=zh (show 65536<=Y.L.slots.getD (slq C.lz m b) 0/\Y.L.slots.getD (slq C.lz m b) 0<=100000 by have:=Q.slot$ mO (xs:=C.lz) m b K.1;omega);clear Q
   go_enter_defers func239,ntmps239
   go_wp2_with (rw[<-HV.o])
   apply I.mono;rintro e X1 ⟨rfl,g,h1,k1,P⟩;have a:=zh$ xA h1$ xA k1 P;have z0:=D X1 P;clear y0 h1 k1 P I HV;go_wp2_with fail
   apply(a3 X1 _ a.1).mono;rintro e X2 ⟨rfl,p⟩;have B:=zh$ xA (a.1.bw p)$ xA (a.2.1.bw p)$ a.2.2.trans$ bN p;clear p z0 a;have z0:=D X2 B.2.2;have x1:qN X2 G 1=some (.int .i64 M.cs):=B.1.k.cell 1;go_wp2_with fail
   apply(bd X2 g B.1 B.2.1).mono;rintro e X3 ⟨rfl,oa,on,oc,h3⟩;obtain⟨h3,T3⟩:=h3;obtain⟨l,a2⟩:∃l:Cn,l={ C with tn:=C.tn+1,lz:=C.lz.set (slq C.lz m b) (true,m,b,C.tn+1),rz:=ovr C.rz (Y.L.slots.getD (slq C.lz m b) 0-65536).toNat (bkb C.ps C.cw m b) }:=⟨_,rfl⟩;obtain⟨y,a5⟩:∃y:Mn,y={ M with tn:=C.tn+1,lz:=C.lz.set (slq C.lz m b) (true,m,b,C.tn+1),rz:=ovr C.rz (Y.L.slots.getD (slq C.lz m b) 0-65536).toNat$ bkb C.ps C.cw m b,oa:=oa,on:=on,oc:=oc,oz:=C.oz }:=⟨_,rfl⟩;rw[<-a2,<-a5]at h3;have U:l.kz=C.kz:=by rw[a2]
   have au:l.ps=C.ps:=by rw[a2]
   obtain⟨S,hS⟩:∃S:Int,S=((slq C.lz m b:Nat):Int):=⟨_,rfl⟩;have O:hld l.lz m b=S:=by rw[a2,hS];exact aEy K.1 _
   have E:S=-1\/(b≠-1/\0<=S/\S<(Y.L.slots.length:Int)):=.inr ⟨K.2,J,jK$ mO (xs:=C.lz) m b K.1⟩
   have a7:0<=eE Y.L (plc C.ps m.toNat) b S/\eE Y.L (plc C.ps m.toNat) b S<=100000:=by
    unfold eE;rw[if_neg K.2,if_neg J,hS,xY];have:=be.o;omega
   have N:=zh$ xA h3$ B.2.2.trans T3;have aa:=zh (show { l with md:=m,bk:=b,pc:=eE Y.L (plc C.ps m.toNat) b S+4*t,kz:=l.kz.set 7 (plc C.ps m.toNat).data }=dG C Y.L m b t by rw[a2,hS];unfold dG;rw[if_pos K]);clear h3 T3 z0 x1 a2 a5;have z0:=D X3 N.2
  rotate_left
  focus
   have hK:C.lz.length=0\/b=-1:=by
    by_cases q:b=-1
    .exact .inr q
    .exact .inl (xZ.1 λq'=>K ⟨q',q⟩)
   have b5:(M.cs !=0)=false\/((M.cs !=0)=true/\(b !=-1)=false):=by
    by_cases q:M.cs=0
    .exact .inl (by simp[q])
    .refine .inr ⟨by simp[q],?_⟩;rcases hK with hK|hK
     .exact absurd J q
     .simp[hK]
   obtain⟨l,a2⟩:∃l:Cn,l=C:=⟨_,rfl⟩;obtain⟨y,a5⟩:∃y:Mn,y=M:=⟨_,rfl⟩;obtain⟨S,hS⟩:∃S:Int,S=-1:=⟨_,rfl⟩
   have b4:=zh (show hld l.lz m b=S by
    rw[a2,hS];rcases hK with hK|hK
    .rw[xE hK];rfl
    .rw[hK];exact aEz Q.s _)
   have b3:Zh (S=-1\/(b≠-1/\0<=S/\S<(Y.L.slots.length:Int))):=.inl hS;have bf:=zh (show 0<=eE Y.L (plc C.ps m.toNat) b S/\eE Y.L (plc C.ps m.toNat) b S<=100000 by rw[hS];exact aEf ai hp);have aa:=zh (show { l with md:=m,bk:=b,pc:=eE Y.L (plc C.ps m.toNat) b S+4*t,kz:=l.kz.set 7 (plc C.ps m.toNat).data }=dG C Y.L m b t by rw[a2,hS];unfold dG;rw[if_neg K]);have a4:=zh$ xA a2 a5;have HS:=zh hS;clear Q hK K a2 a5 hS aq;rcases b5 with aw|⟨aw,b7⟩
   all_goals
    go_enter_defers func239,ntmps239
    go_wp2_with (rw[<-HV.o])
    apply I.mono;rintro e X1 ⟨rfl,g,h1,k1,P⟩;have a:=zh$ xA h1 P;have z0:=D X1 P;clear y0 h1 k1 P I HV;go_wp2_with fail
    apply(a3 X1 _ a.1).mono;rintro e X3 ⟨rfl,p⟩;have N:Zh (Mg w1 X3 G Y l y a0 (.slice (qP g) 1 1)/\TGx V X3):=⟨by rw[a4.o.1,a4.o.2];exact a.o.1.bw p,a.o.2.trans$ bN p⟩;clear p z0 a;have z0:=D X3 N.2;have x1:qN X3 G 1=some (.int .i64 M.cs):=by rw[<-a4.o.2];exact N.o.1.k.cell 1
    have U:l.kz=C.kz:=by rw[a4.o.1]
    have au:l.ps=C.ps:=by rw[a4.o.1]
    have O:=b4.o;have E:=b3.o;have a7:=bf.o;have hS:=HS.o
  all_goals
   have e3:l.kz.length=8:=by rw[U];exact bh
   obtain⟨gk,aj,bl⟩:∃gk,y.ka=some ⟨gk,0,none⟩/\y.kn=8:=by
    let⟨bi,aN,Ls,β,mm,_⟩:=N.1.m;have:=gU mm.k;let⟨g',cp,e,_⟩:=World.ownsRow.form mm.k.1 J;simp only[Value.slice.injEq]at e;exact⟨g',e.1,J⟩
   have bb:qN X3 G 10=some (.int .i64 y.md):=N.1.k.cell 10;have b6:qN X3 G 11=some (.int .i64 y.bk):=N.1.k.cell 11;have f1:=N.1.k.frozen;let⟨X4,a8⟩:=aO$ ((X3.setCell ⟨G,10,none⟩$ .int .i64 m).setCell ⟨G,11,none⟩$ .int .i64 b).drew;have h4:Mg w1 X4 G Y { l with md:=m,bk:=b } { y with md:=m,bk:=b } a0 (.slice (qP g) 1 1):=by rw[a8];exact((N.o.1.put 10 (.int .i64 m) rfl λx=>x.smd m).put 11 (.int .i64 b) rfl λx=>x.sbk b).bw brf.drew
   have T4:TGx V X4:=by rw[a8];exact(N.o.2.trans (fI ((aD _ G 10 _).trans$ aD _ G 11 _) (λj hj=>by subst hj;exact⟨_,_,N.o.1.k,.inr$ .inl rfl⟩))).trans (bN brf.drew)
   have b0:=zh a8;have ah:=zh$ xA h4 T4;have ag:=zb X4 λX d=>(wE w1 G Y _ _ a0 (.slice (qP g) 1 1) X$ h4.bw d).mono (λe W he=>show e=.returned (.int .i64 S)/\qY X4 W from⟨by rw[he.1];show Ending.returned (.int .i64$ hld l.lz m b)=_;rw[O],yT d he.2⟩);let⟨Z,hZ⟩:=aO$ eE Y.L (plc C.ps m.toNat) b S
   have ax:=zh (λ(X:qw)(d:qY X4 X)=>(lN Y.L Y.a0 Y.c0 Y.xs Y.a2 Y.c2 Y.a5 Y.c5 Y.ts m b t S X (h4.bw d).ly H.m0 H.m1 H.bb E).mono (λe W he=>show e=.returned (.int .i64 Z)/\qY X4 W/\((W.setCell (qR G 5)$ .int .i64$ Z+4*t).cell? (qR G 15)=some (.slice Y.a0 Y.xs.length Y.c0)/\(W.setCell (qR G 5)$ .int .i64$ Z+4*t).cell? (qR G 16)=some (.int .i64 Y.L.stack)/\(W.setCell (qR G 5)$ .int .i64$ Z+4*t).cell? (qR G 17)=some (.slice Y.a2 Y.L.slots.length Y.c2)/\(W.setCell (qR G 5)$ .int .i64$ Z+4*t).cell? (qR G 18)=some (.int .i64 Y.L.flash)/\(W.setCell (qR G 5)$ .int .i64$ Z+4*t).cell? (qR G 19)=some (.int .i64 Y.L.ram)/\(W.setCell (qR G 5)$ .int .i64$ Z+4*t).cell? (qR G 20)=some (.slice Y.a5 Y.ts.length Y.c5))/\(qN W G 5=some (.int .i64 y.pc)/\W.frozen? (qR G 5)=false)by
    have hb:=yT d he.2;have q:=(h4.bw hb);have q5:=q.put 5 (.int .i64$ Z+4*t) rfl λx=>x.spc$ Z+4*t
    exact⟨by rw[he.1,hZ,aEe,H.p],hb,⟨q5.k.cell 15,q5.k.cell 16,q5.k.cell 17,q5.k.cell 18,q5.k.cell 19,q5.k.cell 20⟩,q.k.cell 5,q.k.frozen 5⟩))
   have HC:=zb X4 λX d=>show(qN X G 15=some (.slice Y.a0 Y.xs.length Y.c0)/\qN X G 16=some (.int .i64 Y.L.stack)/\qN X G 17=some (.slice Y.a2 Y.L.slots.length Y.c2)/\qN X G 18=some (.int .i64 Y.L.flash)/\qN X G 19=some (.int .i64 Y.L.ram)/\qN X G 20=some (.slice Y.a5 Y.ts.length Y.c5))/\qn X w 0=some (.int .i64 m)/\qn X w 1=some (.int .i64 b)/\qn X w 2=some (.int .i64 t)from⟨⟨(h4.bw d).k.cell 15,(h4.bw d).k.cell 16,(h4.bw d).k.cell 17,(h4.bw d).k.cell 18,(h4.bw d).k.cell 19,(h4.bw d).k.cell 20⟩,D X$ T4.trans$ bN d⟩;have ar:=zh (show { l with md:=m,bk:=b,pc:=Z+4*t,kz:=l.kz.set 7 (plc C.ps m.toNat).data }=dG C Y.L m b t by rw[hZ];exact aa.o);have:0<=Z:=by rw[hZ];exact a7.1
   have:Z<=100000:=by rw[hZ];exact a7.2
   have:t<=200:=jK H.w.2;have:IntKind.i64.wrap (4*t)=4*t:=by rw[xP,xQ _ J]
   have:IntKind.i64.wrap (Z+4*t)=Z+4*t:=by rw[xP,xQ _ J]
   have:=xA H.m0 H.m1;have:=xA H.d.1 H.d.2.1
   have ay:=zh (λ(X:qw)(d:qY w1 X)=>show ∃gp op,Y.a0=qe gp op/\gp<w1.heap.size/\qN X gp (op+m.toNat*4+2)=some (.int .i64 (plc C.ps m.toNat).data)by
    let⟨gp,op,e,_,_,q2,_⟩:=h.l.p.at m.toNat$ jL H.m0 H.m1;rw[H.p]at q2
    exact⟨gp,op,e,xD w1 _ q2,aB d q2⟩)
   have bc:=h.l.p.2.1;unfold maxLen at bc;clear h h4 T4 a8 U au O hZ E a7 aa H az ai bj bn bo hS e3;generalize (plc C.ps m.toNat).data=dd at *;go_wp2_with fail
   go_region_held3 (λW=>qn W w 0=some (.int .i64 m)/\qn W w 1=some (.int .i64 b)/\qn W w 2=some (.int .i64 t)) (go_keep) (fail)
   rw[<-b0.o];let⟨⟨l0,l1,l2,l3,l4,l5⟩,an,ao,ap⟩:=HC X4 brf;clear bb b6 f1 z0 b0 N;go_wp2_with fail
   go_region_held3 (λW=>(qN W G 15=some (.slice Y.a0 Y.xs.length Y.c0)/\qN W G 16=some (.int .i64 Y.L.stack)/\qN W G 17=some (.slice Y.a2 Y.L.slots.length Y.c2)/\qN W G 18=some (.int .i64 Y.L.flash)/\qN W G 19=some (.int .i64 Y.L.ram)/\qN W G 20=some (.slice Y.a5 Y.ts.length Y.c5))/\qn W w 0=some (.int .i64 m)/\qn W w 1=some (.int .i64 b)/\qn W w 2=some (.int .i64 t)) (go_keep)
    (first
      | (go_at_call 149;first
          | with_reducible refine(ag.o _ brf).mono ?_
          | with_reducible refine(ag.o _ brf.drew).mono ?_
         rintro e Xa ⟨rfl,ac⟩
         let⟨⟨l0,l1,l2,l3,l4,l5⟩,an,ao,ap⟩:=HC Xa ac)
      | (go_at_call 198;with_reducible refine(ax.o _ ac).mono ?_
         rintro e Xb ⟨rfl,a6,⟨m0,m1,m2,m3,m4,m5⟩,p5,b9⟩
         let⟨⟨l0,l1,l2,l3,l4,l5⟩,an,ao,ap⟩:=HC Xb a6))
   have ae:Mg w1 Xb G Y { l with md:=m,bk:=b } { y with md:=m,bk:=b } a0 (.slice (qP g) 1 1):=ah.1.bw a6;let⟨X5,a9⟩:=aO$ Xb.setCell ⟨G,5,none⟩$ .int .i64$ Z+4*t;have h5:Mg w1 X5 G Y { l with md:=m,bk:=b,pc:=Z+4*t } { y with md:=m,bk:=b,pc:=Z+4*t } a0 (.slice (qP g) 1 1):=by rw[a9];exact ae.put 5 (.int .i64$ Z+4*t) rfl λx=>x.spc$ Z+4*t
   have T5:TGx V X5:=by rw[a9];exact(ah.o.2.trans$ bN a6).trans (fI (aD _ G 5 _) (λj hj=>by subst hj;exact⟨_,_,ae.k,.inr$ .inl rfl⟩))
   have:X5.cell? (qR G 6)=some (.slice (some$ qR gk 0) 8 y.kc):=by have q:=h5.k.cell 6;rw[q];show some (Value.slice y.ka y.kn y.kc)=_;rw[aj,bl]
   let⟨gp,op,b1,bq,xd⟩:=ay X5 h5.b;have:qN X5 G 15=some (.slice (qe gp op) Y.xs.length Y.c0):=by rw[<-b1];exact h5.k.cell 15
   have y0:=D X5 T5
   obtain⟨⟨u,x7⟩,xf,ak,am,bm,bp,b2⟩:(∃u,X5.cell? ⟨gk,7,none⟩=some u)/\(∀i,X5.frozen? ⟨gk,i,none⟩=false)/\gk≠G/\gk≠w.heap.size/\w1.heap.size<=gk/\∃cs,Blk X5 gk cs 3:=by
    obtain⟨bi,aN,Ls,β,mm,q1,q2⟩:=h5.m;have mk:=mm.k;have af:OI X5 aN (.slice (some$ qR gk 0) y.kn y.kc) l.kz:=by rw[<-aj];exact mk
    let⟨cs,kb⟩:=aE af.1 (k:=gk) rfl;have:=(af.lt gk rfl).1;have:=mm.bm;refine⟨⟨_,af.is.at 7 J⟩,kb.frozen,λe=>?_,λe=>?_,J,cs,kb⟩
    .subst e;exact absurd (aH kb h5.k) Ja
    .have kt:=T5.blk bg Jg;rw[<-e]at kt;exact absurd (aH kb kt) Ja
   have:¬gk=G:=ak;have:¬G=gk:=λe=>ak e.symm;have:¬gk=w.heap.size:=am;have:¬w.heap.size=gk:=λe=>am e.symm;have:¬gk=gp:=J
   have:¬gp=gk:=J
   have h6:Mg w1 (X5.setCell (qR gk 7)$ .int .i64 dd).drew G Y (dG C Y.L m b t) { y with md:=m,bk:=b,pc:=Z+4*t,kz:=l.kz.set 7 dd } a0 (.slice (qP g) 1 1):=by
    rw[<-ar.o];exact(h5.reg aj 7 (by show 7<y.kn;omega) dd Jh).bw brf.drew
   have ab:=zh (xA h6 ((T5.trans (fI (aD _ gk 7$ .int .i64 dd) (λj hj=>by subst hj;exact⟨_,_,b2,.inr$ .inr$ .inr rfl⟩))).trans$ bN brf.drew));have ba:=zh a9;clear h5 T5 h6 b2 bp ae a9 ah ak am bm b1 ac a6 l0 l1 l2 l3 l4 l5 an ao ap HC ax ag ay ar D;go_wp2_with (rw[<-ba.o])
   clear m0 m1 m2 m3 m4 m5 p5 b9
   go_region_held3 (λW=>qN W G 6=some (.slice (qP gk) 8 y.kc)/\qN W G 15=some (.slice (qe gp op) Y.xs.length Y.c0)/\qn W w 0=some (.int .i64 m)/\qN W gp (op+m.toNat*4+2)=some (.int .i64 dd)) (go_keep) (fail)
   go_wp2;refine leaves_cons (f:=83) (args:=#[.pointer$ qP G]) Jb (by simp[go_sem]) ?_;apply(ad _ _ _ ab.1).mono;rintro e u' b8 ⟨rfl,rfl,A,k,c,hM,hR,hT⟩;exact⟨_,results_tmp rfl _ _ _,rfl,_,_,hM,av.trans (ab.2.trans (fI hT (λj hj=>by subst hj;exact⟨_,_,ab.1.k,.inr$ .inl rfl⟩))),hR⟩
 .refine Calls.mono (R:=λe W=>e=.returned (.bool false)/\∃a1,Mg w1 W G Y C M a0 a1/\TGx w W) ?_ (λe W he=>by unfold EtP;rw[if_neg c0];exact he);rw[xS c0]at a3;have ad:=zh λ(X:qw)(a1:Value)(d:Mg w1 X G Y C M a0 a1)=>(sY w1 G Y C M a0 a1 X d Q.cz).2 .returning;clear h Q c0
  go_enter_defers func239,ntmps239
  go_wp2_with (rw[<-HV.o])
  apply I.mono;rintro e X1 ⟨rfl,g,h1,k1,P⟩;have a:=zh$ xA h1$ xA k1 P;have z0:=D X1 P;clear y0 h1 k1 P I HV;go_wp2_with fail
  apply(a3 X1 _ a.1).mono;rintro e X2 ⟨rfl,p⟩;have B:=zh$ xA (a.1.bw p)$ a.2.2.trans$ bN p;clear p z0;go_wp2;refine leaves_cons (f:=83) (args:=#[.pointer$ qP G]) Jb (by simp[go_sem]) ?_;apply(ad _ _ B.1).mono;rintro e u' b8 ⟨rfl,rfl,A,k,c,hM,_,hT⟩;exact⟨_,results_tmp rfl _ _ _,rfl,_,hM,av.trans (B.2.trans (fI hT (λj hj=>by subst hj;exact⟨_,_,B.1.k,.inr$ .inl rfl⟩)))⟩
variable {w W X:qw}{M:Mz}{pc pc':Int}{rg rg':qi}
def aUk (p s v w)(h:Pz w M pc rg)(j:0<=v/\v<=4294967295)(i:0<=p)(l:p<=4294967295):
 qC 278 #[.pointer$ some$ qR M.g 9,qI p,qI s,qI v] w λe W=>e=.returned (qI (M.wr p s v).2.2.2)/\∃b u t,Pz W (M.st b u t (M.wr p s v).1 (M.wr p s v).2.1 (M.wr p s v).2.2.1) pc rg/\Turn (Uz M) w W:=by
 let⟨A,B,C,D⟩:=h.p.mem;have f:=h.p.len;let⟨x,y⟩:=aO$ #[Value.int .u32 pc]++(rg.map$ Value.int .u32).toArray++#[M.v1,M.v2,M.v3,M.v4];have a:=h.p.blk;rw[<-y]at a;apply(oK M.a1 M.a2 M.a3 M.n1 M.c1 M.n2 M.c2 M.n3 M.c3 M.g 9 M.b x 152 M.x1 M.x2 M.x3 p s v w a Ja (by rw[<-a.cell];exact A) (by rw[<-a.cell];exact B) (by rw[<-a.cell];exact C) h.o h.f h.b j i l).mono;rintro e W ⟨b,u,t,rfl,d,k,q,g⟩;refine⟨rfl,b,u,t,⟨⟨?_,f,h.p.pcw,h.p.rgw⟩,k,?_,xM h.b g.size⟩,g⟩
 .rw[show x.setIfInBounds (9+2) (qS b u t)=#[Value.int .u32 pc]++(rg.map$ Value.int .u32).toArray++#[M.v1,M.v2,qS b u t,M.v4] by
   subst y;apply Array.toList_inj.1;rw[xW];simp only[Array.toList_append];rw[List.set_append_right _ _ Jc]
   simp[f]]at d
  exact d
 .rintro v (rfl|rfl|rfl)
  .exact h.f _ (.inl rfl)
  .exact h.f _ (.inr$ .inl rfl)
  .exact q
def aUl (op d a i s w)(h:Pz w M pc rg)(q:RS w M.ra M.rn M.rc M.rs)(d0:0<=d)(d1:d<=7)(a0:0<=a)(a7:a<=7)(i0:0<=i)(i1:i<=65535):
 qC 226 #[.pointer$ qP M.g,.agg$ qW op d a i,qI s] w (OpP w M$ stz M.toCy pc rg d a i s):=by
 have t:qY w ((w.alloc$ .cells (qW op d a i) 186).alloc$ .cells #[qI 0,qI 0] 80):=bal.alloc Jb _;have kb:=(Blk.new w (qW op d a i) 186).alloc$ .cells #[qI 0,qI 0] 80;have O:=Blk.new (w.alloc$ .cells (qW op d a i) 186) #[qI 0,qI 0] 80;simp only[xF]at O;have N:=h.bw t;have Z:=q.bw t;have B:=h.p.blk.lt;have HN:=zh λw h=>sL op d a i M.g pc rg M.v1 M.v2 M.v3 M.v4 w h a0 a7 i0 i1;have HD:=zh λw h=>aIn op d a i M.g pc rg M.v1 M.v2 M.v3 M.v4 w h d0 d1;have hv:=h.p.range d.toNat;let⟨r,W⟩:=aO$ stz M.toCy pc rg d a i s;rw[<-W];unfold stz Cy.al at W;rw[show(rg.getD a.toNat 0+eA i)%4294967296=atz rg a i from rfl]at HN;have z0:0<=atz rg a i/\atz rg a i<=4294967295:=by unfold atz m32;omega
 generalize atz rg a i=z at *;generalize rg.getD d.toNat 0=v at *;have HA:=zh λw h=>iH M.ra M.rn M.rc M.rs z s 2 w h ⟨J,J⟩;have HW:=zh λw h=>aUk (M:=M) (pc:=pc) (rg:=rg) z s v w h hv z0.1 z0.2;have HV:=zh (show IntKind.i64.wrap v=v by rw[IntKind.wrap_i64];omega);generalize alw M.rs M.rn z s 2=A at *;generalize M.wr z s v=Q at *;obtain⟨q1,q2,q3,f⟩:=Q;have D:=zh W;clear W q;have Y:=zh λ(w:qw)(a3:qO)(n3 c3:Nat)(h:Pr w M.g pc rg M.v1 M.v2 (qS a3 n3 c3) M.v4)=>kS M.g pc rg _ _ _ _ w h
 delta qC;go_in
 go_wp2_with fail
 apply(HN _ N.p).mono;rintro e w1 ⟨rfl,E⟩;have S:=N.bw E;have P:=S.p.mem;go_wp2_with fail
 apply(HA _$ Z.bw E).mono;rintro e w2 ⟨rfl,G⟩;have k:=S.bw G;have I:=t.trans$ (yT E G).mono Jc;have l:=(kb.bw E).bw G;have j:=(O.bw E).bw G;clear P S N kb O t Z E G;have P:=k.p.mem;have e1:=j.two';cases A
 .have q:=D.o;rw[if_neg Jb]at q;subst q;let⟨Y,b,C⟩:=pG B k j (aG I) J 5 5;clear k j l I;go_wp2;exact bodyPost_ret (v:=.agg #[qI 5,qI 5]) (by simp[results,results226,go_sem,b,C]) rfl Y.o
 .have⟨k1,k2,k3,k4,k5⟩:=l.four';go_wp2_with fail
  go_region_held3 (λX=>qn X w 0=qj op/\qn X w 1=qj d/\qn X w 2=qj a/\qn X w 3=qj i) (go_keep)
   (first
     | (go_at_call 208;refine(HD _ ?_).mono ?_;exact⟨k.p.blk,k.p.len,k.p.pcw,k.p.rgw⟩;rintro e w3 ⟨rfl,p⟩;replace p:=aU p;obtain⟨k1,k2,k3,k4,k5⟩:=(l.bw p).four')
     | (go_at_call 278;rw[HV.o];refine(HW.o _$ k.bw p).mono ?_;rintro e w4 ⟨rfl,l3,l4,l5,x,K⟩;obtain⟨k1,k2,k3,k4,k5⟩:=((k.bw p).kp K (l.bw p) Ja J).four'))
  have H:Turn (Uz M) w w4:=(aG$ yT I p).trans K;have g:=(k.bw p).kp K (j.bw p) Ja J;clear k1 k2 k3 k4 k5 P e1 p K l j I k;have e1:=g.two';by_cases U:f=0
  .subst U;have q:=D.o;subst q;go_wp2_with fail
   apply(Y _ _ _ _ x.p).mono;rintro e w5 ⟨rfl,rfl⟩;have:=x.p.pc;have:=x.p.blk.frozen 0;let⟨u,hu⟩:=aO$ (pc+4)%4294967296;have HU:=zh hu;have V:=aK w4 M.g 0$ .int .u32 u;have y:=g.other (qR M.g 0) (.int .u32 u) Jd;let⟨HY,b,C⟩:=pG B (x.turn V$ x.p.setpc u J) y (H.trans$ V.mono λ_=>.inl) J 0 0;rw[<-hu];have:=y.two';clear hu x H g y V;go_wp2;exact bodyPost_ret (v:=.agg #[qI 0,qI 0]) (by simp[results,results226,go_sem,b,C]) rfl (by show OpP w M ⟨0,0,(pc+4)%4294967296,_,_,_,_⟩ _ _;rw[<-HU.o];exact HY.o)
  .have a2:(f !=0)=true:=by simpa using U
   have q:=D.o;simp only[reduceIte,U]at q;subst q;let⟨HY,b,C⟩:=pG B x g H J 5 f;clear x g H;go_wp2;exact bodyPost_ret (v:=.agg #[qI 5,qI f]) (by simp[results,results226,go_sem,b,C]) rfl HY.o
def awy (C:Cn)(L:Lay)(a:Int):Int:=a-eE L (plc C.ps C.md.toNat) C.bk (hld C.lz C.md C.bk)
def atB (C:Cn)(L:Lay)(a:Int):Bool:=decide$ 0<=awy C L a/\awy C L a%4=0/\awy C L a/4<=pcq C.ps C.md C.bk
def aO9 (h:Cv C L):0<=eE L (plc C.ps C.md.toNat) C.bk (hld C.lz C.md C.bk)/\eE L (plc C.ps C.md.toNat) C.bk (hld C.lz C.md C.bk)<=100000:=by
 let⟨_,_,_,b,a⟩:=h.cf;rcases h.cz.s with e|⟨e1,e2,e3⟩
 .rw[e];exact aEf a h.cz.p
 .unfold eE;rw[if_neg e1,if_neg J];have:=h.slot (i:=(hld C.lz C.md C.bk).toNat) J;omega
theorem aQ7 (h:Cv C L){a D:Int}(d:awy C L a=D):(D.tmod 4=0/\tgk C.ps C.md C.bk (D.tdiv 4)) ↔ atB C L a=true:=by
 unfold atB tgk;rw[d,decide_eq_true_eq];by_cases c:0<=D
 .grind
 .grind
