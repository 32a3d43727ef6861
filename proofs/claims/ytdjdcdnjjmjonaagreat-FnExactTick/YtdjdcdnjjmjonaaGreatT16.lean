import Derived.Deep.MidRow
import Derived.Test.YtdjdcdnjjmjonaaGreatT10
import Derived.Test.YtdjdcdnjjmjonaaGreatT15
set_option linter.all false
set_option maxHeartbeats 16000000
namespace Go.Proofs.YtdjdcdnjjmjonaaGreat
open Go.RowKit
open Go.Proofs.Tryz
set_option maxRecDepth 100000
variable {C:Cn}{G k:Nat}{L:Lay}{T a b d i m op t x1 x2 x3:Int}{Y:Lyb}{e:Ending}{ps:List PMod}{v13:Value}{xs:List SlT}
def sZ (m b):∀(xs:List SlT)(i:Nat),(gS m b i xs=-1->∀j,j<xs.length->¬usd m b (xs.getD j zSl))/\(∀k:Nat,k<xs.length->usd m b (xs.getD k zSl)->(∀j,j<k->¬usd m b (xs.getD j zSl))->gS m b i xs=(i+k:Nat))/\(∀j:Nat,((i+j:Nat):Int)<gS m b i xs->¬usd m b (xs.getD j zSl))
 | [],i=>⟨λ_ j f=>by grind,λk g=>by grind,λj f=>by unfold gS at f;omega⟩
 | x::xs,i=>by
   obtain⟨d,p,l⟩:=sZ m b xs$ i+1;unfold gS;by_cases c:usd m b x
   .rw[if_pos c];refine⟨λe=>J,λk g hu a=>?_,λj f=>J⟩;cases k with
    | zero=>rfl
    | succ k=>exact absurd c (by simpa using a 0 J)
   .rw[if_neg c];refine⟨λe j f=>?_,λk g hu a=>?_,λj f=>?_⟩
    .cases j with
     | zero=>simpa using c
     | succ j=>simpa using d e j (by grind)
    .cases k with
     | zero=>exact absurd (by grind) c
     | succ k=>
       grind
    .cases j with
     | zero=>simpa using c
     | succ j=>simpa using l j (by grind)
def aKj (h:xs.length≠0)(T):hld (xs.set (slq xs m b) (true,m,b,T)) m b=((slq xs m b:Nat):Int):=by
 have hs:=oU (xs:=xs) m b h;let⟨a,_,d⟩:=sZ m b xs 0
 have e:=(sZ m b (xs.set (slq xs m b) (true,m,b,T)) 0).2.1 (slq xs m b) (by simpa using hs) (by simp[xB,hs,usd]) (λj f=>by
  have e1:(xs.set (slq xs m b) (true,m,b,T)).getD j zSl=xs.getD j zSl:=by
   rw[xB,List.getElem?_set_ne J,<-xB]
  rw[e1];by_cases c:hld xs m b=-1
  .exact a c j J
  .refine d j ?_;have:slq xs m b=(hld xs m b).toNat:=by unfold slq;rw[if_neg c]
   show((0+j:Nat):Int)<hld xs m b
   omega)
 rw[Nat.zero_add]at e;exact e
def aD4 {cs q:Int}{rz:qi}(h:dO ps L cs q T rz xs)(m):hld xs m (-1)=-1:=by
 have g:∀(f:List SlT)(i:Nat),(∀j,j<f.length->¬usd m (-1) (f.getD j zSl))->gS m (-1) i f=-1:=by
  intro f
  induction f with
  | nil=>intro i _;rfl
  | cons y f ih=>
    intro i l;unfold gS;rw[if_neg (by simpa using l 0 Jb)];exact ih (i+1) (λj p=>by simpa using l (j+1) (by grind))
 refine g xs 0 λj p hu=>?_;have s:=(h.2 j p).1;obtain⟨a,b,d⟩:=hu;rcases s with u|u
 .grind
 .grind
def Cv.cz (h:Cv C L):Cz C L:=by
 let⟨_,a,d,f,b⟩:=h.cf;refine⟨b,a,h.n.1,?_⟩;by_cases e:C.bk=-1
 .rw[e];exact .inl$ aD4 h.s _
 .rcases lD C.lz C.md C.bk with q|q
  .grind
  .grind
def aUp (h:Cv C L)(f:0<=pcq C.ps m b):Cz (eG C L m b t) L:=by
 let⟨_,a,g,i,d⟩:=h.cf;unfold eG;by_cases c:C.lz.length≠0/\b≠-1
 .rw[if_pos c];refine⟨d,a,f,.inr ⟨c.2,?_⟩⟩;show 0<=hld (C.lz.set (slq C.lz m b) (true,m,b,C.tn+1)) m b/\hld (C.lz.set (slq C.lz m b) (true,m,b,C.tn+1)) m b<_;rw[aKj c.1];have:=oU (xs:=C.lz) m b c.1;omega
 .rw[if_neg c];refine⟨d,a,f,.inl ?_⟩;show hld C.lz m b=-1;by_cases e:b=-1
  .rw[e];exact aD4 h.s _
  .have:C.lz=[]:=xE$ xZ.1 λq=>c ⟨q,e⟩;rw[this];rfl
section
variable {W:qw}{base aP:Nat}{C:Cn}{M:Mn}{Ls:List (PMod×Mb)}{β:Nat->Nat}
def MxO.smd (h:MxO W base aP C M Ls β)(v):MxO W base aP { C with md:=v } { M with md:=v } Ls β:=⟨h.m,h.e,h.k,h.q,h.l,h.h,h.bm,h.bh,⟨h.vs.1,h.vs.2.1,h.vs.2.2.1,h.vs.2.2.2.1,h.vs.2.2.2.2.1,rfl,h.vs.2.2.2.2.2.2⟩,h.vz⟩
def MxO.sbk (h:MxO W base aP C M Ls β)(v):MxO W base aP { C with bk:=v } { M with bk:=v } Ls β:=⟨h.m,h.e,h.k,h.q,h.l,h.h,h.bm,h.bh,⟨h.vs.1,h.vs.2.1,h.vs.2.2.1,h.vs.2.2.2.1,h.vs.2.2.2.2.1,h.vs.2.2.2.2.2.1,rfl,h.vs.2.2.2.2.2.2.2⟩,h.vz⟩
def MxO.spc (h:MxO W base aP C M Ls β)(v):MxO W base aP { C with pc:=v } { M with pc:=v } Ls β:=⟨h.m,h.e,h.k,h.q,h.l,h.h,h.bm,h.bh,⟨h.vs.1,h.vs.2.1,h.vs.2.2.1,h.vs.2.2.2.1,rfl,h.vs.2.2.2.2.2⟩,h.vz⟩
end
def Mg.reg {f W:qw}{M:Mn}{vr:Value}(h:Mg f W G Y C M v13 vr){gk:Nat}(e:M.ka=some (qR gk 0))(i)(hi:i<M.kn)(z)(hz:wfi z):Mg f (W.setCell (qR gk i)$ .int .i64 z) G Y { C with kz:=C.kz.set i z } { M with kz:=C.kz.set i z } v13 vr:=by
 let⟨d,aP,b,t,a,l,q⟩:=h.m;have mk:=a.k;rw[e]at mk;let⟨u,kb⟩:=aE mk.1 (k:=gk) rfl;have:=(mk.lt gk rfl).1;have:=a.bm;have T:=aC W gk i$ .int .i64 z;exact⟨aG h.b T (λj p=>J) h.b.size,h.g,aD T h.k (λs=>by have g:G=gk:=s;have k:=h.k;rw[g]at k;exact absurd (aH kb k) Ja),⟨d,aP,b,t,a.reg e i hi z hz,l,q⟩,h.l⟩
def aHu (h:Lok ps L)(f:0<=pcq ps m b):0<=fH L (plc ps m.toNat) b (-1)/\fH L (plc ps m.toNat) b (-1)<=100000:=by
 have K:=mX h
 have j:0<=m/\m<(ps.length:Int):=by
  unfold pcq at f
  grind
 have g:=K.v m.toNat J;have:=(cR g).2.2.2.1;have:=K.n.2;have:=dE K.v m.toNat J;have:=iJ g;unfold fH;unfold pcq at f;rw[if_pos j]at f;by_cases c:b=-1
 .rw[if_pos c];show 0<=Fl ps m.toNat/\Fl ps m.toNat<=100000;omega
 .rw[if_neg c]at f;rw[if_neg c,if_pos rfl];split at f
  .rename_i p;have:=cV g b.toNat J
   have:(plc ps m.toNat).banks.getD b.toNat 0=Fl ps m.toNat+tsz (ps.getD m.toNat zP)+cU (ps.getD m.toNat zP) b.toNat:=by
    unfold plc
    grind
   grind
  .grind
def EtP (w1 w:qw)(G:Nat)(Y:Lyb)(C:Cn)(M:Mn)(v13:Value)(m b t:Int)(e:Ending)(w':qw):Prop:=
 if C.tn<1000000000/\tgk C.ps m b t then e=.returned (.bool true)/\∃M' vr',Mg w1 w' G Y (eG C Y.L m b t) M' v13 vr'/\TGx w w' else e=.returned (.bool false)/\∃vr',Mg w1 w' G Y C M v13 vr'/\TGx w w'
def aCc (d G Y C M W vr m b t w)(h:Mg d w G Y C M W vr)(Q:Cv C Y.L):
 qC 239 #[.pointer$ some$ qR G 0,.agg$ qT m b t] w (EtP d w G Y C M W m b t):=by
 let⟨V,hV,bV,kV⟩:=nwb w (qT m b t) 121;have:G<w.heap.size:=h.k.lt;have N:=zh$ aLn d G Y C M W vr V$ h.bw bV;have E:=zh λ(X:qw)(p:TGx V X)=>show qn X w 0=some (.int .i64 m)/\qn X w 1=some (.int .i64 b)/\qn X w 2=some (.int .i64 t)from⟨(p.blk kV Jg).cell 0,(p.blk kV Jg).cell 1,(p.blk kV Jg).cell 2⟩;have a2:=zh λ(X:qw)(a0:Value)(p:Mg d X G Y C M W a0)=>aBj d G Y C M W a0 m b t X p Q.cf.2.1;have HV:=zh hV;have y0:=kV.three;have bd:=zh kV;have ay:=zh$ bP bV;clear hV bV kV;by_cases c0:C.tn<1000000000/\tgk C.ps m b t
 .refine Calls.mono (R:=λe a=>e=.returned (.bool true)/\∃M' a0,Mg d a G Y (eG C Y.L m b t) M' W a0/\TGx w a) ?_ (λe a he=>by unfold EtP;rw[if_pos c0];exact he);rw[xR c0]at a2;obtain⟨ht,hp,t0,t1⟩:=c0;let⟨_,bo,bj,bn,ai⟩:=Q.cf;have ax:=aUp (t:=t) Q hp;have I:=pA (s:=0) h.l ai hp;have:¬G=w.heap.size:=J
  have:¬w.heap.size=G:=J
  have au:=h.vs.1.1;have bb:=Q.g;have ae:=zh λ(X:qw)(M':Mn)(a0:Value)(p:Mg d X G Y (eG C Y.L m b t) M' W a0)=>(sQ d G Y _ M' W a0 X p ax).2 .returning;by_cases K:C.lz.length≠0/\b≠-1
  focus
   have hb:0<=b:=jK I.bb;have bg:=zh λ(X:qw)(g:Nat)(p:Mg d X G Y C M W (.slice (qP g) 1 1))(hr:Blk X g #[.int .i64 65536,.int .i64 14,.int .i64 0,.bool false,.bool true,.bool false] 231)=>aG1 d G g Y C M W m b t X p hr Q hp hb K.1 ht;have az:(M.cs !=0)=true:=by rw[au];simp;omega
   have bf:(b !=-1)=true:=by simp[K.2]
   have b7:=zh (show 65536<=Y.L.slots.getD (slq C.lz m b) 0/\Y.L.slots.getD (slq C.lz m b) 0<=100000 by have:=Q.slot$ oU (xs:=C.lz) m b K.1;omega);clear Q
   go_enter_defers func239,ntmps239
   go_wp2_with (rw[<-HV.o])
   apply N.mono;rintro e X1 ⟨rfl,g,h1,k1,U⟩;have l:=zh$ xA h1$ xA k1 U;have z0:=E X1 U;clear y0 h1 k1 U N HV;go_wp2_with fail
   apply(a2 X1 _ l.1).mono;rintro e X2 ⟨rfl,B⟩;have F:=zh$ xA (l.1.bw B)$ xA (l.2.1.bw B)$ l.2.2.trans$ bP B;clear B z0 l;have z0:=E X2 F.2.2;have x1:qN X2 G 1=some (.int .i64 M.cs):=F.1.k.cell 1;go_wp2_with fail
   apply(bg X2 g F.1 F.2.1).mono;rintro e X3 ⟨rfl,oa,on,oc,h3⟩;obtain⟨h3,T3⟩:=h3;obtain⟨y,a1⟩:∃y:Cn,y={ C with tn:=C.tn+1,lz:=C.lz.set (slq C.lz m b) (true,m,b,C.tn+1),rz:=ovr C.rz (Y.L.slots.getD (slq C.lz m b) 0-65536).toNat (bkb C.ps C.cw m b) }:=⟨_,rfl⟩;obtain⟨D,a3⟩:∃D:Mn,D={ M with tn:=C.tn+1,lz:=C.lz.set (slq C.lz m b) (true,m,b,C.tn+1),rz:=ovr C.rz (Y.L.slots.getD (slq C.lz m b) 0-65536).toNat$ bkb C.ps C.cw m b,oa:=oa,on:=on,oc:=oc,oz:=C.oz }:=⟨_,rfl⟩;rw[<-a1,<-a3]at h3;have a9:y.kz=C.kz:=by rw[a1]
   have aq:y.ps=C.ps:=by rw[a1]
   obtain⟨S,hS⟩:∃S:Int,S=((slq C.lz m b:Nat):Int):=⟨_,rfl⟩;have a8:hld y.lz m b=S:=by rw[a1,hS];exact aKj K.1 _
   have H:S=-1\/(b≠-1/\0<=S/\S<(Y.L.slots.length:Int)):=.inr ⟨K.2,J,jK$ oU (xs:=C.lz) m b K.1⟩
   have a4:0<=fH Y.L (plc C.ps m.toNat) b S/\fH Y.L (plc C.ps m.toNat) b S<=100000:=by
    unfold fH;rw[if_neg K.2,if_neg J,hS,xY];have:=b7.o;omega
   have O:=zh$ xA h3$ F.2.2.trans T3;have aa:=zh (show { y with md:=m,bk:=b,pc:=fH Y.L (plc C.ps m.toNat) b S+4*t,kz:=y.kz.set 7 (plc C.ps m.toNat).data }=eG C Y.L m b t by rw[a1,hS];unfold eG;rw[if_pos K]);clear h3 T3 z0 x1 a1 a3;have z0:=E X3 O.2
  rotate_left
  focus
   have hK:C.lz.length=0\/b=-1:=by
    by_cases q:b=-1
    .exact .inr q
    .exact .inl (xZ.1 λq'=>K ⟨q',q⟩)
   have b5:(M.cs !=0)=false\/((M.cs !=0)=true/\(b !=-1)=false):=by
    by_cases q:M.cs=0
    .exact .inl (by simp[q])
    .refine .inr ⟨by simp[q],?_⟩;rcases hK with hK|hK
     .exact absurd J q
     .simp[hK]
   obtain⟨y,a1⟩:∃y:Cn,y=C:=⟨_,rfl⟩;obtain⟨D,a3⟩:∃D:Mn,D=M:=⟨_,rfl⟩;obtain⟨S,hS⟩:∃S:Int,S=-1:=⟨_,rfl⟩
   have b4:=zh (show hld y.lz m b=S by
    rw[a1,hS];rcases hK with hK|hK
    .rw[xE hK];rfl
    .rw[hK];exact aD4 Q.s _)
   have b3:Zh (S=-1\/(b≠-1/\0<=S/\S<(Y.L.slots.length:Int))):=.inl hS;have b8:=zh (show 0<=fH Y.L (plc C.ps m.toNat) b S/\fH Y.L (plc C.ps m.toNat) b S<=100000 by rw[hS];exact aHu ai hp);have aa:=zh (show { y with md:=m,bk:=b,pc:=fH Y.L (plc C.ps m.toNat) b S+4*t,kz:=y.kz.set 7 (plc C.ps m.toNat).data }=eG C Y.L m b t by rw[a1,hS];unfold eG;rw[if_neg K]);have P:=zh$ xA a1 a3;have HS:=zh hS;clear Q hK K a1 a3 hS au;rcases b5 with az|⟨az,bf⟩
   all_goals
    go_enter_defers func239,ntmps239
    go_wp2_with (rw[<-HV.o])
    apply N.mono;rintro e X1 ⟨rfl,g,h1,k1,U⟩;have l:=zh$ xA h1 U;have z0:=E X1 U;clear y0 h1 k1 U N HV;go_wp2_with fail
    apply(a2 X1 _ l.1).mono;rintro e X3 ⟨rfl,B⟩;have O:Zh (Mg d X3 G Y y D W (.slice (qP g) 1 1)/\TGx V X3):=⟨by rw[P.o.1,P.o.2];exact l.o.1.bw B,l.o.2.trans$ bP B⟩;clear B z0 l;have z0:=E X3 O.2;have x1:qN X3 G 1=some (.int .i64 M.cs):=by rw[<-P.o.2];exact O.o.1.k.cell 1
    have a9:y.kz=C.kz:=by rw[P.o.1]
    have aq:y.ps=C.ps:=by rw[P.o.1]
    have a8:=b4.o;have H:=b3.o;have a4:=b8.o;have hS:=HS.o
  all_goals
   have e3:y.kz.length=8:=by rw[a9];exact bb
   obtain⟨gk,aj,bl⟩:∃gk,D.ka=some ⟨gk,0,none⟩/\D.kn=8:=by
    let⟨bi,aP,Ls,β,mm,_⟩:=O.1.m;have:=kD mm.k;let⟨g',cp,e,_⟩:=World.ownsRow.form mm.k.1 J;simp only[Value.slice.injEq]at e;exact⟨g',e.1,J⟩
   have b6:qN X3 G 10=some (.int .i64 D.md):=O.1.k.cell 10;have be:qN X3 G 11=some (.int .i64 D.bk):=O.1.k.cell 11;have f1:=O.1.k.frozen;let⟨X4,a6⟩:=aN$ ((X3.setCell ⟨G,10,none⟩$ .int .i64 m).setCell ⟨G,11,none⟩$ .int .i64 b).drew;have h4:Mg d X4 G Y { y with md:=m,bk:=b } { D with md:=m,bk:=b } W (.slice (qP g) 1 1):=by rw[a6];exact((O.o.1.put 10 (.int .i64 m) rfl λx=>x.smd m).put 11 (.int .i64 b) rfl λx=>x.sbk b).bw brf.drew
   have T4:TGx V X4:=by rw[a6];exact(O.o.2.trans (fD ((aC _ G 10 _).trans$ aC _ G 11 _) (λj hj=>by subst hj;exact⟨_,_,O.o.1.k,.inr$ .inl rfl⟩))).trans (bP brf.drew)
   have av:=zh a6;have ag:=zh$ xA h4 T4;have ab:=zb X4 λX p=>(vO d G Y _ _ W (.slice (qP g) 1 1) X$ h4.bw p).mono (λe a he=>show e=.returned (.int .i64 S)/\qY X4 a from⟨by rw[he.1];show Ending.returned (.int .i64$ hld y.lz m b)=_;rw[a8],yT p he.2⟩);let⟨Z,hZ⟩:=aN$ fH Y.L (plc C.ps m.toNat) b S
   have b0:=zh (λ(X:qw)(p:qY X4 X)=>(lP Y.L Y.a0 Y.c0 Y.xs Y.a2 Y.c2 Y.a5 Y.c5 Y.ts m b t S X (h4.bw p).ly I.m0 I.m1 I.bb H).mono (λe a he=>show e=.returned (.int .i64 Z)/\qY X4 a/\((a.setCell (qR G 5)$ .int .i64$ Z+4*t).cell? (qR G 15)=some (.slice Y.a0 Y.xs.length Y.c0)/\(a.setCell (qR G 5)$ .int .i64$ Z+4*t).cell? (qR G 16)=some (.int .i64 Y.L.stack)/\(a.setCell (qR G 5)$ .int .i64$ Z+4*t).cell? (qR G 17)=some (.slice Y.a2 Y.L.slots.length Y.c2)/\(a.setCell (qR G 5)$ .int .i64$ Z+4*t).cell? (qR G 18)=some (.int .i64 Y.L.flash)/\(a.setCell (qR G 5)$ .int .i64$ Z+4*t).cell? (qR G 19)=some (.int .i64 Y.L.ram)/\(a.setCell (qR G 5)$ .int .i64$ Z+4*t).cell? (qR G 20)=some (.slice Y.a5 Y.ts.length Y.c5))/\(qN a G 5=some (.int .i64 D.pc)/\a.frozen? (qR G 5)=false)by
    have hb:=yT p he.2;have q:=(h4.bw hb);have q5:=q.put 5 (.int .i64$ Z+4*t) rfl λx=>x.spc$ Z+4*t
    exact⟨by rw[he.1,hZ,aDk,I.p],hb,⟨q5.k.cell 15,q5.k.cell 16,q5.k.cell 17,q5.k.cell 18,q5.k.cell 19,q5.k.cell 20⟩,q.k.cell 5,q.k.frozen 5⟩))
   have HC:=zb X4 λX p=>show(qN X G 15=some (.slice Y.a0 Y.xs.length Y.c0)/\qN X G 16=some (.int .i64 Y.L.stack)/\qN X G 17=some (.slice Y.a2 Y.L.slots.length Y.c2)/\qN X G 18=some (.int .i64 Y.L.flash)/\qN X G 19=some (.int .i64 Y.L.ram)/\qN X G 20=some (.slice Y.a5 Y.ts.length Y.c5))/\qn X w 0=some (.int .i64 m)/\qn X w 1=some (.int .i64 b)/\qn X w 2=some (.int .i64 t)from⟨⟨(h4.bw p).k.cell 15,(h4.bw p).k.cell 16,(h4.bw p).k.cell 17,(h4.bw p).k.cell 18,(h4.bw p).k.cell 19,(h4.bw p).k.cell 20⟩,E X$ T4.trans$ bP p⟩;have ar:=zh (show { y with md:=m,bk:=b,pc:=Z+4*t,kz:=y.kz.set 7 (plc C.ps m.toNat).data }=eG C Y.L m b t by rw[hZ];exact aa.o);have:0<=Z:=by rw[hZ];exact a4.1
   have:Z<=100000:=by rw[hZ];exact a4.2
   have:t<=200:=jK I.w.2;have:IntKind.i64.wrap (4*t)=4*t:=by rw[xP,xQ _ J]
   have:IntKind.i64.wrap (Z+4*t)=Z+4*t:=by rw[xP,xQ _ J]
   have:=xA I.m0 I.m1;have:=xA I.d.1 I.d.2.1
   have aw:=zh (λ(X:qw)(p:qY d X)=>show ∃gp op,Y.a0=qe gp op/\gp<d.heap.size/\qN X gp (op+m.toNat*4+2)=some (.int .i64 (plc C.ps m.toNat).data)by
    let⟨gp,op,e,_,_,q2,_⟩:=h.l.p.at m.toNat$ jL I.m0 I.m1;rw[I.p]at q2
    exact⟨gp,op,e,xD d _ q2,aB p q2⟩)
   have b9:=h.l.p.2.1;unfold maxLen at b9;clear h h4 T4 a6 a9 aq a8 hZ H a4 aa I ax ai bj bn bo hS e3;generalize (plc C.ps m.toNat).data=dd at *;go_wp2_with fail
   go_region_held3 (λa=>qn a w 0=some (.int .i64 m)/\qn a w 1=some (.int .i64 b)/\qn a w 2=some (.int .i64 t)) (go_keep) (fail)
   rw[<-av.o];let⟨⟨l0,l1,l2,l3,l4,l5⟩,an,ao,ap⟩:=HC X4 brf;clear b6 be f1 z0 av O;go_wp2_with fail
   go_region_held3 (λa=>(qN a G 15=some (.slice Y.a0 Y.xs.length Y.c0)/\qN a G 16=some (.int .i64 Y.L.stack)/\qN a G 17=some (.slice Y.a2 Y.L.slots.length Y.c2)/\qN a G 18=some (.int .i64 Y.L.flash)/\qN a G 19=some (.int .i64 Y.L.ram)/\qN a G 20=some (.slice Y.a5 Y.ts.length Y.c5))/\qn a w 0=some (.int .i64 m)/\qn a w 1=some (.int .i64 b)/\qn a w 2=some (.int .i64 t)) (go_keep)
    (first
      | (go_at_call 149;first
          | with_reducible refine(ab.o _ brf).mono ?_
          | with_reducible refine(ab.o _ brf.drew).mono ?_
         rintro e Xa ⟨rfl,ad⟩
         let⟨⟨l0,l1,l2,l3,l4,l5⟩,an,ao,ap⟩:=HC Xa ad)
      | (go_at_call 198;with_reducible refine(b0.o _ ad).mono ?_
         rintro e Xb ⟨rfl,a5,⟨m0,m1,m2,m3,m4,m5⟩,p5,bh⟩
         let⟨⟨l0,l1,l2,l3,l4,l5⟩,an,ao,ap⟩:=HC Xb a5))
   have af:Mg d Xb G Y { y with md:=m,bk:=b } { D with md:=m,bk:=b } W (.slice (qP g) 1 1):=ag.1.bw a5;let⟨X5,a7⟩:=aN$ Xb.setCell ⟨G,5,none⟩$ .int .i64$ Z+4*t;have h5:Mg d X5 G Y { y with md:=m,bk:=b,pc:=Z+4*t } { D with md:=m,bk:=b,pc:=Z+4*t } W (.slice (qP g) 1 1):=by rw[a7];exact af.put 5 (.int .i64$ Z+4*t) rfl λx=>x.spc$ Z+4*t
   have T5:TGx V X5:=by rw[a7];exact(ag.o.2.trans$ bP a5).trans (fD (aC _ G 5 _) (λj hj=>by subst hj;exact⟨_,_,af.k,.inr$ .inl rfl⟩))
   have:X5.cell? (qR G 6)=some (.slice (some$ qR gk 0) 8 D.kc):=by have q:=h5.k.cell 6;rw[q];show some (Value.slice D.ka D.kn D.kc)=_;rw[aj,bl]
   let⟨gp,op,b1,bq,xd⟩:=aw X5 h5.b;have:qN X5 G 15=some (.slice (qe gp op) Y.xs.length Y.c0):=by rw[<-b1];exact h5.k.cell 15
   have y0:=E X5 T5
   obtain⟨⟨u,x7⟩,xf,ak,am,bm,bp,b2⟩:(∃u,X5.cell? ⟨gk,7,none⟩=some u)/\(∀i,X5.frozen? ⟨gk,i,none⟩=false)/\gk≠G/\gk≠w.heap.size/\d.heap.size<=gk/\∃cs,Blk X5 gk cs 3:=by
    obtain⟨bi,aP,Ls,β,mm,q1,q2⟩:=h5.m;have mk:=mm.k;have ah:OI X5 aP (.slice (some$ qR gk 0) D.kn D.kc) y.kz:=by rw[<-aj];exact mk
    let⟨cs,kb⟩:=aE ah.1 (k:=gk) rfl;have:=(ah.lt gk rfl).1;have:=mm.bm;refine⟨⟨_,ah.is.at 7 J⟩,kb.frozen,λe=>?_,λe=>?_,J,cs,kb⟩
    .subst e;exact absurd (aH kb h5.k) Ja
    .have kt:=T5.blk bd Jg;rw[<-e]at kt;exact absurd (aH kb kt) Ja
   have:¬gk=G:=ak;have:¬G=gk:=λe=>ak e.symm;have:¬gk=w.heap.size:=am;have:¬w.heap.size=gk:=λe=>am e.symm;have:¬gk=gp:=J
   have:¬gp=gk:=J
   have h6:Mg d (X5.setCell (qR gk 7)$ .int .i64 dd).drew G Y (eG C Y.L m b t) { D with md:=m,bk:=b,pc:=Z+4*t,kz:=y.kz.set 7 dd } W (.slice (qP g) 1 1):=by
    rw[<-ar.o];exact(h5.reg aj 7 (by show 7<D.kn;omega) dd Jh).bw brf.drew
   have ac:=zh (xA h6 ((T5.trans (fD (aC _ gk 7$ .int .i64 dd) (λj hj=>by subst hj;exact⟨_,_,b2,.inr$ .inr$ .inr rfl⟩))).trans$ bP brf.drew));have bc:=zh a7;clear h5 T5 h6 b2 bp af a7 ag ak am bm b1 ad a5 l0 l1 l2 l3 l4 l5 an ao ap HC b0 ab aw ar E;go_wp2_with (rw[<-bc.o])
   clear m0 m1 m2 m3 m4 m5 p5 bh
   go_region_held3 (λa=>qN a G 6=some (.slice (qP gk) 8 D.kc)/\qN a G 15=some (.slice (qe gp op) Y.xs.length Y.c0)/\qn a w 0=some (.int .i64 m)/\qN a gp (op+m.toNat*4+2)=some (.int .i64 dd)) (go_keep) (fail)
   go_wp2;refine leaves_cons (f:=83) (args:=#[.pointer$ qP G]) Jb (by simp[go_sem]) ?_;apply(ae _ _ _ ac.1).mono;rintro e u' ba ⟨rfl,rfl,A,k,c,hM,_,hT⟩;exact⟨_,results_tmp rfl _ _ _,rfl,_,_,hM,ay.trans (ac.2.trans (fD hT (λj hj=>by subst hj;exact⟨_,_,ac.1.k,.inr$ .inl rfl⟩)))⟩
 .refine Calls.mono (R:=λe a=>e=.returned (.bool false)/\∃a0,Mg d a G Y C M W a0/\TGx w a) ?_ (λe a he=>by unfold EtP;rw[if_neg c0];exact he);rw[xS c0]at a2;have ae:=zh λ(X:qw)(a0:Value)(p:Mg d X G Y C M W a0)=>(sQ d G Y C M W a0 X p Q.cz).2 .returning;clear h Q c0
  go_enter_defers func239,ntmps239
  go_wp2_with (rw[<-HV.o])
  apply N.mono;rintro e X1 ⟨rfl,g,h1,k1,U⟩;have l:=zh$ xA h1$ xA k1 U;have z0:=E X1 U;clear y0 h1 k1 U N HV;go_wp2_with fail
  apply(a2 X1 _ l.1).mono;rintro e X2 ⟨rfl,B⟩;have F:=zh$ xA (l.1.bw B)$ l.2.2.trans$ bP B;clear B z0;go_wp2;refine leaves_cons (f:=83) (args:=#[.pointer$ qP G]) Jb (by simp[go_sem]) ?_;apply(ae _ _ F.1).mono;rintro e u' ba ⟨rfl,rfl,A,k,c,hM,_,hT⟩;exact⟨_,results_tmp rfl _ _ _,rfl,_,hM,ay.trans (F.2.trans (fD hT (λj hj=>by subst hj;exact⟨_,_,F.1.k,.inr$ .inl rfl⟩)))⟩
variable {w W X:qw}{M:Mz}{pc pc':Int}{rg rg':qi}
def aTk (p s v w)(h:Pz w M pc rg)(q:0<=v/\v<=4294967295)(y:0<=p)(A:p<=4294967295):
 qC 278 #[.pointer$ some$ qR M.g 9,qI p,qI s,qI v] w λe W=>e=.returned (qI (M.wr p s v).2.2.2)/\∃a d b,Pz W (M.st a d b (M.wr p s v).1 (M.wr p s v).2.1 (M.wr p s v).2.2.1) pc rg/\Turn (Uz M) w W:=by
 let⟨t,B,C,D⟩:=h.p.mem;have l:=h.p.len;let⟨i,k⟩:=aN$ #[Value.int .u32 pc]++(rg.map$ Value.int .u32).toArray++#[M.v1,M.v2,M.v3,M.v4];have f:=h.p.blk;rw[<-k]at f;apply(oJ M.a1 M.a2 M.a3 M.n1 M.c1 M.n2 M.c2 M.n3 M.c3 M.g 9 M.b i 152 M.x1 M.x2 M.x3 p s v w f Ja (by rw[<-f.cell];exact t) (by rw[<-f.cell];exact B) (by rw[<-f.cell];exact C) h.o h.f h.b q y A).mono;rintro e W ⟨a,d,b,rfl,g,u,x,j⟩;refine⟨rfl,a,d,b,⟨⟨?_,l,h.p.pcw,h.p.rgw⟩,u,?_,xM h.b j.size⟩,j⟩
 .rw[show i.setIfInBounds (9+2) (qS a d b)=#[Value.int .u32 pc]++(rg.map$ Value.int .u32).toArray++#[M.v1,M.v2,qS a d b,M.v4] by
   subst k;apply Array.toList_inj.1;rw[xW];simp only[Array.toList_append];rw[List.set_append_right _ _ Jc]
   simp[l]]at g
  exact g
 .rintro v (rfl|rfl|rfl)
  .exact h.f _ (.inl rfl)
  .exact h.f _ (.inr$ .inl rfl)
  .exact x
def aTl (op d a i s w)(h:Pz w M pc rg)(x:RS w M.ra M.rn M.rc M.rs)(d0:0<=d)(d1:d<=7)(a0:0<=a)(a7:a<=7)(i0:0<=i)(i1:i<=65535):
 qC 226 #[.pointer$ qP M.g,.agg$ qW op d a i,qI s] w (OpP w M$ stz M.toCy pc rg d a i s):=by
 have y:qY w ((w.alloc$ .cells (qW op d a i) 186).alloc$ .cells #[qI 0,qI 0] 80):=bal.alloc Jb _;have kb:=(Blk.new w (qW op d a i) 186).alloc$ .cells #[qI 0,qI 0] 80;have P:=Blk.new (w.alloc$ .cells (qW op d a i) 186) #[qI 0,qI 0] 80;simp only[xF]at P;have Z:=h.bw y;have r0:=x.bw y;have F:=h.p.blk.lt;have HN:=zh λw h=>sF op d a i M.g pc rg M.v1 M.v2 M.v3 M.v4 w h a0 a7 i0 i1;have HD:=zh λw h=>aHs op d a i M.g pc rg M.v1 M.v2 M.v3 M.v4 w h d0 d1;have hv:=h.p.range d.toNat;let⟨r,t⟩:=aN$ stz M.toCy pc rg d a i s;rw[<-t];unfold stz Cy.al at t;rw[show(rg.getD a.toNat 0+eA i)%4294967296=atz rg a i from rfl]at HN;have z0:0<=atz rg a i/\atz rg a i<=4294967295:=by unfold atz m32;omega
 generalize atz rg a i=z at *;generalize rg.getD d.toNat 0=v at *;have HA:=zh λw h=>iD M.ra M.rn M.rc M.rs z s 2 w h ⟨J,J⟩;have HW:=zh λw h=>aTk (M:=M) (pc:=pc) (rg:=rg) z s v w h hv z0.1 z0.2;have HV:=zh (show IntKind.i64.wrap v=v by rw[IntKind.wrap_i64];omega);generalize alw M.rs M.rn z s 2=A at *;generalize M.wr z s v=Q at *;obtain⟨q1,q2,q3,f⟩:=Q;have E:=zh t;clear t x;have R:=zh λ(w:qw)(a3:qO)(n3 c3:Nat)(h:Pr w M.g pc rg M.v1 M.v2 (qS a3 n3 c3) M.v4)=>lA M.g pc rg _ _ _ _ w h
 delta qC;go_in
 go_wp2_with fail
 apply(HN _ Z.p).mono;rintro e w1 ⟨rfl,H⟩;have S:=Z.bw H;have U:=S.p.mem;go_wp2_with fail
 apply(HA _$ r0.bw H).mono;rintro e w2 ⟨rfl,I⟩;have p:=S.bw I;have O:=y.trans$ (yT H I).mono Jc;have l:=(kb.bw H).bw I;have j:=(P.bw H).bw I;clear U S Z kb P y r0 H I;have U:=p.p.mem;have e1:=j.two';cases A
 .have x:=E.o;rw[if_neg Jb]at x;subst x;let⟨R,b,k⟩:=pB F p j (aI O) J 5 5;clear p j l O;go_wp2;exact bodyPost_ret (v:=.agg #[qI 5,qI 5]) (by simp[results,results226,go_sem,b,k]) rfl R.o
 .have⟨X,Y,k3,k4,k5⟩:=l.four';go_wp2_with fail
  go_region_held3 (λC=>qn C w 0=qj op/\qn C w 1=qj d/\qn C w 2=qj a/\qn C w 3=qj i) (go_keep)
   (first
     | (go_at_call 208;refine(HD _ ?_).mono ?_;exact⟨p.p.blk,p.p.len,p.p.pcw,p.p.rgw⟩;rintro e w3 ⟨rfl,q⟩;replace q:=aW q;obtain⟨X,Y,k3,k4,k5⟩:=(l.bw q).four')
     | (go_at_call 278;rw[HV.o];refine(HW.o _$ p.bw q).mono ?_;rintro e w4 ⟨rfl,l3,l4,l5,B,K⟩;obtain⟨X,Y,k3,k4,k5⟩:=((p.bw q).kp K (l.bw q) Ja J).four'))
  have N:Turn (Uz M) w w4:=(aI$ yT O q).trans K;have g:=(p.bw q).kp K (j.bw q) Ja J;clear X Y k3 k4 k5 U e1 q K l j O p;have e1:=g.two';by_cases W:f=0
  .subst W;have x:=E.o;subst x;go_wp2_with fail
   apply(R _ _ _ _ B.p).mono;rintro e w5 ⟨rfl,rfl⟩;have:=B.p.pc;have:=B.p.blk.frozen 0;let⟨u,hu⟩:=aN$ (pc+4)%4294967296;have HU:=zh hu;have V:=aM w4 M.g 0$ .int .u32 u;have D:=g.other (qR M.g 0) (.int .u32 u) Jd;let⟨G,b,k⟩:=pB F (B.turn V$ B.p.setpc u J) D (N.trans$ V.mono λ_=>.inl) J 0 0;rw[<-hu];have:=D.two';clear hu B N g D V;go_wp2;exact bodyPost_ret (v:=.agg #[qI 0,qI 0]) (by simp[results,results226,go_sem,b,k]) rfl (by show OpP w M ⟨0,0,(pc+4)%4294967296,_,_,_,_⟩ _ _;rw[<-HU.o];exact G.o)
  .have a2:(f !=0)=true:=by simpa using W
   have x:=E.o;simp only[reduceIte,W]at x;subst x;let⟨G,b,k⟩:=pB F B g N J 5 f;clear B g N;go_wp2;exact bodyPost_ret (v:=.agg #[qI 5,qI f]) (by simp[results,results226,go_sem,b,k]) rfl G.o
variable {w W X:qw}{M:Mz}{pc pc':Int}{rg rg':qi}
def opL:List Nat:=[203,205,207,209,211,212,214,215,216,217,218,219,220,221,223,224,225,227,228,229,231,232,233,235,236]
def aDn {C:Cy}(h:2<=op)(f:op<=13):opz C op d a i pc rg=C.go 0 0 (m32$ pc+4) (rg.set d.toNat$ alu op i (rg.getD d.toNat 0)$ rg.getD a.toNat 0):=by
 unfold opz
 repeat rw[if_neg J]
 grind
def aWd (k:Nat)(O:k<12)(op d a i w)(h:Pz w M pc rg)(E:op=(k:Int)+2)(H:0<=d)(F:d<=7)(K:0<=a)(I:a<=7)(B:0<=i)(u:i<=65535):
 qC (opL.getD (k+1) 0) #[.pointer$ qP M.g,.agg$ qW op d a i] w (OpP w M$ opz M.toCy op d a i pc rg):=by
 have p:qY w ((w.alloc$ .cells (qW op d a i) 186).alloc$ .cells #[qI 0,qI 0] 80):=bal.alloc Jb _;have kb:=(Blk.new w (qW op d a i) 186).alloc$ .cells #[qI 0,qI 0] 80;have j:=Blk.new (w.alloc$ .cells (qW op d a i) 186) #[qI 0,qI 0] 80;simp only[xF]at j;have s:=h.p.blk.lt;have N:=zh λw h=>aHs op d a i M.g pc rg M.v1 M.v2 M.v3 M.v4 w h H F;have Q:=zh λw h=>aN7 op d a i M.g pc rg M.v1 M.v2 M.v3 M.v4 w h K I;have R:=zh λw h=>sF op d a i M.g pc rg M.v1 M.v2 M.v3 M.v4 w h K I B u;obtain⟨z0,z1⟩:=h.p.range d.toNat;obtain⟨X,Y⟩:=h.p.range a.toNat;have A:=aEr B u z0 z1 X Y k O;have x:Zh (∀w,Pz w M pc rg->qC 206 #[.pointer$ qP M.g,.agg$ qW op d a i,.int .u32$ aSv k i (rg.getD d.toNat 0)$ rg.getD a.toNat 0] w (OpP w M$ opz M.toCy op d a i pc rg)):=λw h=>(aFn op d a i _ M.g pc rg M.v1 M.v2 M.v3 M.v4 w h.p H F A.2.1 A.2.2).mono λe W q=>by rw[aDn J J,E,show(k:Int)+2=(k+2:Nat)from rfl,<-A.1];exact opT h q
 obtain⟨r,hr⟩:=aN$ opz M.toCy op d a i pc rg;rw[<-hr]at x⊢;generalize rg.getD d.toNat 0=z at *;generalize rg.getD a.toNat 0=y at *;have:Op.shift .shl .u32 z .u32 (bits .and .u32 y 31)=pure (.int .u32$ alu 12 i z y):=by rw[aO1 y X Y,shift_shl_u32 _ _ _ J J,IntKind.wrap_u32];rfl
 have:Op.shift .shr .u32 z .u32 (bits .and .u32 y 31)=pure (.int .u32$ alu 13 i z y):=by rw[aO1 y X Y,shift_shr_u32 _ _ _ J J];rfl
 have f:=h.bw p;have l:=p;obtain⟨b,t,C,G,S⟩:=kb.four';obtain⟨e1,e2,e3⟩:=j.two';clear h p;clear A hr E z0 z1 X Y;rcases(show k=0\/k=1\/k=2\/k=3\/k=4\/k=5\/k=6\/k=7\/k=8\/k=9\/k=10\/k=11 from J)with rfl|rfl|rfl|rfl|rfl|rfl|rfl|rfl|rfl|rfl|rfl|rfl
 show qC 205 _ _ _;go_enter func205,ntmps205;rotate_left;show qC 207 _ _ _;go_enter func207,ntmps207;rotate_left;show qC 209 _ _ _;go_enter func209,ntmps209;rotate_left;show qC 211 _ _ _;go_enter func211,ntmps211;rotate_left;show qC 212 _ _ _;go_enter func212,ntmps212;rotate_left;show qC 214 _ _ _;go_enter func214,ntmps214;rotate_left;show qC 215 _ _ _;go_enter func215,ntmps215;rotate_left;show qC 216 _ _ _;go_enter func216,ntmps216;rotate_left;show qC 217 _ _ _;go_enter func217,ntmps217;rotate_left;show qC 218 _ _ _;go_enter func218,ntmps218;rotate_left;show qC 219 _ _ _;go_enter func219,ntmps219;rotate_left;show qC 220 _ _ _;go_enter func220,ntmps220;rotate_left
 all_goals
  go_wp2_with fail
  first
  | (go_at_call 206;refine(x.o _ (by first|exact f|exact f.drew)).mono ?_;intro e P q;obtain⟨rfl,U,Z,c0,c1⟩:=gV f l s j J q;obtain⟨b,t,C,G,S⟩:=(f.kp U kb Ja J).four';obtain⟨e1,e2,e3⟩:=(f.kp U j Ja J).two';clear q)
  | go_region_held3 (λV=>V.cell? (qR w.heap.size 0)=some (qI op)/\V.cell? (qR w.heap.size 1)=some (qI d)/\V.cell? (qR w.heap.size 2)=some (qI a)/\V.cell? (qR w.heap.size 3)=some (qI i)) (go_keep)
    (first
      | (go_at_call 208;refine(N.o _ (by first|exact f.p|exact f.drew.p)).mono ?_;rintro e D ⟨rfl,g⟩;(try replace g:=aW g);replace l:=l.trans$ g.mono l.size;replace f:=f.bw g;replace kb:=kb.bw g;replace j:=j.bw g;obtain⟨b,t,C,G,S⟩:=kb.four';obtain⟨e1,e2,e3⟩:=j.two')
      | (go_at_call 210;refine(Q.o _ (by first|exact f.p|exact f.drew.p)).mono ?_;rintro e D ⟨rfl,g⟩;(try replace g:=aW g);replace l:=l.trans$ g.mono l.size;replace f:=f.bw g;replace kb:=kb.bw g;replace j:=j.bw g;obtain⟨b,t,C,G,S⟩:=kb.four';obtain⟨e1,e2,e3⟩:=j.two')
      | (go_at_call 213;refine(R.o _ (by first|exact f.p|exact f.drew.p)).mono ?_;rintro e D ⟨rfl,g⟩;(try replace g:=aW g);replace l:=l.trans$ g.mono l.size;replace f:=f.bw g;replace kb:=kb.bw g;replace j:=j.bw g;obtain⟨b,t,C,G,S⟩:=kb.four';obtain⟨e1,e2,e3⟩:=j.two')
      | (go_at_call 206;refine(x.o _ (by first|exact f|exact f.drew)).mono ?_;intro e P q;obtain⟨rfl,U,Z,c0,c1⟩:=gV f l s j J q;obtain⟨b,t,C,G,S⟩:=(f.kp U kb Ja J).four';obtain⟨e1,e2,e3⟩:=(f.kp U j Ja J).two';clear q))
  all_goals
   obtain⟨u,i2,i3,i4,i5,i6,i7⟩:=r;go_wp2;exact bodyPost_ret (v:=.agg #[qI u,qI i2]) (by simp[results,results205,results207,results209,results211,results212,results214,results215,results216,results217,results218,results219,results220,go_sem,c0,c1]) rfl Z.o
variable {w W X:qw}{M:Mz}{pc pc':Int}{rg rg':qi}
def aWc (k:Nat)(P:k<6)(op d a i w)(h:Pz w M pc rg)(O:RS w M.ra M.rn M.rc M.rs)(p:op=(k:Int)+14)(E:0<=d)(B:d<=7)(H:0<=a)(F:a<=7)(x:0<=i)(l:i<=65535):
 qC (opL.getD (k+13) 0) #[.pointer$ qP M.g,.agg$ qW op d a i] w (OpP w M$ opz M.toCy op d a i pc rg):=by
 have f:qY w ((w.alloc$ .cells (qW op d a i) 186).alloc$ .cells #[qI 0,qI 0] 80):=bal.alloc Jb _;have kb:=(Blk.new w (qW op d a i) 186).alloc$ .cells #[qI 0,qI 0] 80;have g:=Blk.new (w.alloc$ .cells (qW op d a i) 186) #[qI 0,qI 0] 80;simp only[xF]at g;have u:=h.p.blk.lt;let⟨r,b⟩:=aN$ opz M.toCy op d a i pc rg;rw[<-b];have I:Zh (∀s w,r=ldz M.toCy pc rg d a i s->Pz w M pc rg->RS w M.ra M.rn M.rc M.rs->qC 222 #[.pointer$ qP M.g,.agg$ qW op d a i,qI s] w (OpP w M r)):=λs w hs h r=>by rw[hs];exact aU1 op d a i s w h r E B H F x l
 have N:Zh (∀s w,r=stz M.toCy pc rg d a i s->Pz w M pc rg->RS w M.ra M.rn M.rc M.rs->qC 226 #[.pointer$ qP M.g,.agg$ qW op d a i,qI s] w (OpP w M r)):=λs w hs h r=>by rw[hs];exact aTl op d a i s w h r E B H F x l
 have A:=zh b;have j:=h.bw f;have K:=f;let⟨S,U,V,W,X⟩:=kb.four';let⟨e1,e2,e3⟩:=g.two';have y:=O.bw f;rcases(show k=0\/k=1\/k=2\/k=3\/k=4\/k=5 from J)with rfl|rfl|rfl|rfl|rfl|rfl
 all_goals simp at p;have D:=zh p;clear p
 show qC 221 _ _ _;go_enter func221,ntmps221;rotate_left;show qC 223 _ _ _;go_enter func223,ntmps223;rotate_left;show qC 224 _ _ _;go_enter func224,ntmps224;rotate_left;show qC 225 _ _ _;go_enter func225,ntmps225;rotate_left;show qC 227 _ _ _;go_enter func227,ntmps227;rotate_left;show qC 228 _ _ _;go_enter func228,ntmps228;rotate_left
 all_goals
  go_wp2_with fail
  first|(go_at_call 222;refine(I.o _ _ (by rw[A.o,D.o];simp[opz]) (by exact j) (by exact y)).mono ?_)|(go_at_call 226;refine(N.o _ _ (by rw[A.o,D.o];simp[opz]) (by exact j) (by exact y)).mono ?_)
  intro e Q q;obtain⟨rfl,Y,t,C,G⟩:=gV j K u g J q;clear S U V W X e1 e2 e3;obtain⟨e1,e2,e3⟩:=(j.kp Y g Ja J).two';clear q;obtain⟨l,R,Z,i4,i5,i6,i7⟩:=r;go_wp2;exact bodyPost_ret (v:=.agg #[qI l,qI R]) (by simp[results,results221,results223,results224,results225,results227,results228,go_sem,C,G]) rfl t.o
variable {w W X:qw}{M:Mz}{pc pc':Int}{rg rg':qi}
def vZ {C:Cy}(h:op=1\/20<=op):opz C op d a i pc rg=C.go (ev op i$ m32$ pc+4).1 (ev op i$ m32$ pc+4).2 (if jmp op (rg.getD d.toNat 0)=true then m32 (pc+4+4*eA i) else m32 (pc+4)) rg:=by
 unfold opz
 repeat rw[if_neg J]
def aWb (k:Nat)(S:k<7)(op d a i w)(h:Pz w M pc rg)(A:op=if k=0 then 1 else (k:Int)+19)(Q:0<=d)(P:d<=7)(Z:0<=a)(V:a<=7)(H:0<=i)(B:i<=65535):
 qC (opL.getD (if k=0 then 0 else k+18) 0) #[.pointer$ qP M.g,.agg$ qW op d a i] w (OpP w M$ opz M.toCy op d a i pc rg):=by
 have u:qY w ((w.alloc$ .cells (qW op d a i) 186).alloc$ .cells #[qI 0,qI 0] 80):=bal.alloc Jb _;have kb:=(Blk.new w (qW op d a i) 186).alloc$ .cells #[qI 0,qI 0] 80;have g:=Blk.new (w.alloc$ .cells (qW op d a i) 186) #[qI 0,qI 0] 80;simp only[xF]at g;have l:=h.p.blk.lt;have N:=zh λw h=>aHs op d a i M.g pc rg M.v1 M.v2 M.v3 M.v4 w h Q P;have R:=zh λw h=>tS op d a i M.g pc rg M.v1 M.v2 M.v3 M.v4 w h H B;have:=h.p.range d.toNat;let⟨r,hr⟩:=aN$ opz M.toCy op d a i pc rg;rw[<-hr];rw[vZ (by split at A<;>omega)]at hr;generalize rg.getD d.toNat 0=z at *;have I:Zh (∀w t,t=jmp op z->ev op i (m32$ pc+4)=(0,0)->Pz w M pc rg->qC 230 #[.pointer$ qP M.g,.agg$ qW op d a i,.bool t] w (OpP w M r)):=λw t F E h=>(aLt op d a i t M.g pc rg M.v1 M.v2 M.v3 M.v4 w h.p H B).mono λe W q=>by rw[hr,E,<-F];exact opT h q
 have K:Zh (∀w x y,(x,y)=ev op i (m32$ pc+4)->jmp op z=false->Pz w M pc rg->qC 204 #[.pointer$ qP M.g,qI x,qI y] w (OpP w M r)):=λw x y F E h=>(aHr x y M.g pc rg M.v1 M.v2 M.v3 M.v4 w h.p).mono λe W q=>by rw[hr,E,<-F];exact opT h q
 have f:=h.bw u;have s:=u;let⟨C,G,U,X,Y⟩:=kb.four';let⟨e1,e2,e3⟩:=g.two';clear h u hr;rcases(show k=0\/k=1\/k=2\/k=3\/k=4\/k=5\/k=6 from J)with rfl|rfl|rfl|rfl|rfl|rfl|rfl
 all_goals simp at A;have p:=zh A;clear A
 show qC 203 _ _ _;go_enter func203,ntmps203;rotate_left;show qC 229 _ _ _;go_enter func229,ntmps229;rotate_left;show qC 231 _ _ _;go_enter func231,ntmps231;rotate_left;show qC 232 _ _ _;go_enter func232,ntmps232;rotate_left;show qC 233 _ _ _;go_enter func233,ntmps233;rotate_left;show qC 235 _ _ _;go_enter func235,ntmps235;rotate_left;show qC 236 _ _ _;go_enter func236,ntmps236;rotate_left
 all_goals
  go_wp2_with fail
  first
  | (go_at_call 230;refine(I.o _ _ (by rw[p.o];first|(simp[jmp];done)|(rw[xJ];simp[jmp];done)|(rw[xJ];simp[jmp];omega)) (by rw[p.o];rfl) (by first|exact f|exact f.drew)).mono ?_;intro e D q;obtain⟨rfl,b,HX,c0,c1⟩:=gV f s l g J q;obtain⟨C,G,U,X,Y⟩:=(f.kp b kb Ja J).four';obtain⟨e1,e2,e3⟩:=(f.kp b g Ja J).two';clear q)
  | (go_at_call 204;refine(K.o _ _ _ (by rw[p.o];first|rfl|exact congrArg (Prod.mk _) (by unfold m32;omega)) (by rw[p.o];simp[jmp]) (by first|exact f|exact f.drew)).mono ?_;intro e D q;obtain⟨rfl,b,HX,c0,c1⟩:=gV f s l g J q;obtain⟨C,G,U,X,Y⟩:=(f.kp b kb Ja J).four';obtain⟨e1,e2,e3⟩:=(f.kp b g Ja J).two';clear q)
  | (go_at_call 234;refine(R.o _ (by first|exact f.p|exact f.drew.p)).mono ?_;rintro e O ⟨rfl,j⟩;(try replace j:=aW j);replace s:=yT s j;replace f:=f.bw j;replace kb:=kb.bw j;replace g:=g.bw j;obtain⟨C,G,U,X,Y⟩:=kb.four';obtain⟨e1,e2,e3⟩:=g.two';go_wp2_with fail;go_at_call 204;refine(K.o _ _ _ (by rw[p.o];first|rfl|exact congrArg (Prod.mk _) (by unfold m32;omega)) (by rw[p.o];simp[jmp]) (by first|exact f|exact f.drew)).mono ?_;intro e D q;obtain⟨rfl,b,HX,c0,c1⟩:=gV f s l g J q;obtain⟨C,G,U,X,Y⟩:=(f.kp b kb Ja J).four';obtain⟨e1,e2,e3⟩:=(f.kp b g Ja J).two';clear q)
  | go_region_held3 (λw'=>qn w' w 0=qj op/\qn w' w 1=qj d/\qn w' w 2=qj a/\qn w' w 3=qj i) (go_keep)
    (first
      | (go_at_call 208;refine(N _ (by first|exact f.p|exact f.drew.p)).mono ?_;rintro e O ⟨rfl,j⟩;(try replace j:=aW j);replace s:=yT s j;replace f:=f.bw j;replace kb:=kb.bw j;replace g:=g.bw j;obtain⟨C,G,U,X,Y⟩:=kb.four';obtain⟨e1,e2,e3⟩:=g.two')
      | (go_at_call 230;refine(I.o _ _ (by rw[p.o];first|(simp[jmp];done)|(rw[xJ];simp[jmp];done)|(rw[xJ];simp[jmp];omega)) (by rw[p.o];rfl) (by first|exact f|exact f.drew)).mono ?_;intro e D q;obtain⟨rfl,b,HX,c0,c1⟩:=gV f s l g J q;obtain⟨C,G,U,X,Y⟩:=(f.kp b kb Ja J).four';obtain⟨e1,e2,e3⟩:=(f.kp b g Ja J).two';clear q))
  all_goals
   obtain⟨B,i2,i3,i4,i5,i6,i7⟩:=r;go_wp2;exact bodyPost_ret (v:=.agg #[qI B,qI i2]) (by simp[results,results203,results229,results231,results232,results233,results235,results236,go_sem,c0,c1]) rfl HX.o
variable {w W X:qw}{M:Mz}{pc pc':Int}{rg rg':qi}
def fez (C:Cy)(pc:Int):Int:=if C.al pc 4 3=true then if (C.rd pc 4).2=0 then if dOk (C.rd pc 4).1=true then 0 else 6 else (C.rd pc 4).2 else 5
def fiz (f x:Int):Value:=if f=0 then .agg (qW (x/67108864) (x/8388608%8) (x/1048576%8)$ x%65536) else .agg (qW 0 0 0 0)
def aTm (w)(h:Pz w M pc rg)(hr:RS w M.ra M.rn M.rc M.rs):
 qC 153 #[.pointer$ qP M.g] w (qB w$ .tuple #[fiz (fez M.toCy pc) (M.rd pc 4).1,qI$ fez M.toCy pc]):=by
 have s:qY w (w.alloc$ .cells (qW 0 0 0 0) 186):=bal;have kr:=Blk.new w (qW 0 0 0 0) 186;have S:=h.bw s;have r0:=hr.bw s;let⟨p0,p1⟩:=h.p.pcw;let⟨f,a0⟩:=aN$ fez M.toCy pc;rw[<-a0];unfold fez Cy.al Cy.rd at a0;unfold Cy.rd;have HA:=zh λw h=>iD M.ra M.rn M.rc M.rs pc 4 3 w h ⟨J,J⟩;have HR:=zh λw h1 h2=>iRd M.a1 M.a2 M.a3 M.n1 M.c1 M.n2 M.c2 M.n3 M.c3 M.x1 M.x2 pc 4 w h1 h2 p0 p1;generalize alw M.rs M.rn pc 4 3=A at *;generalize rd M.n1 M.n2 M.n3 M.x1 M.x2 pc 4=R at *;obtain⟨x,q⟩:=R;have I:=zh a0;let⟨v,hv⟩:=aN$ fiz f x;rw[<-hv];have H:=zh hv;clear a0 hv h hr;have HD:=zh λw=>aGh x w;have E:=zh (show IntKind.i64.wrap pc=pc by rw[IntKind.wrap_i64];omega);have hc:=S.p.pc;have m1:=S.p.mem
 delta qC;go_in
 go_wp2_with fail
 go_region_held3 (λt=>qN t M.g 0=some (.int .u32 pc)/\qN t M.g 12=some M.v4) (go_keep)
  (first
    | (go_at_call 200;rw[E.o];refine(HA.o _ (by exact r0)).mono ?_;rintro e w1 ⟨rfl,B⟩;replace B:=aW B;have y:=S.bw B;have V:=y.p.pc;obtain⟨o1,o2,o3,o4⟩:=y.p.mem))
 have l:=kr.bw B;have O:=s.trans$ B.mono Jb;clear B S r0 kr s hc m1;have g:=λ{X:qw}(k:Blk X w.heap.size (qW 0 0 0 0) 186)(hB:qY w X)(o d a i:Int)=>(show Zh (qY w _)/\_ from⟨lC aO hB o d a i,(nV k o d a i).four'⟩);have P:=l.four';cases A
 .obtain rfl:f=5:=I.o;let⟨HB,C,G,W,Y,y5⟩:=g l O 0 0 0 0;obtain rfl:v=.agg (qW 0 0 0 0):=H.o;clear l O y g;go_wp2;exact bodyPost_ret (v:=.tuple #[.agg$ qW 0 0 0 0,qI 5]) (by simp[results,results153,go_sem,C,G,W,Y]) rfl ⟨rfl,HB.o⟩
 .go_wp2_with fail
  go_region_held3 (λt=>qN t M.g 0=some (.int .u32 pc)/\qN t M.g 9=some M.v1/\qN t M.g 10=some M.v2/\qN t M.g 11=some M.v3) (go_keep)
   (first
     | (go_at_call 201;rw[E.o];refine(HR.o _ (by exact y.o.1.bs) (by exact y.o.2.1.bs)).mono ?_;rintro e w2 ⟨rfl,D⟩;replace D:=aW D;have Q:=y.bw D;have U:=Q.p.pc;obtain⟨j1,j2,j3,j4⟩:=Q.p.mem))
  have j:=l.bw D;have K:=yT O D;clear D y l O V o1 o2 o3 o4 P;have P:=j.four';by_cases N:q=0
  .subst N;go_wp2_with fail
   apply(HD _).mono;have u:=I.o;clear I;intro e w3 hd;unfold oB at hd;let⟨b,hb⟩:=aN$ dOk x
   obtain⟨o,d,a,i,hd,hv,hz⟩:∃o d a i,gC w2 o d a i b e w3/\v=.agg (qW o d a i)/\(b=false->o=0/\d=0/\a=0/\i=0):=by
    rw[<-hb]at hd u;have e:=H.o;cases b
    .exact⟨_,_,_,_,hd,by rw[e,u];rfl,λ_=>⟨rfl,rfl,rfl,rfl⟩⟩
    .exact⟨_,_,_,_,hd,by rw[e,u];rfl,λe=>by cases e⟩
   obtain⟨rfl,b3⟩:=hd;have p:=j.bw b3;have Z:=yT K b3;let⟨HB,C,G,W,Y,y5⟩:=g p Z o d a i;have F:=zh (HB.o.alloc (by simp only[aK];exact Z.size)$ .cells (qW o d a i) 186);have KK:=((nV p o d a i).alloc$ .cells (qW o d a i) 186).four';obtain⟨C,G,W,Y,y5⟩:=KK;clear P U j1 j2 j3 j4 g H;have:=p.lt;have P:=p.four';clear p Z j K Q b3;subst hv;rw[<-hb]at u;clear hb;cases b
   .obtain⟨rfl,rfl,rfl,rfl⟩:=hz rfl;obtain rfl:f=6:=u;go_wp2;exact bodyPost_ret (v:=.tuple #[.agg$ qW 0 0 0 0,qI 6]) (by simp[results,results153,go_sem,C,G,W,Y]) rfl ⟨rfl,F.o⟩
   .obtain rfl:f=0:=u;clear hz;go_wp2;exact bodyPost_ret (v:=.tuple #[.agg$ qW o d a i,qI 0]) (by simp[results,results153,go_sem,C,G,W,Y]) rfl ⟨rfl,F.o⟩
  .have a1:(q !=0)=true:=by simpa using N
   have u:=I.o;simp only[reduceIte,N]at u;subst u;let⟨HB,C,G,W,Y,y5⟩:=g j K 0 0 0 0;obtain rfl:v=.agg (qW 0 0 0 0):=by rw[H.o,fiz,if_neg N]
   clear j K Q g;go_wp2;exact bodyPost_ret (v:=.tuple #[.agg$ qW 0 0 0 0,qI f]) (by simp[results,results153,go_sem,C,G,W,Y]) rfl ⟨rfl,HB.o⟩
variable {w W X:qw}{M:Mz}{pc pc':Int}{rg rg':qi}
abbrev opV (k:Nat):Value:=.func (Fn.func (opL.getD k 0)) #[] #[]
def opR:Array Value:=(Value.nilFunc::opL.map λf=>.func (Fn.func f) #[] #[]).toArray
def nilR:Array Value:=#[.nilFunc,.nilFunc,.nilFunc,.nilFunc,.nilFunc,.nilFunc,.nilFunc,.nilFunc,.nilFunc,.nilFunc,.nilFunc,.nilFunc,.nilFunc,.nilFunc,.nilFunc,.nilFunc,.nilFunc,.nilFunc,.nilFunc,.nilFunc,.nilFunc,.nilFunc,.nilFunc,.nilFunc,.nilFunc,.nilFunc]
def aK7 (w:World)(t):(w.alloc$ .cells nilR t).there w.heap.size 0 26:=by
 intro j f;have k:=Blk.new w nilR t;rw[Nat.zero_add];refine⟨?_,k.frozen j⟩;rw[k.cell,Array.getElem?_eq_getElem$ show j<nilR.size from f];rfl
def aQw:(opR.all λx=>x.oneCell')=true:=Je
def uA (B b:Nat)(a:World)(f:B<=b):∀(vs:List Value)(o:Nat)(w:World),Below B a w->Below B a (w.setCells b o vs)
 | [],o,w,h=>h
 | v::vs,o,w,h=>uA B b a f vs (o+1) _$ h.setCell (p:=⟨b,o,none⟩) f v
def aU0 (k:Nat)(q:k<25)(op)(p:op=(k:Int)+1)(w):qC 154 #[qI op] w (qB w$ opV k):=by
 have l:=zh$ aK7 w 260;have x:0<=op:=J
 have y:op<26:=J
 have hc:((w.alloc$ .cells nilR 260).setCells (qs w) 0 opR.toList).cell? (qh w op.toNat)=some (opV k):=by
  have:=World.rangeAt_setCells_same _ w.heap.size 0 opR.toList l.o (k+1) (opV k) (by simp only[opR,List.getElem?_cons_succ,List.getElem?_map,opV];rw[xB,List.getElem?_eq_getElem$ show k<opL.length from q];rfl);rw[show op.toNat=0+(k+1)from J];exact this
 have u:=zh$ uA (qs w) (qs w) w aO opR.toList 0 _$ bal (o:=.cells nilR 260);clear p
 delta qC;go_in
 go_wp2_with ((with_reducible refine wpList_store_mid rfl 260 (Operand.tmp 3) (Operand.tmp 4) rfl w.heap.size 0 opR ?_ ?_ ?_ ?_ ?_ ?_);rfl;rfl;exact l.o;kernel_rfl;exact aQw;have f:=hc;have j:=u;generalize g:(w.alloc$ Obj.cells nilR 260).setCells w.heap.size 0 opR.toList=s at f j;(first|rw[show(w.alloc$ Obj.cells #[.nilFunc,.nilFunc,.nilFunc,.nilFunc,.nilFunc,.nilFunc,.nilFunc,.nilFunc,.nilFunc,.nilFunc,.nilFunc,.nilFunc,.nilFunc,.nilFunc,.nilFunc,.nilFunc,.nilFunc,.nilFunc,.nilFunc,.nilFunc,.nilFunc,.nilFunc,.nilFunc,.nilFunc,.nilFunc,.nilFunc] 260).setCells w.heap.size 0 opR.toList=s from g]);clear g hc)
 go_ret;exact⟨rfl,j.o⟩
variable {w W X:qw}{M:Mz}{pc pc':Int}{rg rg':qi}
def zop (k:Nat)(D:k<25)(op d a i w)(h:Pz w M pc rg)(x:RS w M.ra M.rn M.rc M.rs)(B:op=(k:Int)+1)(q:0<=d)(l:d<=7)(p:0<=a)(f:a<=7)(g:0<=i)(s:i<=65535):
 qC (opL.getD k 0) #[.pointer$ qP M.g,.agg$ qW op d a i] w (OpP w M$ opz M.toCy op d a i pc rg):=by
 by_cases u:k=0\/19<=k
 .obtain⟨j,y,e⟩:∃j,j<7/\k=if j=0 then 0 else j+18:=by
   rcases u with rfl|u
   .exact⟨0,J,rfl⟩
   .exact⟨k-18,J,by grind⟩
  rw[e];exact aWb j y op d a i w h (by grind) q l p f g s
 .by_cases A:k<=12
  .have:=aWd (k-1) J op d a i w h J q l p f g s
   grind
  .have:=aWc (k-13) J op d a i w h x J q l p f g s
   grind
def aI3 {x:Int}(h:dOk x=true):1<=x/67108864/\x/67108864<=25:=by
 unfold dOk okI okU at h;simp only[Bool.and_eq_true,decide_eq_true_eq]at h;by_cases hc:x/67108864<=0\/26<=x/67108864
 .rw[aCi _ hc]at h;omega
 .omega
def aRh (f)(g:f∈opL)(a w):(callFunc f a).run prog w=.ok (.enter f a) w:=by
 repeat(rcases List.mem_cons.1 g with rfl|g;· go_simp)
 cases g
def OpP.more {r:Res}(q:OpP w M r e W)(o):OpP w M r e (W.alloc o):=by
 obtain⟨a,d,b,h,H,T⟩:=q;exact⟨a,d,b,h,H.bw bal,T.trans$ cN _ _⟩
def spz (C:Cy)(pc:Int)(rg:qi):Res:=
 if fez C pc=0 then opz C ((C.rd pc 4).1/67108864) ((C.rd pc 4).1/8388608%8) ((C.rd pc 4).1/1048576%8) ((C.rd pc 4).1%65536) pc rg else C.go 5 (fez C pc) pc rg
def aUz (w)(h:Pz w M pc rg)(R:RS w M.ra M.rn M.rc M.rs):qC 90 #[.pointer$ qP M.g] w (OpP w M$ spz M.toCy pc rg):=by
 have j:qY w (w.alloc$ .cells #[qI 0,qI 0] 80):=bal;have H:=Blk.new w #[qI 0,qI 0] 80;have A:=h.bw j;have B:=R.bw j;have D:=h.p.blk.lt;have I:=zh λw h r=>aTm (M:=M) (pc:=pc) (rg:=rg) w h r;unfold spz
 have hd:fez M.toCy pc=0->dOk (M.rd pc 4).1=true:=λh=>by
  unfold fez at h
  repeat' split at h
  all_goals first|assumption|omega
 generalize fez M.toCy pc=f at *;generalize (M.rd pc 4).1=x at *;clear h R;by_cases E:f=0
 .subst E;have V:=aI3$ hd rfl;rw[if_pos rfl];rw[fiz,if_pos rfl]at I;obtain⟨k,t⟩:∃k:Nat,x/67108864=(k:Int)+1:=⟨(x/67108864).toNat-1,J⟩;have Z:=zh λw h r=>zop (M:=M) (pc:=pc) (rg:=rg) k J (x/67108864) (x/8388608%8) (x/1048576%8) (x%65536) w h r t J J J J J J;have S:=zh λw=>aU0 k J (x/67108864) t w;unfold opV at S;have a0:=aRh (opL.getD k 0) (by rw[xB,xN (show k<opL.length by show k<25;omega)];exact List.getElem_mem _);generalize opL.getD k 0=F at *;generalize x/67108864=o at *;generalize x/8388608%8=d at *;generalize x/1048576%8=a at *;generalize x%65536=i at *;generalize opz M.toCy o d a i pc rg=r at *;obtain⟨i1,i2,i3,i4,i5,i6,i7⟩:=r;clear hd V t
  delta qC;go_in
  go_wp2_with fail
  apply(I _ A B).mono;rintro e p ⟨rfl,s⟩;have l:=s.alloc s.size$ .cells (qW o d a i) 186;have kb:=Blk.new p (qW o d a i) 186;have y:=A.bw l;have N:=B.bw l;have g:=H.bw l;have P:=j.trans$ l.mono Jb;have K:w.heap.size<p.heap.size:=by have:=s.size;simp at this;omega
  have n1:p.heap.size≠w.heap.size:=J
  have n2:w.heap.size≠p.heap.size:=J
  clear s l H A B j;go_wp2_with fail
  let⟨C,G,W,X,Y⟩:=kb.four';let⟨e1,e2,e3⟩:=g.two'
  go_region_held3 (λb=>qn b p 0=qj o/\qn b p 1=qj d/\qn b p 2=qj a/\qn b p 3=qj i) (go_keep)
   (first
     | (go_at_call 154;refine(S _).mono ?_;rintro e w2 ⟨rfl,u⟩;(try replace u:=aW u);replace kb:=kb.bw u;obtain⟨C,G,W,X,Y⟩:=kb.four';replace y:=y.bw u;replace N:=N.bw u;replace g:=g.bw u;replace P:=yT P u)
     | (refine(Z _ (by exact y) (by exact N)).mono ?_;intro e w9 q;obtain⟨rfl,t9,O,c0,c1⟩:=gV y P D g J q;obtain⟨C,G,W,X,Y⟩:=(y.kp t9 kb Ja J).four';obtain⟨e1,e2,e3⟩:=(y.kp t9 g Ja J).two';clear q))
  all_goals
   go_wp2;exact bodyPost_ret (v:=.agg #[qI i1,qI i2]) (by simp[results,results90,go_sem,c0,c1]) rfl O.o
 .rw[if_neg E];rw[fiz,if_neg E]at I;have U:(f !=0)=true:=by simpa using E
  clear E hd
  delta qC;go_in
  go_wp2_with fail
  apply(I _ A B).mono;rintro e p ⟨rfl,s⟩;have g:=H.bw s;have O:=zh$ (pB D (A.bw s) g (aI$ j.trans$ s.mono Jb) aO 5 f).1.o.more$ .cells (qW 0 0 0 0) 186;have Q:=((g.set 0$ qI 5).set 1$ qI f).alloc$ .cells (qW 0 0 0 0) 186;let⟨y0,y1,y2⟩:=Blk.two' Q;let⟨e1,e2,e3⟩:=g.two';have K:w.heap.size<p.heap.size:=by have:=s.size;simp at this;omega
  clear g A s H Q B j;go_wp2;exact bodyPost_ret (v:=.agg #[qI 5,qI f]) (by simp[results,results90,go_sem,y0,y1]) rfl O.o
section
variable {W W':World}{base aP n' c':Nat}{C:Cn}{M:Mn}{Ls:List (PMod×Mb)}{β:Nat->Nat}{a':qO}{x:FrT}
def MxO.push (h:MxO W base aP C M Ls β)(g:W.grownBy W' (qS M.ha M.hn M.hc).ownBlock)(q:OG 136 4 bM W' aP (qS a' n' c') (C.hz++[x])):MxO W' base aP { C with hz:=C.hz++[x] } { M with ha:=a',hn:=n',hc:=c',hz:=C.hz++[x] } Ls β:=by
 have T:Turn (λj=>(qS M.ha M.hn M.hc).ownBlock=some j) W W':=⟨g.os,g.tape,g.output,g.size,λk l hs=>g.block k l λe=>hs e.symm⟩
 have f:∀{t:TypeId}{sz n b:Nat}{v:Value}{y:List Value},W.ownsRow b t sz v n y->t≠136->∀k,v.ownBlock=some k->¬(qS M.ha M.hn M.hc).ownBlock=some k:=λu w k l s=>by
  let⟨_,d⟩:=aE h.h s;let⟨_,i⟩:=aE u l;exact w$ aH i d
 exact⟨h.upd T (λj s=>by
  let⟨a,kb⟩:=aE h.h s
  exact⟨(h.h.lt j s).1,a,_,kb,Ja,Ja⟩),h.e,aX T h.k$ f h.k.1 Ja,dX h.q T (λj p=>by
  rcases p with q|q|q
  .exact f h.q.1.1 Ja j q
  .exact f h.q.2.1.1 Ja j q
  .exact f h.q.2.2.1.1 Ja j q),h.l.kept T$ f h.l Ja,q,h.bm,h.bh,h.vs,⟨h.vz.1,h.vz.2.1,h.vz.2.2.1,h.vz.2.2.2.1,h.vz.2.2.2.2.1,h.vz.2.2.2.2.2.1,rfl⟩⟩
end
def aKb {W:World}{aP n:Nat}{v:Value}{hz:List FrT}{x:FrT}(f:hz.length=n)(h:W.ownsRow aP 136 4 v (n+1) (hz.flatMap bM++bM x)):OG 136 4 bM W aP v (hz++[x]):=by
 unfold OG
 grind
def PuP (w1 w:World)(G:Nat)(Y:Lyb)(C:Cn)(M:Mn)(v13 vr:Value)(x:FrT)(e:Ending)(w':World):Prop:=
 if (C.hz.length:Int)<C.cd then e=.returned (.bool true)/\(∃M',Mg w1 w' G Y { C with hz:=C.hz++[x] } M' v13 vr)/\Kb w w' else e=.returned (.bool false)/\qY w w'
def aN4 (w1 G Y C M W vr w)(h:Mg w1 w G Y C M W vr)(a x1 x2 x3)(hc:C.cd<=100):Calls prog 280 #[.pointer$ some ⟨G,21,none⟩,.agg$ qW a x1 x2 x3] w (PuP w1 w G Y C M W vr (a,x1,x2,x3)):=by
 let⟨a0,aP,Ls,β,i,g1,g2⟩:=h.m;have I:M.hn=C.hz.length:=fP i.h;have ed:M.cd=C.cd:=h.vs.1.2.2.2.1;let⟨U,t,d,kU⟩:=nwb w (qW a x1 x2 x3) 136;have K:U.cell? ⟨G,21,none⟩=qj M.cd:=(h.k.bw d).cell 21;have S:U.cell? ⟨G,22,none⟩=qk M.ha M.hn M.hc:=(h.k.bw d).cell 22;have HU:=zh t;have HB:=zh d;by_cases H:(C.hz.length:Int)<C.cd
 .refine Calls.mono (R:=λe w'=>e=.returned (.bool true)/\(∃M',Mg w1 w' G Y { C with hz:=C.hz++[(a,x1,x2,x3)] } M' W vr)/\Kb w w') ?_ (λe w' O=>by unfold PuP;rw[if_pos H];exact O);have P:¬M.cd<=(M.hn:Int):=J
  let⟨V,x⟩:=aN U.drew;have bV:qY U V:=by rw[x];exact brf.drew
  have q:=yT d bV;have Q:V.heap.size=w.heap.size+1:=by rw[x,t];simp
  have hG:=h.k.lt;have kV:=kU.bw bV;have b0:=kV.z4;have a5:V.cell? ⟨G,22,none⟩=qk M.ha M.hn M.hc:=(h.k.bw q).cell 22;have a6:(V.alloc$ .cells (qW a x1 x2 x3) 136).cell? ⟨G,22,none⟩=qk M.ha M.hn M.hc:=((h.k.bw q).alloc _).cell 22
  have A:=zh (λ(X:World)(s:qY V X)=>show(X.alloc$ .cells (qW a x1 x2 x3) 136).ownsRow aP 136 4 (qS M.ha M.hn M.hc) M.hn (C.hz.flatMap bM)by
   have:=(i.h.bw$ yT q s).bw (w':=X.alloc$ .cells (qW a x1 x2 x3) 136) bal;unfold OG at this;rw[<-I]at this
   exact this)
  have F:=zh λ(X:World)=>cA X (qW a x1 x2 x3) 136 (bM (a,x1,x2,x3)) rfl
  have E:=zh (λ(X:World)(s:qY V X)=>show aP<=(X.alloc$ .cells (qW a x1 x2 x3) 136).heap.size by
   have:=s.size;simp
   omega)
  have D:=zh (λ(X:World)(s:qY V X)(g c:Nat)(b:World)(f:b.ownsRow aP 136 4 (qS (qP g) (M.hn+1) c) (M.hn+1) (C.hz.flatMap bM++bM (a,x1,x2,x3)))(l:(X.alloc$ .cells (qW a x1 x2 x3) 136).grownBy b (qS M.ha M.hn M.hc).ownBlock)=>show(b.cell? ⟨G,22,none⟩=qk M.ha M.hn M.hc/\b.frozen? ⟨G,22,none⟩=false)/\Mg w1 (b.setCell ⟨G,22,none⟩$ qS (qP g) (M.hn+1) c) G Y { C with hz:=C.hz++[(a,x1,x2,x3)] } { M with ha:=qP g,hn:=M.hn+1,hc:=c,hz:=C.hz++[(a,x1,x2,x3)] } W vr/\Kb w (b.setCell ⟨G,22,none⟩$ qS (qP g) (M.hn+1) c)by
   have B:=(yT q s).trans$ (bal (w:=X) (o:=.cells (qW a x1 x2 x3) 136)).mono (yT q s).size;have Z:=h.bw B;have mA:=i.bw B
   have y:=dD Z.k l (λe=>by
    let⟨_,k1⟩:=aE mA.h e.symm
    exact absurd (aH k1 Z.k) Ja)
   have b4:=zR Z.b l λk hk=>jL ((mA.h.lt k hk).1) mA.bm;refine⟨⟨y.cell 22,y.frozen 22⟩,⟨aG b4 (aC b G 22 _) (λj hj=>jK h.g) b4.size,h.g,y.set 22$ qS (qP g) (M.hn+1) c,⟨a0,aP,Ls,β,(mA.push l$ aKb I.symm f).gm y g2$ aC b G 22 _,g1,g2⟩,h.l⟩,λj cs ty hn kj=>?_⟩
   have N:=dD (kj.bw B) l (λe=>by
    let⟨_,k1⟩:=aE mA.h e.symm
    exact hn$ .inr (aH k1$ kj.bw B).symm)
   exact N.other ⟨G,22,none⟩ _ (λe=>by
    have e':j=G:=e;rw[e']at N
    exact hn$ .inl$ .inr$ .inl$ aH N y))
  let⟨iF,a1,a2,a3,a4⟩:=info_parts yH;have HV:=zh x;have hN:M.hn<=100:=J
  clear t d kU x bV q kV h i I ed Q H
  go_in
  go_wp2_with (rw[<-HU.o])
  go_region_held3 (λw'=>w'.cell? ⟨G,22,none⟩=qk M.ha M.hn M.hc/\w'.cell? ⟨G,21,none⟩=qj M.cd) (go_keep) (fail)
  rw[<-HV.o];clear K S;go_wp2_with fail
  go_region_law (first
   | (refine step_append_lies _ (by rfl) _ _ 41 (by rfl) aP 136 iF _ 4 _ underlying41 a1 a2 a3 a4 rfl Ja (qS M.ha M.hn M.hc) M.hn (C.hz.flatMap bM) (by rfl) (by first|exact A.o _ brf|exact A.o _ brf.drew) ⟨V.heap.size,0,none⟩ 1 1 (bM (a,x1,x2,x3)) (by rfl) (by rfl) (by first|exact F.o V|exact F.o V.drew) (by intro u hu;simp[bM]at hu;rcases hu with rfl|rfl|rfl|rfl<;>rfl) Ja Jf J (by first|exact E.o _ brf|exact E.o _ brf.drew) _ rfl ?_;intro g4 c4 b f l _ _;have p:=zh (by first|exact D.o _ brf _ _ _ f l|exact D.o _ brf.drew _ _ _ f l);obtain⟨p4,f4⟩:=p.o.1;clear f l))
  all_goals
   go_wp2;go_ret;exact⟨rfl,⟨_,p.2.1⟩,p.2.2⟩
 .refine Calls.mono (R:=λe w'=>e=.returned (.bool false)/\qY w w') ?_ (λe w' O=>by unfold PuP;rw[if_neg H];exact O);have P:M.cd<=(M.hn:Int):=J
  clear t d kU h i I ed H
  go_in
  go_wp2_with (rw[<-HU.o])
  go_region_held3 (λw'=>w'.cell? ⟨G,22,none⟩=qk M.ha M.hn M.hc/\w'.cell? ⟨G,21,none⟩=qj M.cd) (go_keep) (fail)
  go_wp2;go_ret;exact⟨rfl,HB.drew⟩
def aWm (ps:List PMod)(L:Lay):Decidable (zX ps L):=
 have:=aUm ps L;have:∀b s,Decidable$ sOk L b s:=λ_ _=>inferInstance
 decidable_of_iff (Lok ps L/\∀m,m<ps.length->∀b,b<(ps.getD m zP).bl.length+1->∀s,s<L.slots.length+1->0<=pcq ps (m:Int) ((b:Int)-1)->sOk L ((b:Int)-1) ((s:Int)-1)->(plR ps L (m:Int) ((b:Int)-1)$ (s:Int)-1).length<=8) (by
  unfold zX;refine and_congr_right λ_=>⟨λh m b s hp hs=>?_,λh m _ b _ s _=>h m _ _⟩
  have hmb:(0<=m/\m<(ps.length:Int))/\(b=-1\/(0<=b/\b<((ps.getD m.toNat zP).bl.length:Int))):=by
   unfold pcq at hp;split at hp
   .refine⟨by assumption,?_⟩;split at hp
    .exact .inl (by assumption)
    .split at hp
     .exact .inr (by assumption)
     .exact absurd hp Ja
   .exact absurd hp Ja
  have hs':=hs.fit;have:=h m.toNat J (b+1).toNat J (s+1).toNat J;rw[show((m.toNat:Nat):Int)=m from J,show(((b+1).toNat:Nat):Int)-1=b from J,show(((s+1).toNat:Nat):Int)-1=s from J]at this
  exact this hp hs)
def aWe (ps:List PMod)(L:Lay)(cs cw T:Int)(rz:qi)(xs:List SlT):Decidable (dO ps L cs cw T rz xs):=by unfold dO pR slk aln cmn;infer_instance
def aWi (M:Mn):Decidable (MOk M):=
 have:=aWm (aF M.ms) M.L;have:=aWe (aF M.ms) M.L M.cs M.cw M.tn M.rz M.lz;have:Decidable (aAq (aF M.ms) M.cs M.md M.bk M.lz):=by unfold aAq;infer_instance
 have:Decidable (mO (aF M.ms) M.cd M.hz):=by unfold mO;infer_instance
 decidable_of_iff (lkc (aF M.ms) M.cs M.cw M.ck M.cd=0/\zX (aF M.ms) M.L/\cok M.pc M.kn M.kz=true/\mok M.fn M.rn M.on=true/\imF (aF M.ms) M.L=M.fz/\(M.rn:Int)=M.L.ram/\(0<=M.tn/\M.tn<=1000000000)/\dO (aF M.ms) M.L M.cs M.cw M.tn M.rz M.lz/\aAq (aF M.ms) M.cs M.md M.bk M.lz/\mO (aF M.ms) M.cd M.hz) ⟨λ⟨h1,h2,h3,h4,h5,h6,h7,h8,h9,h10⟩=>⟨h1,h2,h3,h4,h5,h6,h7,h8,h9,h10⟩,λh=>⟨h.l,h.p,h.c,h.b,h.f,h.r,h.t,h.s,h.n,h.h⟩⟩
def awy (C:Cn)(L:Lay)(a:Int):Int:=a-fH L (plc C.ps C.md.toNat) C.bk (hld C.lz C.md C.bk)
def atB (C:Cn)(L:Lay)(a:Int):Bool:=decide$ 0<=awy C L a/\awy C L a%4=0/\awy C L a/4<=pcq C.ps C.md C.bk
def aOc (h:Cv C L):0<=fH L (plc C.ps C.md.toNat) C.bk (hld C.lz C.md C.bk)/\fH L (plc C.ps C.md.toNat) C.bk (hld C.lz C.md C.bk)<=100000:=by
 let⟨_,_,_,b,a⟩:=h.cf;rcases h.cz.s with e|⟨e1,e2,e3⟩
 .rw[e];exact aHu a h.cz.p
 .unfold fH;rw[if_neg e1,if_neg J];have:=h.slot (i:=(hld C.lz C.md C.bk).toNat) J;omega
def aQb (h:Cv C L){D:Int}(f:awy C L a=D):(D.tmod 4=0/\tgk C.ps C.md C.bk (D.tdiv 4)) ↔ atB C L a=true:=by
 unfold atB tgk;rw[f,decide_eq_true_eq];by_cases c:0<=D
 .grind
 .grind
def pP (w1 G Y C M a2 vr a w)(h:Mg w1 w G Y C M a2 vr)(d:Cv C Y.L)(ha:0<=a/\a<=4294967295):
 qC 155 #[.pointer$ qP G,qI a] w λe w'=>(∃z:Int,e=.returned (.tuple #[.agg$ qT C.md C.bk z,.bool$ atB C Y.L a])/\(atB C Y.L a=true->z=awy C Y.L a/4))/\qY w w':=by
 let⟨U,hU,bU,kU⟩:=nwb w (qT 0 0 0) 121;have hg:G<w.heap.size:=h.k.lt;have g:=h.bw bU;let⟨⟨_,_,_,_,_,e1,e2,_⟩,ep,_⟩:=h.vs;have k:=pA (s:=0) g.ly d.cf.2.2.2.2 d.cz.p;have O:=zh$ aBu w1 G Y C M a2 vr U g;rw[e1,e2]at O;let⟨S,hS⟩:=aN$ hld C.lz C.md C.bk;let⟨Z,hZ⟩:=aN$ fH Y.L (plc C.ps C.md.toNat) C.bk S;let⟨D,hD⟩:=aN$ a-Z;have hA:awy C Y.L a=D:=by unfold awy;rw[hD,hZ,hS]
 have a4:=aOc d;rw[<-hS,<-hZ]at a4;have F:=d.cz.s;rw[<-hS]at F;have a3:=zb U λX f=>(vO w1 G Y C M a2 vr X$ g.bw f).mono (λe w' p=>show e=.returned (qI S)/\qY X w' from⟨by rw[p.1,e1,e2,hS],p.2⟩);have a6:=zb U λX f=>(lP Y.L Y.a0 Y.c0 Y.xs Y.a2 Y.c2 Y.a5 Y.c5 Y.ts C.md C.bk 0 S X (g.bw f).ly k.m0 k.m1 k.bb F).mono (λe w' p=>show e=.returned (qI Z)/\qY X w' from⟨by rw[p.1,aDk,k.p,hZ],p.2⟩);have a9:=zb U λX f=>(lI M.ma M.mn M.mc M.ms C.md C.bk (D.tdiv 4) X$ (g.mnd d.cf.2.1).m.bw f).mono (λe w' p=>show e=.returned (.bool$ decide$ tgk C.ps C.md C.bk$ D.tdiv 4)/\qY X w' from⟨by rw[p.1,ep],p.2⟩);have HC:=zb U λX f=>show qN X G 0=qk M.ma M.mn M.mc/\(qN X G 15=qk Y.a0 Y.xs.length Y.c0/\qN X G 16=qj Y.L.stack/\qN X G 17=qk Y.a2 Y.L.slots.length Y.c2/\qN X G 18=qj Y.L.flash/\qN X G 19=qj Y.L.ram/\qN X G 20=qk Y.a5 Y.ts.length Y.c5)/\Blk X w.heap.size (qT 0 0 0) 121 from⟨(g.bw f).k.cell 0,⟨(g.bw f).k.cell 15,(g.bw f).k.cell 16,(g.bw f).k.cell 17,(g.bw f).k.cell 18,(g.bw f).k.cell 19,(g.bw f).k.cell 20⟩,kU.bw f⟩;let⟨r,hr⟩:=aN$ atB C Y.L a;have H:=zh$ aQb d hA;rw[<-hr]at H;rw[<-hr,hA];have af:IntKind.i64.wrap (a-Z)=D:=by rw[<-hD,xP,xQ _ J]
 have am:IntKind.i64.wrap (D.tdiv 4)=D.tdiv 4:=by
  have q:=Int.tmod_add_mul_tdiv D 4;have:=Int.lt_tmod_of_pos D$ show(0:Int)<4 from J;have:=Int.tmod_lt_of_pos D$ show(0:Int)<4 from J;rw[xP,xQ _ J]
 have a7:=zh (λ(ac:r=true)=>show D.tdiv 4=D/4 by
  have:0<=D:=by
   have:=ac;rw[hr]at this;unfold atB at this;rw[hA,decide_eq_true_eq]at this;exact this.1
  rw[Int.tdiv_eq_ediv_of_nonneg this])
 have HU:=zh hU;have P:=zh bU;have ah:U.heap.size=w.heap.size+1:=by rw[hU];simp
 clear hU bU kU h g d ha k e1 e2 ep hS hZ hD hA a4 F hr
 delta qC;go_in
 go_wp2_with (rw[<-HU.o])
 apply O.mono;rintro e l ⟨rfl,a1⟩;let⟨V,hV,bV,kV⟩:=nwb l (qT C.md C.bk 0) 121;have u:=yT a1 bV;have ad:U.heap.size<=l.heap.size:=a1.size;have HV:=zh hV;have an:¬G=l.heap.size:=J
 have ai:¬l.heap.size=G:=J
 have ae:¬w.heap.size=l.heap.size:=J
 have aj:¬l.heap.size=w.heap.size:=J
 have ak:¬G=w.heap.size:=J
 have ag:¬w.heap.size=G:=J
 have B:=zh (λ(X:qw)(f:qY V X)=>show(qN X G 15=qk Y.a0 Y.xs.length Y.c0/\qN X G 16=qj Y.L.stack/\qN X G 17=qk Y.a2 Y.L.slots.length Y.c2/\qN X G 18=qj Y.L.flash/\qN X G 19=qj Y.L.ram/\qN X G 20=qk Y.a5 Y.ts.length Y.c5)/\qn X l 0=qj C.md/\qn X l 1=qj C.bk/\qn X l 2=qj 0 by
  let⟨_,q,_⟩:=HC X$ yT u f
  exact⟨q,(kV.bw f).cell 0,(kV.bw f).cell 1,(kV.bw f).cell 2⟩)
 have A:=zb V λX f=>xA (kV.bw f)$ yT u f;have N:=zb V λX f=>(a3 X$ yT u f).mono λe w' p=>show e=.returned (qI S)/\qY V w' from⟨p.1,yT f p.2⟩;have a5:=zb V λX f=>(a6 X$ yT u f).mono λe w' p=>show e=.returned (qI Z)/\qY V w' from⟨p.1,yT f p.2⟩;clear a1 hV bV kV u O HU a3 a6;let⟨⟨l0,l1,l2,l3,l4,l5⟩,t0,t1,t2⟩:=B V brf;go_wp2_with (rw[<-HV.o])
 go_region_held3 (λw'=>(qN w' G 15=qk Y.a0 Y.xs.length Y.c0/\qN w' G 16=qj Y.L.stack/\qN w' G 17=qk Y.a2 Y.L.slots.length Y.c2/\qN w' G 18=qj Y.L.flash/\qN w' G 19=qj Y.L.ram/\qN w' G 20=qk Y.a5 Y.ts.length Y.c5)/\qn w' l 0=qj C.md/\qn w' l 1=qj C.bk/\qn w' l 2=qj 0) (go_keep)
  (first
    | (go_at_call 149;first
        | with_reducible refine(N.o _ brf).mono ?_
        | with_reducible refine(N.o _ brf.drew).mono ?_
       rintro e Xa ⟨rfl,E⟩
       let⟨⟨l0,l1,l2,l3,l4,l5⟩,t0,t1,t2⟩:=B Xa E)
    | (go_at_call 198;with_reducible refine(a5.o _ E).mono ?_
       rintro e t ⟨rfl,y⟩
       let⟨⟨l0,l1,l2,l3,l4,l5⟩,t0,t1,t2⟩:=B t y))
 let⟨X5,a0⟩:=aN$ t.setCell ⟨l.heap.size,2,none⟩$ qI$ D.tdiv 4;have kb:=(A t y).1;have B5:qY U X5:=by rw[a0];exact aG (A.o t y).2 (aC _ l.heap.size 2 _) (λj hj=>J) (A.o t y).2.size
 have k5:Blk X5 l.heap.size (qT C.md C.bk$ D.tdiv 4) 121:=by rw[a0];exact kb.set 2 _
 have ab:=kb.frozen 2
 have Q:=zh (λ(X:qw)(f:qY X5 X)=>show qN X G 0=qk M.ma M.mn M.mc/\(qn X l 0=qj C.md/\qn X l 1=qj C.bk/\qn X l 2=qj (D.tdiv 4))/\Blk X w.heap.size (qT 0 0 0) 121/\qY U X by
  have b:=yT B5 f;let⟨q1,_,q2⟩:=HC X b
  exact⟨q1,⟨(k5.bw f).cell 0,(k5.bw f).cell 1,(k5.bw f).cell 2⟩,q2,b⟩)
 have I:=zb X5 λX f=>(a9 X$ yT B5 f).mono λe w' p=>show e=.returned (.bool$ decide$ tgk C.ps C.md C.bk$ D.tdiv 4)/\qY X5 w' from⟨p.1,yT f p.2⟩;have a8:=zh a0;clear B A N a5 E y kb B5 k5 HC a9 l0 l1 l2 l3 l4 l5 HV a0;go_wp2_with (rw[<-a8.o])
 clear a8 ab t0 t1 t2;let⟨q0,⟨t0,t1,t2⟩,KR,_⟩:=Q X5 brf;let⟨r0,r1,r2,rf⟩:=KR.three;by_cases i:D.tmod 4=0
 .have hc:(D.tmod 4==0)=true:=by simp[i]
  have R:=zh (show decide (tgk C.ps C.md C.bk$ D.tdiv 4)=r by
   have h:=H.o;cases r
   .exact xS λe=>absurd (h.1 ⟨i,e⟩) Ja
   .exact xR (h.2 rfl).2)
  rw[R.o]at I;clear i
  go_region_held3 (λw'=>qN w' G 0=qk M.ma M.mn M.mc/\qn w' l 0=qj C.md/\qn w' l 1=qj C.bk/\qn w' l 2=qj (D.tdiv 4)) (go_keep)
   (first
     | (go_at_call 193;first
         | with_reducible refine(I.o _ brf).mono ?_
         | with_reducible refine(I.o _ brf.drew).mono ?_
        rintro e X6 ⟨rfl,aa⟩;let⟨q0,⟨t0,t1,t2⟩,KR,B6⟩:=Q X6 aa
        let⟨r0,r1,r2,rf⟩:=KR.three))
  have x:=yT P B6;have HF:Zh (qY w$ ((X6.setCell (qh w 0)$ qI C.md).setCell (qh w 1)$ qI C.bk).setCell (qh w 2)$ qI$ D.tdiv 4):=((x.setCell Jd _).setCell Jd _).setCell Jd _;clear x B6;go_wp2;exact bodyPost_ret (v:=.tuple #[.agg$ qT C.md C.bk$ D.tdiv 4,.bool r]) (by simp[results,results155,go_sem,r0,r1,r2]) rfl ⟨⟨_,rfl,a7.o⟩,HF.o⟩
 .have hc:(D.tmod 4==0)=false:=by simp[i]
  have R:=zh (show r=false by
   have h:=H.o;cases r
   .rfl
   .exact absurd (h.2 rfl).1 i)
  clear i;refine wp_region_held_drew (S:=(λw'=>qn w' l 0=qj C.md/\qn w' l 1=qj C.bk/\qn w' l 2=qj (D.tdiv 4))) Je ?_ λhHeld=>?_
  .go_keep
  refine tkW 0 rfl ?_;try simp only[yG,Act.put]
  refine tkW 1 rfl ?_;try simp only[yG,Act.put]
  refine tkW 2 rfl ?_;try simp only[yG,Act.put]
  refine tkW 3 rfl ?_;try simp only[yG,Act.put]
  refine tkW 4 rfl ?_;try simp only[yG,Act.put]
  refine tkS 5 rfl ?_;try simp only[yG,Act.put]
  refine tkS 6 rfl ?_;try simp only[yG,Act.put]
  refine tkS 7 rfl ?_;try simp only[yG,Act.put]
  refine tkS 8 rfl ?_;try simp only[yG,Act.put]
  refine tkS 9 rfl ?_;try simp only[yG,Act.put]
  refine tkS 10 rfl ?_;try simp only[yG,Act.put]
  refine tkS 11 rfl ?_;try simp only[yG,Act.put]
  refine tkW 12 rfl ?_;try simp only[yG,Act.put]
  refine wpAnyH_ready (rs:=[13]) Je Jb$ AllReadyH.cons rfl (λK W=>?_) AllReadyH.nil;go_simp;refine W.out _ _ ?_ λhHeld=>?_
  .go_keep
  clear W K;try simp only[yG,Act.put]
  refine wpAnyH_ready (rs:=[14]) Je Jb$ AllReadyH.cons rfl (λK W=>?_) AllReadyH.nil;go_simp;refine W.out _ _ ?_ λhHeld=>?_
  .go_keep
  clear W K;try simp only[yG,Act.put]
  refine wpAnyH_done Je ?_ _;have x:=(P.trans$ (Q X5 brf).2.2.2.mono P.size).drew;have HF:Zh (qY w$ ((X5.drew.setCell (qh w 0)$ qI C.md).setCell (qh w 1)$ qI C.bk).setCell (qh w 2)$ qI$ D.tdiv 4):=((x.setCell Jd _).setCell Jd _).setCell Jd _;clear x;go_wp2;exact bodyPost_ret (v:=.tuple #[.agg$ qT C.md C.bk$ D.tdiv 4,.bool false]) (by simp[results,results155,go_sem,r0,r1,r2]) rfl ⟨⟨_,by rw[R.o],a7.o⟩,HF.o⟩
def gL (C:Cn)(L:Lay)(m b t:Int):Int:=if atB C L C.pc=true/\C.tn<1000000000/\tgk C.ps m b t then (if (C.hz.length:Int)<C.cd then 0 else 7) else 2
def psC (C:Cn)(L:Lay):Cn:={ C with hz:=C.hz++[(C.md,C.bk,awy C L C.pc/4,C.kz.getD 7 0)] }
def tM (C:Cn)(L:Lay)(m b t:Int):Cn:=eG (psC C L) L m b t
def CaP (w1 w:World)(G:Nat)(Y:Lyb)(C:Cn)(v13:Value)(m b t:Int)(e:Ending)(w':World):Prop:=
 e=.returned (qI$ gL C Y.L m b t)/\(if gL C Y.L m b t=0 then (∃M' vr',Mg w1 w' G Y (tM C Y.L m b t) M' v13 vr')/\Kb w w' else qY w w')
def aJh {f w w':World}{k:Int}(j:gL C Y.L m b t=k)(l:k≠0)(g:e=.returned (qI k)/\qY w w'):CaP f w G Y C v13 m b t e w':=by
 unfold CaP
 grind
def aP5 (i G Y C M d k m b t w)(h:Mg i w G Y C M d k)(l:Cv C Y.L)(R:0<=C.pc/\C.pc<=4294967295)(Q:C.cd<=100):
 Calls prog 237 #[.pointer$ qP G,.agg$ qT m b t] w (CaP i w G Y C d m b t):=by
 let⟨U,hU,bU,kU⟩:=nwb w (qT m b t) 121;have H:=h.bw bU;have a2:=h.vs.1.2.2.2.2.1;have c5:U.cell? ⟨G,5,none⟩=qj C.pc:=by rw[<-a2];exact H.k.cell 5
 have K:=zh$ pP i G Y C M d k C.pc U H l R;have ad:=zh λ(X:World)(f:qY U X)=>aBj i G Y C M d k m b t X (H.bw f) l.cf.2.1;have HM:=zh λ(X:World)(f:qY U X)=>xA (H.bw f)$ kU.bw f;have P:=zh λ(X:World)(f:qY U X)=>aN4 i G Y C M d k X (H.bw f) C.md C.bk (awy C Y.L C.pc/4) (C.kz.getD 7 0) Q;have a6:=zh λ(X:World)(W:Mn)(a4:Value)(f:Mg i X G Y (psC C Y.L) W d a4)=>aCc i G Y _ W d a4 m b t X f ⟨l.k,l.e,l.b,l.r,l.g,l.s,l.n,l.t⟩
 have a0:=zh (λ(X:World)(f:qY U X)=>show ∃S,X.cell? ⟨G,6,none⟩=qk (some ⟨S,0,none⟩) 8 M.kc/\X.cell? ⟨S,7,none⟩=qj (C.kz.getD 7 0)by
  let⟨af,aP,Ls,β,mm,_⟩:=(H.bw f).m;have mk:=mm.k;have e8:M.kn=8:=by rw[kD mk];exact l.g
  let⟨S,cp,e,_⟩:=World.ownsRow.form mk.1 (by rw[l.g];decide);simp only[Value.slice.injEq]at e;rw[e.1]at mk;refine⟨S,?_,by simpa using mk.is.at 7 J⟩;rw[<-e.1,<-e8]
  exact(H.bw f).k.cell 6)
 let⟨r,hr⟩:=aN$ atB C Y.L C.pc;let⟨A,hA⟩:=aN$ awy C Y.L C.pc;let⟨D,hD⟩:=aN$ C.kz.getD 7 0;have y:Zh (gL C Y.L m b t=if r=true/\C.tn<1000000000/\tgk C.ps m b t then (if (C.hz.length:Int)<C.cd then 0 else 7) else 2):=by unfold gL;rw[hr];rfl
 have a5:=zh (show psC C Y.L={ C with hz:=C.hz++[(C.md,C.bk,A/4,D)] } by unfold psC;rw[hA,hD]);rw[<-hr,<-hA]at K;rw[<-hA,<-hD]at P;rw[<-hD]at a0;have HU:=zh hU;have x:=zh bU;clear hU bU kU h H l hr hA hD a2 R Q
 go_in
 go_wp2_with (rw[<-HU.o])
 apply K.mono;rintro e F ⟨⟨z,rfl,hz⟩,a3⟩;let⟨V,hV,bV,kV⟩:=nwb F (qT C.md C.bk z) 121;have B1:=yT a3 bV;have s:=zh B1;have I:=zh λ(X:World)(f:qY V X)=>kV.bw f;have HV:=zh hV;clear a3 hV bV kV B1 c5 K;cases r with
 | false=>
   have O:=zh (show gL C Y.L m b t=2 by rw[y.o,if_neg (λq=>by cases q.1)]);go_wp2_with (rw[<-HV.o])
   go_ret;exact aJh O Ja ⟨rfl,yT x s⟩
 | true=>
   obtain rfl:=hz rfl;have t0:=(HM V s).2.three;have B:=zh$ ad V s;by_cases c0:C.tn<1000000000/\tgk C.ps m b t
   .rw[xR c0]at B;have N:=zh c0;go_wp2_with (rw[<-HV.o])
    apply B.mono;rintro e E ⟨rfl,u⟩;have g:=zh$ yT s u;have Z:=zh u;let⟨f0,f1,f2,_⟩:=(I E u).three;let⟨S,y6,y7⟩:=a0 E g;have a8:=zh (HM E g).2;by_cases c1:(C.hz.length:Int)<C.cd
    .have O:=zh (show gL C Y.L m b t=0 by rw[y.o,if_pos (by simpa using N.o),if_pos c1])
     have p:=zh (λ(X:World)(f:qY E X)=>(P X$ yT g f).mono (λe a j=>show e=.returned (.bool true)/\(∃W,Mg i a G Y (psC C Y.L) W d k)/\Blk a w.heap.size (qT m b t) 121/\Blk a F.heap.size (qT C.md C.bk$ A/4) 121/\Kb E a by
      unfold PuP at j;rw[if_pos c1]at j;rw[a5.o]
      exact⟨j.1,j.2.1,j.2.2 _ _ _ Jg$ a8.bw f,j.2.2 _ _ _ Jg$ I X$ yT Z f,(cG f).trans j.2.2⟩))
     go_wp2_with fail
     go_region_held3 (λa=>a.cell? ⟨F.heap.size,0,none⟩=qj C.md/\a.cell? ⟨F.heap.size,1,none⟩=qj C.bk/\a.cell? ⟨F.heap.size,2,none⟩=qj (A/4)) (go_keep)
      (first
        | (go_at_call 280;first
            | with_reducible refine(p.o _ brf).mono ?_
            | with_reducible refine(p.o _ brf.drew).mono ?_
           rintro e X3 ⟨rfl,⟨M3,h3⟩,k3,a7,a9⟩;have aa:=zh$ (cG$ yT x g).trans a9;obtain⟨f0,f1,f2,_⟩:=a7.three))
     have t0:=k3.three;have ac:=zh$ a6 X3 M3 k h3;go_wp2_with fail
     apply ac.mono;intro e X4 j;unfold EtP at j;rw[if_pos (show(psC C Y.L).tn<1000000000/\tgk (psC C Y.L).ps m b t from N.o)]at j;obtain⟨rfl,M4,ae,h4,T4⟩:=j;have HF:=zh (show CaP i w G Y C d m b t (.returned$ qI 0) X4 by unfold CaP;rw[O.o,if_pos rfl];exact⟨rfl,⟨M4,ae,h4⟩,aa.o.trans T4.kb⟩);go_wp2;go_ret;exact HF
    .have O:=zh (show gL C Y.L m b t=7 by rw[y.o,if_pos (by simpa using N.o),if_neg c1])
     have p:=zh (λ(X:World)(f:qY E X)=>(P X$ yT g f).mono (λe a j=>show e=.returned (.bool false)/\qY E a by
      unfold PuP at j;rw[if_neg c1]at j
      exact⟨j.1,yT f j.2⟩))
     go_wp2_with fail
     go_region_held3 (λa=>a.cell? ⟨F.heap.size,0,none⟩=qj C.md/\a.cell? ⟨F.heap.size,1,none⟩=qj C.bk/\a.cell? ⟨F.heap.size,2,none⟩=qj (A/4)) (go_keep)
      (first
        | (go_at_call 280;first
            | with_reducible refine(p.o _ brf).mono ?_
            | with_reducible refine(p.o _ brf.drew).mono ?_
           rintro e X3 ⟨rfl,a1⟩;have ab:=zh$ yT g a1;obtain⟨f0,f1,f2,_⟩:=(I X3$ yT Z a1).three))
     go_wp2;go_ret;exact aJh O Ja ⟨rfl,yT x ab⟩
   .rw[xS c0]at B;have O:=zh (show gL C Y.L m b t=2 by rw[y.o,if_neg (λq=>c0 q.2)]);go_wp2_with (rw[<-HV.o])
    apply B.mono;rintro e E ⟨rfl,u⟩;have g:=zh$ yT s u;go_wp2;go_ret;exact aJh O Ja ⟨rfl,yT x g⟩
def aVl (h:0<=pcq ps m b)(f:b≠-1):0<=b:=by
 unfold pcq at h
 grind
def aS0:slk ps T (false,x1,x2,x3) ↔ (false,x1,x2,x3)=zSl:=by unfold slk;simp
def aJx:slk ps T (true,x1,x2,x3) ↔ 0<=x2/\0<=pcq ps x1 x2/\1<=x3/\x3<=T:=by unfold slk;simp
def aHg (M d x1 x2 x3 w)(h:MnD w M):
 qC 187 #[.agg$ qA M,.agg #[.bool d,qI x1,qI x2,qI x3]] w (Yn (slk (aF M.ms) M.tn (d,x1,x2,x3)) w):=by
 let⟨U,k,C,O⟩:=nwb w (qA M) 43;let⟨V,G,i,b⟩:=nwb U #[.bool d,qI x1,qI x2,qI x3] 132;have g:U.heap.size=w.heap.size+1:=by rw[k];simp
 have H:=yT C i;have B:=O.bw i;have f:=zh$ nB M.ma M.mn M.mc M.ms x1 x2 V$ h.m.s.bw H;rw[fG h.m x1 x2]at f
 have y:=zh (λ(X:qw)(D:qY V X)=>show(X.cell? (qR (qs w) 0)=some (qS M.ma M.mn M.mc)/\X.cell? (qR (qs w) 14)=some (qI M.tn))/\X.cell? (qR (qs w+1) 0)=some (.bool d)/\X.cell? (qR (qs w+1) 1)=some (qI x1)/\X.cell? (qR (qs w+1) 2)=some (qI x2)/\X.cell? (qR (qs w+1) 3)=some (qI x3)from
  ⟨⟨(B.bw D).cell 0,(B.bw D).cell 14⟩,by rw[<-g];exact(b.bw D).cell 0,by rw[<-g];exact(b.bw D).cell 1,by rw[<-g];exact(b.bw D).cell 2,by rw[<-g];exact(b.bw D).cell 3⟩)
 have A:=zh H;have p:=zh k;have l:=zh G;rw[<-g]at y;clear k G C i O B b H h g;let⟨⟨t,x⟩,s0,s1,s2,s3⟩:=y V brf;cases d with
 | false=>
   rw[aS0];clear f y t x;by_cases e1:x1=0
   .by_cases e2:x2=0
    .by_cases e3:x3=0
     .subst e1 e2 e3
      delta qC;go_in
      go_wp2_with (first|rw[<-p.o]|rw[<-l.o])
      go_ret;exact uB rfl$ A
     .have K:(x3==0)=false:=by simp[e3]
      have E:Zh (¬(false,x1,x2,x3)=zSl):=λq=>e3 (by unfold zSl at q;simp at q;exact q.2.2);subst e1 e2;clear e3
      delta qC;go_in
      go_wp2_with (first|rw[<-p.o]|rw[<-l.o])
      go_ret;exact dN E$ A
    .have N:(x2==0)=false:=by simp[e2]
     have E:Zh (¬(false,x1,x2,x3)=zSl):=λq=>e2 (by unfold zSl at q;simp at q;exact q.2.1);subst e1;clear e2
     delta qC;go_in
     go_wp2_with (first|rw[<-p.o]|rw[<-l.o])
     go_ret;exact dN E$ A
   .have P:(x1==0)=false:=by simp[e1]
    have E:Zh (¬(false,x1,x2,x3)=zSl):=λq=>e1 (by unfold zSl at q;simp at q;exact q.1);clear e1
    delta qC;go_in
    go_wp2_with (first|rw[<-p.o]|rw[<-l.o])
    go_ret;exact dN E$ A
 | true=>
   rw[aJx];by_cases a:x2=-1
   .subst a;have e1:((-1:Int) !=-1)=false:=Ja
    clear f y
    delta qC;go_in
    go_wp2_with (first|rw[<-p.o]|rw[<-l.o])
    go_ret;exact dN Jb A.o
   have:(x2 !=-1)=true:=by simp[a]
   by_cases c2:0<=pcq (aF M.ms) x1 x2
   .have F:=zh$ aVl c2 a;have u:=zh c2;rw[xR c2]at f;clear c2 a
    delta qC;go_in
    go_wp2_with (first|rw[<-p.o]|rw[<-l.o])
    apply f.mono;rintro e I ⟨rfl,j⟩;have s:=zh$ yT A j;let⟨⟨R,S⟩,W,Y,Z,t3⟩:=y I j;clear j f y p l t x s0 s1 s2 s3;by_cases Q:x3<1
    .go_wp2;go_ret;exact dN (λq=>J) s
    go_wp2;go_ret;exact aU3 ⟨λq=>⟨F,u,J,q⟩,λq=>q.2.2.2⟩ s
   .rw[xS c2]at f;have u:=zh c2;clear a c2
    delta qC;go_in
    go_wp2_with (first|rw[<-p.o]|rw[<-l.o])
    apply f.mono;rintro e I ⟨rfl,j⟩;have s:=zh$ yT A j;clear j f y p l t x s0 s1 s2 s3;go_wp2;go_ret;exact dN (λq=>by have:=u.o;have:=q.2.1;omega) s
def aQd {i:Nat}(f:k<i)(h:cmn (xs.getD i zSl) (xs.getD k zSl)):¬aln xs i:=λq=>q k f h
def aQc {i:Nat}(f:∀j,j<k->¬cmn (xs.getD i zSl) (xs.getD j zSl))(h:¬cmn (xs.getD i zSl) (xs.getD k zSl)):∀j,j<k+1->¬cmn (xs.getD i zSl) (xs.getD j zSl):=by grind
def aGf (a n c i xs w)(h:QS cM zSl w a n c xs)(hi:i<n):
 qC 188 #[qS a n c,qI i] w (Yn (aln xs i) w):=by
 have N:=h.2.1;have a4:=h.2.2.2;unfold maxLen at N;obtain⟨g,f,rfl,t,C,G,M⟩:=h.at i hi _ _ _ _ rfl;have D:=zh λ(k:Nat)(Q:k<i)(q:cmn (xs.getD i zSl) (xs.getD k zSl))=>aQd Q q;have E:=zh λ(k:Nat)(F:∀j,j<k->¬cmn (xs.getD i zSl) (xs.getD j zSl))(q:¬cmn (xs.getD i zSl) (xs.getD k zSl))=>aQc F q;have B:Zh ((∀j,j<i->¬cmn (xs.getD i zSl) (xs.getD j zSl))->aln xs i):=λq=>q;generalize xs.getD i zSl=x at *;obtain⟨x0,X,Y,x3⟩:=x;dsimp only at t C G M;let⟨V,hV,bV,kV⟩:=nwb w #[.bool x0,qI X,qI Y,qI x3] 132;have HH:=zh$ h.bw bV;have R:=zh hV;have A:=zh$ xA bV kV;have K:=zh$ Below.refl V.heap.size V;have a2:(i:Int)<=(c:Int):=J
 clear hV bV kV h
 delta qC;go_in
 go_wp2_with (rw[<-R.o])
 clear t C G M R;go_loopw [16] (λj wr=>∃k:Nat,k<=i/\j=qI k/\(∀j,j<k->¬cmn (x0,X,Y,x3) (xs.getD j zSl))/\qY V wr) (qf i)
 .exact⟨0,xC _,rfl,λj Z=>absurd Z J,K⟩
 .obtain⟨k,Q,rfl,F,I⟩:=hrel;by_cases P:k<i
  .have S:(k:Int)<(i:Int):=J
   let⟨g',f',a0,t,C,G,M⟩:=(HH.bw I).at k J _ _ _ _ rfl;simp at a0;obtain⟨rfl,rfl⟩:=a0;have p:=zh$ D k P;have l:=zh$ E k F;generalize xs.getD k zSl=y at *;obtain⟨o0,o1,o2,o3⟩:=y;dsimp only at t C G M;let⟨W,hW,bW,kW⟩:=nwb wr #[.bool o0,qI o1,qI o2,qI o3] 132;have O:=yT I bW;have s:=zh O;have H:=zh hW;have U:=A.2.bw O;have t0:=U.z4;have p0:=kW.z4;clear hW bW kW O U I F D E B HH K;cases x0 with
   | false=>
     have u:=zh$ l (λq=>by have:=q.1;cases this);clear p l;go_wp2_with (rw[<-H.o])
     go_roundw
     .exact⟨k+1,J,by go_num,u,s⟩
     .simp[qf,intOf];omega
   | true=>
     cases o0 with
     | false=>
       have u:=zh$ l (λq=>by have:=q.2.1;cases this);clear p l;go_wp2_with (rw[<-H.o])
       go_roundw
       .exact⟨k+1,J,by go_num,u,s⟩
       .simp[qf,intOf];omega
     | true=>
       by_cases b:o3=x3
       .subst b;have u:=zh$ p ⟨rfl,rfl,.inl rfl⟩;clear p l;go_wp2_with (rw[<-H.o])
        go_ret;exact dN u$ yT A.1 s
       .have a3:(o3==x3)=false:=by simp[b]
        by_cases d:o1=X
        .by_cases c2:o2=Y
         .have u:=zh$ p ⟨rfl,rfl,.inr ⟨d,c2⟩⟩;subst d c2;clear p l b;go_wp2_with (rw[<-H.o])
          go_ret;exact dN u$ yT A.1 s
         .have a1:(o2==Y)=false:=by simp[c2]
          have u:=zh$ l (λq=>by rcases q.2.2 with e|e;exact b e;exact c2 e.2);subst d;clear p l b c2;go_wp2_with (rw[<-H.o])
          go_roundw
          .exact⟨k+1,J,by go_num,u,s⟩
          .simp[qf,intOf];omega
        .have a5:(o1==X)=false:=by simp[d]
         have u:=zh$ l (λq=>by rcases q.2.2 with e|e;exact b e;exact d e.1);clear p l b d;go_wp2_with (rw[<-H.o])
         go_roundw
         .exact⟨k+1,J,by go_num,u,s⟩
         .simp[qf,intOf];omega
  .have HY:=zh$ B λj Z=>F j J;have HB:=zh I;clear I F;go_wp2;go_ret;exact uB HY$ yT A.1 HB
section
variable {cf:Array Value}{tc:TypeId}{ct:Array Value}{tt:TypeId}{base:Nat}{R:List Rg}{w W5 W W':qw}{p:qO}{k q:Nat}
end
def Blk.tg3 {w:qw}{b:Nat}{t:TypeId}{v0 v1 v2:Value}(h:Blk w b #[v0,v1,v2] t):w.cell? (qR b 0)=some v0/\w.cell? (qR b 1)=some v1/\w.cell? (qR b 2)=some v2:=⟨h.cell 0,h.cell 1,h.cell 2⟩
