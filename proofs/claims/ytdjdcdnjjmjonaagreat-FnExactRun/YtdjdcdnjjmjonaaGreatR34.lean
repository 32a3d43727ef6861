import Derived.Deep.Slices
import Derived.Test.YtdjdcdnjjmjonaaGreatR27
import Derived.Test.YtdjdcdnjjmjonaaGreatR30
set_option linter.all false
set_option maxHeartbeats 16000000
namespace Go.Proofs.YtdjdcdnjjmjonaaGreat
open Go.RowKit Classical
open Go.Proofs.Tryz
set_option maxRecDepth 100000
variable {C C':Cn}{L:Lay}{Ls:List (PMod×Mb)}{M M':Mn}{Y:Lyb}{a:qO}{b m s t:Int}{base cap aN n:Nat}{ms:List Md}{β:Nat->Nat}
theorem aEb {w:qw}(h:MSD w a n cap ms)(m b):0<=pcq (aI ms) m b ↔ (0<=m/\m<(n:Int))/\(b=-1\/(0<=b/\b<((ms.getD m.toNat aM).bn:Int))):=by
 have d:=h.s.1;rw[<-fL h];unfold pcm;rw[d];by_cases c:0<=m/\m<(n:Int)
 .rw[if_pos c];unfold pcn
  grind
 .grind
theorem aT0 (L):sOk L (-1) (-1):=by grind
theorem aU3 (h:sOk L (-1) s):s=-1:=by grind
theorem aT1 (b)(h:L.slots=[]):sOk L b (-1):=by grind
theorem aU4 (h:L.slots=[])(hs:sOk L b s):s=-1:=by grind
theorem aWn (d:b≠-1)(h:¬L.slots=[]):sOk L b s ↔ 0<=s/\s<(L.slots.length:Int):=by grind
def F2 (ps:List PMod)(L:Lay)(m b:Int):Prop:=∀s:Int,sOk L b s->(plR ps L m b s).length<=8
theorem aLi {w:qw}(h:MSD w a n cap ms)(d:Lok (aI ms) L)(f:∀m:Nat,m<n->∀b:Int,(b=-1\/(0<=b/\b<((ms.getD m aM).bn:Int)))->F2 (aI ms) L m b):vF (aI ms) L:=by
 refine⟨d,λm b s e hs=>?_⟩;let⟨⟨i,j⟩,g⟩:=(aEb h m b).1 e;have:=f m.toNat J b g s hs
 grind
def aE3 {w:qw}(h:MSD w a n cap ms)(e:0<=m/\m<(n:Int))(f:b=-1\/(0<=b/\b<((ms.getD m.toNat aM).bn:Int)))(hs:sOk L b s)(d:¬(plR (aI ms) L m b s).length<=8):¬vF (aI ms) L:=λg=>d$ g.2 m b s ((aEb h m b).2 ⟨e,f⟩) hs
def aL9 (a n a0 ms L Y c0 xs a2 c2 a5 c5 ts w)(h:MSD w a n a0 ms)(hL:LyT w L Y c0 xs a2 c2 a5 c5 ts):
 qC 62 #[qS a n a0,.agg$ qL L Y xs.length c0 a2 L.slots.length c2 a5 ts.length c5] w λe w'=>∃r:Bool,e=.returned (.bool r)/\(r=true ↔ vF (aI ms) L)/\qY w w':=by
 let⟨V,hV⟩:=aO$ w.alloc$ .cells (qL L Y xs.length c0 a2 L.slots.length c2 a5 ts.length c5) 65;have P:qY w V:=by rw[hV];exact brf.alloc aQ _
 have k0:Blk V w.heap.size (qL L Y xs.length c0 a2 L.slots.length c2 a5 ts.length c5) 65:=by rw[hV];exact Blk.new w _ _
 have b8:=zh P;have G:=zh$ h.bw P;have ak:=zh$ hL.bw P;have HV:=zh hV;have HK:=zh k0;have b5:=h.s.2.1;have a4:=hL.s.2.1;unfold maxLen at b5 a4;have g:Zh (∀X,qY V X->qn X w 0=qk Y xs.length c0/\qn X w 1=qj L.stack/\qn X w 2=qk a2 L.slots.length c2/\qn X w 3=qj L.flash/\qn X w 4=qj L.ram/\qn X w 5=qk a5 ts.length c5):=λX hz=>(HK.bw hz).ly6;have HX:Zh (∀X,qY V X->qY w X):=λX hz=>yT b8 hz;have Z:Zh (qC 113 #[qS a n a0,.agg$ qL L Y xs.length c0 a2 L.slots.length c2 a5 ts.length c5] V λe w'=>e=.returned (.bool$ decide$ Lok (aI ms) L)/\qY V w'):=yY a n a0 ms L Y c0 xs a2 c2 a5 c5 ts V G ak;clear hV k0 h hL P;let⟨z0,z1,C,z3,z4,z5⟩:=g _ brf;by_cases c1:Lok (aI ms) L
 .rw[xR c1]at Z;have HC:=zh c1;have K:Zh (∀X(m b s:Int),qY V X->(0<=m/\m<(n:Int))->(b=-1\/(0<=b/\b<((ms.getD m.toNat aM).bn:Int)))->sOk L b s->qC 73 #[qS a n a0,.agg$ qL L Y xs.length c0 a2 L.slots.length c2 a5 ts.length c5,.agg$ qT m b 0,qI s] X (λe w'=>∃A k c,e=.returned (qS A k c)/\k=(plR (aI ms) L m b s).length/\qY X w'/\qY V w')):=λX m b s hz hm N hs=>(iZ a n a0 ms L Y c0 xs a2 c2 a5 c5 ts m b 0 s X (G.bw hz) (ak.bw hz) c1 ((aEb G m b).2 ⟨hm,N⟩) hs.fit).mono λe w'⟨A,k,c,he,ho,a8⟩=>⟨A,k,c,he,(eV ho).1.symm,a8,yT hz a8⟩;clear c1;let⟨l,hl⟩:=aO$ L.slots.length;rw[<-hl]at Z K g HV C a4⊢;have b7:=zh hl;have b1:=zh (show L.slots=[] ↔ l=0 by rw[hl];exact List.length_eq_zero_iff.symm);clear hl
  delta qC;go_in
  go_wp2_with (rw[<-HV.o])
  apply Z.mono;rintro e X1 ⟨rfl,j⟩;have y:=zh j;clear j z0 z1 C z3 z4 z5 Z HV;go_wp2_with fail
  go_loopw [5] (λi wr=>∃m:Nat,m<=n/\i=qI m/\(∀d:Nat,d<m->∀b:Int,(b=-1\/(0<=b/\b<((ms.getD d aM).bn:Int)))->F2 (aI ms) L d b)/\qY V wr) (qf n)
  .exact⟨0,xC _,rfl,λd S=>absurd S$ Nat.not_lt_zero _,y⟩
  .obtain⟨m,hm,rfl,hF,P⟩:=hrel;have HF:=zh hF;have HB:=zh P;clear hF P y;by_cases az:m<n
   .have ba:(m:Int)<(n:Int):=J
    obtain⟨gm,om,rfl,_,_,v2,_,_,_,_,_⟩:=G.s.at m az;have b9:(ms.getD m aM).bn<=9223372036854775807:=by have:=(G.s.2.2.2.1 m az).b.2.1;unfold maxLen at this;omega
    let⟨bn,a3⟩:=aO$ (ms.getD m aM).bn;have af:=zh a3;rw[<-a3]at v2 b9;clear a3;have aa:=zh$ K wr m (-1) (-1) HB J (.inl rfl)$ aT0 L;let⟨z0,z1,C,z3,z4,z5⟩:=g _ HB;go_wp2_with fail
    apply aa.mono;rintro e X2 ⟨A,k,c,rfl,hk,_,ao⟩;have a6:=zh hk;have aw:=zh ao;clear hk ao aa z0 z1 C z3 z4 z5;by_cases h8:k<=8
    .have b6:(k:Int)<=8:=J
     have HT:Zh (F2 (aI ms) L m (-1)):=λs hs=>by rw[aU3 hs,<-a6.o];exact h8
     go_wp2_with fail
     generalize wr=wo at *;go_loopw [6] (λi wr=>∃q:Nat,q<=bn/\i=qI q/\(∀b:Int,(b=-1\/(0<=b/\b<(q:Int)))->F2 (aI ms) L m b)/\qY V wr) (qf bn)
     .exact⟨0,xC _,rfl,λb N=>by rcases N with rfl|N;exact HT;omega,aw⟩
     .obtain⟨q,hq,rfl,ay,ah⟩:=hrel;have a7:=zh ay;have I:=zh ah;clear ay ah;have v3:=aB I v2;by_cases be:q<bn
      .have b3:(q:Int)<(bn:Int):=J
       generalize wr=wp at *
       have HQ:=zh (show F2 (aI ms) L m (q:Int)->∀b:Int,(b=-1\/(0<=b/\b<((q+1:Nat):Int)))->F2 (aI ms) L m b from λh b N=>by
        by_cases e:b=(q:Int)
        .rw[e];exact h
        .exact a7 b J)
       let⟨V3,a1⟩:=aO$ wp.alloc$ .cells (qT m q 0) 121;have b2:qY V V3:=by rw[a1];exact I.o.alloc I.o.size _
       have kT:Blk V3 wp.heap.size (qT m q 0) 121:=by rw[a1];exact Blk.new _ _ _
       have am:=zh a1;have u:=zh b2;have au:=zh kT;clear a1 b2 kT;let⟨z0,z1,C,z3,z4,z5⟩:=g _ u;have y0:=au.tg3;have H:Zh ((q:Int)=-1\/(0<=(q:Int)/\(q:Int)<((ms.getD ((m:Int)).toNat aM).bn:Int))):=.inr ⟨J,by rw[xY,<-af.o];exact b3⟩;by_cases E:l=0
       .have U:=zh$ b1.2 E;have aq:=zh$ K V3 m q (-1) u J H$ aT1 _ U;subst E;go_wp2_with (rw[<-am.o])
        apply aq.mono;rintro e X4 ⟨A2,k2,bf,rfl,ar,_,b0⟩;have ag:=zh ar;have ai:=zh b0;clear ar b0 aq z0 z1 C z3 z4 z5 y0;by_cases a9:k2<=8
        .have ap:(k2:Int)<=8:=J
         have B:=zh (HQ.o (λs hs=>by rw[aU4 U.o hs,<-ag.o];exact a9));go_wp2_with fail
         go_loopw [8] (λi wr=>i=qI 0/\qY V wr) (λ_ _=>0)
         .exact⟨rfl,ai⟩
         .obtain⟨rfl,x⟩:=hrel;have f:=zh x;let⟨z0,z1,C,z3,z4,z5⟩:=g _ f;clear x;go_wp2
          go_roundw
          .exact⟨q+1,J,by go_num,B,f⟩
          .simp[qf,intOf];omega
        .have ap:(8:Int)<(k2:Int):=J
         have p:=zh (aE3 G.o (m:=(m:Int)) (b:=(q:Int)) (s:=-1) J H.o (aT1 _ U.o) (by rw[<-ag.o];exact a9));go_wp2;go_ret;exact⟨false,rfl,by simp[p.o],HX.o _ ai.o⟩
       .have bb:((l:Int)==0)=false:=by simpa using E
        have Q:Zh (∀s:Int,sOk L (q:Int) s ↔ 0<=s/\s<(l:Int)):=λs=>by rw[b7.o];exact aWn J λe=>E$ b1.o.1 e
        go_wp2_with (rw[<-am.o])
        clear z0 z1 C z3 z4 z5 y0;go_loopw [8] (λi wr=>∃t:Nat,t<=l/\i=qI t/\(∀D:Nat,D<t->(plR (aI ms) L m q D).length<=8)/\Blk wr wp.heap.size (qT m q 0) 121/\qY V wr) (qf l)
        .exact⟨0,xC _,rfl,λD aj=>absurd aj$ Nat.not_lt_zero _,au,u⟩
        .obtain⟨t,ht,rfl,hG,ax,x⟩:=hrel;have HG:=zh hG;have ae:=zh ax;have f:=zh x;clear hG ax x;let⟨z0,z1,C,z3,z4,z5⟩:=g _ f;have y0:=ae.tg3;by_cases bd:t<l
         .have M:(t:Int)<(l:Int):=J
          have ad:=zh$ K wr m q t f J H$ (Q _).2 ⟨J,M⟩;go_wp2_with fail
          apply ad.mono;rintro e X6 ⟨A3,k3,bc,rfl,av,O,ac⟩;have an:=zh av;have W:=zh$ xA O ac;clear av O ac ad z0 z1 C z3 z4 z5 y0;by_cases ab:k3<=8
          .have b4:(k3:Int)<=8:=J
           have B:=zh (show ∀D:Nat,D<t+1->(plR (aI ms) L m q D).length<=8 from λD aj=>by
            by_cases e:D=t
            .rw[e,<-an.o];exact ab
            .exact HG D J)
           go_wp2
           go_roundw
           .exact⟨t+1,J,by go_num,B,ae.bw W.1,W.2⟩
           .simp[qf,intOf];omega
          .have b4:(8:Int)<(k3:Int):=J
           have p:=zh (aE3 G.o (m:=(m:Int)) (b:=(q:Int)) (s:=(t:Int)) J H.o ((Q.o _).2 ⟨J,M⟩) (by rw[<-an.o];exact ab));go_wp2;go_ret;exact⟨false,rfl,by simp[p.o],HX.o _ W.o.2⟩
         .have B:=zh (HQ (λs hs=>by
           have h1:=(Q s).1 hs;have h2:=HG s.toNat J
           rwa[Int.toNat_of_nonneg h1.1]at h2))
          go_wp2
          go_roundw
          .exact⟨q+1,J,by go_num,B,f⟩
          .simp[qf,intOf];omega
      .have B:=zh (show ∀d:Nat,d<m+1->∀b:Int,(b=-1\/(0<=b/\b<((ms.getD d aM).bn:Int)))->F2 (aI ms) L d b from λd S b N=>by
        by_cases e:d=m
        .subst e;rw[<-af.o]at N;exact a7 b J
        .exact HF d J b N)
       go_wp2
       go_roundw
       .exact⟨m+1,J,by go_num,B,I⟩
       .simp[qf,intOf];omega
    .have b6:(8:Int)<(k:Int):=J
     have p:=zh (aE3 G.o (m:=(m:Int)) (b:=-1) (s:=-1) J (.inl rfl) (aT0 L) (by rw[<-a6.o];exact h8));go_wp2;go_ret;exact⟨false,rfl,by simp[p.o],HX.o _ aw.o⟩
   .have B:=zh$ aLi G HC λd S=>HF d J;go_wp2;go_ret;exact⟨true,rfl,by simp[B.o],HX.o _ HB.o⟩
 .rw[xS c1]at Z;have HC:=zh c1;clear c1
  delta qC;go_in
  go_wp2_with (rw[<-HV.o])
  apply Z.mono;rintro e X1 ⟨rfl,j⟩;have y:=zh j;clear j;go_wp2;go_ret;exact⟨false,rfl,by simp[vF,HC.o],HX.o _ y.o⟩
def Blk.c2 {w:qw}{b:Nat}{t:TypeId}{v0 v1 v2 v3 v4 f e d:Value}(h:Blk w b #[v0,v1,v2,v3,v4,f,e,d] t):w.cell? (qR b 2)=some v2:=h.cell 2
theorem aRn {ps:List PMod}(h:∀t:Nat,t<(slF L b).length->(plR ps L m b$ (slF L b).getD t 0).length<=8):F2 ps L m b:=λs hs=>by
 let⟨k,a,e⟩:=aPt$ (aKq L b s).2 hs
 grind
def aU0 {t:Nat}(h:t<(slF L b).length):sOk L b ((slF L b).getD t 0):=(aKq L b _).1$ aCv h
def aD9 (a n a1 ms L a0 c0 xs a2 c2 a5 c5 ts w)(h:MSD w a n a1 ms)(hL:LyT w L a0 c0 xs a2 c2 a5 c5 ts)(hk:Lok (aI ms) L):
 qC 140 #[qS a n a1,.agg$ qJ L a0 xs c0 a2 c2 a5 ts c5] w λe w'=>∃r:Bool,e=.returned (.bool r)/\(r=true ↔ vF (aI ms) L)/\qY w w':=by
 let⟨V,hV⟩:=aO$ w.alloc$ .cells (qJ L a0 xs c0 a2 c2 a5 ts c5) 65;have H:qY w V:=by rw[hV];exact bal
 have k0:Blk V w.heap.size (qJ L a0 xs c0 a2 c2 a5 ts c5) 65:=by rw[hV];exact Blk.new w _ _
 have b3:=zh H;have U:=zh$ h.bw H;have ad:=zh$ hL.bw H;have HV:=zh hV;have HK:=zh k0;have hn:=h.s.1;have ax:=h.s.2.1;have ar:=hL.s.2.1;unfold maxLen at ax ar;have an:Zh (∀X,qY V X->qn X w 0=qk a0 xs.length c0/\qn X w 1=qj L.stack/\qn X w 2=qk a2 L.slots.length c2/\qn X w 3=qj L.flash/\qn X w 4=qj L.ram/\qn X w 5=qk a5 ts.length c5):=λX C=>(HK.bw C).ly6;have HX:Zh (∀X,qY V X->qY w X):=λX C=>yT b3 C;have HC:=zh hk;have b0:Zh (∀X(m b s:Int),qY V X->(0<=m/\m<(n:Int))->(b=-1\/(0<=b/\b<((ms.getD m.toNat aM).bn:Int)))->sOk L b s->qC 147 #[qS a n a1,.agg$ qJ L a0 xs c0 a2 c2 a5 ts c5,.agg$ qT m b 0,qI s] X (λe w'=>∃A k c,e=.returned (.tuple #[qS A k c,.bool$ decide$ (plR (aI ms) L m b s).length<=8])/\qY X w'/\qY V w')):=λX m b s C hm B hs=>(wL a n a1 ms L a0 c0 xs a2 c2 a5 c5 ts m b 0 s X (U.bw C) (ad.bw C) hk ((aEb U m b).2 ⟨hm,B⟩) hs.fit).mono λe w'⟨A,k,c,he,_,g⟩=>⟨A,k,c,he,g,yT C g⟩;have au:Zh (∀X(b:Int),qY V X->qC 182 #[.agg$ qJ L a0 xs c0 a2 c2 a5 ts c5,qI b] X (λe w'=>∃ra Y rc,e=.returned (qS ra Y rc)/\IS w' ra Y rc (slF L b)/\qY X w'/\qY V w')):=λX b C=>(aDq L a0 c0 xs a2 c2 a5 c5 ts b X (ad.bw C)$ aM1 hk).mono λe w'⟨ra,Y,rc,he,hi,g⟩=>⟨ra,Y,rc,he,hi,g,yT C g⟩;clear hV k0 h hL H hk
 delta qC;go_in
 go_wp2_with (rw[<-HV.o])
 clear HV;go_loopw [14] (λi wr=>∃m:Nat,m<=n/\i=qI m/\(∀f:Nat,f<m->∀b:Int,(b=-1\/(0<=b/\b<((ms.getD f aM).bn:Int)))->F2 (aI ms) L f b)/\qY V wr) (qf n)
 .exact⟨0,xC _,rfl,λf O=>absurd O$ Nat.not_lt_zero _,brf⟩
 .obtain⟨m,hm,rfl,hF,H⟩:=hrel;have HF:=zh hF;have j:=zh H;clear hF H;by_cases x:m<n
  .have bc:(m:Int)<(n:Int):=J
   obtain⟨gm,om,rfl,v0,v1,v2,v3,v4,v5,v6,v7⟩:=U.s.at m x
   have ai:(ms.getD m aM).bn<=9223372036854775806:=by
    have h1:=(nB HC.o).v m (by rw[cF,hn];exact x);rw[cZ (by rw[hn];exact x)]at h1;have h2:=(cJ h1).2.2.2.1;have:=(U.d m x).b.1;simp only[Md.pm,xH]at h2;omega
   let⟨M,hM⟩:=aO$ ms.getD m aM;have b6:=zh hM;rw[<-hM]at v0 v1 v2 v3 v4 v5 v6 v7 ai;clear hM;let⟨p,a4⟩:=aO$ M.bn;have aa:=zh (show p=(ms.getD m aM).bn by rw[a4,b6.o]);rw[<-a4]at v2 ai;clear a4;have u0:=aB j v0;have u1:=aB j v1;have u2:=aB j v2;have u3:=aB j v3;have u4:=aB j v4;have u5:=aB j v5;have u6:=aB j v6;have u7:=aB j v7;clear v0 v1 v2 v3 v4 v5 v6 v7;generalize wr=wo at *;let⟨V2,a3⟩:=aO$ wo.alloc$ .cells (qM M.nm M.ta M.tn M.tc M.ba p M.bc M.da M.dn M.dc M.bss M.ra M.rn M.rc M.ia M.im M.ic M.ea M.en M.ec) 128;have aq:=zh (show qY V V2 by rw[a3];exact j.o.alloc j.o.size _);have b5:=zh (show Blk V2 wo.heap.size (qM M.nm M.ta M.tn M.tc M.ba p M.bc M.da M.dn M.dc M.bss M.ra M.rn M.rc M.ia M.im M.ic M.ea M.en M.ec) 128 by rw[a3];exact Blk.new _ _ _);have ba:=zh a3;clear a3;go_wp2_with (rw[<-ba.o])
   clear u0 u1 u2 u3 u4 u5 u6 u7;go_loopw [7] (λi wr=>∃q:Nat,q<=p+1/\i=qI ((q:Int)-1)/\(∀b:Int,-1<=b->b<(q:Int)-1->F2 (aI ms) L m b)/\Blk wr wo.heap.size (qM M.nm M.ta M.tn M.tc M.ba p M.bc M.da M.dn M.dc M.bss M.ra M.rn M.rc M.ia M.im M.ic M.ea M.en M.ec) 128/\qY V wr) (λi _=>p+1-(intOf i+1).toNat)
   .exact⟨0,xC _,rfl,λb h1 h2=>J,b5,aq⟩
   .obtain⟨q,hq,rfl,ah,I,ab⟩:=hrel;have Z:=zh ah;have b9:=zh I;have P:=zh ab;have y2:=I.c2;clear ah ab I;by_cases be:q<p+1
    .have ap:(q:Int)-1<(p:Int):=J
     obtain⟨b,B⟩:∃b:Int,b=(q:Int)-1:=⟨_,rfl⟩;rw[<-B]at ap ⊢;have:-1<=b:=J
     have N:=zh B
     have ae:=zh (show b=-1\/(0<=b/\b<((ms.getD ((m:Int)).toNat aM).bn:Int))by
      rw[xY,<-aa.o]
      omega)
     clear B;generalize wr=wp at *;have a7:=zh$ au wp b P;have z0:=an _ P;go_wp2_with fail
     apply a7.mono;rintro e X4 ⟨ra,Y,rc,rfl,hI,D,am⟩;have az:=zh hI;have aw:=zh$ b9.bw D;have ay:=zh am;have b2:=hI.2.1;unfold maxLen at b2;clear hI D am a7 z0 y2;go_wp2_with fail
     go_loopw [30] (λi wr=>∃t:Nat,t<=Y/\i=qI t/\(∀u:Nat,u<t->(plR (aI ms) L m b$ (slF L b).getD u 0).length<=8)/\IS wr ra Y rc (slF L b)/\Blk wr wo.heap.size (qM M.nm M.ta M.tn M.tc M.ba p M.bc M.da M.dn M.dc M.bss M.ra M.rn M.rc M.ia M.im M.ic M.ea M.en M.ec) 128/\qY V wr) (qf Y)
     .exact⟨0,xC _,rfl,λu ac=>absurd ac$ Nat.not_lt_zero _,az,aw,ay⟩
     .obtain⟨t,ht,rfl,hG,l,af,ak⟩:=hrel;have HG:=zh hG;have aj:=zh l;have a9:=zh af;have Q:=zh ak;clear hG af ak;by_cases ag:t<Y
      .have bb:(t:Int)<(Y:Int):=J
       obtain⟨rb,ro,rfl,ao⟩:=l.2.2.2.1 J;have r0:=ao t ag;have S:=zh (aU0 (L:=L) (b:=b) (t:=t) (by rw[l.1];exact ag));have K:=zh$ b0 wr m b ((slF L b).getD t 0) Q J ae S;have z0:=an _ Q;let⟨sv,a6⟩:=aO$ (slF L b).getD t 0;rw[<-a6]at r0 K S;have av:=zh a6;clear ao l a6;go_wp2_with fail
       apply K.mono;rintro e X6 ⟨A3,k3,bd,rfl,E,a8⟩;have y:=zh$ xA E a8;clear E a8 K z0 r0;by_cases d:(plR (aI ms) L m b sv).length<=8
       .rw[xR d]
        have G:=zh (show ∀u:Nat,u<t+1->(plR (aI ms) L m b$ (slF L b).getD u 0).length<=8 from λu ac=>by
         by_cases e:u=t
         .rw[e,<-av.o];exact d
         .exact HG u J)
        clear d;go_wp2
        go_roundw
        .exact⟨t+1,J,by go_num,G,aj.bw y.1,a9.bw y.1,y.2⟩
        .simp[qf,intOf];omega
       .rw[xS d];have b4:=zh$ aE3 U (m:=(m:Int)) (b:=b) (s:=sv) J ae S d;clear d;go_wp2;go_ret;exact⟨false,rfl,by simp[b4.o],HX.o _ y.o.2⟩
      .have G:=zh (show ∀W:Int,-1<=W->W<((q+1:Nat):Int)-1->F2 (aI ms) L m W from λW h1 h2=>by
        by_cases e:W=b
        .rw[e];exact aRn (λt' b7=>HG.o t' (by rw[aj.o.1]at b7;omega))
        .exact Z W h1 (jK N.o))
       have b8:=zh (show b+1=((q+1:Nat):Int)-1 by have:=N.o;omega);clear l;go_wp2
       go_roundw
       .exact⟨q+1,J,by rw[b8.o],G.o,a9.o,Q.o⟩
       .have:=N.o;simp[qf,intOf];omega
    .have G:=zh (show ∀f:Nat,f<m+1->∀b:Int,(b=-1\/(0<=b/\b<((ms.getD f aM).bn:Int)))->F2 (aI ms) L f b from λf O b B=>by
      by_cases e:f=m
      .subst e;rw[<-aa.o]at B;exact Z b J J
      .exact HF f J b B)
     have b1:(q:Int)-1=(p:Int):=J
     rw[b1];go_wp2
     go_roundw
     .exact⟨m+1,J,by go_num,G,P⟩
     .simp[qf,intOf];omega
  .have G:=zh$ aLi U HC λf O=>HF f J;go_wp2;go_ret;exact⟨true,rfl,by simp[G.o],HX.o _ j.o⟩
abbrev stM (W:World)(q:Nat)(N:Mn):World:=sH W q (qS N.ma N.mn N.mc) (qI N.cs) (qI N.cw) (qI N.ck) (qI N.cd) (qI N.pc) (qS N.ka N.kn N.kc) (qS N.fa N.fn N.fc) (qS N.ra N.rn N.rc) (qS N.oa N.on N.oc) (qI N.md) (qI N.bk) (qS N.la N.ln N.lc) (qS N.ha N.hn N.hc) (qI N.tn)
def aNy {w W W':qw}{g:Nat}(h:TGx w W)(T:Turn (λj=>j=g) W W')(f:w.heap.size<=g):TGx w W':=⟨T.os.trans h.os,T.tape.trans h.tape,T.output.trans h.output,xM h.size T.size,λk d hs=>(T.block k (Nat.lt_of_lt_of_le d h.size) λ(e:k=g)=>J).trans$ h.block k d hs⟩
structure Se (w1 w W:qw)(Y:Lyb)(m b t:Int)(C:Cn)(M:Mn)(base aN:Nat)(Ls:List (PMod×Mb))(β:Nat->Nat):Prop where
 tg:TGx w W
 lo:qY w1 W
 l:w1.heap.size<=w.heap.size
 k0:Blk W w.heap.size (qA M) 43
 k1:Blk W (w.heap.size+1) (qL Y.L Y.a0 Y.xs.length Y.c0 Y.a2 Y.L.slots.length Y.c2 Y.a5 Y.ts.length Y.c5) 65
 k2:Blk W (w.heap.size+1+1) (qT m b t) 121
 k3:Blk W (w.heap.size+1+1+1) z15 43
 m:MxO W base aN C M Ls β
def Se.bw {f w W:qw}{e:qw}(h:Se f w W Y m b t C M base aN Ls β)(d:qY W e):Se f w e Y m b t C M base aN Ls β:=⟨h.tg.trans$ bN d,h.lo.trans$ d.mono h.lo.size,h.l,h.k0.bw d,h.k1.bw d,h.k2.bw d,h.k3.bw d,h.m.bw d⟩
theorem Se.put {d w W:qw}(h:Se d w W Y m b t C M base aN Ls β)(i v)(e:((qA M):Array Value).setIfInBounds i v=(qA M'))(f:∀{X:qw},MxO X base aN C M Ls β->MxO X base aN C' M' Ls β):Se d w (W.setCell (qR w.heap.size i) v) Y m b t C' M' base aN Ls β:=by
 have T:=aD W w.heap.size i v;have k:=h.k0.set i v;rw[e]at k;exact⟨aNy h.tg T aQ,aF h.lo T (λj g=>jK h.l) h.lo.size,h.l,k,h.k1.other _ _ (by grind),h.k2.other _ _ (by grind),h.k3.other _ _ (by grind),f$ h.m.tm$ dH h.k0 T⟩
def Se.upd {g w W:qw}{f:qw}{S:Nat->Prop}(h:Se g w W Y m b t C M base aN Ls β)(T:Turn S W f)(hS:∀j,S j->g.heap.size<=j/\∃a ty,Blk W j a ty/\gkd ty)(e:((qA M):Array Value)=(qA M'))(l:MxO f base aN C' M' Ls β):Se g w f Y m b t C' M' base aN Ls β:=by
 have d:∀{j:Nat}{a:Array Value}{ty:TypeId},Blk W j a ty->(ty=43\/ty=65\/ty=121)->Blk f j a ty:=λkb k=>aC T kb (λs=>by
  let⟨_,c2,u,q,p⟩:=hS _ s;have:=aH kb q;rw[<-this]at p;unfold gkd at p
  rcases k with rfl|rfl|rfl<;>exact absurd p Ja)
 exact⟨h.tg.trans$ fI T λj i=>(hS j i).2,aF h.lo T (λj i=>(hS j i).1) h.lo.size,h.l,by rw[<-e];exact d h.k0$ .inl rfl,d h.k1$ .inr$ .inl rfl,d h.k2$ .inr$ .inr rfl,d h.k3$ .inl rfl,l⟩
def Se.reg {f w W:qw}(h:Se f w W Y m b t C M base aN Ls β)(p:f.heap.size<=base){d:Nat}(e:M.ka=some (qR d 0))(i)(hi:i<M.kn)(z)(hz:wfi z):Se f w (W.setCell (qR d i)$ qI z) Y m b t { C with kz:=C.kz.set i z } { M with kz:=C.kz.set i z } base aN Ls β:=by
 have mk:=h.m.k;rw[e]at mk;let⟨a,kb⟩:=aE mk.1 (k:=d) rfl;have:=(mk.lt d rfl).1;have:=h.m.bm;exact h.upd (aD W d i _) (λj g=>by subst g;exact⟨J,a,_,kb,.inr$ .inr$ .inr rfl⟩) rfl$ h.m.reg e i hi z hz
def MxO.stn {W:qw}(h:MxO W base aN C M Ls β)(v):MxO W base aN { C with tn:=v } { M with tn:=v } Ls β:=⟨h.m,h.e,h.k,h.q,h.l,h.h,h.bm,h.bh,⟨h.vs.1,h.vs.2.1,h.vs.2.2.1,h.vs.2.2.2.1,h.vs.2.2.2.2.1,h.vs.2.2.2.2.2.1,h.vs.2.2.2.2.2.2.1,rfl⟩,h.vz⟩
def Se.slot {f w W:qw}(h:Se f w W Y m b t C M base aN Ls β)(q:f.heap.size<=base){d:Nat}(e:M.la=some (qR d 0))(i)(hi:i<M.ln)(a x1 x2 x3):Se f w ((((W.setCell (qR d$ i*4)$ .bool a).setCell (qR d$ i*4+1)$ qI x1).setCell (qR d$ i*4+2)$ qI x2).setCell (qR d$ i*4+3)$ qI x3) Y m b t { C with lz:=C.lz.set i (a,x1,x2,x3) } { M with lz:=C.lz.set i (a,x1,x2,x3) } base aN Ls β:=by
 have g:=h.m.l;rw[e]at g;let⟨p,kb⟩:=aE g (k:=d) rfl;have:=(g.lt d rfl).1;have:=h.m.bm;exact h.upd ((((aD W d _ _).trans$ aD _ d _ _).trans$ aD _ d _ _).trans$ aD _ d _ _) (λj l=>by subst l;exact⟨J,p,_,kb,.inr$ .inr$ .inl rfl⟩) rfl$ h.m.slot e i hi a x1 x2 x3
theorem Se.mem {g w W:qw}{f:qw}(h:Se g w W Y m b t C M base aN Ls β)(p:g.heap.size<=base){gr:Nat}(e:M.ra=some (qR gr 0))(T:Turn (λj=>j=gr) W f){R:qi}(q:OB f aN (qS M.ra M.rn M.rc) R):Se g w f Y m b t { C with rz:=R } { M with rz:=R } base aN Ls β:=by
 have d:=h.m.q;rw[e]at d q;let⟨a,kb⟩:=aE d.2.1.1 (k:=gr) rfl;have:=(d.2.1.lt gr rfl).1;have:=h.m.bm;have:=h.m.vz.2.2.2.2.1
 have l:cB f aN (qS M.fa M.fn M.fc) (qS M.ra M.rn M.rc) (qS M.oa M.on M.oc) C.fz R C.oz:=by
  rw[e];exact⟨aP T d.1 λk hk(s:k=gr)=>jK$ d.2.2.2.1 k gr hk rfl,q,aP T d.2.2.1 λk hk(s:k=gr)=>jK$ d.2.2.2.2.2 gr k rfl hk,d.2.2.2⟩
 have:=h.m.mem T (λj i=>by grind) l;refine h.upd T (λj i=>by subst i;exact⟨J,a,_,kb,.inl rfl⟩) rfl ?_
 grind
def LeP (w1 w:qw)(base aN:Nat)(Ls:List (PMod×Mb))(β:Nat->Nat)(Y:Lyb)(C:Cn)(m b t:Int)(e:Ending)(w':qw):Prop:=∃M',e=.returned (.agg$ qA M')/\MxO w' base aN (dG C Y.L m b t) M' Ls β/\qY w1 w'/\TGx w w'
def aSx:=@vM f175 6 rfl
theorem aSh (W:qw)(base)(d:base<=W.heap.size):OMp (W.alloc$ .cells #[] 128) base (qS (qP W.heap.size) 0 0) [] (λ_=>W.heap.size):=⟨cP _ _ _ _ _ d,λi x hx=>by grind,λ_ _ _ _=>aQ,d,Jb⟩
def L7P (w:qw)(n:Nat)(L:List (PMod×Mb))(e:Ending)(w':qw):Prop:=∃a cap L' β',e=.returned (qS a n cap)/\OMp w' w.heap.size (qS a n cap) L' β'/\L'.map (λx=>x.1)=L.map (λx=>x.1)/\qY w w'
def aSi {α:Type}{t:TypeId}{sz:Nat}{f:α->List Value}{w:qw}{v:Value}{xs:List α}(h:OG t sz f w base v xs):OG t sz f w.drew base v xs:=h.bw brf.drew
def yV (a n cu L w)(H:OMq w a L)(hl:L.length=n)(hn:n<=1048576):
 qC 70 #[qS a n cu] w (L7P w n L):=by
 let⟨iI,ap,aa,ab,aj⟩:=info_parts rO;let⟨iB,d4,cx,cy,d0⟩:=info_parts aQd;let⟨iT,dc,dd,de,df⟩:=info_parts aQb;let⟨iX,dg,dh,di,dj⟩:=info_parts aP9;let⟨iM,d8,d9,da,db⟩:=info_parts aQc;have S0:=aSh w w.heap.size aQ;have B0:qY w (w.alloc$ .cells #[] 128):=bal;have ag:=zh$ xA S0 B0;have HH:=zh H;clear S0 B0 H
 delta qC;go_in
 go_wp2;go_loopw [3,4] (λv i wr=>∃j:Nat,j<=n/\i=qI j/\∃L' ai,OMp wr w.heap.size v L' ai/\L'.map (λx=>x.1)=(L.take j).map (λx=>x.1)/\qY w wr) (λ_ i _=>n-(intOf i).toNat)
 .exact⟨0,xC _,rfl,[],_,ag.o.1,Jb,ag.o.2⟩
 .obtain⟨j,hj,rfl,L',ai,O,hL,B⟩:=hrel;have af:L'.length=j:=by have:=congrArg List.length hL;simp at this;omega
  obtain⟨bb,cv,rfl⟩:=aZ O.o;rw[af]at O⊢;generalize wr=E at *;clear ag;by_cases eg:j<n
  .have bn:(j:Int)<(n:Int):=J
   obtain⟨⟨P,⟨b1,d1,b2,d2,b,b3,d3,b5,d5,b6,d6,b7,d7⟩⟩,hx⟩:∃x,L[j]?=some x:=⟨L[j],xN J⟩;obtain⟨g,rfl,_⟩:=HH.o.o j _ hx;have q:=zb E λX hX=>(HH.bw$ yT B hX).srcM hx;have S:=zh$ xA O$ xA hL B;let⟨⟨s0,s1,s2,s3,s4,s5,s6,s7⟩,_⟩:=q E brf;let⟨w1,aq⟩:=aO$ E.alloc$ .cells (qM P.nm b1 P.tz.length d1 b2 b.length d2 b3 P.dz.length d3 P.bss b5 P.rz.length d5 b6 P.ss.length d6 b7 P.es.length d7) 128;have C1:Cpm E w1 E.heap.size (qM P.nm b1 P.tz.length d1 b2 b.length d2 b3 P.dz.length d3 P.bss b5 P.rz.length d5 b6 P.ss.length d6 b7 P.es.length d7):=by rw[aq];exact⟨bal,Blk.new _ _ _,aQ⟩
   have b4:qY w1 (w1.alloc$ .cells #[] 3):=bal;let⟨⟨q0,q1,q2,q3,q4,q5,q6,q7⟩,Y,R⟩:=q _$ yT C1.b b4;have cr:=zh$ cP 3 1 clI w1 w1.heap.size aQ;have cg:=zh Y.t;have ht:=R.t.1;have dw:b.length<=1048576:=by have h1:=R.b.1;rw[<-Y.bls,xH]at h1;exact h1
   have ba:=zh R;have bd:=zh C1;have c9:=zh aq;have cs:=zh hx;clear O hL B C1 aq b4 Y hx R;go_wp2_with (first|(at_builtin;refine dO rfl _ _ 25 rfl w1.heap.size 3 iI (qI 0) 1 8 underlying25 ap aa ab aj rfl Ja (qS (qp w1) 0 0) [] rfl cr.o b1 P.tz.length d1 P.tz rfl cg.o (λ_=>rfl) (λy u hu=>by simp[clI]at hu;subst hu;rfl) (by unfold maxLen;simp;omega) Jc Jb ?_;intro v' w2 O2 G2;rw[List.nil_append]at O2;obtain⟨t1,e1,rfl⟩:=aZ O2;obtain⟨k2,C2,R2,T2⟩:=bd.o.row 1 O2 Ja G2;have z1:=k2.cell 1;have ca:=k2.frozen 1;have kk:=C2.k.alloc$ .cells #[] 25;have z2:=kk.cell 2;have cc:=kk.frozen 2;have ac:=zh$ Cpb.new (v2:=qS b2 b.length d2) (C2:Cpm E _ E.heap.size (qM P.nm t1 P.tz.length e1 b2 b.length d2 b3 P.dz.length d3 P.bss b5 P.rz.length d5 b6 P.ss.length d6 b7 P.es.length d7))$ OG.mono R2 bd.o.b.size;clear kk k2 C2 R2 T2 O2 G2 q0 q1 q2 q3 q4 q5 q6 q7)|rw[<-c9.o])
   try unfold qY at *
   rw[aL]at ac;clear s0 s1 s2 s3 s4 s5 s6 s7;go_loopw [7] (λi wr=>∃(k:Nat) (t:qO) (c2:Nat) (D:List Bk),k<=b.length/\i=qI k/\D.map (λB=>B.2.2.2)=(b.take k).map (λB=>B.2.2.2)/\Cpb E wr E.heap.size w2.heap.size t1 e1 P.tz t c2 D (.string P.nm) (qS b3 P.dz.length d3) (qI P.bss) (qS b5 P.rz.length d5) (qS b6 P.ss.length d6) (qS b7 P.es.length d7)) (qf b.length)
   .exact⟨0,_,_,[],xC _,rfl,Jb,ac.o⟩
   .obtain⟨k,t,c2,D,hk,rfl,K,C⟩:=hrel;have au:D.length=k:=by have:=congrArg List.length K;simp at this;omega
    have dt:D.length<=1048576:=J
    have eb:=zh au;clear z1 ca z2 cc ac au;generalize w2.heap.size=lo at *;by_cases be:k<b.length
    .have br:(k:Int)<(b.length:Int):=J
     have ed:(0:Int)<=(k:Int):=J
     have co:(0:Int)<=(j:Int):=J
     let⟨w5,a2⟩:=aO$ wr.alloc$ .cells #[] 3;have ah:qY wr w5:=by rw[a2];exact bal
     have bf:OG 3 1 clI w5 wr.heap.size (qS (qp wr) 0 0) []:=by rw[a2];exact cP _ _ _ _ _ aQ
     let⟨⟨_,_,r2,_⟩,Y,_⟩:=q wr C.c.b;have C5:=C.bw ah;let⟨⟨_,_,p2,_⟩,ar,R5⟩:=q w5 C5.c.b;let⟨gb,A,Cc,s,cw,hB,p3,oz⟩:=ar.b k be;subst cw;have p1:=C5.c.k.cell 2;simp only[Array.getElem?_eq_getElem,List.getElem?_toArray,List.getElem?_cons_succ,List.getElem?_cons_zero]at p1;have ei:s.length<=1048576:=(R5.b.2 s (by rw[<-ar.bls,List.mem_map];exact⟨_,List.mem_of_getElem? hB,rfl⟩)).1;have ce:=zh a2;have az:=zh bf;have bh:=zh oz;have U:=zh$ xA C ah;have W:=zh$ xA hB K
     have ae:=zh (λ(X:qw)(hX:qY E X)=>(show qN X g (j*8+2)=qk (qP gb) b.length d2/\qN X gb k=qk A s.length Cc by
      let⟨⟨_,_,y2,_⟩,dk,_⟩:=q X hX;let⟨ek,A',ds,el,e',a9,y3,_⟩:=dk.b k be;rw[hB]at a9;simp at e' a9;obtain⟨rfl,_,rfl,rfl⟩:=a9;subst e'
      exact⟨y2,y3⟩))
     clear a2 ah bf Y C5 ar R5 oz C hB K;go_wp2_with (rw[<-ce.o])
     have M:=zh U.2.size
     go_region_law
      (first
        | (refine vZ (by rfl) _ _ 25 (by rfl) wr.heap.size 3 iI (qI 0) 1 8 underlying25 ap aa ab aj rfl Ja (qS (qp wr) 0 0) [] (by rfl) (by first|exact az.o|exact aSi az.o) A s.length Cc s (by rfl) (by first|exact bh.o|exact bh.o.bw brf.drew) (λ_=>rfl) (λy u hu=>by simp[clI]at hu;subst hu;rfl) (by unfold maxLen;simp;omega) Jc (by exact M.o) ?_;intro v' w6 O6 G6;rw[List.nil_append]at O6;obtain⟨A6,D6,rfl⟩:=aZ O6;have ad:qY wr w6:=(by first|exact tW U.o.2 M.o rfl G6|exact tW U.o.2.drew M.o rfl G6);have C6:=U.o.1.bw ad;obtain⟨dl,dp⟩:=ae.o w6 C6.c.b;have c0:qn w6 E 2=qk t D.length c2:=C6.c.k.cell 2;have ck:(w6.alloc$ .cells #[qS A6 s.length D6] 25).cell? (qh E 2)=qk t D.length c2:=(C6.c.k.alloc _).cell 2;have aw:=zh (C6.bw$ brf.alloc aQ$ .cells #[qS A6 s.length D6] 25).b.head;have b0:=zh$ cA w6 _ 25 [qS A6 s.length D6] rfl;have b8:=zh λw4 d f p=>U.o.1.bank (w4:=w4) (d:=d) (O6.bw$ brf.alloc aQ$ .cells #[qS A6 s.length D6] 25) (yT ad$ brf.alloc aQ$ .cells #[qS A6 s.length D6] 25) f p;have ax:=zh (C6.bw$ brf.alloc aQ$ .cells #[qS A6 s.length D6] 25).lh;clear O6 G6 ad C6)
        | (refine step_append_lies _ (by rfl) _ _ 99 (by rfl) lo 25 iB (qS none 0 0) 1 24 underlying99 d4 cx cy d0 rfl Ja (qS t D.length c2) D.length (D.map λB=>qS B.1 B.2.1 B.2.2.1) (by rfl) aw.o (qh w6 0) 1 1 [qS A6 s.length D6] (by rfl) (by rfl) b0.o (by intro u hu;simp at hu;subst hu;rfl) Ja Jf J ax.o _ rfl ?_;intro g4 du w4 f p c4 dv;have N:=zh$ b8.o w4 _ f p;have ct:=zh$ ae.o _$ N.o.2.choose_spec.choose_spec.2.c.b;obtain⟨dn,dq⟩:=ae.o w4 N.o.1.b;have bv:qn w4 E 2=qk t D.length c2:=N.o.1.k.cell 2;have f4:=N.o.1.k.frozen 2;clear f p c4))
     all_goals
      clear p1 c0 ck bv p2 dl dn p3 dp dq f4 aw b0 b8 ax ct;go_wp2
      go_roundw
      .have⟨a',c',ej,CF⟩:=N.2;exact⟨k+1,a',c',_,J,by go_num,by rw[List.map_append,W.o.2,nP W.o.1];rfl,CF⟩
      .simp[qf,intOf];omega
    .have br:¬(k:Int)<(b.length:Int):=J
     obtain rfl:k=b.length:=J
     rw[List.take_length]at K;have co:(0:Int)<=(j:Int):=J
     let⟨⟨_,_,r2,r3,_⟩,Y,R⟩:=q wr C.c.b;have bg:=zh$ aG7 b3 P.dz.length d3 P.dz wr Y.d R.d.2 rfl$ jK R.d.1;have U:=zh C;have W:=zh (show D.map (λB=>B.2.2.2)=P.bl by rw[K];exact Y.bls);clear C Y R K;go_wp2_with fail
     apply bg.mono;rintro e w7 ⟨a3,c3,rfl,o7,k7⟩;let⟨C7,D7,P7,T7,_⟩:=U.row (v3':=qS a3 P.dz.length c3) (aT4 o7) k7 Ja 3 rfl;have y3:=C7.c.k.cell 3;have ef:=C7.c.k.frozen 3;let⟨X7,ak⟩:=aO$ w7.setCell ⟨E.heap.size,3,none⟩$ qS a3 P.dz.length c3;rw[<-ak]at D7 P7 T7;let⟨⟨_,_,_,_,_,r5,_⟩,bi,R7⟩:=q _ (D7.bw$ brf.alloc aQ$ .cells #[] 3).c.b;have ee:=R7.r.1;have dy:=R7.i.1;have ea:=R7.e.1;have bm:=zh$ cP 3 1 clI X7 X7.heap.size aQ;have bu:=zh bi.r;have Q:=zh$ xA D7$ xA P7$ xM U.c.b.size$ Nat.le_refl wr.heap.size;have cl:=zh ak;clear C7 D7 P7 T7 ak bi R7 o7 k7 r2 r3 bg
     go_wp2_with (first
      | (at_builtin;refine dO rfl _ _ 25 rfl X7.heap.size 3 iI (qI 0) 1 8 underlying25 ap aa ab aj rfl Ja (qS (qp X7) 0 0) [] rfl bm.o b5 P.rz.length d5 P.rz rfl bu.o (λ_=>rfl) (λy u hu=>by simp[clI]at hu;first|(subst hu;rfl)|(rcases hu with rfl|rfl|rfl<;>rfl)) (by unfold maxLen;simp;omega) Jc Jb ?_;intro v' w8 O8 G8;rw[List.nil_append]at O8;obtain⟨a5,c5,rfl⟩:=aZ O8;obtain⟨C8,D8,P8,T8,_⟩:=Q.o.1.row (v5':=qS a5 P.rz.length c5) O8 (mE G8) Ja 5 rfl;have cq:=zh$ Q.o.1.apart O8;have y5:=C8.c.k.cell 5;have dx:=C8.c.k.frozen 5;obtain⟨X8,am⟩:∃X8,X8=w8.setCell (qh E 5) (qS a5 P.rz.length c5):=⟨_,rfl⟩;rw[<-am]at D8 P8 T8;obtain⟨⟨_,_,_,_,_,_,r6,_⟩,bj,_⟩:=q.o _ (D8.bw$ brf.alloc aQ$ .cells #[] 9).c.b;have bq:=zh$ cP 9 1 clT X8 X8.heap.size aQ;have bl:=zh bj.i;have I:=zh$ xA D8$ xA P8$ cV T8 Q.o.1.c.k Q.o.2.1 Ja;have c8:=zh am;clear C8 D8 P8 T8 am bj O8 G8 r5)
      | (at_builtin;refine dO rfl _ _ 100 rfl X8.heap.size 9 iT (.string ⟨#[]⟩) 1 16 underlying100 dc dd de df rfl Ja (qS (qp X8) 0 0) [] rfl bq.o b6 P.ss.length d6 P.ss rfl bl.o (λ_=>rfl) (λy u hu=>by simp[clT]at hu;first|(subst hu;rfl)|(rcases hu with rfl|rfl|rfl<;>rfl)) (by unfold maxLen;simp;omega) Jc Jb ?_;intro v' w9 O9 G9;rw[List.nil_append]at O9;obtain⟨a6,c6,rfl⟩:=aZ O9;obtain⟨C9,D9,P9,T9,_⟩:=I.o.1.row (v6':=qS a6 P.ss.length c6) O9 (mE G9) Ja 6 rfl;have y6:=C9.c.k.cell 6;have ec:=C9.c.k.frozen 6;obtain⟨X9,an⟩:∃X9,X9=w9.setCell (qh E 6) (qS a6 P.ss.length c6):=⟨_,rfl⟩;rw[<-an]at D9 P9 T9;obtain⟨⟨_,_,_,_,_,_,_,r7⟩,bk,_⟩:=q.o _ (D9.bw$ brf.alloc aQ$ .cells #[] 209).c.b;have bp:=zh$ cP 209 3 clX X9 X9.heap.size aQ;have bo:=zh bk.e;have G:=zh$ xA D9$ xA P9$ xA (cV T9 I.o.1.c.k I.o.2.1 Ja)$ cV T9 I.o.1.c.k I.o.2.2 Ja;have c1:=zh an;clear C9 D9 P9 T9 an bk O9 G9 r6)
      | (at_builtin;refine dO rfl _ _ 126 rfl X9.heap.size 209 iX _ 3 32 underlying126 dg dh di dj rfl Ja (qS (qp X9) 0 0) [] rfl bp.o b7 P.es.length d7 P.es rfl bo.o (λ_=>rfl) (λy u hu=>by simp[clX]at hu;first|(subst hu;rfl)|(rcases hu with rfl|rfl|rfl<;>rfl)) (by unfold maxLen;simp;omega) Jc Jb ?_;intro v' cb Z b9;rw[List.nil_append]at Z;obtain⟨a7,c7,rfl⟩:=aZ Z;obtain⟨a4,a0,a8,a1,_⟩:=G.o.1.row (v7':=qS a7 P.es.length c7) Z (mE b9) Ja 7 rfl;have y7:=a4.c.k.cell 7;have eh:=a4.c.k.frozen 7;obtain⟨XX,ao⟩:∃XX,XX=cb.setCell (qh E 7) (qS a7 P.es.length c7):=⟨_,rfl⟩;rw[<-ao]at a0 a8 a1;have l:=zh$ xA a0$ xA a8$ xA (cV a1 G.o.1.c.k G.o.2.1 Ja)$ xA (cV a1 G.o.1.c.k G.o.2.2.1 Ja)$ cV a1 G.o.1.c.k G.o.2.2.2 Ja;obtain⟨x0,x1,x2,x3,x4,x5,x6,x7⟩:=Blk.eight' a0.c.k;have ch:=zh ao;have V:qY XX (XX.alloc$ .cells (qM P.nm t1 P.tz.length e1 t D.length c2 a3 P.dz.length c3 P.bss a5 P.rz.length c5 a6 P.ss.length c6 a7 P.es.length c7) 128):=bal;have dz:=xM S.o.2.2.size a0.c.b.size;have av:=zh$ aKz af (S.o.1.bw$ yT a0.c.b V).o;have ay:=zh$ cA XX (qM P.nm t1 P.tz.length e1 t D.length c2 a3 P.dz.length c3 P.bss a5 P.rz.length c5 a6 P.ss.length c6 a7 P.es.length c7) 128 (clB (P,(⟨t1,e1,t,c2,D,a3,c3,a5,c5,a6,c6,a7,c7⟩:Mb))) rfl;have bz:=xM U.o.c.b.size$ Nat.le_refl wr.heap.size;have cj:=zh$ l.o.1.done W.o ba.o.d.2 l.o.2.2.2.2 U.o.c.b.size l.o.2.2.2.1 Q.o.1.c.b.size l.o.2.2.1 I.o.1.c.b.size l.o.2.1 G.o.1.c.b.size cq.o;have bc:=zh λ(v':Value)(w4:qw)f p=>xA (S.o.1.push (x:=(P,(⟨t1,e1,t,c2,D,a3,c3,a5,c5,a6,c6,a7,c7⟩:Mb))) (v':=v') (w4:=w4) af l.o.1.c.b cj.o ba.o V f p)$ aIl S.o.1 S.o.2.2 (yT l.o.1.c.b V) p;clear a4 a0 a8 a1 ao Z b9 r7 V bz)
      | (at_builtin;refine wpList_append_own _ rfl _ _ 36 rfl w.heap.size 128 iM _ 8 _ underlying36 d8 d9 da db rfl Ja (qS bb j cv) j (L'.flatMap clB) rfl av.o (qh XX 0) 1 1 (clB (P,(⟨t1,e1,t,c2,D,a3,c3,a5,c5,a6,c6,a7,c7⟩:Mb))) rfl rfl ay.o (by intro u hu;simp[clB,clH,hdP]at hu;rcases hu with rfl|rfl|rfl|rfl|rfl|rfl|rfl|rfl<;>rfl) Jf J Jc ?_;intro v' w4 f p _;have HP:=zh$ bc.o v' w4 f p;clear f p bc av ay x0 x1 x2 x3 x4 x5 x6 x7)
      | rw[<-cl.o]|rw[<-c8.o]|rw[<-c1.o]|rw[<-ch.o])
     go_roundw
     .exact⟨j+1,J,by go_num,_,_,HP.o.1,by rw[List.map_append,S.o.2.1,nP cs.o];rfl,HP.o.2⟩
     .simp[qf,intOf];omega
  .have bn:¬(j:Int)<(n:Int):=J
   obtain rfl:j=n:=J
   rw[<-hl,List.take_length]at hL;have S:=zh$ xA O$ xA hL B;clear O hL B;go_wp2;go_ret;exact⟨bb,cv,L',ai,rfl,S.1,S.2.1,S.2.2⟩
end Go.Proofs.YtdjdcdnjjmjonaaGreat
namespace Go.Proofs.YtdjdcdnjjmjonaaGreat
open Go.ChangeShapes Go.WideShapes Go.ChangeAt Go.RowKit
variable {base fuel:Nat}{cs:List Value}{held:Bool}{z:Int}
def own:ownKnob Tryz.prog.godebug=none:=Je
def aS0:laidOutB Tryz.prog=true:=Je
def aWa (h:(Lit.int .u8 z).wf=true):0<=z/\z<=255:=by
 simp[Lit.wf,IntKind.min,IntKind.max,IntKind.signed,IntKind.bits]at h;omega
def wf_i64 (h:(Lit.int .i64 z).wf=true):-9223372036854775808<=z/\z<=9223372036854775807:=by
 simp[Lit.wf,IntKind.min,IntKind.max,IntKind.signed,IntKind.bits]at h;omega
set_option maxRecDepth 100000 in
def mC {H:Type}{enc:TypeId×Value->H}{w:qw}{x:DataW H×List MemPlace}
 (h:DataW.trod enc Tryz.prog w base (λ_=>true) held fuel 28 cs=some x):∃a n cap zs,cs=[qS a n cap]/\BS w a n cap zs:=by
 rcases open_ints Tryz.underlying28 Tryz.underlying5 Je h with⟨e,_⟩|⟨x,l,c,zs,e,_,k,u,s,_,d,j⟩
 .exact⟨none,0,0,[],e,rfl,Nat.zero_le _,Jb,λh=>absurd rfl h,aQ⟩
 .simp at s;refine⟨some x,l,c,zs.take l,e,Jc,J,λz g=>aWa$ j z$ List.mem_of_mem_take g,λq=>?_,k⟩;obtain⟨b,off,t⟩:=x;have f:t=none:=by simpa[Addr.add]using World.cell?_spot$ d 0 J
  subst f;refine⟨b,off,rfl,λi hi=>?_⟩;have:=d i J
  have p:(Addr.add (qR b off) i)=(qR b$ off+i):=by
   simp only[Addr.add];split
   .next h=>subst h;rfl
   .rfl
  rw[p]at this;rw[this];simp[List.getD_eq_getElem?_getD,hi]
set_option maxRecDepth 100000 in
def aJj {H:Type}{enc:TypeId×Value->H}{w:qw}{x:DataW H×List MemPlace}
 (h:DataW.trod enc Tryz.prog w base (λ_=>true) held fuel 25 cs=some x):∃a n cap zs,cs=[qS a n cap]/\IS w a n cap zs:=by
 rcases open_ints Tryz.underlying25 Tryz.underlying3 Je h with⟨e,_⟩|⟨x,l,c,zs,e,_,k,u,s,_,d,j⟩
 .exact⟨none,0,0,[],e,rfl,Nat.zero_le _,Jb,λh=>absurd rfl h,aQ⟩
 .simp at s;refine⟨some x,l,c,zs.take l,e,Jc,J,λz g=>wf_i64$ j z$ List.mem_of_mem_take g,λq=>?_,k⟩;obtain⟨b,off,t⟩:=x;have f:t=none:=by simpa[Addr.add]using World.cell?_spot$ d 0 J
  subst f;refine⟨b,off,rfl,λi hi=>?_⟩;have:=d i J
  have p:(Addr.add (qR b off) i)=(qR b$ off+i):=by
   simp only[Addr.add];split
   .next h=>subst h;rfl
   .rfl
  rw[p]at this;rw[this];simp[List.getD_eq_getElem?_getD,hi]
