import Derived.Test.YtdjdcdnjjmjonaaGreatT20
import Derived.Test.YtdjdcdnjjmjonaaGreatT21
set_option linter.all false
set_option maxHeartbeats 64000000
namespace Go.Proofs.YtdjdcdnjjmjonaaGreat
open Go.RowKit
set_option maxRecDepth 100000
variable {N:Mn}{Q:Ending->World->Prop}{W:World}{a c k q:Nat}{fn:Func}{tmps:Array Value}
def aVu {a:Act}{W:qw}{G i:Nat}{d:Option Tmp}{f:TypeId}{p:String}{e:Array _}{b:Option _}{v0 v1 v2 v3:Value}(j:W.cell? (qR G i)=some v0)(l:W.cell? (qR G$ i+1)=some v1)(g:W.cell? (qR G$ i+2)=some v2)(s:W.cell? (qR G$ i+3)=some v3)(h:a.tmps[k]?.getD undef=.pointer (some$ qR G i)):(execOp a.eval { dst:=d,op:=Op.load 132$ Operand.tmp k,type:=f,pos:=p,after:=e,guard:=b }).run Tryz.prog W=.ok (.value$ .agg #[v0,v1,v2,v3]) W:=by
 go_simp
def aAz (M L ab c0 xs a2 c2 ac c5 ts w)(h:MnD w M)(hL:LyT w L ab c0 xs a2 c2 ac c5 ts)(eL:L=M.L)(F:lkc (aF M.ms) M.cs M.cw M.ck M.cd=0)(hr:(M.rn:Int)=L.ram):
 qC 68 #[.agg$ qA M,.agg$ qJ L ab xs c0 a2 c2 ac ts c5] w (Yn (dO (aF M.ms) L M.cs M.cw M.tn M.rz M.lz/\(M.cs=0\/M.bk=-1\/hld M.lz M.md M.bk≠-1)) w):=by
 let⟨a1,w0,w1⟩:=aO5 F;have u:L=lkL (aF M.ms) M.cs M.cw M.ck M.cd:=eL;rw[<-u]at a1;have hl:=h.l.1;have b6:=h.l.2.1;have b3:=h.r.2.1;have b9:=hL.s.2.1;have bi:=h.r.2.2.2.2;unfold maxLen at b6 b3 b9;let⟨U,hU,bU,kU⟩:=nwb w (qA M) 43;let⟨V,hV,bV,kV⟩:=nwb U (qJ L ab xs c0 a2 c2 ac ts c5) 65;have BV:=yT bU bV;have Z:=kU.bw bV;have C:=zh$ h.bw BV;have ah:=zh$ hL.s.bw BV;have HU:=zh hU;have HV:=zh hV;have W:=zh BV;have I:=zb V λX s=>xA (Z.bw s)$ kV.bw s;have y1:=Z.e1;have a8:=Z.e12;have af:=zh$ Below.refl V.heap.size V;have ay:=zh$ xA u$ xA a1$ xA hr F;clear hU hV bU bV kU Z kV BV h hL eL u a1 hr F;by_cases p:¬(M.ln:Int)=M.cs
 .have P:Zh (¬(dO (aF M.ms) L M.cs M.cw M.tn M.rz M.lz/\(M.cs=0\/M.bk=-1\/hld M.lz M.md M.bk≠-1))):=λf=>p$ jK f.1.1;have b0:((M.ln:Int) !=M.cs)=true:=by simp[p]
  clear p
  delta qC;go_in
  go_wp2_with (first|rw[<-HU.o]|rw[<-HV.o])
  go_ret;exact dN P W
 replace p:(M.ln:Int)=M.cs:=xZ.1 p;have b0:((M.ln:Int) !=M.cs)=false:=by simp[p]
 have y:=zh p;clear p;by_cases cn:M.ln=0
 .have HY:Zh (dO (aF M.ms) L M.cs M.cw M.tn M.rz M.lz/\(M.cs=0\/M.bk=-1\/hld M.lz M.md M.bk≠-1)):=⟨⟨jK y.o,λi hi=>absurd hi J⟩,.inl$ jK y.o⟩;have ax:=zh cn;clear cn
  delta qC;go_in
  go_wp2_with (first|rw[<-HU.o]|rw[<-HV.o])
  clear y1 a8;go_loopw [5] (λi wr=>∃k:Nat,i=qI k/\qY V wr) (λi _=>0)
  .exact⟨0,rfl,af⟩
  .obtain⟨k,rfl,B⟩:=hrel;have H:¬((k:Int)<(M.ln:Int)):=jK ax.o;have h0:((M.ln:Int)==0)=true:=by rw[ax.o];rfl
   have a8:=(I wr B).1.e12;have b8:=zh B;clear B;go_wp2;go_ret;exact uB HY$ yT W b8
 obtain⟨g,f,hg⟩:∃g f,M.la=some ⟨g,f,none⟩:=by
  let⟨g,f,hg,_⟩:=C.l.2.2.1 cn;exact⟨g,f,hg⟩
 let⟨u,a1,hr,F⟩:=ay.o
 obtain⟨gs,os,ao⟩:∃gs os,a2=some ⟨gs,os,none⟩:=by
  let⟨gs,os,hg,_⟩:=ah.2.2.2.1$ jK y.o;exact⟨gs,os,hg⟩
 have a5:=zh (λ(wr:qw)(B:qY V wr)(k:Nat)(F:k<L.slots.length)=>(show qN wr gs (os+k)=qj (L.slots.getD k 0)by
  let⟨g',o',O,hc⟩:=(ah.bw B).2.2.2.1 J;try unfold qA at *
  try unfold qL at *
  rw[ao]at O;simp at O;obtain⟨rfl,rfl⟩:=O
  exact hc k F))
 have HQ:=zh λ(wr:qw)(B:qY V wr)(k:Nat)(F:k<M.ln)=>(C.l.bw B).at k F _ _ _ _ rfl;have a4:=zh λ(k:Nat)(F:k<M.ln)(b:Bool)(j:b=true ↔ slk (aF M.ms) M.tn (M.lz.getD k zSl)/\aln M.lz k)(X:qw)(s:qY V X)=>(aDy M k X (C.bw s) F).mono λe w' O=>show e=.returned (.bool b)/\qY X w' from pL O b j
 have ak:=zh (λ(k:Nat)(hi:k<L.slots.length)=>show 65536<=L.slots.getD k 0/\L.slots.getD k 0-65536+(slz M.cw:Int)<=(M.rn:Int)/\M.rn<=16384 by
  have:=vN F (show k<(lkL (aF M.ms) M.cs M.cw M.ck M.cd).slots.length by rw[<-u];exact hi);rw[<-u]at this;obtain⟨h1,h2,h3,_⟩:=this
  exact⟨h1,J,J⟩)
 have R:=zh (λ(x0:Bool)(N a x3:Int)(hp:0<=pcq (aF M.ms) N a)(j:0<=a)(X:qw)(s:qY V X)=>(mL M x0 N a x3 X (C.bw s) F (jK y.o) hp j).mono (λe w' O=>show ∃g,e=.returned (qS (qP g) (slz M.cw)$ slz M.cw)/\BS w' (qP g) (slz M.cw) (slz M.cw) (bkb (aF M.ms) M.cw N a)/\qY X w' by
  obtain⟨g,h1,h2,h3⟩:=O
  exact⟨g,h1,h2.bs,h3⟩))
 have aj:=zb V λX s=>dQ M.la M.ln M.lc M.lz M.md M.bk X$ C.l.bw s;have a3:=zb V λX s=>C.r.bw s;have bf:=(gO w0 w1).2.1;have bh:1<=slz M.cw:=jK$ (gO w0 w1).2.2;try unfold qA at *
 try unfold qL at *
 rw[hg]at I a4 R aj a8 HU HQ⊢;try unfold qA at *
 try unfold qL at *
 rw[ao]at I HV⊢;have a7:=zh (show L.slots.length=M.ln by have:=y.o;omega);have b7:((M.ln:Int)==0)=false:=Jc
 clear cn hg ao C ah F u a1 hr ay
 delta qC;go_in
 go_wp2_with (first|rw[<-HU.o]|rw[<-HV.o])
 clear y1 a8 HU HV;go_loopw [5,6,7] (λi _ _ wr=>∃k:Nat,k<=M.ln/\i=qI k/\(∀i,i<k->pR (aF M.ms) L M.cw M.tn M.rz M.lz i)/\qY V wr) (λi _ _ _=>M.ln-(intOf i).toNat)
 .exact⟨0,xC _,rfl,λi hi=>absurd hi J,af⟩
 .obtain⟨k,F,rfl,hF,B⟩:=hrel;have am:=zh B;have m0:=(I wr B).1.mc;by_cases H:k<M.ln
  .have b2:(k:Int)<(M.ln:Int):=J
   have a9:=zh λ(q:¬pR (aF M.ms) L M.cw M.tn M.rz M.lz k)=>aNm (cs:=M.cs) (show k<M.lz.length from J) q;have a6:=zh λ(q:pR (aF M.ms) L M.cw M.tn M.rz M.lz k)=>aNl hF q;have t:Zh (pR (aF M.ms) L M.cw M.tn M.rz M.lz k ↔ slk (aF M.ms) M.tn (M.lz.getD k zSl)/\aln M.lz k/\((M.lz.getD k zSl).1=true->slb M.rz L M.cw k=bkb (aF M.ms) M.cw (M.lz.getD k zSl).2.1 (M.lz.getD k zSl).2.2.1)):=Iff.rfl;have Y:=zb V λX s=>HQ X s k H;let⟨b1,aa⟩:=iH$ slk (aF M.ms) M.tn (M.lz.getD k zSl)/\aln M.lz k;have aq:=zh$ a4 k H b1 aa wr B;let⟨s1,s2,s3⟩:=ak.o k (by rw[a7.o];exact H);have s4:=a5.o wr B k (by rw[a7.o];exact H);have ae:=zb V λX s=>a5.o X s k (by rw[a7.o];exact H);generalize M.lz.getD k zSl=x at *;obtain⟨x0,N,a,x3⟩:=x;dsimp only at t Y;have ad:=zh (λ(e:b1=false)=>a9.o (λq=>by have:=aa.2 ⟨(t.o.1 q).1,(t.o.1 q).2.1⟩;rw[e]at this;cases this));have D:=zh aa;obtain⟨A,hA⟩:∃A:Nat,L.slots.getD k 0=65536+(A:Int):=⟨(L.slots.getD k 0-65536).toNat,J⟩;have au:=zh (show slb M.rz L M.cw k=(M.rz.drop A).take (slz M.cw)by unfold slb;rw[hA,show(65536+(A:Int)-65536).toNat=A from J]);rw[hA]at s2 s4 ae;clear aa B hF HQ a4 a5 ak af s4 s1 hA;go_wp2_with fail
   apply aq.mono;rintro e X1 ⟨rfl,j⟩;have d:=zh$ yT am j;clear j aq m0;cases b1 with
   | false=>
     have P:Zh (¬(dO (aF M.ms) L M.cs M.cw M.tn M.rz M.lz/\(M.cs=0\/M.bk=-1\/hld M.lz M.md M.bk≠-1))):=λq=>ad.o Jb q.1;go_wp2;go_ret;exact dN P$ yT W d
   | true=>
     let⟨g',f',a0,q0,q1,q2,q3⟩:=Y X1 d;simp at a0;obtain⟨rfl,rfl⟩:=a0;have m0:=(I X1 d).1.mc;cases x0 with
     | false=>
       have P:=zh (a6 (t.2 ⟨(D.1 rfl).1,(D.1 rfl).2,λq=>by cases q⟩));clear ad a9 a6 t D;go_wp2
       go_roundw
       .exact⟨k+1,J,by go_num,P,d⟩
       .simp[intOf];omega
     | true=>
       let⟨p2,pq,_⟩:=aJx.1 (D.1 rfl).1;have az:=zh$ R true N a x3 pq p2
       have HS:=zh (λ(X:qw)(s:qY V X)=>show Blk X w.heap.size (qX M M.ma M.mn M.mc M.ka M.kn M.kc M.fa M.fn M.fc M.ra M.rn M.rc M.oa M.on M.oc (qe g f) M.ln M.lc M.ha M.hn M.hc) 43/\qN X g (f+k*4)=some (.bool true)/\qN X g (f+k*4+1)=qj N/\qN X g (f+k*4+2)=qj a/\qN X g (f+k*4+3)=qj x3 by
        let⟨g',f',a0,r0,r1,r2,r3⟩:=Y X s;simp at a0;obtain⟨rfl,rfl⟩:=a0
        exact⟨(I X s).1,r0,r1,r2,r3⟩)
       have ag:=zh λ(e:slb M.rz L M.cw k=bkb (aF M.ms) M.cw N a)=>a6$ t.2 ⟨(D.1 rfl).1,(D.1 rfl).2,λ_=>e⟩;have an:=zh λ(e:¬slb M.rz L M.cw k=bkb (aF M.ms) M.cw N a)=>show ¬(dO (aF M.ms) L M.cs M.cw M.tn M.rz M.lz/\(M.cs=0\/M.bk=-1\/hld M.lz M.md M.bk≠-1))from λq=>a9 (λr=>e$ (t.1 r).2.2 rfl) q.1;clear ad a9 a6 t D R p2 pq Y;go_wp2_with fail
       clear m0 q0 q1 q2 q3;refine wp_region_held_drew (S:=(λX=>Blk X w.heap.size (qX M M.ma M.mn M.mc M.ka M.kn M.kc M.fa M.fn M.fc M.ra M.rn M.rc M.oa M.on M.oc (qe g f) M.ln M.lc M.ha M.hn M.hc) 43/\qN X g (f+k*4)=some (.bool true)/\qN X g (f+k*4+1)=qj N/\qN X g (f+k*4+2)=qj a/\qN X g (f+k*4+3)=qj x3)) Je ?_ λhHeld=>?_
       .exact HS _ d.drew
       refine tkV 0 _ rfl (λw hSw=>wU hSw.1 rfl) ?_;try simp only[yG,Act.put]
       refine tkV 1 ?_ rfl ?_ ?_;rotate_left
       ·(intro w hSw;(try dsimp only at hSw);go_simp;try with_reducible rfl)
       try simp only[yG,Act.put]
       refine tkV 2 _ rfl (λw hSw=>aTc (hSw.1.cell 12) rfl) ?_;try simp only[yG,Act.put]
       refine tkV 3 ?_ rfl ?_ ?_;rotate_left
       ·(intro w hSw;(try dsimp only at hSw);go_simp;try with_reducible rfl)
       try simp only[yG,Act.put]
       refine tkV 4 ?_ rfl ?_ ?_;rotate_left
       ·(intro w hSw;(try dsimp only at hSw);go_simp;try with_reducible rfl)
       try simp only[yG,Act.put]
       refine tkV 5 _ rfl (λw hSw=>aVu hSw.2.1 hSw.2.2.1 hSw.2.2.2.1 hSw.2.2.2.2 rfl) ?_;try simp only[yG,Act.put]
       refine wpAnyH_ready (rs:=[6]) Je Jb$ AllReadyH.cons rfl (λK hK=>?_) AllReadyH.nil;go_simp;apply(az _ d.drew).mono;rintro e Q ⟨bg,rfl,hs,j⟩;have l:=zh$ yT d.drew j;have aw:=zh hs;clear hs j;try go_wp2_with fail
       refine hK.out _ _ ?_ λhHeld=>?_
       .exact HS _ l
       clear hK K;try simp only[yG,Act.put]
       refine tkV 7 ?_ rfl ?_ ?_;rotate_left
       ·(intro w hSw;(try dsimp only at hSw);go_simp;try with_reducible rfl)
       try simp only[yG,Act.put]
       refine wpAnyH_done Je ?_ _;clear hHeld HS;have y8:=(I Q l).1.e8;have z2:=(I Q l).2.e2;have s4:=ae Q l;have bc:(k:Int)<(L.slots.length:Int):=by rw[a7.o];exact b2
       generalize slz M.cw=sz at *
       obtain⟨rb,ro,ap⟩:∃rb ro,M.ra=some ⟨rb,ro,none⟩:=by
        let⟨rb,ro,O,_⟩:=(a3 Q l).2.2.2.1 J;exact⟨rb,ro,O⟩
       obtain⟨E,hE⟩:∃E:Nat,E=A+sz:=⟨_,rfl⟩
       have G:=zh (show qC 66 #[qS (qe rb$ ro+A) (E-A)$ M.rc-A,qS (qP bg) sz sz] Q (λe w'=>e=.returned (.bool$ decide$ slb M.rz L M.cw k=bkb (aF M.ms) M.cw N a)/\qY Q w')by
        have h1:=a3 Q l;rw[ap]at h1;have h2:=(h1.drop A J).take sz J;rw[show E-A=sz from J,au.o]
        exact tW _ _ _ _ _ _ _ _ Q h2 aw)
       have be:IntKind.i64.wrap (65536+(A:Int)-65536)=(A:Int):=by rw[xP,xQ _ J];omega
       have ba:IntKind.i64.wrap (A:Int)=(A:Int):=by rw[xP,xQ _ J]
       have bd:IntKind.i64.wrap ((A:Int)+(sz:Int))=(E:Int):=by rw[xP,xQ _ J];omega
       have ar:(A:Int)+(sz:Int)=(E:Int):=J
       have g0:(0:Int)<=(A:Int):=J
       have g1:(A:Int)<=(E:Int):=J
       have g2:(E:Int)<=(M.rc:Int):=J
       have g3:(A:Int)<(M.rc:Int):=J
       have g4:A<=E:=J
       have g5:¬(M.rc=A):=J
       have g6:A<M.rc:=J
       rw[ap]at y8;have bb:=zh ar;clear hE ap a3 au aw ae s2 s3 ar;by_cases c3:slb M.rz L M.cw k=bkb (aF M.ms) M.cw N a
       .rw[xR c3]at G;have P:=zh$ ag c3;clear ag an c3;go_wp2_with fail
        apply G.mono;rintro e X3 ⟨rfl,j⟩;have ai:=zh$ yT l j;clear j G;go_wp2
        go_roundw
        .exact⟨k+1,J,by go_num,P,ai⟩
        .simp[intOf];omega
       .rw[xS c3]at G;have P:=zh$ an c3;clear ag an c3;go_wp2_with fail
        apply G.mono;rintro e X3 ⟨rfl,j⟩;have ai:=zh$ yT l j;clear j G;go_wp2;go_ret;exact dN P$ yT W ai
  .have HY:Zh (dO (aF M.ms) L M.cs M.cw M.tn M.rz M.lz):=⟨jK y.o,λi hi=>hF i J⟩;have HH:=zh$ aj wr B;have av:=lD M.lz M.md M.bk;have b4:Zh (¬M.cs=0):=λe=>by have:=y.o;simp at b7;omega
   clear B hF I a5 ak a4 R a3 aj HQ;by_cases cb:M.bk=-1
   .have b5:(M.bk == -1)=true:=by rw[cb];rfl
    have HP:Zh (dO (aF M.ms) L M.cs M.cw M.tn M.rz M.lz/\(M.cs=0\/M.bk=-1\/hld M.lz M.md M.bk≠-1)):=⟨HY,.inr$ .inl cb⟩;clear cb av HH;go_wp2;go_ret;exact uB HP$ yT W am
   .have b5:(M.bk == -1)=false:=by simp[cb]
    have HP:Zh ((dO (aF M.ms) L M.cs M.cw M.tn M.rz M.lz/\(M.cs=0\/M.bk=-1\/hld M.lz M.md M.bk≠-1)) ↔ 0<=hld M.lz M.md M.bk):=⟨λq=>by rcases q.2 with e|e|e;exact absurd e b4;exact absurd e cb;omega,λq=>⟨HY,.inr$ .inr J⟩⟩;clear cb av;generalize hld M.lz M.md M.bk=r at *;go_wp2_with fail
    apply HH.mono;rintro e X1 ⟨rfl,j⟩;have d:=zh$ yT am j;clear j HH;go_wp2;go_ret;exact aU3 HP.symm$ yT W d
section
variable {zc:Array Value}{t:TypeId}{n g:Nat}{ms m:List Md}{L:Lay}{W0 X Y:qw}{o:Option Nat}{b0:qO}{d0:Nat}{ys:List PB}{b2:qO}{d2:Nat}{b5:qO}{d5:Nat}{us:List TB}
end
def aLk {W w:qw}{n f:Nat}{a:qO}{ms b:List Md}(h:RowM W c n ms b)(x:b.length=n)(p:MS w a n f ms):upS (jD b λi=>bnF$ b.getD i aL) n<=3*(n+upS (λj=>(ms.getD j aL).size) n):=by
 have d:∀i,i<n->jD b (λi=>bnF$ b.getD i aL) i<=2+3*(ms.getD i aL).size:=λi hi=>by
  have hc:=(h.2.2 i J).2;have:=(zG (p.2.2.2.1 i hi) hc).2
  have e2:(b.getD i aL).tn=(ms.getD i aL).tn/\(b.getD i aL).bn=(ms.getD i aL).bn/\(b.getD i aL).dn=(ms.getD i aL).dn/\(b.getD i aL).rn=(ms.getD i aL).rn/\(b.getD i aL).im=(ms.getD i aL).im/\(b.getD i aL).en=(ms.getD i aL).en:=by
   obtain⟨y,A,B,C,D,E,F,e,_⟩:=hc
   grind
  obtain⟨g,k,l,f4,s,t⟩:=e2;have:(ms.getD i aL).size=(ms.getD i aL).nm.size+(ms.getD i aL).tn+((ms.getD i aL).bn+upS (λj=>((ms.getD i aL).bl.getD j zB).2.1) (ms.getD i aL).bn)+(ms.getD i aL).dn+(ms.getD i aL).rn+((ms.getD i aL).im+upS (λj=>((ms.getD i aL).ss.getD j zS).size) (ms.getD i aL).im)+((ms.getD i aL).en+upS (λj=>((ms.getD i aL).es.getD j zE).1.size) (ms.getD i aL).en):=rfl;unfold jD
  grind
 have:∀q,q<=n->upS (jD b λi=>bnF$ b.getD i aL) q<=2*q+3*upS (λj=>(ms.getD j aL).size) q:=by
  intro q
  induction q with
  | zero=>intro _;simp[upS]
  | succ q ih=>
    intro u;have:=d q J;show upS _ q+jD b (λi=>bnF$ b.getD i aL) q<=2*(q+1)+3*(upS _ q+(ms.getD q aL).size);omega
 grind
def tkX (M:Mn):Int×Int×Cn:=@ite _ (MOk M) (aWi M) (tkR M.cn M.L) (5,2,M.cn)
def MQ3 (w:qw)(r:Int×Int×Cn)(e:Ending)(w':qw):Prop:=qY w w'/\∃N base aP L β,e=.returned (.tuple #[mnV N,qI r.1,qI r.2.1])/\MxO w' base aP r.2.2 N L β/\w.heap.size<=base
def cX {w X:qw}{base aP:Nat}{r:Int×Int×Cn}{L:List (PMod×Mb)}{b:Nat->Nat}(B:qY w X)(k:Blk X q z15 43)(i:w.heap.size<=q)(d:MxO X base aP r.2.2 N L b)(e:w.heap.size<=base):MQ3 w r (.returned$ .tuple #[.agg$ qA N,qI r.1,qI r.2.1]) (stM X q N):=
 ⟨aG B (cL _ _ _ _ _ _ _ _ _ _ _ _ _ _ _ _ _) (λj f=>J) B.size,N,base,aP,L,b,rfl,d.tm$ eZ k$ cL _ _ _ _ _ _ _ _ _ _ _ _ _ _ _ _ _,e⟩
def cY {b:Nat}{W:qw}(N){x y:Value}(e:fn.results=#[.cell a 43,.tmp b,.tmp c])(k:Blk W q z15 43)(ha:tmps[a]?=some (.pointer$ qP q))(f:tmps[b]?=some x)(hc:tmps[c]?=some y)(d:Q (.returned$ .tuple #[.agg$ qA N,x,y]) (stM W q N)):bodyPost Tryz.prog fn Q Exit.ret ⟨tmps,[]⟩ (stM W q N):=by
 let⟨g,i,u,w,A,B,C,D,E,F,j,l,p,s,t⟩:=(jE k (qS N.ma N.mn N.mc) (qI N.cs) (qI N.cw) (qI N.ck) (qI N.cd) (qI N.pc) (qS N.ka N.kn N.kc) (qS N.fa N.fn N.fc) (qS N.ra N.rn N.rc) (qS N.oa N.on N.oc) (qI N.md) (qI N.bk) (qS N.la N.ln N.lc) (qS N.ha N.hn N.hc)$ qI N.tn).mc;refine bodyPost_ret_by (v:=.tuple #[.agg$ qA N,x,y]) ?_ rfl d;simp[results,e,go_sem,ha,f,hc,g,i,u,w,A,B,C,D,E,F,j,l,p,s,t]
def aMl (M Ls w)(h:MnD w M)(H:MnS w M Ls):qC 8 #[.agg$ qA M] w (MQ3 w$ tkX M):=by
 let⟨U,q⟩:=aN$ (w.alloc$ .cells (qA M) 43).alloc$ .cells qZ 43;have Z:qY w U:=by rw[q];exact bal.alloc Jb _
 have kM:Blk U w.heap.size (qA M) 43:=by rw[q];exact(Blk.new _ _ _).alloc _
 have kR:Blk U (w.heap.size+1) z15 43:=by rw[q];have:=Blk.new (w.alloc$ .cells (qA M) 43) z15 43;simpa[z15]using this
 have E:=zh$ wH M Ls U (h.bw Z)$ H.bw Z;have ab:=zb U λX hX=>(H.bw Z).bw hX;have Q:=zb U λX hX=>xA (kM.bw hX)$ kR.bw hX;have HV:=zh λ(f:MOk M)=>xA (f.cv h)$ xA (iN f.c)$ xA f.h.2 f.pcd;have HU:=zh q;have C:=zh Z;have x0:=kM.mc;clear q Z kM kR h H
 delta qC;go_in
 go_wp2_with (rw[<-HU.o])
 apply E.mono;rintro e X0 (⟨f,rfl,i⟩|⟨f,w1,G,Y,N,K,O,R,A,k,c,rfl,a0,d,D,a2⟩)
 .have t:=zh (show tkX M=(5,2,M.cn)by unfold tkX;rw[if_neg f]);have I:=zh$ mQ M Ls _$ ab.o _ i;have a1:=zh i;have m0:=(Q.o _ i).1.mc;clear f i x0 E HU;go_wp2_with fail
  apply I.o.mono;rintro e Xc ⟨u,N',ae,aP,L,β,rfl,hm,l,S⟩;unfold mnV;have p:=(Q _ a1).2.bw u;have j:=p;unfold z15 at j;let⟨r0,r1,r2,r3,r4,r5,r6,r7,r8,r9,a5,a6,a7,a8,a9⟩:=j.mc;have rf:=j.frozen
  have HF:=zh (show MQ3 w (tkX M) (.returned$ .tuple #[.agg$ qA N',qI 5,qI 2]) (stM Xc (w.heap.size+1) N')by
   have B:=yT C a1;rw[t.o]
   exact cX (yT B u) p J hm$ xM B.size l)
  have y:=zh p;clear m0 u hm l S p j I;go_wp2;exact cY N' rfl y.o rfl rfl rfl HF.o
 .obtain⟨v1,⟨p0,p1,_,hz⟩,v3,_,v4⟩:=HV.o f;have t:=zh (show tkX M=tkR M.cn Y.L by unfold tkX;rw[if_pos f,D]);have a4:=zh (aM3 w1 G Y M.cn N (qS K O R) A k c X0 d a2 (by rw[D];exact v1) ⟨p0,p1⟩ hz v4 v3);have HO:=zh a0;clear f d D a2 a0 v1 p0 p1 hz v3 v4 x0 E HU HV;go_wp2_with fail
  apply a4.o.mono;rintro e g ⟨rfl,⟨W,af,d⟩,_⟩;generalize tkR M.cn Y.L=r at *;obtain⟨f1,f2,N1⟩:=r;dsimp only at d t;let⟨V,hV,bV,kV⟩:=nwb g #[qI f1,qI f2] 80;have P:=zh$ show qY U V from yT (yT HO d.b) bV;have s:=zb V λX b=>aJl w1 G Y _ W K O R af X$ (d.bw bV).bw b;have a3:=zh (d.bw bV).m;have aa:=zb V λX b=>(kV.bw b).two';let⟨e0,e1,e2⟩:=kV.two';have x:=(Q V P).2;have ad:w.heap.size+1≠g.heap.size:=jK$ (Q g$ yT HO d.b).2.lt;have ag:=ad.symm;have j:=x;unfold z15 at j;let⟨r0,r1,r2,r3,r4,r5,r6,r7,r8,r9,a5,a6,a7,a8,a9⟩:=j.mc;have rf:=j.frozen;have F:=zb V λX b=>show Blk X (w.heap.size+1) qZ 43 from(x.bw b);have ac:=zh hV;clear d bV kV hV x j a4;go_wp2_with (rw[<-ac.o])
  go_region_held3 (λw'=>qn w' g 0=qj f1/\qn w' g 1=qj f2) (go_keep)
   (first|(go_at_call 34;(first|with_reducible refine(s.o _ brf).mono ?_|with_reducible refine(s.o _ brf.drew).mono ?_);rintro e X2 ⟨rfl,a⟩;replace a:qY V X2:=(by first|exact a|exact aW a);obtain⟨e0,e1,e2⟩:=aa.o X2 a;obtain⟨r0,r1,r2,r3,r4,r5,r6,r7,r8,r9,a5,a6,a7,a8,a9⟩:=(F.o X2 a).mc;have rf:=(F.o X2 a).frozen))
  have p:Blk X2 (w.heap.size+1) z15 43:=F X2 a
  have HF:=zh (show MQ3 w (tkX M) (.returned$ .tuple #[.agg$ qA W,qI f1,qI f2]) (stM X2 (w.heap.size+1) W)by
   let⟨ae,aP,L,β,hm,l,S⟩:=a3.o;have B2:=yT C$ yT P a;rw[t.o]
   exact cX (r:=(f1,f2,N1)) B2 p J (hm.bw a)$ xM (yT C HO).size l)
  have y:=zh p;clear a p s a3;go_wp2;exact cY W rfl y rfl rfl rfl HF
def aSm {t:TypeId}(h:Blk W k (qA N) t)(M):Blk (stM W k M) k (qA M) t:=by
 unfold stM oD;have q:=(((((((((((((((h.set 0$ qS M.ma M.mn M.mc).set 1$ qI M.cs).set 2$ qI M.cw).set 3$ qI M.ck).set 4$ qI M.cd).set 5$ qI M.pc).set 6$ qS M.ka M.kn M.kc).set 7$ qS M.fa M.fn M.fc).set 8$ qS M.ra M.rn M.rc).set 9$ qS M.oa M.on M.oc).set 10$ qI M.md).set 11$ qI M.bk).set 12$ qS M.la M.ln M.lc).set 13$ qS M.ha M.hn M.hc).set 14$ qI M.tn);simpa using q
def aNd (W k M):Turn (λj=>j=k) W (stM W k M):=cL _ _ _ _ _ _ _ _ _ _ _ _ _ _ _ _ _
def aUl (N)(d:fn.results=#[.cell a 43])(k:Blk W q z15 43)(ha:tmps[a]?=some (.pointer$ qP q))(b:Q (.returned$ .agg$ qA N) (stM W q N)):bodyPost Tryz.prog fn Q Exit.ret ⟨tmps,[]⟩ (stM W q N):=by
 obtain⟨e,f,s,t,u,w,x,y,A,B,g,i,j,l,p⟩:=(jE k (qS N.ma N.mn N.mc) (qI N.cs) (qI N.cw) (qI N.ck) (qI N.cd) (qI N.pc) (qS N.ka N.kn N.kc) (qS N.fa N.fn N.fc) (qS N.ra N.rn N.rc) (qS N.oa N.on N.oc) (qI N.md) (qI N.bk) (qS N.la N.ln N.lc) (qS N.ha N.hn N.hc)$ qI N.tn).mc;refine bodyPost_ret_by (v:=.agg$ qA N) ?_ rfl b;simp[results,d,go_sem,ha,e,f,s,t,u,w,x,y,A,B,g,i,j,l,p]
def lU (M Ls)(Y:Lyb)(w)(h:MnD w M)(H:MnS w M Ls)(hl:Y.T w)(eY:Y.L=M.L)(ok:MOk M)(c2:M.hz.length≠0)(ht:M.tn<1000000000):
 Calls Tryz.prog 133 #[.agg$ qA M,.agg$ qL Y.L Y.a0 Y.xs.length Y.c0 Y.a2 Y.L.slots.length Y.c2 Y.a5 Y.ts.length Y.c5] w λe w'=>∃N base aP L β,e=.returned (.agg$ qA N)/\qY w w'/\MxO w' base aP (lN M.cn M.L) N L β/\w.heap.size<=base:=by
 obtain⟨n,hn⟩:∃n,M.hz.length=n+1:=⟨M.hz.length-1,J⟩;let⟨⟨a,g,t,Q⟩,hx⟩:=aN$ M.hz.getD n zFr;obtain⟨fk,ar,au⟩:frk (aF M.ms) (a,g,t,Q):=by rw[hx];exact ok.h.2 n J
 have HR:=zh (show lN M.cn M.L={ eG { M.cn with hz:=M.hz.take n } Y.L a g t with kz:=(eG { M.cn with hz:=M.hz.take n } Y.L a g t).kz.set 7 Q } by
  unfold lN aLm aN6 lFr
  rw[show M.cn.hz=M.hz from rfl,hn,show n+1-1=n from J,<-hx,eY])
 let⟨U,W⟩:=aN$ ((w.alloc$ .cells (qA M) 43).alloc$ .cells (qL Y.L Y.a0 Y.xs.length Y.c0 Y.a2 Y.L.slots.length Y.c2 Y.a5 Y.ts.length Y.c5) 65).alloc$ .cells qZ 43;have bU:qY w U:=by rw[W];exact(bal.alloc Jb _).alloc Jc _
 have kM:Blk U w.heap.size (qA M) 43:=by rw[W];exact((Blk.new _ _ _).alloc _).alloc _
 have kL:Blk U (w.heap.size+1) (qL Y.L Y.a0 Y.xs.length Y.c0 Y.a2 Y.L.slots.length Y.c2 Y.a5 Y.ts.length Y.c5) 65:=by rw[W];have:=(Blk.new (w.alloc$ .cells (qA M) 43) (qL Y.L Y.a0 Y.xs.length Y.c0 Y.a2 Y.L.slots.length Y.c2 Y.a5 Y.ts.length Y.c5) 65).alloc$ .cells qZ 43;simpa using this
 have kR:Blk U (w.heap.size+1+1) z15 43:=by rw[W];have:=Blk.new ((w.alloc$ .cells (qA M) 43).alloc$ .cells (qL Y.L Y.a0 Y.xs.length Y.c0 Y.a2 Y.L.slots.length Y.c2 Y.a5 Y.ts.length Y.c5) 65) z15 43;simpa[z15]using this
 have ai:=zh$ bE M Ls U$ H.bw bU;have an:M.hn=n+1:=jK h.h.1;have mx:=h.h.2.1;unfold maxLen at mx;have D:=zh$ xA kM$ xA kL kR;let⟨gh,oh,hg,G,y,C,F⟩:=(h.h.bw bU).at n J _ _ _ _ rfl;rw[<-hx]at G y C F;dsimp only at G y C F;have HQ:=zh$ xA hg$ xA G$ xA y$ xA C F;have b:=zh$ ok.cv h;have HU:=zh W;have E:=zh bU;have b1:=zh$ hl.bw bU;have hw:IntKind.i64.wrap ((M.hn:Int)-1)=(n:Int):=by rw[show(M.hn:Int)-1=(n:Int)from J,xP,xQ _ J]
 have ay:(n:Int)<(M.hn:Int):=J
 have m0:=kM.mc;have az:=zh$ xA eY an;have b4:=zh hn;have I:=zh$ xA fk$ xA ar$ xA au ht;clear W bU kM kL kR h H hl ok hx hn G y C F hg eY mx c2 an fk ar au ht
 go_in
 go_wp2_with (rw[<-HU.o])
 apply ai.mono;rintro e s ⟨a6,N,base,aP,L,β,rfl,hm,R,b0⟩;unfold mnV;let⟨V1,a9,a7,kA⟩:=nwb s (qA N) 43;let⟨V2,av,a1,kF⟩:=nwb V1 (qW a g t Q) 136;have d:=yT a6 a7;have S:=yT d a1;have ab:V1.heap.size=s.heap.size+1:=by rw[a9];simp
 have sU:=D.2.2.lt;have sX:=a6.size;have ag:N.hn=n+1:=by rw[fP hm.h];exact b4.o
 let⟨gn,X⟩:=gW hm.h J;have nc:=(aY hm.h).2.2.1;have p:=kA.bw a1;let⟨N1,a8⟩:=aN ({ N with hn:=n,hz:=M.hz.take n }:Mn);let⟨V3,a2⟩:=aN$ V2.setCell ⟨s.heap.size,13,none⟩$ qS (some ⟨gn,0,none⟩) n N.hc;have a4:Blk V3 s.heap.size (qA N1) 43:=by rw[a2,a8,<-X];exact p.set 13$ qS N.ha n N.hc
 have T3:Turn (λj=>j=s.heap.size) V2 V3:=by rw[a2];exact aC _ _ _ _
 have V:qY U V3:=aG S T3 (λj hj=>J) S.size;have ad:MxO V3 base aP { M.cn with hz:=M.hz.take n } N1 L β:=by rw[a8];exact((hm.bw$ yT a7 a1).tm$ eZ p T3).pop ag
 have O:=aD T3 kF λe=>J;have aq:=zh (tV U base aP L β Y _ N1 a g t V3 ad V R b1.o (by rw[az.o.1];exact⟨b.o.k,b.o.e,b.o.b,b.o.r,b.o.g,b.o.s,b.o.n,b.o.t⟩) I.o.2.2.2 I.o.1);let⟨hg,G,y,C,F⟩:=HQ.o;have G:=aB d G;have y:=aB d y;have C:=aB d C;have F:=aB d F;have ao:=(D.1.bw d).e13;rw[hg]at ao;have af:=p.e13;rw[X]at af;have aw:=p.frozen 13;have b3:(n:Int)<=(N.hc:Int):=J
 have y0:=a4.mc;have l0:=(D.2.1.bw V).z6;let⟨f0,f1,f2,f3⟩:=O.z4;have ak:=zh a9;have ap:=zh av;have aj:=zh a2;have HA:=zh$ xA a4$ xA O$ xA R$ xA ab$ xA sU sX;clear m0 a6 hm R b0 a9 a7 kA av a1 kF d S ag X p a8 a2 a4 T3 V ad O hg ab sU sX nc ai HU;go_wp2_with (first|rw[<-ak.o]|rw[<-ap.o]|rw[<-aj.o])
 apply aq.mono;rintro e X4 ⟨f,rfl,am,K,T4⟩;clear G y C F ao af aw y0 l0 f0 f1 f2 f3 hw ay b3 ak ap aj aq HQ;have l:=T4.blk HA.1 Jg;have ac:=T4.blk HA.2.1 Jg;let⟨X5,a0⟩:=aN$ stM X4 s.heap.size f;have A:Blk X5 s.heap.size (qA f) 43:=by rw[a0];exact aSm l f
 have T5:Turn (λj=>j=s.heap.size) X4 X5:=by rw[a0];exact aNd _ _ _
 have B:=am.tm$ eZ l T5;have h1:=HA.o;have Z:=aD T5 ac λe=>J;have P:=aD T5 (D.2.2.bw K) λe=>J;have a5:=b.g
 obtain⟨gk,aa,X,x7,xf,n1,n2,n3,b5⟩:∃gk,f.ka=some ⟨gk,0,none⟩/\f.kn=8/\(∃u,X5.cell? ⟨gk,7,none⟩=some u)/\(∀i,X5.frozen? ⟨gk,i,none⟩=false)/\gk≠s.heap.size/\gk≠V1.heap.size/\gk≠w.heap.size+1+1/\base<=gk:=by
  have mk:=B.k;have e8:f.kn=8:=by rw[kD mk,vB];exact a5
  let⟨gk,cp,e,_⟩:=World.ownsRow.form mk.1 (by rw[vB];show 0<M.cn.kz.length;rw[a5];decide);simp only[Value.slice.injEq]at e;rw[e.1]at mk;let⟨cs,kb⟩:=aE mk.1 (k:=gk) rfl;have lo:=(mk.lt gk rfl).1;have bm:=B.bm;exact⟨gk,e.1,e8,⟨_,mk.is.at 7 J⟩,kb.frozen,λq=>by rw[q]at kb;exact absurd (aH kb A) Ja,λq=>by rw[q]at kb;exact absurd (aH kb Z) Ja,λq=>by rw[q]at kb;exact absurd (aH kb P) Ja,J⟩
 obtain⟨u,x7⟩:=x7;let⟨X6,a3⟩:=aN$ X5.setCell ⟨gk,7,none⟩$ qI Q;have T6:Turn (λj=>j=gk) X5 X6:=by rw[a3];exact aC _ _ _ _
 have ae:MxO X6 base aP (lN M.cn M.L) { f with kz:=(eG { M.cn with hz:=M.hz.take n } Y.L a g t).kz.set 7 Q } L β:=by
  rw[a3,HR.o];exact B.reg aa 7 J Q (by obtain⟨_,y,C,_⟩:=I.o;unfold wfi;omega)
 have ah:=aD T6 A λe=>n1 e.symm;have x:=aD T6 P λe=>n3 e.symm
 have HF:=zh (xA x (show ∃N base aP L β,Ending.returned (.agg$ qA f)=.returned (.agg$ qA N)/\qY w (stM X6 (w.heap.size+1+1) f)/\MxO (stM X6 (w.heap.size+1+1) f) base aP (lN M.cn M.L) N L β/\w.heap.size<=base by
  have B4:=yT E K;have B5:=aG B4 T5 (λj hj=>jK E.size) B4.size;have B6:=aG B5 T6 (λj hj=>jK E.size) B5.size
  exact⟨{ f with kz:=(eG { M.cn with hz:=M.hz.take n } Y.L a g t).kz.set 7 Q },base,aP,L,β,rfl,aG B6 (aNd _ _ _) (λj hj=>J) B6.size,ae.tm$ eZ x$ aNd _ _ f,jK E.size⟩))
 have y0:=l.mc;have yf:=l.frozen;have c6:X5.cell? ⟨s.heap.size,6,none⟩=qk (some ⟨gk,0,none⟩) 8 f.kc:=by rw[<-aa,<-X];exact A.cell 6
 have f3:=Z.e3;have z0:=ah.mc;have KR:=x;unfold z15 at KR;have r0:=KR.mc;have rf:=KR.frozen;unfold stM oD at a0;have b2:=zh a0;have ax:=zh a3;have n4:¬s.heap.size=gk:=λe=>n1 e.symm;have n5:¬V1.heap.size=gk:=λe=>n2 e.symm;clear am K T4 l ac a0 A T5 B Z P aa X a3 T6 ae ah x KR h1 b5 a5;go_wp2_with (first|rw[<-b2.o]|rw[<-ax.o])
 exact aUl f rfl HF.1 rfl HF.2
end Go.Proofs.YtdjdcdnjjmjonaaGreat
namespace Go.Proofs.YtdjdcdnjjmjonaaGreat
open Go.RowKit Classical
set_option maxRecDepth 100000
def gN {W:qw}{G:Nat}(f:Blk W G zL 65)(v0 v1 v2 v3 v4 a b)(Q:Ending->World->Prop)(tmps)(i:tmps[2]?=some (.pointer$ qP G))(d:tmps[3]?=some (.bool b))(e:Q (.returned$ .tuple #[.agg #[v0,v1,v2,v3,v4,a],.bool b]) (st6 W G v0 v1 v2 v3 v4 a)):
 bodyPost Tryz.prog Tryz.f22 Q Exit.ret ⟨tmps,[]⟩ (st6 W G v0 v1 v2 v3 v4 a):=by
 have k:=mH f v0 v1 v2 v3 v4 a;let⟨g,j,l,p,q,s⟩:=k.z6;refine bodyPost_ret_by (v:=.tuple #[.agg #[v0,v1,v2,v3,v4,a],.bool b]) ?_ rfl e;simp[results,Tryz.results22,go_sem,i,d,g,j,l,p,q,s]
def aPd (M w)(h:MnD w M):qC 22 #[.agg$ qA M] w (VlP w M):=by
 let⟨U,hU,bU,kU⟩:=nwb w (qA M) 43;let⟨V,hV,bV,kV⟩:=nwb U qz 65;have BV:=yT bU bV;have aj:=kU.bw bV;have aw:w.heap.size<=U.heap.size:=bU.size;have ay:U.heap.size<V.heap.size:=kV.lt;let⟨L,hL⟩:=aN$ M.L;have ba:=zh (show LayB L by rw[hL];exact uZ _ _ _ _ _);have av:=zh (show wfi L.stack/\wfi L.flash/\wfi L.ram by rw[hL];exact aKg _ _ _ _ _)
 have az:=zh (show qC 61 #[qS M.ma M.mn M.mc,.agg$ qW M.cs M.cw M.ck M.cd] V (λe w'=>qY V w'/\∃u A g a c2 x s y,e=.returned (.tuple #[.agg$ qJ L u g A a c2 x y s,qI$ lkc (aF M.ms) M.cs M.cw M.ck M.cd])/\LayO w' V.heap.size L u A g a c2 x s y)by
  have:=aBo M.ma M.mn M.mc M.ms M.cs M.cw M.ck M.cd V$ h.m.bw BV;unfold LkM oG at this;rw[show lkL (aF M.ms) M.cs M.cw M.ck M.cd=L from hL.symm]at this
  exact this)
 have b7:=zh (λ(e:lkc (aF M.ms) M.cs M.cw M.ck M.cd=0)=>show Lok (aF M.ms) L by
  have:=aIb e;rw[hL];unfold Mn.L lkL;rw[if_pos e]
  exact this)
 have R:=zh$ h.bw BV;have HU:=zh hU;have HV:=zh hV;have HB:=zh BV;have I:=zh hL;have b4:=zh$ xA aw ay;have bh:Zh (w.heap.size<U.heap.size):=kU.lt;have HK:=zb V λX l=>xA (aj.bw l)$ kV.bw l;have D:=zh λ(X:qw)(l:qY V X)(v0 v1 v2 v3 v4 v5:Value)=>show qY w (st6 X U.heap.size v0 v1 v2 v3 v4 v5)from aG (yT BV l) (cZ _ _ _ _ _ _ _ _) (λj hj=>by have e:j=U.heap.size:=hj;omega) (by have h1:=BV.size;have h2:=l.size;omega);let⟨k,t,m2,m3,m4,m5,m6,m7,m8,m9,N,Q,Y,a0,a1⟩:=aj.mc;clear hU hV bU bV kU aj kV BV h hL aw ay;generalize hC:lkc (aF M.ms) M.cs M.cw M.ck M.cd=C at *;have ac:=zh hC;clear hC
 delta qC;go_in
 go_wp2_with (first|rw[<-HU.o]|rw[<-HV.o])
 apply az.mono;rintro e X1 ⟨a8,u,A,g,a,c2,x,s,y,rfl,O⟩;let⟨W,hW,bW,kW⟩:=nwb X1 (qJ L u g A a c2 x y s) 65;have BW:=yT a8 bW;have HW:=zh hW;have a7:=zh BW;have OW:=O.below' bW;have bq:=zh OW;have ak:=zh$ OW.lyt ba.r av;have bg:=zh (show U.heap.size<X1.heap.size by have h1:=b4.2;have h2:=a8.size;omega);have d:=zb W λX l=>xA ((HK X$ yT BW l).1)$ xA ((HK X$ yT BW l).2)$ kW.bw l;have F:=zb W λX l=>yT BW l;clear k t m2 m3 m4 m5 m6 m7 m8 m9 N Q Y a0 a1 HU HV az hW bW kW BW OW O a8 HK;let⟨k,t,m2,m3,m4,m5,m6,m7,m8,m9,N,Q,Y,a0,a1⟩:=(d W brf).1.mc;let⟨l0,l1,l2,l3,l4,l5⟩:=(d W brf).2.2.ly6;by_cases P:¬C=0
 .have bc:(C !=0)=true:=by simp[P]
  have B:Zh (¬MOk M):=λq=>P$ ac.o ▸ q.l;clear P;let⟨r0,r1,r2,r3,r4,r5⟩:=(d W brf).2.1.ly6;have rf:=(d W brf).2.1.frozen;have E:=(d W brf).2.1;have f:=D W a7;go_wp2_with (rw[<-HW.o])
  exact gN E (qS u g.length A) (qI L.stack) (qS a L.slots.length c2) (qI L.flash) (qI L.ram) (qS x y.length s) false _ _ rfl rfl$ eX (f _ _ _ _ _ _) B
 replace P:C=0:=xZ.1 P;have bc:(C !=0)=false:=by simp[P]
 have am:=zh (show lkc (aF M.ms) M.cs M.cw M.ck M.cd=0 by rw[ac.o];exact P);have c0:=zh$ b7.o$ ac.o ▸ am.o;have c9:=zh P;clear P b7;let⟨b0,af⟩:=iH$ zX (aF M.ms) L
 have be:=zh (λ(X:qw)(l:qY W X)=>(aLg M.ma M.mn M.mc M.ms L u A g a c2 x s y X ((R.m.bw a7).bw l)$ ak.bw l).mono (λe w' he=>show e=.returned (.bool b0)/\qY X w' by
  obtain⟨r,h1,h2,h3⟩:=he;have:r=b0:=by rw[xJ,h2,af]
  exact⟨by rw[h1,this],h3⟩))
 have b8:=zb W λX l=>rB M.pc M.ka M.kn M.kc M.kz X$ (R.k.bw a7).bw l;have au:=zb W λX l=>lL M.fa M.ra M.oa M.fn M.fc M.rn M.rc M.on M.oc X
 have bm:=zh (λ(X:qw)(l:qY W X)=>show qC 65 #[qS M.ma M.mn M.mc,.agg$ qJ L u g A a c2 x y s] X (λe w'=>qY X w'/\∃b1 n1 d1 b2 n2 d2 b3 n3 d3,e=.returned (.tuple #[.agg$ qV b1 n1 d1 b2 n2 d2 b3 n3 d3,.bool true])/\BS w' b1 n1 d1 (imF (aF M.ms) L))by
  have:=aHj M.ma M.mn M.mc M.ms L u A g a c2 x s y X ((R.m.bw a7).bw l)$ ak.bw l;unfold ImM at this;rw[xR c0.o]at this
  exact this.mono λe w'⟨h1,b1,n1,d1,b2,n2,d2,b3,n3,d3,h2,h3⟩=>⟨h1,b1,n1,d1,b2,n2,d2,b3,n3,d3,h2,h3.o1.bs⟩)
 have c1:=zb W λX l=>(R.f.bw a7).bw l;have an:=zb W λX l=>jS M.ma M.mn M.mc M.ms M.md M.bk X$ ((R.m.bw a7).bw l).s;rw[fG R.o.m M.md M.bk]at an;let⟨ad,aa⟩:=iH$ dO (aF M.ms) L M.cs M.cw M.tn M.rz M.lz/\(M.cs=0\/M.bk=-1\/hld M.lz M.md M.bk≠-1);have bl:=zh λ(hr:(M.rn:Int)=L.ram)(X:qw)(l:qY W X)=>(aAz M L u A g a c2 x s y X ((R.bw a7).bw l) (ak.bw l) I am hr).mono λe w' he=>pL he ad aa;let⟨b5,ah⟩:=iH$ mO (aF M.ms) M.cd M.hz;have bf:=zb W λX l=>(wW M X$ (R.bw a7).bw l).mono λe w' he=>pL he b5 ah;obtain⟨ap,a8⟩:∃b:Bool,b=cok M.pc M.kn M.kz:=⟨_,rfl⟩;rw[<-a8]at b8;obtain⟨aq,ag⟩:∃b:Bool,b=mok M.fn M.rn M.on:=⟨_,rfl⟩;rw[<-ag]at au;obtain⟨ar,a5⟩:∃b:Bool,b=decide (0<=pcq (aF M.ms) M.md M.bk):=⟨_,rfl⟩;rw[<-a5]at an;have bd:=zh (λ(e:b0=false)=>show ¬MOk M from λq=>by have:=af.2$ I.o ▸ q.p;rw[e]at this;cases this);have c5:=zh (λ(e:ap=false)=>show ¬MOk M from λq=>by have:=q.c;rw[<-a8,e]at this;cases this);have c8:=zh (λ(e:aq=false)=>show ¬MOk M from λq=>by have:=q.b;rw[<-ag,e]at this;cases this);have bv:=zh (λ(e:ad=false)=>show ¬MOk M from λq=>by have:=aa.2 ⟨I.o ▸ q.s,q.n.2⟩;rw[e]at this;cases this);have bj:=zh (λ(e:ar=false)=>show ¬MOk M from λq=>by rw[e]at a5;exact absurd q.n.1$ of_decide_eq_false a5.symm);have c3:=zh (λ(e:b5=false)=>show ¬MOk M from λq=>by have:=ah.2 q.h;rw[e]at this;cases this);have bi:=zh λ(e:¬imF (aF M.ms) L=M.fz)=>show ¬MOk M from λq=>e$ I.o ▸ q.f;have bo:=zh λ(e:¬(M.rn:Int)=L.ram)=>show ¬MOk M from λq=>e$ I.o ▸ q.r;have bb:=zh λ(e:¬(0<=M.tn/\M.tn<=1000000000))=>show ¬MOk M from λq=>e q.t
 have bn:=zh (λ(e0:b0=true)(e1:ap=true)(e2:aq=true)(e6:imF (aF M.ms) L=M.fz)(e7:(M.rn:Int)=L.ram)(et:0<=M.tn/\M.tn<=1000000000)(e4:ar=true)(e3:ad=true)(e5:b5=true)=>show MOk M from
  ⟨am.o,by have:=af.1 e0;rw[I.o]at this;exact this,by rw[<-a8,e1],by rw[<-ag,e2],by rw[I.o]at e6;exact e6,by rw[I.o]at e7;exact e7,et,by have:=(aa.1 e3).1;rw[I.o]at this;exact this,⟨by rw[e4]at a5;exact of_decide_eq_true a5.symm,(aa.1 e3).2⟩,ah.1 e5⟩)
 have b9:=zh (λ(X:qw)(l:qY W X)(v0 v1 v2 v3 v4 v5:Value)=>show Blk (st6 X U.heap.size v0 v1 v2 v3 v4 v5) w.heap.size (qA M) 43/\Blk (st6 X U.heap.size v0 v1 v2 v3 v4 v5) X1.heap.size (qJ L u g A a c2 x y s) 65 from
  ⟨aD (cZ _ _ _ _ _ _ _ _) (d X l).1 (λe=>by have e':w.heap.size=U.heap.size:=e;have:=bh.o;omega),aD (cZ _ _ _ _ _ _ _ _) (d X l).2.2 (λe=>by have e':X1.heap.size=U.heap.size:=e;have:=bg.o;omega)⟩)
 clear af a8 ag aa a5 ah R ac;go_wp2_with (rw[<-HW.o])
 apply(be W brf).mono;rintro e Y0 ⟨rfl,p⟩;have a4:=zh p;clear p HW k t m2 m3 m4 m5 m6 m7 m8 m9 N Q Y a0 a1 l0 l1 l2 l3 l4 l5;let⟨k,t,m2,m3,m4,m5,m6,m7,m8,m9,N,Q,Y,a0,a1⟩:=(d Y0 a4).1.mc;let⟨l0,l1,l2,l3,l4,l5⟩:=(d Y0 a4).2.2.ly6;let⟨r0,r1,r2,r3,r4,r5⟩:=(d Y0 a4).2.1.ly6;have rf:=(d Y0 a4).2.1.frozen;cases b0 with
 | false=>
   have B:=zh$ bd.o Jb;have E:=(d Y0 a4).2.1;have f:=D Y0$ F Y0 a4;go_wp2;exact gN E (qS u g.length A) (qI L.stack) (qS a L.slots.length c2) (qI L.flash) (qI L.ram) (qS x y.length s) false _ _ rfl rfl$ eX (f _ _ _ _ _ _) B
 | true=>
 go_wp2_with fail
 apply(b8 _ a4).mono;rintro e Y1 ⟨rfl,p⟩;have a6:=zh$ yT a4 p;clear p k t m2 m3 m4 m5 m6 m7 m8 m9 N Q Y a0 a1 l0 l1 l2 l3 l4 l5 r0 r1 r2 r3 r4 r5 rf;let⟨k,t,m2,m3,m4,m5,m6,m7,m8,m9,N,Q,Y,a0,a1⟩:=(d Y1 a6).1.mc;let⟨l0,l1,l2,l3,l4,l5⟩:=(d Y1 a6).2.2.ly6;let⟨r0,r1,r2,r3,r4,r5⟩:=(d Y1 a6).2.1.ly6;have rf:=(d Y1 a6).2.1.frozen;cases ap with
 | false=>
   have B:=zh$ c5.o Jb;have E:=(d Y1 a6).2.1;have f:=D Y1$ F Y1 a6;go_wp2;exact gN E (qS u g.length A) (qI L.stack) (qS a L.slots.length c2) (qI L.flash) (qI L.ram) (qS x y.length s) false _ _ rfl rfl$ eX (f _ _ _ _ _ _) B
 | true=>
 go_wp2_with fail
 apply(au _ a6).mono;rintro e Y2 ⟨rfl,p⟩;have a3:=zh$ yT a6 p;clear p k t m2 m3 m4 m5 m6 m7 m8 m9 N Q Y a0 a1 l0 l1 l2 l3 l4 l5 r0 r1 r2 r3 r4 r5 rf;let⟨k,t,m2,m3,m4,m5,m6,m7,m8,m9,N,Q,Y,a0,a1⟩:=(d Y2 a3).1.mc;let⟨l0,l1,l2,l3,l4,l5⟩:=(d Y2 a3).2.2.ly6;let⟨r0,r1,r2,r3,r4,r5⟩:=(d Y2 a3).2.1.ly6;have rf:=(d Y2 a3).2.1.frozen;cases aq with
 | false=>
   have B:=zh$ c8.o Jb;have E:=(d Y2 a3).2.1;have f:=D Y2$ F Y2 a3;go_wp2;exact gN E (qS u g.length A) (qI L.stack) (qS a L.slots.length c2) (qI L.flash) (qI L.ram) (qS x y.length s) false _ _ rfl rfl$ eX (f _ _ _ _ _ _) B
 | true=>
 go_wp2_with fail
 apply(bm _ a3).mono;rintro e Y3 ⟨p,b1,n1,d1,b2,n2,d2,b3,n3,d3,rfl,b6⟩;have br:=zh$ yT a3 p;let⟨Wi,ae⟩:=aN$ Y3.alloc$ .cells (qV b1 n1 d1 b2 n2 d2 b3 n3 d3) 39;have ao:qY Y3 Wi:=by rw[ae];exact bal
 have i0:qn Wi Y3 0=qk b1 n1 d1:=by
  have:Blk Wi Y3.heap.size (qV b1 n1 d1 b2 n2 d2 b3 n3 d3) 39:=by rw[ae];exact Blk.new _ _ _
  exact this.cell 0
 have ai:=zh ae;have a9:=zh$ yT br ao;have ab:Zh (qC 66 #[qS b1 n1 d1,qS M.fa M.fn M.fc] Wi λe w'=>e=.returned (.bool$ decide$ imF (aF M.ms) L=M.fz)/\qY Wi w'):=tW _ _ _ _ _ _ _ _ Wi (b6.bw ao)$ c1 Wi a9;clear p b6 ae ao k t m2 m3 m4 m5 m6 m7 m8 m9 N Q Y a0 a1 l0 l1 l2 l3 l4 l5 r0 r1 r2 r3 r4 r5 rf;let⟨k,t,m2,m3,m4,m5,m6,m7,m8,m9,N,Q,Y,a0,a1⟩:=(d Wi a9).1.mc;let⟨l0,l1,l2,l3,l4,l5⟩:=(d Wi a9).2.2.ly6;let⟨r0,r1,r2,r3,r4,r5⟩:=(d Wi a9).2.1.ly6;have rf:=(d Wi a9).2.1.frozen;by_cases c6:¬imF (aF M.ms) L=M.fz
 .rw[xS c6]at ab;have B:=zh$ bi c6;clear c6;go_wp2_with (rw[<-ai.o])
  apply ab.mono;rintro e G ⟨rfl,p⟩;have i:=zh$ yT a9 p;clear p k t m2 m3 m4 m5 m6 m7 m8 m9 N Q Y a0 a1 l0 l1 l2 l3 l4 l5 r0 r1 r2 r3 r4 r5 rf;let⟨k,t,m2,m3,m4,m5,m6,m7,m8,m9,N,Q,Y,a0,a1⟩:=(d G i).1.mc;let⟨l0,l1,l2,l3,l4,l5⟩:=(d G i).2.2.ly6;let⟨r0,r1,r2,r3,r4,r5⟩:=(d G i).2.1.ly6;have rf:=(d G i).2.1.frozen;have E:=(d G i).2.1;have f:=D G$ F G i;go_wp2;exact gN E (qS u g.length A) (qI L.stack) (qS a L.slots.length c2) (qI L.flash) (qI L.ram) (qS x y.length s) false _ _ rfl rfl$ eX (f _ _ _ _ _ _) B
 replace c6:imF (aF M.ms) L=M.fz:=xZ.1 c6;rw[xR c6]at ab;have bk:=zh c6;clear c6;go_wp2_with (rw[<-ai.o])
 apply ab.mono;rintro e G ⟨rfl,p⟩;have i:=zh$ yT a9 p;clear p k t m2 m3 m4 m5 m6 m7 m8 m9 N Q Y a0 a1 l0 l1 l2 l3 l4 l5 r0 r1 r2 r3 r4 r5 rf i0 ai;let⟨k,t,m2,m3,m4,m5,m6,m7,m8,m9,N,Q,Y,a0,a1⟩:=(d G i).1.mc;let⟨l0,l1,l2,l3,l4,l5⟩:=(d G i).2.2.ly6;let⟨r0,r1,r2,r3,r4,r5⟩:=(d G i).2.1.ly6;have rf:=(d G i).2.1.frozen;by_cases c7:¬(M.rn:Int)=L.ram
 .have c4:((M.rn:Int) !=L.ram)=true:=by simp[c7]
  have B:=zh$ bo c7;clear c7;have E:=(d G i).2.1;have f:=D G$ F G i;go_wp2;exact gN E (qS u g.length A) (qI L.stack) (qS a L.slots.length c2) (qI L.flash) (qI L.ram) (qS x y.length s) false _ _ rfl rfl$ eX (f _ _ _ _ _ _) B
 replace c7:(M.rn:Int)=L.ram:=xZ.1 c7;have c4:((M.rn:Int) !=L.ram)=false:=by simp[c7]
 have ax:=zh c7;clear c7;by_cases ca:M.tn<0
 .have B:=zh$ bb λq=>J;have E:=(d G i).2.1;have f:=D G$ F G i;go_wp2;exact gN E (qS u g.length A) (qI L.stack) (qS a L.slots.length c2) (qI L.flash) (qI L.ram) (qS x y.length s) false _ _ rfl rfl$ eX (f _ _ _ _ _ _) B
 by_cases cb:1000000000<M.tn
 .have B:=zh$ bb λq=>J;have E:=(d G i).2.1;have f:=D G$ F G i;go_wp2;exact gN E (qS u g.length A) (qI L.stack) (qS a L.slots.length c2) (qI L.flash) (qI L.ram) (qS x y.length s) false _ _ rfl rfl$ eX (f _ _ _ _ _ _) B
 have bp:=zh$ show 0<=M.tn/\M.tn<=1000000000 from J;go_wp2_with fail
 apply(an _ i).mono;rintro e Y6 ⟨rfl,p⟩;have H:=zh$ yT i p;clear p k t m2 m3 m4 m5 m6 m7 m8 m9 N Q Y a0 a1 l0 l1 l2 l3 l4 l5 r0 r1 r2 r3 r4 r5 rf;let⟨k,t,m2,m3,m4,m5,m6,m7,m8,m9,N,Q,Y,a0,a1⟩:=(d Y6 H).1.mc;let⟨l0,l1,l2,l3,l4,l5⟩:=(d Y6 H).2.2.ly6;let⟨r0,r1,r2,r3,r4,r5⟩:=(d Y6 H).2.1.ly6;have rf:=(d Y6 H).2.1.frozen;cases ar with
 | false=>
   have B:=zh$ bj.o Jb;have E:=(d Y6 H).2.1;have f:=D Y6$ F Y6 H;go_wp2;exact gN E (qS u g.length A) (qI L.stack) (qS a L.slots.length c2) (qI L.flash) (qI L.ram) (qS x y.length s) false _ _ rfl rfl$ eX (f _ _ _ _ _ _) B
 | true=>
 have bu:=zh$ bl ax;clear k t m2 m3 m4 m5 m6 m7 m8 m9 N Q Y a0 a1 l0 l1 l2 l3 l4 l5;go_wp2_with fail
 refine wp_region_held_drew (S:=(λX=>Blk X w.heap.size (qA M) 43/\Blk X X1.heap.size (qJ L u g A a c2 x y s) 65)) Je ?_ λhHeld=>?_
 .exact⟨(d _ H.drew).1,(d _ H.drew).2.2⟩
 refine tkV 0 _ rfl (λw hSw=>aO6 hSw.2 rfl) ?_;try simp only[yG,Act.put]
 refine tkV 1 _ rfl (λw hSw=>wU hSw.1 rfl) ?_;try simp only[yG,Act.put]
 refine tkV 2 _ rfl (λw hSw=>aO6 hSw.2 rfl) ?_;try simp only[yG,Act.put]
 refine wpAnyH_ready (rs:=[3]) Je Jb$ AllReadyH.cons rfl (λK hK=>?_) AllReadyH.nil;go_simp;apply(bu _ H.drew).mono;rintro e Y7 ⟨rfl,p⟩;have Z:=zh$ yT H.drew p;clear p;try go_wp2_with fail
 refine hK.out _ _ ?_ λhHeld=>?_
 .exact⟨(d _ Z).1,(d _ Z).2.2⟩
 clear hK K;try simp only[yG,Act.put]
 refine tkW 4 rfl ?_;try simp only[yG,Act.put]
 clear r0 r1 r2 r3 r4 r5 rf;cases ad with
 | false=>
   have B:=zh$ bv.o Jb;let⟨r0,r1,r2,r3,r4,r5⟩:=(d Y7 Z).2.1.ly6;have rf:=(d Y7 Z).2.1.frozen;refine tkS 5 rfl ?_;try simp only[yG,Act.put]
   refine tkS 6 rfl ?_;try simp only[yG,Act.put]
   refine tkW 7 rfl ?_;try simp only[yG,Act.put]
   refine wpAnyH_ready (rs:=[8]) Je Jb$ AllReadyH.cons rfl (λK hK=>?_) AllReadyH.nil;go_simp;try go_wp2_with fail
   refine hK.out _ _ ?_ λhHeld=>?_
   .exact b9 _ Z _ _ _ _ _ _
   clear hK K;try simp only[yG,Act.put]
   refine tkW 9 rfl ?_;try simp only[yG,Act.put]
   refine wpAnyH_done Je ?_ _;have E:=(d Y7 Z).2.1;have f:=D Y7$ F Y7 Z;go_wp2;exact gN E (qS u g.length A) (qI L.stack) (qS a L.slots.length c2) (qI L.flash) (qI L.ram) (qS x y.length s) false _ _ rfl rfl$ eX (f _ _ _ _ _ _) B
 | true=>
   refine tkV 5 _ rfl (λw hSw=>wU hSw.1 rfl) ?_;try simp only[yG,Act.put]
   refine wpAnyH_ready (rs:=[6]) Je Jb$ AllReadyH.cons rfl (λK hK=>?_) AllReadyH.nil;go_simp;apply(bf _ Z).mono;rintro e Y8 ⟨rfl,p⟩;have a2:=zh$ yT Z p;clear p;try go_wp2_with fail
   refine hK.out _ _ ?_ λhHeld=>?_
   .exact⟨(d _ a2).1,(d _ a2).2.2⟩
   clear hK K;try simp only[yG,Act.put]
   refine tkW 7 rfl ?_;try simp only[yG,Act.put]
   let⟨r0,r1,r2,r3,r4,r5⟩:=(d Y8 a2).2.1.ly6;have rf:=(d Y8 a2).2.1.frozen;refine wpAnyH_ready (rs:=[8]) Je Jb$ AllReadyH.cons rfl (λK hK=>?_) AllReadyH.nil;go_simp;try go_wp2_with fail
   refine hK.out _ _ ?_ λhHeld=>?_
   .exact b9 _ a2 _ _ _ _ _ _
   clear hK K;try simp only[yG,Act.put]
   refine tkW 9 rfl ?_;try simp only[yG,Act.put]
   refine wpAnyH_done Je ?_ _;have E:=(d Y8 a2).2.1;have f:=D Y8$ F Y8 a2;cases b5 with
   | false=>
     have B:=zh$ c3.o Jb;go_wp2;exact gN E (qS u g.length A) (qI L.stack) (qS a L.slots.length c2) (qI L.flash) (qI L.ram) (qS x y.length s) false _ _ rfl rfl$ eX (f _ _ _ _ _ _) B
   | true=>
     have B:=zh$ bn.o Jb Jb Jb bk.o ax.o bp.o Jb Jb Jb;have bz:Zh (LyT (st6 Y8 U.heap.size (qS u g.length A) (qI L.stack) (qS a L.slots.length c2) (qI L.flash) (qI L.ram)$ qS x y.length s) L u A g a c2 x s y):=((bq.below' a2).kept (cZ _ _ _ _ _ _ _ _) (λj hj _ e=>by have e':j=U.heap.size:=e;have:=b4.2;omega)).lyt ba.r av;go_wp2;exact gN E (qS u g.length A) (qI L.stack) (qS a L.slots.length c2) (qI L.flash) (qI L.ram) (qS x y.length s) true _ _ rfl rfl$ aM1 I (f _ _ _ _ _ _) B bz
