import Derived.Test.YtdjdcdnjjmjonaaGreatT16
import Derived.Test.YtdjdcdnjjmjonaaGreatT17
set_option linter.all false
set_option maxHeartbeats 64000000
namespace Go.Proofs.YtdjdcdnjjmjonaaGreat
open Go.RowKit
set_option maxRecDepth 100000
variable {L:Lay}{T cw:Int}{k:Nat}{ps:List PMod}{xs:List SlT}
def aO5 {s c k d:Int}(h:lkc ps s c k d=0):((lkL ps s c k d).slots.length:Int)=s/\(1<=c/\c<=64):=by
 have:lkL ps s c k d=lay ps s c k:=by unfold lkL;rw[if_pos h]
 have a:=(dZ.1 h).1;unfold cfo at a;simp at a;have:(lay ps s c k).slots.length=s.toNat:=by simp[lay]
 grind
def pL {P:Prop}{w w':qw}{e:Ending}(h:Yn P w e w')(b)(a:b=true ↔ P):e=.returned (.bool b)/\qY w w':=by
 obtain⟨r,f,g,d⟩:=h
 grind
def aNm {cs:Int}{rz:qi}(a:k<xs.length)(h:¬pR ps L cw T rz xs k):¬dO ps L cs cw T rz xs:=λf=>h$ f.2 k a
def aNl {rz:qi}(a:∀i,i<k->pR ps L cw T rz xs i)(h:pR ps L cw T rz xs k):∀i,i<k+1->pR ps L cw T rz xs i:=by grind
def aE7 (M L a0 c0 xs a2 c2 a5 c5 ts w)(h:MnD w M)(hL:LyT w L a0 c0 xs a2 c2 a5 c5 ts)(eL:L=M.L)(B:lkc (aF M.ms) M.cs M.cw M.ck M.cd=0)(hr:(M.rn:Int)=L.ram):
 qC 144 #[.agg$ qA M,.agg$ qJ L a0 xs c0 a2 c2 a5 ts c5] w (Yn (dO (aF M.ms) L M.cs M.cw M.tn M.rz M.lz) w):=by
 let⟨a6,w0,w1⟩:=aO5 B;have d:L=lkL (aF M.ms) M.cs M.cw M.ck M.cd:=eL;rw[<-d]at a6;have hl:=h.l.1;have aw:=h.l.2.1;unfold maxLen at aw;let⟨U,hU,bU,kU⟩:=nwb w (qA M) 43;let⟨V,hV,bV,kV⟩:=nwb U (qJ L a0 xs c0 a2 c2 a5 ts c5) 65;have BV:=yT bU bV;have G:=kU.bw bV;have u:=zh$ h.bw BV;have ab:=zh$ hL.s.bw BV;have HU:=zh hU;have HV:=zh hV;have HB:=zh BV;have HC:=zb V λX t=>xA (G.bw t)$ kV.bw t;have y1:=G.e1;have ah:=G.e12;have Y:=zh$ Below.refl (qs V) V;have af:=zh$ xA d$ xA a6$ xA hr B;clear hU hV bU bV kU G kV BV h hL eL d a6 hr B;by_cases s:¬(M.ln:Int)=M.cs
 .have D:Zh (¬dO (aF M.ms) L M.cs M.cw M.tn M.rz M.lz):=λf=>s$ jK f.1;have ak:((M.ln:Int) !=M.cs)=true:=by simp[s]
  clear s
  delta qC;go_in
  go_wp2_with (first|rw[<-HU.o]|rw[<-HV.o])
  go_ret;exact dN D HB
 replace s:(M.ln:Int)=M.cs:=xZ.1 s;have ak:((M.ln:Int) !=M.cs)=false:=by simp[s]
 have F:=zh s;clear s;by_cases cn:M.ln=0
 .have HY:Zh (dO (aF M.ms) L M.cs M.cw M.tn M.rz M.lz):=⟨jK F.o,λi hi=>absurd hi J⟩;have ay:=zh cn;clear cn
  delta qC;go_in
  go_wp2_with (first|rw[<-HU.o]|rw[<-HV.o])
  go_loopw [17] (λi wr=>∃k:Nat,i=qI k/\qY V wr) (λi _=>0)
  .exact⟨0,rfl,Y⟩
  .obtain⟨k,rfl,E⟩:=hrel;have N:¬((k:Int)<(M.ln:Int)):=jK ay.o;have l:=zh E;clear E;go_wp2;go_ret;exact uB HY$ yT HB l
 obtain⟨g,f,hg⟩:∃g f,M.la=some ⟨g,f,none⟩:=by
  let⟨g,f,hg,_⟩:=u.l.2.2.1 cn;exact⟨g,f,hg⟩
 let⟨d,a6,hr,B⟩:=af.o;have HQ:=zh λ(wr:qw)(E:qY V wr)(k:Nat)(B:k<M.ln)=>(u.l.bw E).at k B _ _ _ _ rfl;have a7:=zh λ(y:Bool)(x1 x2 x3:Int)(b:Bool)(p:b=true ↔ slk (aF M.ms) M.tn (y,x1,x2,x3))(X:qw)(t:qY V X)=>(aHg M y x1 x2 x3 X$ u.bw t).mono λe w' Q=>show e=.returned (.bool b)/\qY X w' from pL Q b p;have Z:=zh λ(k:Nat)(B:k<M.ln)(b:Bool)(p:b=true ↔ aln M.lz k)(X:qw)(t:qY V X)=>(aGf M.la M.ln M.lc k M.lz X (u.l.bw t) B).mono λe w' Q=>show e=.returned (.bool b)/\qY X w' from pL Q b p;have R:=zh (λ(k:Nat)(hi:k<L.slots.length)(X:qw)(t:qY V X)=>(aAl M L a0 c0 xs a2 c2 a5 c5 ts k X (u.o.bw t) (ab.o.bw t) hi w0 w1 (by have:=(vN B (by rw[<-d];exact hi)).1;rw[d];exact this) (by have:=(vN B (by rw[<-d];exact hi)).2.1;rw[<-d]at this;omega) (by have:=(vN B (by rw[<-d];exact hi)).2.2.1;rw[<-d]at this;omega)).mono (λe w' Q=>show ∃a c,e=.returned (qS a (slz M.cw) c)/\BS w' a (slz M.cw) c (slb M.rz L M.cw k)/\qY X w' from Q))
 have ac:=zh (λ(y:Bool)(x1 x2 x3:Int)(hp:0<=pcq (aF M.ms) x1 x2)(p:0<=x2)(X:qw)(t:qY V X)=>(aBg M y x1 x2 x3 X (u.bw t) B (jK F.o) hp p).mono (λe w' Q=>show ∃g,e=.returned (qS (qP g) (slz M.cw)$ slz M.cw)/\BS w' (qP g) (slz M.cw) (slz M.cw) (bkb (aF M.ms) M.cw x1 x2)/\qY X w' by
  obtain⟨g,h1,h2,h3⟩:=Q
  exact⟨g,h1,h2.bs,h3⟩))
 try unfold qA at *
 try unfold qL at *
 rw[hg]at HC a7 Z R ac ah HU HQ⊢;have az:=zh (show L.slots.length=M.ln by have:=F.o;omega);clear cn hg u ab B d a6 hr af
 delta qC;go_in
 go_wp2_with (first|rw[<-HU.o]|rw[<-HV.o])
 clear y1 ah HU HV;go_loopw [17] (λi wr=>∃k:Nat,k<=M.ln/\i=qI k/\(∀i,i<k->pR (aF M.ms) L M.cw M.tn M.rz M.lz i)/\qY V wr) (qf M.ln)
 .exact⟨0,xC _,rfl,λi hi=>absurd hi J,Y⟩
 .obtain⟨k,B,rfl,hF,E⟩:=hrel;by_cases N:k<M.ln
  .have b0:(k:Int)<(M.ln:Int):=J
   let⟨g',f',ae,q0,q1,q2,q3⟩:=HQ wr E k N;simp at ae;obtain⟨rfl,rfl⟩:=ae;have O:=zh λ(q:¬pR (aF M.ms) L M.cw M.tn M.rz M.lz k)=>aNm (cs:=M.cs) (show k<M.lz.length from J) q;have a8:=zh λ(q:pR (aF M.ms) L M.cw M.tn M.rz M.lz k)=>aNl hF q;have A:Zh (pR (aF M.ms) L M.cw M.tn M.rz M.lz k ↔ slk (aF M.ms) M.tn (M.lz.getD k zSl)/\aln M.lz k/\((M.lz.getD k zSl).1=true->slb M.rz L M.cw k=bkb (aF M.ms) M.cw (M.lz.getD k zSl).2.1 (M.lz.getD k zSl).2.2.1)):=Iff.rfl;generalize M.lz.getD k zSl=x at *;obtain⟨y,x1,x2,x3⟩:=x;dsimp only at q0 q1 q2 q3 A;let⟨W,hW,bW,kW⟩:=nwb wr #[.bool y,qI x1,qI x2,qI x3] 132;have BW:=yT E bW;have b4:=zh BW;have HW:=zh hW;have H:=zb W λX t=>show Blk X (qs w) (qX M M.ma M.mn M.mc M.ka M.kn M.kc M.fa M.fn M.fc M.ra M.rn M.rc M.oa M.on M.oc (qe g f) M.ln M.lc M.ha M.hn M.hc) 43/\Blk X (qs U) (qJ L a0 xs c0 a2 c2 a5 ts c5) 65/\Blk X (qs wr) #[.bool y,qI x1,qI x2,qI x3] 132 from⟨(HC X$ yT BW t).1,(HC X$ yT BW t).2,kW.bw t⟩;have j:=zb W λX t=>yT BW t;have HD:=zh$ (Below.refl (qs W) W).drew;clear hW bW kW BW E hF HQ HC Y
   obtain⟨b1,a1⟩:∃b:Bool,b=true ↔ slk (aF M.ms) M.tn (y,x1,x2,x3):=by
    by_cases c:slk (aF M.ms) M.tn (y,x1,x2,x3)
    .exact⟨true,by simp[c]⟩
    .exact⟨false,by simp[c]⟩
   obtain⟨b2,a4⟩:∃b:Bool,b=true ↔ aln M.lz k:=by
    by_cases c:aln M.lz k
    .exact⟨true,by simp[c]⟩
    .exact⟨false,by simp[c]⟩
   obtain⟨b3,a3⟩:∃b:Bool,b=decide (slb M.rz L M.cw k=bkb (aF M.ms) M.cw x1 x2):=⟨_,rfl⟩;have ax:=zh a3.symm;have ai:=zh$ a7 y x1 x2 x3 b1 a1;have am:=zh$ Z k N b2 a4;have an:=zh (R.o k (by rw[az.o];exact N));have ao:=zh (λ(e:b1=false)=>O.o (λq=>by have:=a1.2 (A.o.1 q).1;rw[e]at this;cases this));have av:=zh (λ(e:b2=false)=>O.o (λq=>by have:=a4.2 (A.o.1 q).2.1;rw[e]at this;cases this));have ar:=zh (λ(e1:b1=true)(e2:b2=true)(e3:y=false)=>a8.o (A.o.2 ⟨a1.1 e1,a4.1 e2,λq=>by rw[e3]at q;cases q⟩));have au:=zh (λ(e0:y=true)(e:b3=false)=>O.o (λq=>by have:=(A.o.1 q).2.2 e0;rw[e]at a3;exact absurd this$ of_decide_eq_false a3.symm));have ap:=zh (λ(e1:b1=true)(e2:b2=true)(e3:b3=true)=>a8.o (A.o.2 ⟨a1.1 e1,a4.1 e2,λ_=>by rw[e3]at a3;exact of_decide_eq_true a3.symm⟩))
   have aq:=zh (λ(e1:b1=true)(e0:y=true)=>show 0<=pcq (aF M.ms) x1 x2/\0<=x2 by
    have h1:=a1.1 e1;rw[e0]at h1;let⟨p2,pq,_⟩:=aJx.1 h1
    exact⟨pq,p2⟩)
   clear a1 a4 a3 O a8 A a7 Z R;go_wp2_with (rw[<-HW.o])
   refine wp_region_held_drew (S:=(λX=>Blk X (qs w) (qX M M.ma M.mn M.mc M.ka M.kn M.kc M.fa M.fn M.fc M.ra M.rn M.rc M.oa M.on M.oc (qe g f) M.ln M.lc M.ha M.hn M.hc) 43/\Blk X (qs U) (qJ L a0 xs c0 a2 c2 a5 ts c5) 65/\Blk X (qs wr) #[.bool y,qI x1,qI x2,qI x3] 132)) Je ?_ λhHeld=>?_
   .exact H _ HD
   refine tkV 0 _ rfl (λw hSw=>wU hSw.1 rfl) ?_;try simp only[yG,Act.put]
   refine tkV 1 _ rfl (λw hSw=>aTd hSw.2.2 rfl) ?_;try simp only[yG,Act.put]
   refine wpAnyH_ready (rs:=[2]) Je Jb$ AllReadyH.cons rfl (λK C=>?_) AllReadyH.nil;go_simp;apply(ai _$ j _ HD).mono;rintro e w1 ⟨rfl,p⟩;have I:=zh$ yT HD p;clear p;try go_wp2_with fail
   refine C.out _ _ ?_ λhHeld=>?_
   .exact H _ I
   clear C K;try simp only[yG,Act.put]
   cases b1
   focus
    have D:=zh$ ao.o Jb;refine tkW 3 rfl ?_;try simp only[yG,Act.put]
    refine tkW 4 rfl ?_;try simp only[yG,Act.put]
    refine tkS 5 rfl ?_;try simp only[yG,Act.put]
    refine tkS 6 rfl ?_;try simp only[yG,Act.put]
    refine tkS 7 rfl ?_;try simp only[yG,Act.put]
    refine tkS 8 rfl ?_;try simp only[yG,Act.put]
    refine tkS 9 rfl ?_;try simp only[yG,Act.put]
    refine tkW 10 rfl ?_;try simp only[yG,Act.put]
    refine tkW 11 rfl ?_;try simp only[yG,Act.put]
    have ag:=zh I
   rotate_left;refine tkW 3 rfl ?_;try simp only[yG,Act.put]
   refine tkW 4 rfl ?_;try simp only[yG,Act.put]
   refine tkW 5 rfl ?_;try simp only[yG,Act.put]
   refine tkV 6 _ rfl (λw hSw=>aTc (hSw.1.cell 12) rfl) ?_;try simp only[yG,Act.put]
   refine tkW 7 rfl ?_;try simp only[yG,Act.put]
   refine wpAnyH_ready (rs:=[8]) Je Jb$ AllReadyH.cons rfl (λK C=>?_) AllReadyH.nil;go_simp;apply(am _$ j _ I).mono;rintro e w2 ⟨rfl,p⟩;have l:=zh$ yT I p;clear p;try go_wp2_with fail
   refine C.out _ _ ?_ λhHeld=>?_
   .exact H _ l
   clear C K;try simp only[yG,Act.put]
   cases b2
   focus
    have D:=zh$ av.o Jb;refine tkW 9 rfl ?_;try simp only[yG,Act.put]
    refine tkW 10 rfl ?_;try simp only[yG,Act.put]
    refine tkW 11 rfl ?_;try simp only[yG,Act.put]
    have ag:=zh l
   rotate_left;refine tkW 9 rfl ?_;try simp only[yG,Act.put]
   refine tkW 10 rfl ?_;try simp only[yG,Act.put]
   refine tkW 11 rfl ?_;try simp only[yG,Act.put]
   refine tkW 12 rfl ?_;try simp only[yG,Act.put]
   refine tkV 13 _ rfl (λw hSw=>aVw (hSw.2.2.cell 0) rfl) ?_;try simp only[yG,Act.put]
   refine tkW 14 rfl ?_;try simp only[yG,Act.put]
   cases y
   focus
    have D:=zh$ ar.o Jb Jb Jb;refine tkS 15 rfl ?_;try simp only[yG,Act.put]
    refine tkS 16 rfl ?_;try simp only[yG,Act.put]
    refine tkS 17 rfl ?_;try simp only[yG,Act.put]
    refine tkS 18 rfl ?_;try simp only[yG,Act.put]
    refine tkS 19 rfl ?_;try simp only[yG,Act.put]
    refine tkS 20 rfl ?_;try simp only[yG,Act.put]
    refine tkS 21 rfl ?_;try simp only[yG,Act.put]
    refine tkS 22 rfl ?_;try simp only[yG,Act.put]
    refine tkS 23 rfl ?_;try simp only[yG,Act.put]
    refine tkW 24 rfl ?_;try simp only[yG,Act.put]
    refine tkW 25 rfl ?_;try simp only[yG,Act.put]
    refine wpAnyH_done Je ?_ _;have HE:=zh$ j _ l;clear H j HD hHeld;go_wp2
    go_roundw
    .exact⟨k+1,J,by go_num,D,HE⟩
    .simp[qf,intOf];omega
   let⟨pq,p2⟩:=aq.o Jb Jb;have aj:=zh$ ac true x1 x2 x3 pq p2;clear pq p2;refine tkV 15 _ rfl (λw hSw=>wU hSw.1 rfl) ?_;try simp only[yG,Act.put]
   refine tkV 16 _ rfl (λw hSw=>aO6 hSw.2.1 rfl) ?_;try simp only[yG,Act.put]
   refine tkW 17 rfl ?_;try simp only[yG,Act.put]
   refine tkV 19 _ rfl (λw hSw=>wU hSw.1 rfl) ?_;try simp only[yG,Act.put]
   refine tkV 20 _ rfl (λw hSw=>aTd hSw.2.2 rfl) ?_;try simp only[yG,Act.put]
   refine wpAnyH_ready (rs:=[18]) Je Jb$ AllReadyH.cons rfl (λK C=>?_) AllReadyH.nil;go_simp;apply(an _$ j _ l).mono;rintro e w3 ⟨sa,sc,rfl,hs,p⟩;have P:=zh$ yT l p;have ad:=zh hs;clear hs;clear p;try go_wp2_with fail
   refine C.out _ _ ?_ λhHeld=>?_
   .exact H _ P
   clear C K;try simp only[yG,Act.put]
   refine wpAnyH_ready (rs:=[21]) Je Jb$ AllReadyH.cons rfl (λK C=>?_) AllReadyH.nil;go_simp;apply(aj _$ j _ P).mono;rintro e w4 ⟨bg,rfl,hs,p⟩;have a9:=zh$ yT P p;have aa:=zh$ nG sa (qP bg) (slz M.cw) sc (slz M.cw) (slz M.cw) _ _ w4 (ad.bw p) hs;rw[ax.o]at aa;clear hs p ad;try go_wp2_with fail
   refine C.out _ _ ?_ λhHeld=>?_
   .exact H _ a9
   clear C K;try simp only[yG,Act.put]
   refine wpAnyH_ready (rs:=[22]) Je Jb$ AllReadyH.cons rfl (λK C=>?_) AllReadyH.nil;go_simp;apply aa.mono;rintro e w5 ⟨rfl,rfl⟩;try go_wp2_with fail
   refine C.out _ _ ?_ λhHeld=>?_
   .exact H _ a9
   clear C K;try simp only[yG,Act.put]
   focus
    cases b3
    focus
     have D:=zh$ au.o Jb Jb
    rotate_left
    focus
     have D:=zh$ ap.o Jb Jb Jb
    all_goals
     refine tkW 23 rfl ?_;try simp only[yG,Act.put]
     refine tkW 24 rfl ?_;try simp only[yG,Act.put]
     refine tkW 25 rfl ?_;try simp only[yG,Act.put]
     refine wpAnyH_done Je ?_ _;have HE:=zh$ j _ a9;clear H j HD hHeld;go_wp2
    focus
     go_roundw
     .exact⟨k+1,J,by go_num,D,HE⟩
     .simp[qf,intOf];omega
    go_ret;exact dN D$ yT HB HE
   all_goals
    refine tkS 12 rfl ?_;try simp only[yG,Act.put]
    refine tkS 13 rfl ?_;try simp only[yG,Act.put]
    refine tkS 14 rfl ?_;try simp only[yG,Act.put]
    refine tkS 15 rfl ?_;try simp only[yG,Act.put]
    refine tkS 16 rfl ?_;try simp only[yG,Act.put]
    refine tkS 17 rfl ?_;try simp only[yG,Act.put]
    refine tkS 18 rfl ?_;try simp only[yG,Act.put]
    refine tkS 19 rfl ?_;try simp only[yG,Act.put]
    refine tkS 20 rfl ?_;try simp only[yG,Act.put]
    refine tkS 21 rfl ?_;try simp only[yG,Act.put]
    refine tkS 22 rfl ?_;try simp only[yG,Act.put]
    refine tkS 23 rfl ?_;try simp only[yG,Act.put]
    refine tkS 24 rfl ?_;try simp only[yG,Act.put]
    refine tkW 25 rfl ?_;try simp only[yG,Act.put]
    refine wpAnyH_done Je ?_ _;have HE:=zh$ j _ ag;clear H j HD hHeld;go_wp2;go_ret;exact dN D$ yT HB HE
  .have HY:Zh (dO (aF M.ms) L M.cs M.cw M.tn M.rz M.lz):=⟨jK F.o,λi hi=>hF i J⟩;have l:=zh E;clear E hF;go_wp2;go_ret;exact uB HY$ yT HB l
end Go.Proofs.YtdjdcdnjjmjonaaGreat
namespace Go.Proofs.YtdjdcdnjjmjonaaGreat
open Go.RowKit Classical
set_option maxRecDepth 100000
def aR7 {ps:List PMod}{L:Lay}(e:Lok ps L):((imR ps L).length:Int)=L.ram:=by
 unfold imR;rw[if_pos e];have K:=mX e;have:=K.rr
 have:∀i,i<=ps.length->(raB ps L i).length=L.ram.toNat:=by
  intro i
  induction i with
  | zero=>intro _;simp[raB]
  | succ i ih=>
    intro hi;have a:=ih J;have:=(K.at i J).2.2.2;rw[raB,aFh,nP]
    .exact a
    .rw[a,K.place i J];omega
 grind
def aDu (M L a0 c0 xs a2 c2 a5 c5 ts w)(h:MnD w M)(hL:LyT w L a0 c0 xs a2 c2 a5 c5 ts)(N:Lok (aF M.ms) L):
 qC 143 #[.agg$ qA M,.agg$ qJ L a0 xs c0 a2 c2 a5 ts c5] w (Yn (mok M.fn M.rn M.on=true/\imF (aF M.ms) L=M.fz/\(M.rn:Int)=L.ram) w):=by
 let⟨U,hU,bU,kU⟩:=nwb w (qA M) 43;let⟨V,hV,bV,kV⟩:=nwb U (qJ L a0 xs c0 a2 c2 a5 ts c5) 65;have u:=yT bU bV;have i:=kU.bw bV
 have A:=zh (show qC 184 #[qS M.ma M.mn M.mc,.agg$ qJ L a0 xs c0 a2 c2 a5 ts c5] V (λe w'=>qY V w'/\∃x n1 y H n2 E D n3 I,e=.returned (.tuple #[.agg$ qV x n1 y H n2 E D n3 I,.bool true])/\OM w' V.heap.size (qS x n1 y) (qS H n2 E) (qS D n3 I) (imF (aF M.ms) L) (imR (aF M.ms) L) [])by
  have:=aIs M.ma M.mn M.mc M.ms L a0 c0 xs a2 c2 a5 c5 ts V (h.m.bw u)$ hL.bw u;unfold ImM at this;rw[xR N]at this
  exact this)
 have K:=zh$ aR7 N;have s:=zb V λX j=>(h.f.bw u).bw j;have HU:=zh hU;have HV:=zh hV;have Y:=zh u;have g:=zh λ(X:qw)=>yI M.fa M.ra M.oa M.fn M.fc M.rn M.rc M.on M.oc X;have a1:=h.r.2.1;have F:=zb V λX j=>show qn X w 0=qk M.ma M.mn M.mc/\qn X w 7=qk M.fa M.fn M.fc/\qn X w 8=qk M.ra M.rn M.rc/\qn X w 9=qk M.oa M.on M.oc from⟨(i.bw j).cell 0,(i.bw j).cell 7,(i.bw j).cell 8,(i.bw j).cell 9⟩;have z0:=kV.ly6;have G:=F V brf;clear hU hV bU bV kU i kV u h hL N
 delta qC;go_in
 go_wp2_with (first|rw[<-HU.o]|rw[<-HV.o])
 apply A.mono;rintro e X1 ⟨B,x,n1,y,H,n2,E,D,n3,I,rfl,O⟩;let⟨W,hW,bW,kW⟩:=nwb X1 (qV x n1 y H n2 E D n3 I) 39;have S:=yT B bW;have HW:=zh hW;have p:=zh S;have t:=zb W λX j=>(((O.o1.bw bW).bw j).bs);have Q:=zh (show((n2:Nat):Int)=L.ram by rw[<-K.o,O.o2.bs.1]);have P:=O.o2.bs.2.1;unfold maxLen at P;have l:=zh kW;clear G z0 HU HV A hW bW kW B O;have G:=F W S;clear S;have C:=zb W λX j=>nG M.fa x M.fn M.fc n1 y M.fz (imF (aF M.ms) L) X (s X$ yT p j)$ t X j;by_cases k:mok M.fn M.rn M.on=true
 .rw[k]at g;have Z:=zh k;clear k;go_wp2_with (rw[<-HW.o])
  apply(g _).mono;rintro e R ⟨rfl,a⟩;have f:=zh$ yT p a;have b:=zh$ C R a;clear G;have G:=F R f;have i0:=(l.bw a).e0;have i1:=(l.bw a).e1;clear a g C l t s F HW;by_cases c2:M.fz=imF (aF M.ms) L
  .rw[xR c2]at b;have d:=zh c2.symm;clear c2;go_wp2_with fail
   apply b.mono;rintro e X3 ⟨rfl,rfl⟩;go_wp2;go_ret;have a3:=Q.o;refine⟨_,rfl,?_,yT Y f⟩;constructor
   .intro q;exact⟨Z.o,d.o,by simp at q;omega⟩
   .intro q;have:=q.2.2;simp;omega
  .rw[xS c2]at b;have d:Zh (¬(mok M.fn M.rn M.on=true/\imF (aF M.ms) L=M.fz/\(M.rn:Int)=L.ram)):=λq=>c2 q.2.1.symm;clear c2;go_wp2_with fail
   apply b.mono;rintro e X3 ⟨rfl,rfl⟩;go_wp2;go_ret;exact dN d$ yT Y f
 .have e1:mok M.fn M.rn M.on=false:=by simpa using k
  rw[e1]at g;have d:Zh (¬(mok M.fn M.rn M.on=true/\imF (aF M.ms) L=M.fz/\(M.rn:Int)=L.ram)):=λq=>k q.1;clear k e1;go_wp2_with (rw[<-HW.o])
  apply(g _).mono;rintro e R ⟨rfl,a⟩;have f:=zh$ yT p a;clear a;go_wp2;go_ret;exact dN d$ yT Y f
def aHm (M w)(h:MnD w M):
 qC 145 #[.agg$ qA M] w (Yn (aAq (aF M.ms) M.cs M.md M.bk M.lz) w):=by
 let⟨U,I,H,k⟩:=nwb w (qA M) 43;have b:=zh$ nB M.ma M.mn M.mc M.ms M.md M.bk U$ h.m.s.bw H;rw[fG h.m M.md M.bk]at b;have y:=zb U λX g=>lJ M.la M.ln M.lc M.lz M.md M.bk X$ (h.l.bw H).bw g;have A:=zh I;have j:=zh H;have B:=zb U λX g=>show qn X w 0=qk M.ma M.mn M.mc/\qn X w 1=qj M.cs/\qn X w 10=qj M.md/\qn X w 11=qj M.bk/\qn X w 12=qk M.la M.ln M.lc from⟨(k.bw g).cell 0,(k.bw g).cell 1,(k.bw g).cell 10,(k.bw g).cell 11,(k.bw g).cell 12⟩;have C:=B U brf;by_cases F:0<=pcq (aF M.ms) M.md M.bk
 .rw[xR F]at b;have f:Zh ((aAq (aF M.ms) M.cs M.md M.bk M.lz) ↔ (M.cs=0\/M.bk=-1\/hld M.lz M.md M.bk≠-1)):=⟨λq=>q.2,λq=>⟨F,q⟩⟩
  delta qC;go_in
  go_wp2_with (rw[<-A.o])
  apply b.mono;rintro e x ⟨rfl,d⟩;have a:=zh d;have C:=B x d;have s:=zh$ y x d;by_cases c2:M.cs=0
  .have p:(M.cs !=0)=false:=by simp[c2]
   have i:=zh$ f.2$ .inl c2;go_wp2;go_ret;exact uB i$ yT j a
  have p:(M.cs !=0)=true:=by simp[c2]
  by_cases G:M.bk=-1
  .have u:(M.bk !=-1)=false:=by simp[G]
   have i:=zh$ f.2$ .inr$ .inl G;go_wp2;go_ret;exact uB i$ yT j a
  have u:(M.bk !=-1)=true:=by simp[G]
  have i:Zh ((aAq (aF M.ms) M.cs M.md M.bk M.lz) ↔ hld M.lz M.md M.bk≠-1):=⟨λq=>by rcases f.1 q with e|e|e;exact absurd e c2;exact absurd e G;exact e,λq=>f.2$ .inr$ .inr q⟩;generalize hld M.lz M.md M.bk=r at *;go_wp2_with fail
  apply s.mono;rintro e E ⟨rfl,t⟩;have l:=zh$ yT a t;go_wp2;go_ret;exact⟨_,rfl,by rw[i.o];simp,yT j.o l.o⟩
 .rw[xS F]at b;have D:Zh (¬(aAq (aF M.ms) M.cs M.md M.bk M.lz)):=λq=>F q.1
  delta qC;go_in
  go_wp2_with (rw[<-A.o])
  apply b.mono;rintro e x ⟨rfl,d⟩;have a:=zh d;go_wp2;go_ret;exact dN D$ yT j a
def slF (L:Lay)(b:Int):List Int:=if b=-1\/L.slots=[] then [-1] else (List.range L.slots.length).map (λi:Nat=>(i:Int))
def aPe {w:qw}{g:Nat}{v:Int}(a:wfi v)(h:w.cell? (qR g 0)=some (qI v)):IS w (qP g) 1 1 [v]:=by
 refine⟨rfl,Jf,λz b=>?_,λ_=>⟨g,0,rfl,λi hi=>?_⟩,aO⟩
 .grind
 .grind
def aCy (L p s xs a2 c2 q t j b w)(h:LyT w L p s xs a2 c2 q t j)(g:b=-1\/L.slots=[]):
 qC 182 #[.agg$ qL L p xs.length s a2 L.slots.length c2 q j.length t,qI b] w λe w'=>∃a c,e=.returned (.slice a (slF L b).length c)/\IS w' a (slF L b).length c (slF L b)/\qY w w':=by
 have i:=zh (show slF L b=[-1] by unfold slF;rw[if_pos g]);rw[i.o];show qC 182 _ w λe w'=>∃a c,e=.returned (qS a 1 c)/\IS w' a 1 c [-1]/\qY w w';have d:Zh (qY w$ w.alloc$ .cells (qL L p xs.length s a2 L.slots.length c2 q j.length t) 65):=brf.alloc aO _;by_cases c:b=-1
 .subst c;generalize xs.length=n at *;generalize L.slots.length=l at *;generalize j.length=k at *
  delta qC;go_in
  go_wp2;go_ret;refine⟨_,_,rfl,aPe Jh ?_,d.alloc d.size _⟩;rw[show w.heap.size+1=(w.alloc _).heap.size from(xF _ _).symm];exact(Blk.new _ _ _).cell 0
 .have f:L.slots.length=0:=by rw[g.resolve_left c];rfl
  rw[f];rw[f]at d;generalize xs.length=n at *;generalize j.length=k at *
  delta qC;go_in
  go_wp2;go_ret;refine⟨_,_,rfl,aPe Jh ?_,d.alloc d.size _⟩;rw[show w.heap.size+1=(w.alloc _).heap.size from(xF _ _).symm];exact(Blk.new _ _ _).cell 0
end Go.Proofs.YtdjdcdnjjmjonaaGreat
namespace Go.Proofs.YtdjdcdnjjmjonaaGreat
open Go.RowKit Classical
set_option maxRecDepth 100000
variable {L:Lay}{a:qO}{b m s:Int}{cap n:Nat}{ms:List Md}{ps:List PMod}
def aJy (L b s):s∈slF L b ↔ sOk L b s:=by
 unfold slF sOk;by_cases c:b=-1\/L.slots=[]
 .grind
 .rw[if_neg c,if_neg c];simp only[List.mem_map,List.mem_range];constructor
  .grind
  .intro h;exact⟨s.toNat,J,J⟩
def aL8 (h:Lok ps L):L.slots.length<=4:=by
 let⟨hc,_⟩:=iK h.1;unfold cfo at hc
 grind
def aCz (L k q xs a2 c2 p s t b w)(h:LyT w L k q xs a2 c2 p s t)(l:L.slots.length<=4):
 qC 182 #[.agg$ qJ L k xs q a2 c2 p t s,qI b] w λe w'=>∃a n c,e=.returned (qS a n c)/\IS w' a n c (slF L b)/\qY w w':=by
 by_cases c:b=-1\/L.slots=[]
 .exact(aCy L k q xs a2 c2 p s t b w h c).mono λe w'⟨a,c,f,hi,d⟩=>⟨a,_,c,f,hi,d⟩
 .apply(aAk L k q xs a2 c2 p s t b L.slots.length w (λe=>c$ .inl e) (λe=>c$ .inr$ xE e) J).mono;rintro e w' ⟨g,rfl,j,d⟩;have e2:slF L b=upN L.slots.length:=by unfold slF upN;rw[if_neg c]
  rw[e2];refine⟨_,_,_,rfl,⟨nJ _,Jf,λz u=>?_,λ_=>⟨g,0,rfl,λi hi=>?_⟩,aO⟩,d⟩
  .simp only[upN,List.mem_map,List.mem_range]at u;obtain⟨i,hi,rfl⟩:=u;unfold wfi;omega
  .rw[Nat.zero_add];exact j.cell i (by rw[nJ];exact hi)
def aDi {w:qw}(h:MSD w a n cap ms)(m b):0<=pcq (aF ms) m b ↔ (0<=m/\m<(n:Int))/\(b=-1\/(0<=b/\b<((ms.getD m.toNat aL).bn:Int))):=by
 have d:=h.s.1;rw[<-fG h];unfold pcm;rw[d];by_cases c:0<=m/\m<(n:Int)
 .rw[if_pos c];unfold pcn
  grind
 .grind
def aS1 (L):sOk L (-1) (-1):=by grind
def aT2 (h:sOk L (-1) s):s=-1:=by grind
def aS2 (b)(h:L.slots=[]):sOk L b (-1):=by grind
def aT3 (h:L.slots=[])(hs:sOk L b s):s=-1:=by grind
def aVf (d:b≠-1)(h:¬L.slots=[]):sOk L b s ↔ 0<=s/\s<(L.slots.length:Int):=by grind
def F2 (ps:List PMod)(L:Lay)(m b:Int):Prop:=∀s:Int,sOk L b s->(plR ps L m b s).length<=8
def aKq {w:qw}(h:MSD w a n cap ms)(d:Lok (aF ms) L)(f:∀m:Nat,m<n->∀b:Int,(b=-1\/(0<=b/\b<((ms.getD m aL).bn:Int)))->F2 (aF ms) L m b):zX (aF ms) L:=by
 refine⟨d,λm b s e hs=>?_⟩;let⟨⟨i,j⟩,g⟩:=(aDi h m b).1 e;have:=f m.toNat J b g s hs
 grind
def aD8 {w:qw}(h:MSD w a n cap ms)(e:0<=m/\m<(n:Int))(g:b=-1\/(0<=b/\b<((ms.getD m.toNat aL).bn:Int)))(hs:sOk L b s)(d:¬(plR (aF ms) L m b s).length<=8):¬zX (aF ms) L:=λf=>d$ f.2 m b s ((aDi h m b).2 ⟨e,g⟩) hs
def aLg (a n a1 ms L a0 c0 xs a2 c2 a5 c5 ts w)(h:MSD w a n a1 ms)(hL:LyT w L a0 c0 xs a2 c2 a5 c5 ts):
 qC 62 #[qS a n a1,.agg$ qL L a0 xs.length c0 a2 L.slots.length c2 a5 ts.length c5] w λe w'=>∃r:Bool,e=.returned (.bool r)/\(r=true ↔ zX (aF ms) L)/\qY w w':=by
 let⟨V,hV⟩:=aN$ w.alloc$ .cells (qL L a0 xs.length c0 a2 L.slots.length c2 a5 ts.length c5) 65;have Q:qY w V:=by rw[hV];exact brf.alloc aO _
 have k0:Blk V w.heap.size (qL L a0 xs.length c0 a2 L.slots.length c2 a5 ts.length c5) 65:=by rw[hV];exact Blk.new w _ _
 have b6:=zh Q;have C:=zh$ h.bw Q;have a7:=zh$ hL.bw Q;have HV:=zh hV;have HK:=zh k0;have b4:=h.s.2.1;have ae:=hL.s.2.1;unfold maxLen at b4 ae;have d:Zh (∀X,qY V X->qn X w 0=qk a0 xs.length c0/\qn X w 1=qj L.stack/\qn X w 2=qk a2 L.slots.length c2/\qn X w 3=qj L.flash/\qn X w 4=qj L.ram/\qn X w 5=qk a5 ts.length c5):=λX hz=>(HK.bw hz).ly6;have HX:Zh (∀X,qY V X->qY w X):=λX hz=>yT b6 hz;have S:Zh (qC 113 #[qS a n a1,.agg$ qL L a0 xs.length c0 a2 L.slots.length c2 a5 ts.length c5] V λe w'=>e=.returned (.bool$ decide$ Lok (aF ms) L)/\qY V w'):=wX a n a1 ms L a0 c0 xs a2 c2 a5 c5 ts V C a7;clear hV k0 h hL Q;let⟨z0,z1,z2,z3,z4,z5⟩:=d _ brf;by_cases c1:Lok (aF ms) L
 .rw[xR c1]at S;have HC:=zh c1;have F:Zh (∀X(m b s:Int),qY V X->(0<=m/\m<(n:Int))->(b=-1\/(0<=b/\b<((ms.getD m.toNat aL).bn:Int)))->sOk L b s->qC 73 #[qS a n a1,.agg$ qL L a0 xs.length c0 a2 L.slots.length c2 a5 ts.length c5,.agg$ qT m b 0,qI s] X (λe w'=>∃A k c,e=.returned (qS A k c)/\k=(plR (aF ms) L m b s).length/\qY X w'/\qY V w')):=λX m b s hz hm I hs=>(iY a n a1 ms L a0 c0 xs a2 c2 a5 c5 ts m b 0 s X (C.bw hz) (a7.bw hz) c1 ((aDi C m b).2 ⟨hm,I⟩) hs.fit).mono λe w'⟨A,k,c,he,ho,aw⟩=>⟨A,k,c,he,(eM ho).1.symm,aw,yT hz aw⟩;clear c1;let⟨l,hl⟩:=aN$ L.slots.length;rw[<-hl]at S F d HV z2 ae⊢;have b5:=zh hl;have aj:=zh (show L.slots=[] ↔ l=0 by rw[hl];exact List.length_eq_zero_iff.symm);clear hl
  delta qC;go_in
  go_wp2_with (rw[<-HV.o])
  apply S.mono;rintro e X1 ⟨rfl,x⟩;have H:=zh x;clear x z0 z1 z2 z3 z4 z5 S HV;go_wp2_with fail
  go_loopw [5] (λi wr=>∃m:Nat,m<=n/\i=qI m/\(∀f:Nat,f<m->∀b:Int,(b=-1\/(0<=b/\b<((ms.getD f aL).bn:Int)))->F2 (aF ms) L f b)/\qY V wr) (qf n)
  .exact⟨0,xC _,rfl,λf R=>absurd R$ Nat.not_lt_zero _,H⟩
  .obtain⟨m,hm,rfl,hF,Q⟩:=hrel;have HF:=zh hF;have HB:=zh Q;clear hF Q H;by_cases ax:m<n
   .have b8:(m:Int)<(n:Int):=J
    obtain⟨gm,om,rfl,_,_,v2,_,_,_,_,_⟩:=C.s.at m ax;have b3:(ms.getD m aL).bn<=9223372036854775807:=by have:=(C.s.2.2.2.1 m ax).b.2.1;unfold maxLen at this;omega
    let⟨bn,a4⟩:=aN$ (ms.getD m aL).bn;have ap:=zh a4;rw[<-a4]at v2 b3;clear a4;have Z:=zh$ F wr m (-1) (-1) HB J (.inl rfl)$ aS1 L;let⟨z0,z1,z2,z3,z4,z5⟩:=d _ HB;go_wp2_with fail
    apply Z.mono;rintro e X2 ⟨A,k,c,rfl,hk,_,ar⟩;have aq:=zh hk;have ai:=zh ar;clear hk ar Z z0 z1 z2 z3 z4 z5;by_cases h8:k<=8
    .have b2:(k:Int)<=8:=J
     have HT:Zh (F2 (aF ms) L m (-1)):=λs hs=>by rw[aT2 hs,<-aq.o];exact h8
     go_wp2_with fail
     generalize wr=wo at *;go_loopw [6] (λi wr=>∃q:Nat,q<=bn/\i=qI q/\(∀b:Int,(b=-1\/(0<=b/\b<(q:Int)))->F2 (aF ms) L m b)/\qY V wr) (qf bn)
     .exact⟨0,xC _,rfl,λb I=>by rcases I with rfl|I;exact HT;omega,ai⟩
     .obtain⟨q,hq,rfl,au,a8⟩:=hrel;have av:=zh au;have y:=zh a8;clear au a8;have v3:=aB y v2;by_cases bb:q<bn
      .have b0:(q:Int)<(bn:Int):=J
       generalize wr=wp at *
       have HQ:=zh (show F2 (aF ms) L m (q:Int)->∀b:Int,(b=-1\/(0<=b/\b<((q+1:Nat):Int)))->F2 (aF ms) L m b from λh b I=>by
        by_cases e:b=(q:Int)
        .rw[e];exact h
        .exact av b J)
       let⟨V3,a3⟩:=aN$ wp.alloc$ .cells (qT m q 0) 121;have ac:qY V V3:=by rw[a3];exact y.o.alloc y.o.size _
       have kT:Blk V3 wp.heap.size (qT m q 0) 121:=by rw[a3];exact Blk.new _ _ _
       have ad:=zh a3;have j:=zh ac;have a6:=zh kT;clear a3 ac kT;let⟨z0,z1,z2,z3,z4,z5⟩:=d _ j;have y0:=a6.tg3;have E:Zh ((q:Int)=-1\/(0<=(q:Int)/\(q:Int)<((ms.getD ((m:Int)).toNat aL).bn:Int))):=.inr ⟨J,by rw[xY,<-ap.o];exact b0⟩;by_cases G:l=0
       .have P:=zh$ aj.2 G;have U:=zh$ F V3 m q (-1) j J E$ aS2 _ P;subst G;go_wp2_with (rw[<-ad.o])
        apply U.mono;rintro e X4 ⟨A2,k2,bc,rfl,ah,_,Y⟩;have ak:=zh ah;have ay:=zh Y;clear ah Y U z0 z1 z2 z3 z4 z5 y0;by_cases a9:k2<=8
        .have az:(k2:Int)<=8:=J
         have B:=zh (HQ.o (λs hs=>by rw[aT3 P.o hs,<-ak.o];exact a9));go_wp2_with fail
         go_loopw [8] (λi wr=>i=qI 0/\qY V wr) (λ_ _=>0)
         .exact⟨rfl,ay⟩
         .obtain⟨rfl,p⟩:=hrel;have g:=zh p;let⟨z0,z1,z2,z3,z4,z5⟩:=d _ g;clear p;go_wp2
          go_roundw
          .exact⟨q+1,J,by go_num,B,g⟩
          .simp[qf,intOf];omega
        .have az:(8:Int)<(k2:Int):=J
         have u:=zh (aD8 C.o (m:=(m:Int)) (b:=(q:Int)) (s:=-1) J E.o (aS2 _ P.o) (by rw[<-ak.o];exact a9));go_wp2;go_ret;exact⟨false,rfl,by simp[u.o],HX.o _ ay.o⟩
       .have b7:((l:Int)==0)=false:=by simpa using G
        have N:Zh (∀s:Int,sOk L (q:Int) s ↔ 0<=s/\s<(l:Int)):=λs=>by rw[b5.o];exact aVf J λe=>G$ aj.o.1 e
        go_wp2_with (rw[<-ad.o])
        clear z0 z1 z2 z3 z4 z5 y0;go_loopw [8] (λi wr=>∃t:Nat,t<=l/\i=qI t/\(∀D:Nat,D<t->(plR (aF ms) L m q D).length<=8)/\Blk wr wp.heap.size (qT m q 0) 121/\qY V wr) (qf l)
        .exact⟨0,xC _,rfl,λD am=>absurd am$ Nat.not_lt_zero _,a6,j⟩
        .obtain⟨t,ht,rfl,hG,aa,p⟩:=hrel;have HG:=zh hG;have ao:=zh aa;have g:=zh p;clear hG aa p;let⟨z0,z1,z2,z3,z4,z5⟩:=d _ g;have y0:=ao.tg3;by_cases b9:t<l
         .have M:(t:Int)<(l:Int):=J
          have af:=zh$ F wr m q t g J E$ (N _).2 ⟨J,M⟩;go_wp2_with fail
          apply af.mono;rintro e X6 ⟨A3,k3,ba,rfl,W,K,ab⟩;have an:=zh W;have O:=zh$ xA K ab;clear W K ab af z0 z1 z2 z3 z4 z5 y0;by_cases ag:k3<=8
          .have b1:(k3:Int)<=8:=J
           have B:=zh (show ∀D:Nat,D<t+1->(plR (aF ms) L m q D).length<=8 from λD am=>by
            by_cases e:D=t
            .rw[e,<-an.o];exact ag
            .exact HG D J)
           go_wp2
           go_roundw
           .exact⟨t+1,J,by go_num,B,ao.bw O.1,O.2⟩
           .simp[qf,intOf];omega
          .have b1:(8:Int)<(k3:Int):=J
           have u:=zh (aD8 C.o (m:=(m:Int)) (b:=(q:Int)) (s:=(t:Int)) J E.o ((N.o _).2 ⟨J,M⟩) (by rw[<-an.o];exact ag));go_wp2;go_ret;exact⟨false,rfl,by simp[u.o],HX.o _ O.o.2⟩
         .have B:=zh (HQ (λs hs=>by
           have h1:=(N s).1 hs;have h2:=HG s.toNat J
           rwa[Int.toNat_of_nonneg h1.1]at h2))
          go_wp2
          go_roundw
          .exact⟨q+1,J,by go_num,B,g⟩
          .simp[qf,intOf];omega
      .have B:=zh (show ∀f:Nat,f<m+1->∀b:Int,(b=-1\/(0<=b/\b<((ms.getD f aL).bn:Int)))->F2 (aF ms) L f b from λf R b I=>by
        by_cases e:f=m
        .subst e;rw[<-ap.o]at I;exact av b J
        .exact HF f J b I)
       go_wp2
       go_roundw
       .exact⟨m+1,J,by go_num,B,y⟩
       .simp[qf,intOf];omega
    .have b2:(8:Int)<(k:Int):=J
     have u:=zh (aD8 C.o (m:=(m:Int)) (b:=-1) (s:=-1) J (.inl rfl) (aS1 L) (by rw[<-aq.o];exact h8));go_wp2;go_ret;exact⟨false,rfl,by simp[u.o],HX.o _ ai.o⟩
   .have B:=zh$ aKq C HC λf R=>HF f J;go_wp2;go_ret;exact⟨true,rfl,by simp[B.o],HX.o _ HB.o⟩
 .rw[xS c1]at S;have HC:=zh c1;clear c1
  delta qC;go_in
  go_wp2_with (rw[<-HV.o])
  apply S.mono;rintro e X1 ⟨rfl,x⟩;have H:=zh x;clear x;go_wp2;go_ret;exact⟨false,rfl,by simp[zX,HC.o],HX.o _ H.o⟩
def Blk.c2 {w:qw}{b:Nat}{t:TypeId}{v0 v1 v2 v3 v4 d f e:Value}(h:Blk w b #[v0,v1,v2,v3,v4,d,f,e] t):w.cell? (qR b 2)=some v2:=h.cell 2
def aQs (h:∀t:Nat,t<(slF L b).length->(plR ps L m b$ (slF L b).getD t 0).length<=8):F2 ps L m b:=λs hs=>by
 let⟨k,a,e⟩:=aOy$ (aJy L b s).2 hs
 grind
def aTz {t:Nat}(h:t<(slF L b).length):sOk L b ((slF L b).getD t 0):=(aJy L b _).1$ aB8 h
def aDg (a n a1 ms L a0 c0 xs a2 c2 a5 c5 ts w)(h:MSD w a n a1 ms)(hL:LyT w L a0 c0 xs a2 c2 a5 c5 ts)(hk:Lok (aF ms) L):
 qC 140 #[qS a n a1,.agg$ qJ L a0 xs c0 a2 c2 a5 ts c5] w λe w'=>∃r:Bool,e=.returned (.bool r)/\(r=true ↔ zX (aF ms) L)/\qY w w':=by
 let⟨V,hV⟩:=aN$ w.alloc$ .cells (qJ L a0 xs c0 a2 c2 a5 ts c5) 65;have I:qY w V:=by rw[hV];exact bal
 have k0:Blk V w.heap.size (qJ L a0 xs c0 a2 c2 a5 ts c5) 65:=by rw[hV];exact Blk.new w _ _
 have b1:=zh I;have Q:=zh$ h.bw I;have U:=zh$ hL.bw I;have HV:=zh hV;have HK:=zh k0;have hn:=h.s.1;have aw:=h.s.2.1;have av:=hL.s.2.1;unfold maxLen at aw av;have a9:Zh (∀X,qY V X->qn X w 0=qk a0 xs.length c0/\qn X w 1=qj L.stack/\qn X w 2=qk a2 L.slots.length c2/\qn X w 3=qj L.flash/\qn X w 4=qj L.ram/\qn X w 5=qk a5 ts.length c5):=λX hz=>(HK.bw hz).ly6;have HX:Zh (∀X,qY V X->qY w X):=λX hz=>yT b1 hz;have HC:=zh hk;have az:Zh (∀X(m b s:Int),qY V X->(0<=m/\m<(n:Int))->(b=-1\/(0<=b/\b<((ms.getD m.toNat aL).bn:Int)))->sOk L b s->qC 147 #[qS a n a1,.agg$ qJ L a0 xs c0 a2 c2 a5 ts c5,.agg$ qT m b 0,qI s] X (λe w'=>∃A k c,e=.returned (.tuple #[qS A k c,.bool$ decide$ (plR (aF ms) L m b s).length<=8])/\qY X w'/\qY V w')):=λX m b s hz hm B hs=>(vU a n a1 ms L a0 c0 xs a2 c2 a5 c5 ts m b 0 s X (Q.bw hz) (U.bw hz) hk ((aDi Q m b).2 ⟨hm,B⟩) hs.fit).mono λe w'⟨A,k,c,he,_,l⟩=>⟨A,k,c,he,l,yT hz l⟩;have ao:Zh (∀X(b:Int),qY V X->qC 182 #[.agg$ qJ L a0 xs c0 a2 c2 a5 ts c5,qI b] X (λe w'=>∃ra rn rc,e=.returned (qS ra rn rc)/\IS w' ra rn rc (slF L b)/\qY X w'/\qY V w')):=λX b hz=>(aCz L a0 c0 xs a2 c2 a5 c5 ts b X (U.bw hz)$ aL8 hk).mono λe w'⟨ra,rn,rc,he,hi,l⟩=>⟨ra,rn,rc,he,hi,l,yT hz l⟩;clear hV k0 h hL I hk
 delta qC;go_in
 go_wp2_with (rw[<-HV.o])
 clear HV;go_loopw [14] (λi wr=>∃m:Nat,m<=n/\i=qI m/\(∀f:Nat,f<m->∀b:Int,(b=-1\/(0<=b/\b<((ms.getD f aL).bn:Int)))->F2 (aF ms) L f b)/\qY V wr) (qf n)
 .exact⟨0,xC _,rfl,λf O=>absurd O$ Nat.not_lt_zero _,brf⟩
 .obtain⟨m,hm,rfl,hF,I⟩:=hrel;have HF:=zh hF;have j:=zh I;clear hF I;by_cases y:m<n
  .have b8:(m:Int)<(n:Int):=J
   obtain⟨gm,om,rfl,v0,v1,v2,v3,v4,v5,v6,v7⟩:=Q.s.at m y
   have Z:(ms.getD m aL).bn<=9223372036854775806:=by
    have h1:=(mX HC.o).v m (by rw[cK,hn];exact y);rw[dB (by rw[hn];exact y)]at h1;have h2:=(cR h1).2.2.2.1;have:=(Q.d m y).b.1;simp only[Md.pm,xH]at h2;omega
   let⟨M,hM⟩:=aN$ ms.getD m aL;have b3:=zh hM;rw[<-hM]at v0 v1 v2 v3 v4 v5 v6 v7 Z;clear hM;let⟨p,a4⟩:=aN$ M.bn;have ae:=zh (show p=(ms.getD m aL).bn by rw[a4,b3.o]);rw[<-a4]at v2 Z;clear a4;have u0:=aB j v0;have u1:=aB j v1;have u2:=aB j v2;have u3:=aB j v3;have u4:=aB j v4;have u5:=aB j v5;have u6:=aB j v6;have u7:=aB j v7;clear v0 v1 v2 v3 v4 v5 v6 v7;generalize wr=wo at *;let⟨V2,a3⟩:=aN$ wo.alloc$ .cells (qM M.nm M.ta M.tn M.tc M.ba p M.bc M.da M.dn M.dc M.bss M.ra M.rn M.rc M.ia M.im M.ic M.ea M.en M.ec) 128;have am:=zh (show qY V V2 by rw[a3];exact j.o.alloc j.o.size _);have ax:=zh (show Blk V2 wo.heap.size (qM M.nm M.ta M.tn M.tc M.ba p M.bc M.da M.dn M.dc M.bss M.ra M.rn M.rc M.ia M.im M.ic M.ea M.en M.ec) 128 by rw[a3];exact Blk.new _ _ _);have b4:=zh a3;clear a3;go_wp2_with (rw[<-b4.o])
   clear u0 u1 u2 u3 u4 u5 u6 u7;go_loopw [7] (λi wr=>∃q:Nat,q<=p+1/\i=qI ((q:Int)-1)/\(∀b:Int,-1<=b->b<(q:Int)-1->F2 (aF ms) L m b)/\Blk wr wo.heap.size (qM M.nm M.ta M.tn M.tc M.ba p M.bc M.da M.dn M.dc M.bss M.ra M.rn M.rc M.ia M.im M.ic M.ea M.en M.ec) 128/\qY V wr) (λi _=>p+1-(intOf i+1).toNat)
   .exact⟨0,xC _,rfl,λb h1 h2=>J,ax,am⟩
   .obtain⟨q,hq,rfl,ag,G,W⟩:=hrel;have ai:=zh ag;have b6:=zh G;have E:=zh W;have y2:=G.c2;clear ag W G;by_cases ba:q<p+1
    .have ak:(q:Int)-1<(p:Int):=J
     obtain⟨b,B⟩:∃b:Int,b=(q:Int)-1:=⟨_,rfl⟩;rw[<-B]at ak ⊢;have:-1<=b:=J
     have H:=zh B
     have ab:=zh (show b=-1\/(0<=b/\b<((ms.getD ((m:Int)).toNat aL).bn:Int))by
      rw[xY,<-ae.o]
      omega)
     clear B;generalize wr=wp at *;have af:=zh$ ao wp b E;have z0:=a9 _ E;go_wp2_with fail
     apply af.mono;rintro e X4 ⟨ra,rn,rc,rfl,hI,D,S⟩;have an:=zh hI;have ay:=zh$ b6.bw D;have b5:=zh S;have ar:=hI.2.1;unfold maxLen at ar;clear hI D S af z0 y2;go_wp2_with fail
     go_loopw [30] (λi wr=>∃t:Nat,t<=rn/\i=qI t/\(∀x:Nat,x<t->(plR (aF ms) L m b$ (slF L b).getD x 0).length<=8)/\IS wr ra rn rc (slF L b)/\Blk wr wo.heap.size (qM M.nm M.ta M.tn M.tc M.ba p M.bc M.da M.dn M.dc M.bss M.ra M.rn M.rc M.ia M.im M.ic M.ea M.en M.ec) 128/\qY V wr) (qf rn)
     .exact⟨0,xC _,rfl,λx ac=>absurd ac$ Nat.not_lt_zero _,an,ay,b5⟩
     .obtain⟨t,ht,rfl,hG,g,ah,Y⟩:=hrel;have HG:=zh hG;have a8:=zh g;have ad:=zh ah;have P:=zh Y;clear hG ah Y;by_cases aa:t<rn
      .have b7:(t:Int)<(rn:Int):=J
       obtain⟨rb,ro,rfl,aj⟩:=g.2.2.2.1 J;have r0:=aj t aa;have N:=zh (aTz (L:=L) (b:=b) (t:=t) (by rw[g.1];exact aa));have K:=zh$ az wr m b ((slF L b).getD t 0) P J ab N;have z0:=a9 _ P;let⟨sv,a6⟩:=aN$ (slF L b).getD t 0;rw[<-a6]at r0 K N;have au:=zh a6;clear aj g a6;go_wp2_with fail
       apply K.mono;rintro e X6 ⟨A3,k3,b9,rfl,C,a7⟩;have u:=zh$ xA C a7;clear C a7 K z0 r0;by_cases d:(plR (aF ms) L m b sv).length<=8
       .rw[xR d]
        have F:=zh (show ∀x:Nat,x<t+1->(plR (aF ms) L m b$ (slF L b).getD x 0).length<=8 from λx ac=>by
         by_cases e:x=t
         .rw[e,<-au.o];exact d
         .exact HG x J)
        clear d;go_wp2
        go_roundw
        .exact⟨t+1,J,by go_num,F,a8.bw u.1,ad.bw u.1,u.2⟩
        .simp[qf,intOf];omega
       .rw[xS d];have b2:=zh$ aD8 Q (m:=(m:Int)) (b:=b) (s:=sv) J ab N d;clear d;go_wp2;go_ret;exact⟨false,rfl,by simp[b2.o],HX.o _ u.o.2⟩
      .have F:=zh (show ∀R:Int,-1<=R->R<((q+1:Nat):Int)-1->F2 (aF ms) L m R from λR h1 h2=>by
        by_cases e:R=b
        .rw[e];exact aQs (λt' aq=>HG.o t' (by rw[a8.o.1]at aq;omega))
        .exact ai R h1 (jK H.o))
       have ap:=zh (show b+1=((q+1:Nat):Int)-1 by have:=H.o;omega);clear g;go_wp2
       go_roundw
       .exact⟨q+1,J,by rw[ap.o],F.o,ad.o,P.o⟩
       .have:=H.o;simp[qf,intOf];omega
    .have F:=zh (show ∀f:Nat,f<m+1->∀b:Int,(b=-1\/(0<=b/\b<((ms.getD f aL).bn:Int)))->F2 (aF ms) L f b from λf O b B=>by
      by_cases e:f=m
      .subst e;rw[<-ae.o]at B;exact ai b J J
      .exact HF f J b B)
     have b0:(q:Int)-1=(p:Int):=J
     rw[b0];go_wp2
     go_roundw
     .exact⟨m+1,J,by go_num,F,E⟩
     .simp[qf,intOf];omega
  .have F:=zh$ aKq Q HC λf O=>HF f J;go_wp2;go_ret;exact⟨true,rfl,by simp[F.o],HX.o _ j.o⟩
end Go.Proofs.YtdjdcdnjjmjonaaGreat
namespace Go.Proofs.YtdjdcdnjjmjonaaGreat
open Go.RowKit Classical
open Go.Proofs.Tryz
set_option maxRecDepth 100000
variable {C C':Cn}{Ls:List (PMod×Mb)}{M M':Mn}{Y:Lyb}{b m t:Int}{base aP:Nat}{β:Nat->Nat}
def lG {W:qw}{G:Nat}(f:Blk W G zL 65)(v0 v1 v2 v3 v4 a b)(Q:Ending->World->Prop)(tmps)(g:tmps[2]?=some (.pointer$ qP G))(d:tmps[3]?=some (.bool b))(e:Q (.returned$ .tuple #[.agg #[v0,v1,v2,v3,v4,a],.bool b]) (st6 W G v0 v1 v2 v3 v4 a)):
 bodyPost prog f82 Q Exit.ret ⟨tmps,[]⟩ (st6 W G v0 v1 v2 v3 v4 a):=by
 have k:=mH f v0 v1 v2 v3 v4 a;obtain⟨i,j,l,p,q,s⟩:=k.z6;refine bodyPost_ret_by (v:=.tuple #[.agg #[v0,v1,v2,v3,v4,a],.bool b]) ?_ rfl e;simp[results,results82,go_sem,g,d,i,j,l,p,q,s]
def uC (M w)(h:MnD w M):qC 82 #[.agg$ qA M] w (VlP w M):=by
 let⟨U,hU,bU,kU⟩:=nwb w (qA M) 43;let⟨V,hV,bV,kV⟩:=nwb U qz 65;have BV:=yT bU bV;have ab:=kU.bw bV;have ag:w.heap.size<=U.heap.size:=bU.size;have ah:U.heap.size<V.heap.size:=kV.lt;let⟨L,hL⟩:=aN$ M.L;have an:=zh (show LayB L by rw[hL];exact uZ _ _ _ _ _);have ae:=zh (show wfi L.stack/\wfi L.flash/\wfi L.ram by rw[hL];exact aKg _ _ _ _ _)
 have ai:=zh (show qC 139 #[qS M.ma M.mn M.mc,.agg$ qW M.cs M.cw M.ck M.cd] V (λe w'=>qY V w'/\∃S c0 xs a3 c2 a5 R ts,e=.returned (.tuple #[.agg$ qJ L S xs c0 a3 c2 a5 ts R,qI$ lkc (aF M.ms) M.cs M.cw M.ck M.cd])/\LayO w' V.heap.size L S c0 xs a3 c2 a5 R ts)by
  have:=aB5 M.ma M.mn M.mc M.ms M.cs M.cw M.ck M.cd V$ h.m.bw BV;unfold LkM oG at this;rw[show lkL (aF M.ms) M.cs M.cw M.ck M.cd=L from hL.symm]at this
  exact this)
 have aj:=zh (λ(e:lkc (aF M.ms) M.cs M.cw M.ck M.cd=0)=>show Lok (aF M.ms) L by
  have:=aIb e;rw[hL];unfold Mn.L lkL;rw[if_pos e]
  exact this)
 have I:=zh$ h.bw BV;have HU:=zh hU;have HV:=zh hV;have HB:=zh BV;have l:=zh hL;have aw:=zh$ xA ag ah;have HK:=zb V λX g=>xA (ab.bw g)$ kV.bw g;have x:=zh λ(X:qw)(g:qY V X)(v0 v1 v2 v3 v4 v5:Value)=>show qY w (st6 X U.heap.size v0 v1 v2 v3 v4 v5)from aG (yT BV g) (cZ _ _ _ _ _ _ _ _) (λj hj=>by have e:j=U.heap.size:=hj;omega) (by have h1:=BV.size;have h2:=g.size;omega);let⟨a,k,m2,m3,m4,m5,m6,m7,m8,m9,s,Y,a0,a1,a2⟩:=ab.mc;clear hU hV bU bV kU ab kV BV h hL ag ah;generalize hC:lkc (aF M.ms) M.cs M.cw M.ck M.cd=C at *;have a6:=zh hC;clear hC
 delta qC;go_in
 go_wp2_with (first|rw[<-HU.o]|rw[<-HV.o])
 apply ai.mono;rintro e X1 ⟨N,S,c0,xs,a3,c2,a5,R,ts,rfl,O⟩;let⟨W,hW,bW,kW⟩:=nwb X1 (qJ L S xs c0 a3 c2 a5 ts R) 65;have BW:=yT N bW;have HW:=zh hW;have K:=zh BW;have OW:=O.below' bW;have az:=zh OW;have ac:=zh$ OW.lyt an.r ae;have d:=zb W λX g=>xA ((HK X$ yT BW g).1)$ xA ((HK X$ yT BW g).2)$ kW.bw g;have y:=zb W λX g=>yT BW g;clear a k m2 m3 m4 m5 m6 m7 m8 m9 s Y a0 a1 a2 HU HV ai hW bW kW BW OW O N HK;let⟨a,k,m2,m3,m4,m5,m6,m7,m8,m9,s,Y,a0,a1,a2⟩:=(d W brf).1.mc;let⟨l0,l1,l2,l3,l4,l5⟩:=(d W brf).2.2.ly6;by_cases p:¬C=0
 .have ao:(C !=0)=true:=by simp[p]
  have D:Zh (¬MOk M):=λq=>p$ a6.o ▸ q.l;clear p;let⟨r0,r1,r2,r3,r4,r5⟩:=(d W brf).2.1.ly6;have Q:=(d W brf).2.1.frozen;have A:=(d W brf).2.1;have f:=x W K;go_wp2_with (rw[<-HW.o])
  exact lG A (qS none 0 0) (qI 0) (qS none 0 0) (qI 0) (qI 0) (qS none 0 0) false _ _ rfl rfl$ eX (f _ _ _ _ _ _) D
 replace p:C=0:=xZ.1 p;have ao:(C !=0)=false:=by simp[p]
 have ad:=zh (show lkc (aF M.ms) M.cs M.cw M.ck M.cd=0 by rw[a6.o];exact p);have ak:=zh$ aj.o$ a6.o ▸ ad.o;have be:=zh p;clear p aj;let⟨b0,a7⟩:=iH$ zX (aF M.ms) L
 have aq:=zh (λ(X:qw)(g:qY W X)=>(aDg M.ma M.mn M.mc M.ms L S c0 xs a3 c2 a5 R ts X ((I.m.bw K).bw g) (ac.bw g) ak).mono (λe w' he=>show e=.returned (.bool b0)/\qY X w' by
  obtain⟨r,h1,h2,h3⟩:=he;have:r=b0:=by rw[xJ,h2,a7]
  exact⟨by rw[h1,this],h3⟩))
 have am:=zb W λX g=>aI7 M.pc M.ka M.kn M.kc M.kz X$ (I.k.bw K).bw g;let⟨b2,a4⟩:=iH$ mok M.fn M.rn M.on=true/\imF (aF M.ms) L=M.fz/\(M.rn:Int)=L.ram;have bd:=zb W λX g=>(aDu M L S c0 xs a3 c2 a5 R ts X ((I.bw K).bw g) (ac.bw g) ak).mono λe w' he=>pL he b2 a4;let⟨b3,a8⟩:=iH$ dO (aF M.ms) L M.cs M.cw M.tn M.rz M.lz;have av:=zh λ(hr:(M.rn:Int)=L.ram)(X:qw)(g:qY W X)=>(aE7 M L S c0 xs a3 c2 a5 R ts X ((I.bw K).bw g) (ac.bw g) l ad hr).mono λe w' he=>pL he b3 a8;let⟨b4,a9⟩:=iH$ aAq (aF M.ms) M.cs M.md M.bk M.lz;have ay:=zb W λX g=>(aHm M X$ (I.bw K).bw g).mono λe w' he=>pL he b4 a9;let⟨b5,aa⟩:=iH$ mO (aF M.ms) M.cd M.hz;have ar:=zb W λX g=>(aC1 M X$ (I.bw K).bw g).mono λe w' he=>pL he b5 aa;have af:=zh$ cP M.tn 1000000000;obtain⟨t,ht⟩:∃t:Bool,t=decide (0<=M.tn/\M.tn<=1000000000):=⟨_,rfl⟩;rw[<-ht]at af;obtain⟨b1,N⟩:∃b:Bool,b=cok M.pc M.kn M.kz:=⟨_,rfl⟩;rw[<-N]at am;have ap:=zh (λ(e:b0=false)=>show ¬MOk M from λq=>by have:=a7.2$ l.o ▸ q.p;rw[e]at this;cases this);have ba:=zh (λ(e:t=false)=>show ¬MOk M from λq=>by rw[e]at ht;exact absurd q.t$ of_decide_eq_false ht.symm);have bb:=zh (λ(e:b1=false)=>show ¬MOk M from λq=>by have:=q.c;rw[<-N,e]at this;cases this);have bc:=zh (λ(e:b2=false)=>show ¬MOk M from λq=>by have:=a4.2 ⟨q.b,l.o ▸ q.f,l.o ▸ q.r⟩;rw[e]at this;cases this);have b7:=zh (λ(e:b3=false)=>show ¬MOk M from λq=>by have:=a8.2$ l.o ▸ q.s;rw[e]at this;cases this);have au:=zh (λ(e:b4=false)=>show ¬MOk M from λq=>by have:=a9.2 q.n;rw[e]at this;cases this);have b9:=zh (λ(e:b5=false)=>show ¬MOk M from λq=>by have:=aa.2 q.h;rw[e]at this;cases this);have b6:=zh λ(e:b2=true)=>(a4.1 e).2.2
 have ax:=zh (λ(e0:b0=true)(et:t=true)(e1:b1=true)(e2:b2=true)(e3:b3=true)(e4:b4=true)(e5:b5=true)=>show MOk M from
  ⟨ad.o,by have:=a7.1 e0;rw[l.o]at this;exact this,by rw[<-N,e1],(a4.1 e2).1,by have:=(a4.1 e2).2.1;rw[l.o]at this;exact this,by have:=(a4.1 e2).2.2;rw[l.o]at this;exact this,by rw[et]at ht;exact of_decide_eq_true ht.symm,by have:=a8.1 e3;rw[l.o]at this;exact this,a9.1 e4,aa.1 e5⟩)
 clear a7 N a4 a8 a9 aa ht I a6;go_wp2_with (rw[<-HW.o])
 apply(aq W brf).mono;rintro e Z ⟨rfl,B⟩;have i:=zh B;clear B HW a k m2 m3 m4 m5 m6 m7 m8 m9 s Y a0 a1 a2 l0 l1 l2 l3 l4 l5;let⟨a,k,m2,m3,m4,m5,m6,m7,m8,m9,s,Y,a0,a1,a2⟩:=(d Z i).1.mc;let⟨l0,l1,l2,l3,l4,l5⟩:=(d Z i).2.2.ly6;let⟨r0,r1,r2,r3,r4,r5⟩:=(d Z i).2.1.ly6;have Q:=(d Z i).2.1.frozen;cases b0 with
 | false=>
   have D:=zh$ ap.o Jb;have A:=(d Z i).2.1;have f:=x Z$ y Z i;go_wp2;exact lG A (qS none 0 0) (qI 0) (qS none 0 0) (qI 0) (qI 0) (qS none 0 0) false _ _ rfl rfl$ eX (f _ _ _ _ _ _) D
 | true=>
 go_wp2_with fail
 apply(af _).mono;rintro e Yt ⟨rfl,rfl⟩;cases t with
 | false=>
   have D:=zh$ ba.o Jb;have A:=(d Z i).2.1;have f:=x Z$ y Z i;go_wp2;exact lG A (qS none 0 0) (qI 0) (qS none 0 0) (qI 0) (qI 0) (qS none 0 0) false _ _ rfl rfl$ eX (f _ _ _ _ _ _) D
 | true=>
 go_wp2_with fail
 apply(am _ i).mono;rintro e Y1 ⟨rfl,B⟩;have H:=zh$ yT i B;clear B a k m2 m3 m4 m5 m6 m7 m8 m9 s Y a0 a1 a2 l0 l1 l2 l3 l4 l5 r0 r1 r2 r3 r4 r5 Q;let⟨a,k,m2,m3,m4,m5,m6,m7,m8,m9,s,Y,a0,a1,a2⟩:=(d Y1 H).1.mc;let⟨l0,l1,l2,l3,l4,l5⟩:=(d Y1 H).2.2.ly6;let⟨r0,r1,r2,r3,r4,r5⟩:=(d Y1 H).2.1.ly6;have Q:=(d Y1 H).2.1.frozen;cases b1 with
 | false=>
   have D:=zh$ bb.o Jb;have A:=(d Y1 H).2.1;have f:=x Y1$ y Y1 H;go_wp2;exact lG A (qS none 0 0) (qI 0) (qS none 0 0) (qI 0) (qI 0) (qS none 0 0) false _ _ rfl rfl$ eX (f _ _ _ _ _ _) D
 | true=>
 go_wp2_with fail
 apply(bd _ H).mono;rintro e Y2 ⟨rfl,B⟩;have E:=zh$ yT H B;clear B a k m2 m3 m4 m5 m6 m7 m8 m9 s Y a0 a1 a2 l0 l1 l2 l3 l4 l5 r0 r1 r2 r3 r4 r5 Q;let⟨a,k,m2,m3,m4,m5,m6,m7,m8,m9,s,Y,a0,a1,a2⟩:=(d Y2 E).1.mc;let⟨l0,l1,l2,l3,l4,l5⟩:=(d Y2 E).2.2.ly6;let⟨r0,r1,r2,r3,r4,r5⟩:=(d Y2 E).2.1.ly6;have Q:=(d Y2 E).2.1.frozen;cases b2 with
 | false=>
   have D:=zh$ bc.o Jb;have A:=(d Y2 E).2.1;have f:=x Y2$ y Y2 E;go_wp2;exact lG A (qS none 0 0) (qI 0) (qS none 0 0) (qI 0) (qI 0) (qS none 0 0) false _ _ rfl rfl$ eX (f _ _ _ _ _ _) D
 | true=>
 go_wp2_with fail
 apply(av.o (b6.o Jb) _ E.o).mono;rintro e Y3 ⟨rfl,B⟩;have F:=zh$ yT E B;clear B a k m2 m3 m4 m5 m6 m7 m8 m9 s Y a0 a1 a2 l0 l1 l2 l3 l4 l5 r0 r1 r2 r3 r4 r5 Q;let⟨a,k,m2,m3,m4,m5,m6,m7,m8,m9,s,Y,a0,a1,a2⟩:=(d Y3 F).1.mc;let⟨l0,l1,l2,l3,l4,l5⟩:=(d Y3 F).2.2.ly6;let⟨r0,r1,r2,r3,r4,r5⟩:=(d Y3 F).2.1.ly6;have Q:=(d Y3 F).2.1.frozen;cases b3 with
 | false=>
   have D:=zh$ b7.o Jb;have A:=(d Y3 F).2.1;have f:=x Y3$ y Y3 F;go_wp2;exact lG A (qS none 0 0) (qI 0) (qS none 0 0) (qI 0) (qI 0) (qS none 0 0) false _ _ rfl rfl$ eX (f _ _ _ _ _ _) D
 | true=>
 go_wp2_with fail
 apply(ay _ F).mono;rintro e Y4 ⟨rfl,B⟩;have G:=zh$ yT F B;clear B a k m2 m3 m4 m5 m6 m7 m8 m9 s Y a0 a1 a2 l0 l1 l2 l3 l4 l5 r0 r1 r2 r3 r4 r5 Q;let⟨a,k,m2,m3,m4,m5,m6,m7,m8,m9,s,Y,a0,a1,a2⟩:=(d Y4 G).1.mc;let⟨l0,l1,l2,l3,l4,l5⟩:=(d Y4 G).2.2.ly6;let⟨r0,r1,r2,r3,r4,r5⟩:=(d Y4 G).2.1.ly6;have Q:=(d Y4 G).2.1.frozen;cases b4 with
 | false=>
   have D:=zh$ au.o Jb;have A:=(d Y4 G).2.1;have f:=x Y4$ y Y4 G;go_wp2;exact lG A (qS none 0 0) (qI 0) (qS none 0 0) (qI 0) (qI 0) (qS none 0 0) false _ _ rfl rfl$ eX (f _ _ _ _ _ _) D
 | true=>
 go_wp2_with fail
 apply(ar _ G).mono;rintro e P ⟨rfl,B⟩;have u:=zh$ yT G B;clear B a k m2 m3 m4 m5 m6 m7 m8 m9 s Y a0 a1 a2 l0 l1 l2 l3 l4 l5 r0 r1 r2 r3 r4 r5 Q;let⟨a,k,m2,m3,m4,m5,m6,m7,m8,m9,s,Y,a0,a1,a2⟩:=(d P u).1.mc;let⟨l0,l1,l2,l3,l4,l5⟩:=(d P u).2.2.ly6;let⟨r0,r1,r2,r3,r4,r5⟩:=(d P u).2.1.ly6;have Q:=(d P u).2.1.frozen;cases b5 with
 | false=>
   have D:=zh$ b9.o Jb;have A:=(d P u).2.1;have f:=x P$ y P u;go_wp2;exact lG A (qS none 0 0) (qI 0) (qS none 0 0) (qI 0) (qI 0) (qS none 0 0) false _ _ rfl rfl$ eX (f _ _ _ _ _ _) D
 | true=>
 have D:=zh$ ax.o Jb Jb Jb Jb Jb Jb Jb;have A:=(d P u).2.1;have f:=x P$ y P u;have b8:Zh (LyT (st6 P U.heap.size (qS S xs.length c0) (qI L.stack) (qS a3 L.slots.length c2) (qI L.flash) (qI L.ram)$ qS a5 ts.length R) L S c0 xs a3 c2 a5 R ts):=((az.below' u).kept (cZ _ _ _ _ _ _ _ _) (λj hj _ e=>by have e':j=U.heap.size:=e;have:=aw.2;omega)).lyt an.r ae;go_wp2;exact lG A (qS S xs.length c0) (qI L.stack) (qS a3 L.slots.length c2) (qI L.flash) (qI L.ram) (qS a5 ts.length R) true _ _ rfl rfl$ aM1 l (f _ _ _ _ _ _) D b8
abbrev stM (W:World)(q:Nat)(N:Mn):World:=oD W q (qS N.ma N.mn N.mc) (qI N.cs) (qI N.cw) (qI N.ck) (qI N.cd) (qI N.pc) (qS N.ka N.kn N.kc) (qS N.fa N.fn N.fc) (qS N.ra N.rn N.rc) (qS N.oa N.on N.oc) (qI N.md) (qI N.bk) (qS N.la N.ln N.lc) (qS N.ha N.hn N.hc) (qI N.tn)
def aM4 {w W W':qw}{g:Nat}(h:TGx w W)(T:Turn (λj=>j=g) W W')(f:w.heap.size<=g):TGx w W':=⟨T.os.trans h.os,T.tape.trans h.tape,T.output.trans h.output,xM h.size T.size,λk d hs=>(T.block k (Nat.lt_of_lt_of_le d h.size) λ(e:k=g)=>J).trans$ h.block k d hs⟩
structure Se (w1 w W:qw)(Y:Lyb)(m b t:Int)(C:Cn)(M:Mn)(base aP:Nat)(Ls:List (PMod×Mb))(β:Nat->Nat):Prop where
 tg:TGx w W
 lo:qY w1 W
 l:w1.heap.size<=w.heap.size
 k0:Blk W w.heap.size (qA M) 43
 k1:Blk W (w.heap.size+1) (qL Y.L Y.a0 Y.xs.length Y.c0 Y.a2 Y.L.slots.length Y.c2 Y.a5 Y.ts.length Y.c5) 65
 k2:Blk W (w.heap.size+1+1) (qT m b t) 121
 k3:Blk W (w.heap.size+1+1+1) z15 43
 m:MxO W base aP C M Ls β
def Se.bw {e w W:qw}{f:qw}(h:Se e w W Y m b t C M base aP Ls β)(d:qY W f):Se e w f Y m b t C M base aP Ls β:=⟨h.tg.trans$ bP d,h.lo.trans$ d.mono h.lo.size,h.l,h.k0.bw d,h.k1.bw d,h.k2.bw d,h.k3.bw d,h.m.bw d⟩
def Se.put {d w W:qw}(h:Se d w W Y m b t C M base aP Ls β)(i v)(e:((qA M):Array Value).setIfInBounds i v=(qA M'))(f:∀{X:qw},MxO X base aP C M Ls β->MxO X base aP C' M' Ls β):Se d w (W.setCell (qR w.heap.size i) v) Y m b t C' M' base aP Ls β:=by
 have T:=aC W w.heap.size i v;have k:=h.k0.set i v;rw[e]at k;exact⟨aM4 h.tg T aO,aG h.lo T (λj g=>jK h.l) h.lo.size,h.l,k,h.k1.other _ _ (by grind),h.k2.other _ _ (by grind),h.k3.other _ _ (by grind),f$ h.m.tm$ eZ h.k0 T⟩
def Se.upd {i w W:qw}{f:qw}{S:Nat->Prop}(h:Se i w W Y m b t C M base aP Ls β)(T:Turn S W f)(hS:∀j,S j->i.heap.size<=j/\∃a ty,Blk W j a ty/\gkd ty)(e:((qA M):Array Value)=(qA M'))(l:MxO f base aP C' M' Ls β):Se i w f Y m b t C' M' base aP Ls β:=by
 have d:∀{j:Nat}{a:Array Value}{ty:TypeId},Blk W j a ty->(ty=43\/ty=65\/ty=121)->Blk f j a ty:=λkb p=>aD T kb (λs=>by
  let⟨_,c2,u,q,k⟩:=hS _ s;have:=aH kb q;rw[<-this]at k;unfold gkd at k
  rcases p with rfl|rfl|rfl<;>exact absurd k Ja)
 exact⟨h.tg.trans$ fD T λj g=>(hS j g).2,aG h.lo T (λj g=>(hS j g).1) h.lo.size,h.l,by rw[<-e];exact d h.k0$ .inl rfl,d h.k1$ .inr$ .inl rfl,d h.k2$ .inr$ .inr rfl,d h.k3$ .inl rfl,l⟩
def Se.reg {f w W:qw}(h:Se f w W Y m b t C M base aP Ls β)(q:f.heap.size<=base){d:Nat}(e:M.ka=some (qR d 0))(i)(hi:i<M.kn)(z)(hz:wfi z):Se f w (W.setCell (qR d i)$ qI z) Y m b t { C with kz:=C.kz.set i z } { M with kz:=C.kz.set i z } base aP Ls β:=by
 have mk:=h.m.k;rw[e]at mk;let⟨a,kb⟩:=aE mk.1 (k:=d) rfl;have:=(mk.lt d rfl).1;have:=h.m.bm;exact h.upd (aC W d i _) (λj g=>by subst g;exact⟨J,a,_,kb,.inr$ .inr$ .inr rfl⟩) rfl$ h.m.reg e i hi z hz
def MxO.stn {W:qw}(h:MxO W base aP C M Ls β)(v):MxO W base aP { C with tn:=v } { M with tn:=v } Ls β:=⟨h.m,h.e,h.k,h.q,h.l,h.h,h.bm,h.bh,⟨h.vs.1,h.vs.2.1,h.vs.2.2.1,h.vs.2.2.2.1,h.vs.2.2.2.2.1,h.vs.2.2.2.2.2.1,h.vs.2.2.2.2.2.2.1,rfl⟩,h.vz⟩
def Se.slot {f w W:qw}(h:Se f w W Y m b t C M base aP Ls β)(u:f.heap.size<=base){d:Nat}(e:M.la=some (qR d 0))(i)(hi:i<M.ln)(a x1 x2 x3):Se f w ((((W.setCell (qR d$ i*4)$ .bool a).setCell (qR d$ i*4+1)$ qI x1).setCell (qR d$ i*4+2)$ qI x2).setCell (qR d$ i*4+3)$ qI x3) Y m b t { C with lz:=C.lz.set i (a,x1,x2,x3) } { M with lz:=C.lz.set i (a,x1,x2,x3) } base aP Ls β:=by
 have g:=h.m.l;rw[e]at g;let⟨p,kb⟩:=aE g (k:=d) rfl;have:=(g.lt d rfl).1;have:=h.m.bm;exact h.upd ((((aC W d _ _).trans$ aC _ d _ _).trans$ aC _ d _ _).trans$ aC _ d _ _) (λj l=>by subst l;exact⟨J,p,_,kb,.inr$ .inr$ .inl rfl⟩) rfl$ h.m.slot e i hi a x1 x2 x3
def Se.mem {i w W:qw}{g:qw}(h:Se i w W Y m b t C M base aP Ls β)(A:i.heap.size<=base){f:Nat}(e:M.ra=some (qR f 0))(T:Turn (λj=>j=f) W g){R:qi}(q:OB g aP (qS M.ra M.rn M.rc) R):Se i w g Y m b t { C with rz:=R } { M with rz:=R } base aP Ls β:=by
 have d:=h.m.q;rw[e]at d q;let⟨a,kb⟩:=aE d.2.1.1 (k:=f) rfl;have:=(d.2.1.lt f rfl).1;have:=h.m.bm;have:=h.m.vz.2.2.2.2.1
 have p:cB g aP (qS M.fa M.fn M.fc) (qS M.ra M.rn M.rc) (qS M.oa M.on M.oc) C.fz R C.oz:=by
  rw[e];exact⟨aT T d.1 λk hk(s:k=f)=>jK$ d.2.2.2.1 k f hk rfl,q,aT T d.2.2.1 λk hk(s:k=f)=>jK$ d.2.2.2.2.2 f k rfl hk,d.2.2.2⟩
 have:=h.m.mem T (λj l=>by grind) p;refine h.upd T (λj l=>by subst l;exact⟨J,a,_,kb,.inl rfl⟩) rfl ?_
 grind
def LeP (w1 w:qw)(base aP:Nat)(Ls:List (PMod×Mb))(β:Nat->Nat)(Y:Lyb)(C:Cn)(m b t:Int)(e:Ending)(w':qw):Prop:=∃M',e=.returned (.agg$ qA M')/\MxO w' base aP (eG C Y.L m b t) M' Ls β/\qY w1 w'/\TGx w w'
def aR0 {W:qw}{q:Nat}(e:Blk W q z15 43)(v0 v1 v2 v3 v4 k l p s t a b g i j)(Q:Ending->World->Prop)(tmps)(f:tmps[6]?=some (.pointer$ qP q))(d:Q (.returned$ .agg #[v0,v1,v2,v3,v4,k,l,p,s,t,a,b,g,i,j]) (oD W q v0 v1 v2 v3 v4 k l p s t a b g i j)):
 bodyPost prog f175 Q Exit.ret ⟨tmps,[]⟩ (oD W q v0 v1 v2 v3 v4 k l p s t a b g i j):=by
 let⟨u,w,D,E,F,G,H,I,K,M,x,y,A,B,C⟩:=(jE e v0 v1 v2 v3 v4 k l p s t a b g i j).mc;refine bodyPost_ret_by (v:=.agg #[v0,v1,v2,v3,v4,k,l,p,s,t,a,b,g,i,j]) ?_ rfl d;simp[results,results175,go_sem,f,u,w,D,E,F,G,H,I,K,M,x,y,A,B,C]
def mZ (M m b t w)(h:MnD w M):
 qC 176 #[.agg #[qS M.ma M.mn M.mc,qI M.cs,qI M.cw,qI M.ck,qI M.cd,qI M.pc,qS M.ka M.kn M.kc,qS M.fa M.fn M.fc,qS M.ra M.rn M.rc,qS M.oa M.on M.oc,qI M.md,qI M.bk,qS M.la M.ln M.lc,qS M.ha M.hn M.hc,qI M.tn],.agg #[qI m,qI b,qI t]] w λe w'=>e=.returned (.bool$ decide$ tgk (aF M.ms) m b t/\M.tn<1000000000)/\qY w w':=by
 let⟨V,s⟩:=aN$ (w.alloc$ .cells #[qS M.ma M.mn M.mc,qI M.cs,qI M.cw,qI M.ck,qI M.cd,qI M.pc,qS M.ka M.kn M.kc,qS M.fa M.fn M.fc,qS M.ra M.rn M.rc,qS M.oa M.on M.oc,qI M.md,qI M.bk,qS M.la M.ln M.lc,qS M.ha M.hn M.hc,qI M.tn] 43).alloc$ .cells #[qI m,qI b,qI t] 121;have H:qY w V:=by rw[s];exact bal.alloc Jb _
 have Q:Blk V w.heap.size #[qS M.ma M.mn M.mc,qI M.cs,qI M.cw,qI M.ck,qI M.cd,qI M.pc,qS M.ka M.kn M.kc,qS M.fa M.fn M.fc,qS M.ra M.rn M.rc,qS M.oa M.on M.oc,qI M.md,qI M.bk,qS M.la M.ln M.lc,qS M.ha M.hn M.hc,qI M.tn] 43:=by rw[s];exact(Blk.new _ _ _).alloc _
 have u:Blk V (w.heap.size+1) #[qI m,qI b,qI t] 121:=by rw[s];have:=Blk.new (w.alloc$ .cells #[qS M.ma M.mn M.mc,qI M.cs,qI M.cw,qI M.ck,qI M.cd,qI M.pc,qS M.ka M.kn M.kc,qS M.fa M.fn M.fc,qS M.ra M.rn M.rc,qS M.oa M.on M.oc,qI M.md,qI M.bk,qS M.la M.ln M.lc,qS M.ha M.hn M.hc,qI M.tn] 43) #[qI m,qI b,qI t] 121;simpa using this
 have p:=h.m.bw H;have f:=zh$ jS M.ma M.mn M.mc M.ms m b V p.s;rw[fG p m b]at f;let⟨r,C⟩:=aN$ decide$ tgk (aF M.ms) m b t/\M.tn<1000000000;rw[<-C];have A:=zh C;have G:=zh s;have l:=zh$ xA H$ xA Q u;have a0:=p.s.2.1;have x0:=Q.cell 0;have y0:=u.cell 0;have y1:=u.cell 1;clear s C;by_cases c:0<=pcq (aF M.ms) m b
 .rw[xR c]at f;by_cases c2:M.tn<1000000000
  .have R:¬M.tn ≥ 1000000000:=J
   let⟨⟨m0,m1⟩,_⟩:=mS p c;have W:=zh λ(D:Md)(E:M.ms.getD m.toNat aL=D)(X:qw)(g:qY V X)=>sS p c E X g;let⟨gm,a,ea,Y,v1,v2,v3,v4,v5,v6,v7⟩:=p.s.at m.toNat J;let⟨D,E⟩:=aN$ M.ms.getD m.toNat aL;rw[<-E]at Y v1 v2 v3 v4 v5 v6 v7;have I:=zh$ W D E.symm;have i:=zh (show r=decide (0<=t/\t<=pcq (aF M.ms) m b)by rw[A.o];unfold tgk;simp[c,c2]);clear A;generalize pcq (aF M.ms) m b=q at *;rw[ea]at x0 f l G⊢
   have S:=zh (λ(X:qw)(g:qY V X)=>show(qn X w 0=qk (qe gm a) M.mn M.mc/\qg X w 0=qj m/\qg X w 1=qj b/\qg X w 2=qj t)/\qN X gm (a+m.toNat*8)=some (.string D.nm)/\qN X gm (a+m.toNat*8+1)=qk D.ta D.tn D.tc/\qN X gm (a+m.toNat*8+2)=qk D.ba D.bn D.bc/\qN X gm (a+m.toNat*8+3)=qk D.da D.dn D.dc/\qN X gm (a+m.toNat*8+4)=qj D.bss/\qN X gm (a+m.toNat*8+5)=qk D.ra D.rn D.rc/\qN X gm (a+m.toNat*8+6)=qk D.ia D.im D.ic/\qN X gm (a+m.toNat*8+7)=qk D.ea D.en D.ec from
    ⟨⟨(l.2.1.bw g).cell 0,(u.bw g).cell 0,(u.bw g).cell 1,(u.bw g).cell 2⟩,aB g Y,aB g v1,aB g v2,aB g v3,aB g v4,aB g v5,aB g v6,aB g v7⟩)
   clear W E h p H Q u c Y v1 v2 v3 v4 v5 v6 v7 ea
   delta qC;go_in
   go_wp2_with (rw[<-G.o])
   apply f.mono;rintro e P ⟨rfl,d⟩;have F:=zh d;have K:=(l.2.1.bw d).e14;have x:=zb P λX g=>(I X$ yT F g).mono (λe w' he=>show ∃Z O xc,e=.returned (.tuple #[qS Z O xc,.bool true])/\(O:Int)=q/\qY V w' from he);let⟨⟨p0,p1,p2,p3⟩,u0,u1,u2,u3,u4,u5,u6,u7⟩:=S P d;clear d f G I x0 y0 y1;go_wp2_with fail
   clear K
   go_region_held3 (λw'=>qn w' w 0=qk (qe gm a) M.mn M.mc/\qg w' w 0=qj m/\qg w' w 1=qj b/\qN w' gm (a+m.toNat*8)=some (.string D.nm)/\qN w' gm (a+m.toNat*8+1)=qk D.ta D.tn D.tc/\qN w' gm (a+m.toNat*8+2)=qk D.ba D.bn D.bc/\qN w' gm (a+m.toNat*8+3)=qk D.da D.dn D.dc/\qN w' gm (a+m.toNat*8+4)=qj D.bss/\qN w' gm (a+m.toNat*8+5)=qk D.ra D.rn D.rc/\qN w' gm (a+m.toNat*8+6)=qk D.ia D.im D.ic/\qN w' gm (a+m.toNat*8+7)=qk D.ea D.en D.ec) (go_keep)
    (first
      | (go_at_call 118;first
          | with_reducible refine(x.o _ brf).mono ?_
          | with_reducible refine(x.o _ brf.drew).mono ?_
         rintro e w1 ⟨Z,O,xc,rfl,B,d⟩;have j:=zh B;have y:=zh d;let⟨⟨z0,z1,z2,z3⟩,t0,t1,t2,t3,t4,t5,t6,t7⟩:=S w1 d
         clear d B))
   clear p0 p1 p2 p3 u0 u1 u2 u3 u4 u5 u6 u7 t0 t1 t2 t3 t4 t5 t6 t7 x S F z0 z1 z2;by_cases N:0<=t
   .have U:t ≥ 0:=N;by_cases d2:t<=(O:Int)
    .have e:=zh (show r=true by rw[i.o,<-j.o];simp[N,d2]);clear i j;go_wp2;go_ret;exact⟨aA e.symm,yT l.1 y⟩
    .have e:=zh (show r=false by rw[i.o,<-j.o];simp[N];omega);clear i j;go_wp2;go_ret;exact⟨aA e.symm,yT l.1 y⟩
   .have U:¬t ≥ 0:=N;have e:=zh (show r=false by rw[i.o];simp;omega);clear i j;go_wp2;go_ret;exact⟨aA e.symm,yT l.1 y⟩
  .have R:M.tn ≥ 1000000000:=J
   have e:=zh (show r=false by rw[A.o];simp[c2]);clear h p A H
   delta qC;go_in
   go_wp2_with (rw[<-G.o])
   apply f.mono;rintro e P ⟨rfl,d⟩;have K:=(l.2.1.bw d).e14;go_wp2;go_ret;exact⟨aA e.symm,yT l.1 d⟩
 .rw[xS c]at f;have e:=zh (show r=false by rw[A.o];exact xS λk=>c k.1.1);clear h p A H
  delta qC;go_in
  go_wp2_with (rw[<-G.o])
  apply f.mono;rintro e P ⟨rfl,d⟩;go_wp2;go_ret;exact⟨aA e.symm,yT l.1 d⟩
def eP (M)(Y:Lyb)(a w)(h:MnD w M)(hl:Y.T w)(B:Cv M.cn Y.L)(ha:0<=a/\a<=4294967295):
 Calls prog 134 #[.agg$ qA M,.agg$ qL Y.L Y.a0 Y.xs.length Y.c0 Y.a2 Y.L.slots.length Y.c2 Y.a5 Y.ts.length Y.c5,qI a] w (qB w$ .tuple #[qI$ if atB M.cn Y.L a=true then awy M.cn Y.L a/4 else 0,.bool$ atB M.cn Y.L a]):=by
 let⟨V,C⟩:=aN$ (w.alloc$ .cells (qA M) 43).alloc$ .cells (qL Y.L Y.a0 Y.xs.length Y.c0 Y.a2 Y.L.slots.length Y.c2 Y.a5 Y.ts.length Y.c5) 65;have H:qY w V:=by rw[C];exact bal.alloc Jb _
 have I:Blk V w.heap.size (qA M) 43:=by rw[C];exact(Blk.new _ _ _).alloc _
 have kL:Blk V (w.heap.size+1) (qL Y.L Y.a0 Y.xs.length Y.c0 Y.a2 Y.L.slots.length Y.c2 Y.a5 Y.ts.length Y.c5) 65:=by rw[C];have:=Blk.new (w.alloc$ .cells (qA M) 43) (qL Y.L Y.a0 Y.xs.length Y.c0 Y.a2 Y.L.slots.length Y.c2 Y.a5 Y.ts.length Y.c5) 65;simpa using this
 have U:=h.m.bw H;have c:0<=pcq (aF M.ms) M.md M.bk:=B.cz.p;let⟨⟨m0,m1⟩,_⟩:=mS U c;let⟨gm,k,ea,v0,v1,v2,v3,v4,v5,v6,v7⟩:=U.s.at M.md.toNat J;let⟨E,hE⟩:=aN$ M.ms.getD M.md.toNat aL;rw[<-hE]at v0 v1 v2 v3 v4 v5 v6 v7;have G:=zh λ(X:World)(d:qY V X)=>(sS U c hE.symm X d).mono (λe b y=>show ∃xa xn xc,e=.returned (.tuple #[qS xa xn xc,.bool true])/\(xn:Int)=pcq (aF M.ms) M.md M.bk/\qY V b from y);have t:Pkn (aF M.ms) Y.L Y.xs M.md M.bk 0:=pA (s:=0) (hl.bw H) B.cf.2.2.2.2 B.cz.p;let⟨S,hS⟩:=aN$ hld M.lz M.md M.bk;have N:S=-1\/M.bk≠-1/\0<=S/\S<(Y.L.slots.length:Int):=by rw[hS];exact B.cz.s
 let⟨Z,hZ⟩:=aN$ fH Y.L (plc (aF M.ms) M.md.toNat) M.bk S;let⟨D,hD⟩:=aN$ a-Z;have hA:awy M.cn Y.L a=D:=by rw[hD,hZ,hS];rfl
 have a5:0<=Z/\Z<=100000:=by rw[hZ,hS];exact aOc B
 have W:=zh (λ(X:World)(d:qY V X)=>(dQ M.la M.ln M.lc M.lz M.md M.bk X$ (h.l.bw H).bw d).mono (λe b y=>show e=.returned (qI S)/\qY V b from⟨by rw[y.1,hS],yT d y.2⟩));have R:=zh (λ(X:World)(d:qY V X)=>(lV Y.L Y.a0 Y.c0 Y.xs Y.a2 Y.c2 Y.a5 Y.c5 Y.ts M.md M.bk 0 S X ((hl.bw H).bw d) t.m0 t.m1 t.bb N).mono (λe b y=>show e=.returned (qI Z)/\qY V b from⟨by rw[y.1,aDk,t.p,hZ],yT d y.2⟩));have u:=zh$ aQb B hA;let⟨r,l⟩:=aN$ atB M.cn Y.L a;rw[<-l]at u;rw[<-l,hA];have a7:IntKind.i64.wrap (a-Z)=D:=by rw[<-hD,xP,xQ _ J]
 have q1:=Int.tmod_add_mul_tdiv D 4;have q2:=Int.lt_tmod_of_pos D$ show(0:Int)<4 from J;have q3:=Int.tmod_lt_of_pos D$ show(0:Int)<4 from J;have a8:IntKind.i64.wrap (D.tdiv 4)=D.tdiv 4:=by rw[xP,xQ _ J]
 have a6:IntKind.i64.wrap (D.tmod 4)=D.tmod 4:=by rw[xP,xQ _ J]
 have P:=zh (λ(X:World)(d:qY V X)=>show(X.cell? ⟨w.heap.size,0,none⟩=qk (some ⟨gm,k,none⟩) M.mn M.mc/\X.cell? ⟨w.heap.size,10,none⟩=qj M.md/\X.cell? ⟨w.heap.size,11,none⟩=qj M.bk/\X.cell? ⟨w.heap.size,12,none⟩=qk M.la M.ln M.lc)/\(X.cell? ⟨gm,k+M.md.toNat*8,none⟩=some (.string E.nm)/\X.cell? ⟨gm,k+M.md.toNat*8+1,none⟩=qk E.ta E.tn E.tc/\X.cell? ⟨gm,k+M.md.toNat*8+2,none⟩=qk E.ba E.bn E.bc/\X.cell? ⟨gm,k+M.md.toNat*8+3,none⟩=qk E.da E.dn E.dc/\X.cell? ⟨gm,k+M.md.toNat*8+4,none⟩=qj E.bss/\X.cell? ⟨gm,k+M.md.toNat*8+5,none⟩=qk E.ra E.rn E.rc/\X.cell? ⟨gm,k+M.md.toNat*8+6,none⟩=qk E.ia E.im E.ic/\X.cell? ⟨gm,k+M.md.toNat*8+7,none⟩=qk E.ea E.en E.ec)/\(X.cell? ⟨w.heap.size+1,0,none⟩=qk Y.a0 Y.xs.length Y.c0/\X.cell? ⟨w.heap.size+1,1,none⟩=qj Y.L.stack/\X.cell? ⟨w.heap.size+1,2,none⟩=qk Y.a2 Y.L.slots.length Y.c2/\X.cell? ⟨w.heap.size+1,3,none⟩=qj Y.L.flash/\X.cell? ⟨w.heap.size+1,4,none⟩=qj Y.L.ram/\X.cell? ⟨w.heap.size+1,5,none⟩=qk Y.a5 Y.ts.length Y.c5)from
  ⟨⟨by rw[<-ea];exact(I.bw d).cell 0,(I.bw d).cell 10,(I.bw d).cell 11,(I.bw d).cell 12⟩,⟨aB d v0,aB d v1,aB d v2,aB d v3,aB d v4,aB d v5,aB d v6,aB d v7⟩,(kL.bw d).z6⟩)
 have HP:=zh c;generalize hq:pcq (aF M.ms) M.md M.bk=q at *;have HR:=zh (show r=true ↔ (D.tmod 4=0/\0<=D.tdiv 4/\D.tdiv 4<=q)from u.o.symm.trans (by unfold tgk;rw[show pcq M.cn.ps M.cn.md M.cn.bk=q from hq];have:=HP.o;omega));let⟨v,a0⟩:=aN$ if r=true then D/4 else 0;rw[<-a0];have Q:=zh a0;have HV:=zh C;have HB:=zh H;have O:=U.s.2.1;unfold maxLen at O;let⟨⟨x0,x1,x2,x3⟩,⟨e0,e1,e2,e3,e4,e5,e6,e7⟩,l0,l1,l2,l3,l4,l5⟩:=P V brf;clear C H I kL h hl B U c ea v0 v1 v2 v3 v4 v5 v6 v7 hE t N hS hZ hD hA a5 u l hq a0
 go_in
 go_wp2_with (rw[<-HV.o])
 go_region_held3 (λb=>b.cell? ⟨w.heap.size,0,none⟩=qk (some ⟨gm,k,none⟩) M.mn M.mc/\b.cell? ⟨w.heap.size,10,none⟩=qj M.md/\b.cell? ⟨w.heap.size,11,none⟩=qj M.bk/\b.cell? ⟨gm,k+M.md.toNat*8,none⟩=some (.string E.nm)/\b.cell? ⟨gm,k+M.md.toNat*8+1,none⟩=qk E.ta E.tn E.tc/\b.cell? ⟨gm,k+M.md.toNat*8+2,none⟩=qk E.ba E.bn E.bc/\b.cell? ⟨gm,k+M.md.toNat*8+3,none⟩=qk E.da E.dn E.dc/\b.cell? ⟨gm,k+M.md.toNat*8+4,none⟩=qj E.bss/\b.cell? ⟨gm,k+M.md.toNat*8+5,none⟩=qk E.ra E.rn E.rc/\b.cell? ⟨gm,k+M.md.toNat*8+6,none⟩=qk E.ia E.im E.ic/\b.cell? ⟨gm,k+M.md.toNat*8+7,none⟩=qk E.ea E.en E.ec) (go_keep)
  (first
    | (go_at_call 118;first
        | with_reducible refine(G.o _ brf).mono ?_
        | with_reducible refine(G.o _ brf.drew).mono ?_
       rintro e X1 ⟨xa,xn,xc,rfl,K,F⟩;have a3:=zh F;let⟨⟨x0,x1,x2,x3⟩,⟨e0,e1,e2,e3,e4,e5,e6,e7⟩,l0,l1,l2,l3,l4,l5⟩:=P X1 F
       clear F))
 have g:=zh λ(X:World)(d:qY X1 X)=>W X$ yT a3 d;have a1:=zh K;clear K e0 e1 e2 e3 e4 e5 e6 e7;go_wp2_with fail
 go_region_held3 (λb=>(b.cell? ⟨w.heap.size,10,none⟩=qj M.md/\b.cell? ⟨w.heap.size,11,none⟩=qj M.bk/\b.cell? ⟨w.heap.size,12,none⟩=qk M.la M.ln M.lc)/\b.cell? ⟨w.heap.size+1,0,none⟩=qk Y.a0 Y.xs.length Y.c0/\b.cell? ⟨w.heap.size+1,1,none⟩=qj Y.L.stack/\b.cell? ⟨w.heap.size+1,2,none⟩=qk Y.a2 Y.L.slots.length Y.c2/\b.cell? ⟨w.heap.size+1,3,none⟩=qj Y.L.flash/\b.cell? ⟨w.heap.size+1,4,none⟩=qj Y.L.ram/\b.cell? ⟨w.heap.size+1,5,none⟩=qk Y.a5 Y.ts.length Y.c5) (go_keep)
  (first
    | (go_at_call 74;first
        | with_reducible refine(g.o _ brf).mono ?_
        | with_reducible refine(g.o _ brf.drew).mono ?_
       rintro e X2 ⟨rfl,x⟩;have a4:=zh x;let⟨⟨x0,x1,x2,x3⟩,_,l0,l1,l2,l3,l4,l5⟩:=P X2 x
       clear x)
    | (go_at_call 123;with_reducible refine(R.o _ a4.o).mono ?_
       rintro e X3 ⟨rfl,A⟩;have j:=zh A;let⟨⟨x0,x1,x2,x3⟩,_,l0,l1,l2,l3,l4,l5⟩:=P X3 A
       clear A))
 clear x0 x1 x2 x3 l0 l1 l2 l3 l4 l5 P W g R G O;have HF:=zh (λ(l:r=false)=>show r=false/\v=0 from⟨l,by rw[Q.o,l];rfl⟩);have f:∀{p:Prop},(r=true->p)->¬p->r=false:=λh1 h2=>by cases r;rfl;exact absurd (h1 rfl) h2
 by_cases d1:D<0
 .have i:=zh$ HF$ f (λq=>(HR.1 q)) J;clear f;go_wp2
  go_ret2
  exact⟨by rw[i.o.1,i.o.2];rfl,yT HB.o j.o⟩
 have a9:¬D<0:=d1;by_cases d2:D.tmod 4=0
 .have a2:(D.tmod 4 !=0)=false:=by simp[d2]
  by_cases d3:(xn:Int)<D.tdiv 4
  .have i:=zh$ HF$ f (λq=>(HR.1 q))$ jK a1.o;clear f;go_wp2
   go_ret2
   exact⟨by rw[i.o.1,i.o.2];rfl,yT HB.o j.o⟩
  .have i:=zh (show r=true/\v=D.tdiv 4 by
    have l:r=true:=HR.2$ jK a1.o
    exact⟨l,by rw[Q.o,if_pos l,Int.tdiv_eq_ediv_of_nonneg J]⟩)
   clear f HF;go_wp2
   go_ret2
   exact⟨by rw[i.o.1,i.o.2];rfl,yT HB.o j.o⟩
 .have a2:(D.tmod 4 !=0)=true:=by simp[d2]
  have i:=zh$ HF$ f (λq=>(HR.1 q)) J;clear f;go_wp2
  go_ret2
  exact⟨by rw[i.o.1,i.o.2];rfl,yT HB.o j.o⟩
