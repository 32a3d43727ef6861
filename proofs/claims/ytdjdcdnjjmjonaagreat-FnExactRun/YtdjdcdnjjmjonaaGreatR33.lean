import Derived.Test.YtdjdcdnjjmjonaaGreatR24
import Derived.Test.YtdjdcdnjjmjonaaGreatR28
import Derived.Test.YtdjdcdnjjmjonaaGreatR30
set_option linter.all false
set_option maxHeartbeats 64000000
namespace Go.Proofs.YtdjdcdnjjmjonaaGreat
open Go.RowKit
set_option maxRecDepth 100000
variable {L:Lay}{T cw:Int}{i k:Nat}{ps:List PMod}{xs:List SlT}
theorem aP0 {s c k d:Int}(h:lkc ps s c k d=0):((lkL ps s c k d).slots.length:Int)=s/\(1<=c/\c<=64):=by
 have:lkL ps s c k d=lay ps s c k:=by unfold lkL;rw[if_pos h]
 have a:=(dX.1 h).1;unfold cfo at a;simp at a;have:(lay ps s c k).slots.length=s.toNat:=by simp[lay]
 grind
theorem pU {P:Prop}{w w':qw}{e:Ending}(h:Yn P w e w')(b)(a:b=true ↔ P):e=.returned (.bool b)/\qY w w':=by
 obtain⟨r,f,g,d⟩:=h
 grind
def aOg {cs:Int}{rz:qi}(a:k<xs.length)(h:¬qD ps L cw T rz xs k):¬dM ps L cs cw T rz xs:=λf=>h$ f.2 k a
theorem aOf {rz:qi}(a:∀i,i<k->qD ps L cw T rz xs i)(h:qD ps L cw T rz xs k):∀i,i<k+1->qD ps L cw T rz xs i:=by grind
def aF1 (M L a0 c0 xs a2 c2 a5 c5 ts w)(h:MnD w M)(hL:LyT w L a0 c0 xs a2 c2 a5 c5 ts)(eL:L=M.L)(B:lkc (aI M.ms) M.cs M.cw M.ck M.cd=0)(hr:(M.rn:Int)=L.ram):
 qC 144 #[.agg$ qA M,.agg$ qJ L a0 xs c0 a2 c2 a5 ts c5] w (Yn (dM (aI M.ms) L M.cs M.cw M.tn M.rz M.lz) w):=by
 let⟨a6,w0,w1⟩:=aP0 B;have d:L=lkL (aI M.ms) M.cs M.cw M.ck M.cd:=eL;rw[<-d]at a6;have hl:=h.l.1;have ar:=h.l.2.1;unfold maxLen at ar;let⟨U,hU,bU,kU⟩:=nwb w (qA M) 43;let⟨V,hV,bV,kV⟩:=nwb U (qJ L a0 xs c0 a2 c2 a5 ts c5) 65;have BV:=yT bU bV;have N:=kU.bw bV;have y:=zh$ h.bw BV;have ab:=zh$ hL.s.bw BV;have HU:=zh hU;have HV:=zh hV;have HB:=zh BV;have HC:=zb V λX t=>xA (N.bw t)$ kV.bw t;have y1:=N.e1;have ae:=N.e12;have Z:=zh$ Below.refl (qs V) V;have ag:=zh$ xA d$ xA a6$ xA hr B;clear hU hV bU bV kU N kV BV h hL eL d a6 hr B;by_cases s:¬(M.ln:Int)=M.cs
 .have D:Zh (¬dM (aI M.ms) L M.cs M.cw M.tn M.rz M.lz):=λf=>s$ jK f.1;have an:((M.ln:Int) !=M.cs)=true:=by simp[s]
  clear s
  delta qC;go_in
  go_wp2_with (first|rw[<-HU.o]|rw[<-HV.o])
  go_ret;exact dL D HB
 replace s:(M.ln:Int)=M.cs:=xZ.1 s;have an:((M.ln:Int) !=M.cs)=false:=by simp[s]
 have H:=zh s;clear s;by_cases cn:M.ln=0
 .have HY:Zh (dM (aI M.ms) L M.cs M.cw M.tn M.rz M.lz):=⟨jK H.o,λi hi=>absurd hi J⟩;have av:=zh cn;clear cn
  delta qC;go_in
  go_wp2_with (first|rw[<-HU.o]|rw[<-HV.o])
  go_loopw [17] (λi wr=>∃k:Nat,i=qI k/\qY V wr) (λi _=>0)
  .exact⟨0,rfl,Z⟩
  .obtain⟨k,rfl,E⟩:=hrel;have P:¬((k:Int)<(M.ln:Int)):=jK av.o;have l:=zh E;clear E;go_wp2;go_ret;exact uK HY$ yT HB l
 obtain⟨g,f,hg⟩:∃g f,M.la=some ⟨g,f,none⟩:=by
  let⟨g,f,hg,_⟩:=y.l.2.2.1 cn;exact⟨g,f,hg⟩
 let⟨d,a6,hr,B⟩:=ag.o;have HQ:=zh λ(wr:qw)(E:qY V wr)(k:Nat)(B:k<M.ln)=>(y.l.bw E).at k B _ _ _ _ rfl;have a9:=zh λ(u:Bool)(x1 x2 x3:Int)(b:Bool)(p:b=true ↔ slk (aI M.ms) M.tn (u,x1,x2,x3))(X:qw)(t:qY V X)=>(aIb M u x1 x2 x3 X$ y.bw t).mono λe w' he=>show e=.returned (.bool b)/\qY X w' from pU he b p;have aa:=zh λ(k:Nat)(B:k<M.ln)(b:Bool)(p:b=true ↔ aln M.lz k)(X:qw)(t:qY V X)=>(aG9 M.la M.ln M.lc k M.lz X (y.l.bw t) B).mono λe w' he=>show e=.returned (.bool b)/\qY X w' from pU he b p;have Q:=zh (λ(k:Nat)(hi:k<L.slots.length)(X:qw)(t:qY V X)=>(aA6 M L a0 c0 xs a2 c2 a5 c5 ts k X (y.o.bw t) (ab.o.bw t) hi w0 w1 (by have:=(wD B (by rw[<-d];exact hi)).1;rw[d];exact this) (by have:=(wD B (by rw[<-d];exact hi)).2.1;rw[<-d]at this;omega) (by have:=(wD B (by rw[<-d];exact hi)).2.2.1;rw[<-d]at this;omega)).mono (λe w' he=>show ∃a c,e=.returned (qS a (slz M.cw) c)/\BS w' a (slz M.cw) c (slb M.rz L M.cw k)/\qY X w' from he))
 have ad:=zh (λ(u:Bool)(x1 x2 x3:Int)(hp:0<=pcq (aI M.ms) x1 x2)(p:0<=x2)(X:qw)(t:qY V X)=>(aB0 M u x1 x2 x3 X (y.bw t) B (jK H.o) hp p).mono (λe w' he=>show ∃g,e=.returned (qS (qP g) (slz M.cw)$ slz M.cw)/\BS w' (qP g) (slz M.cw) (slz M.cw) (bkb (aI M.ms) M.cw x1 x2)/\qY X w' by
  obtain⟨g,h1,h2,h3⟩:=he
  exact⟨g,h1,h2.bs,h3⟩))
 try unfold qA at *
 try unfold qL at *
 rw[hg]at HC a9 aa Q ad ae HU HQ⊢;have ay:=zh (show L.slots.length=M.ln by have:=H.o;omega);clear cn hg y ab B d a6 hr ag
 delta qC;go_in
 go_wp2_with (first|rw[<-HU.o]|rw[<-HV.o])
 clear y1 ae HU HV;go_loopw [17] (λi wr=>∃k:Nat,k<=M.ln/\i=qI k/\(∀i,i<k->qD (aI M.ms) L M.cw M.tn M.rz M.lz i)/\qY V wr) (qf M.ln)
 .exact⟨0,xC _,rfl,λi hi=>absurd hi J,Z⟩
 .obtain⟨k,B,rfl,hF,E⟩:=hrel;by_cases P:k<M.ln
  .have b4:(k:Int)<(M.ln:Int):=J
   let⟨g',f',ah,q0,q1,q2,q3⟩:=HQ wr E k P;simp at ah;obtain⟨rfl,rfl⟩:=ah;have I:=zh λ(q:¬qD (aI M.ms) L M.cw M.tn M.rz M.lz k)=>aOg (cs:=M.cs) (show k<M.lz.length from J) q;have Y:=zh λ(q:qD (aI M.ms) L M.cw M.tn M.rz M.lz k)=>aOf hF q;have A:Zh (qD (aI M.ms) L M.cw M.tn M.rz M.lz k ↔ slk (aI M.ms) M.tn (M.lz.getD k zSl)/\aln M.lz k/\((M.lz.getD k zSl).1=true->slb M.rz L M.cw k=bkb (aI M.ms) M.cw (M.lz.getD k zSl).2.1 (M.lz.getD k zSl).2.2.1)):=Iff.rfl;generalize M.lz.getD k zSl=x at *;obtain⟨u,x1,x2,x3⟩:=x;dsimp only at q0 q1 q2 q3 A;let⟨W,hW,bW,kW⟩:=nwb wr #[.bool u,qI x1,qI x2,qI x3] 132;have BW:=yT E bW;have b5:=zh BW;have HW:=zh hW;have O:=zb W λX t=>show Blk X (qs w) (qX M M.ma M.mn M.mc M.ka M.kn M.kc M.fa M.fn M.fc M.ra M.rn M.rc M.oa M.on M.oc (qe g f) M.ln M.lc M.ha M.hn M.hc) 43/\Blk X (qs U) (qJ L a0 xs c0 a2 c2 a5 ts c5) 65/\Blk X (qs wr) #[.bool u,qI x1,qI x2,qI x3] 132 from⟨(HC X$ yT BW t).1,(HC X$ yT BW t).2,kW.bw t⟩;have j:=zb W λX t=>yT BW t;have HD:=zh$ (Below.refl (qs W) W).drew;clear hW bW kW BW E hF HQ HC Z
   obtain⟨b1,a1⟩:∃b:Bool,b=true ↔ slk (aI M.ms) M.tn (u,x1,x2,x3):=by
    by_cases c:slk (aI M.ms) M.tn (u,x1,x2,x3)
    .exact⟨true,by simp[c]⟩
    .exact⟨false,by simp[c]⟩
   obtain⟨b2,a4⟩:∃b:Bool,b=true ↔ aln M.lz k:=by
    by_cases c:aln M.lz k
    .exact⟨true,by simp[c]⟩
    .exact⟨false,by simp[c]⟩
   obtain⟨b3,a3⟩:∃b:Bool,b=decide (slb M.rz L M.cw k=bkb (aI M.ms) M.cw x1 x2):=⟨_,rfl⟩;have ap:=zh a3.symm;have aj:=zh$ a9 u x1 x2 x3 b1 a1;have am:=zh$ aa k P b2 a4;have ak:=zh (Q.o k (by rw[ay.o];exact P));have aw:=zh (λ(e:b1=false)=>I.o (λq=>by have:=a1.2 (A.o.1 q).1;rw[e]at this;cases this));have ax:=zh (λ(e:b2=false)=>I.o (λq=>by have:=a4.2 (A.o.1 q).2.1;rw[e]at this;cases this));have b0:=zh (λ(e1:b1=true)(e2:b2=true)(e3:u=false)=>Y.o (A.o.2 ⟨a1.1 e1,a4.1 e2,λq=>by rw[e3]at q;cases q⟩));have aq:=zh (λ(e0:u=true)(e:b3=false)=>I.o (λq=>by have:=(A.o.1 q).2.2 e0;rw[e]at a3;exact absurd this$ of_decide_eq_false a3.symm));have az:=zh (λ(e1:b1=true)(e2:b2=true)(e3:b3=true)=>Y.o (A.o.2 ⟨a1.1 e1,a4.1 e2,λ_=>by rw[e3]at a3;exact of_decide_eq_true a3.symm⟩))
   have au:=zh (λ(e1:b1=true)(e0:u=true)=>show 0<=pcq (aI M.ms) x1 x2/\0<=x2 by
    have h1:=a1.1 e1;rw[e0]at h1;let⟨p2,pq,_⟩:=aKp.1 h1
    exact⟨pq,p2⟩)
   clear a1 a4 a3 I Y A a9 aa Q;go_wp2_with (rw[<-HW.o])
   refine wp_region_held_drew (S:=(λX=>Blk X (qs w) (qX M M.ma M.mn M.mc M.ka M.kn M.kc M.fa M.fn M.fc M.ra M.rn M.rc M.oa M.on M.oc (qe g f) M.ln M.lc M.ha M.hn M.hc) 43/\Blk X (qs U) (qJ L a0 xs c0 a2 c2 a5 ts c5) 65/\Blk X (qs wr) #[.bool u,qI x1,qI x2,qI x3] 132)) Je ?_ λhHeld=>?_
   .exact O _ HD
   refine tkV 0 _ rfl (λw hSw=>yS hSw.1 rfl) ?_;try simp only[yG,Act.put]
   refine tkV 1 _ rfl (λw hSw=>aUd hSw.2.2 rfl) ?_;try simp only[yG,Act.put]
   refine wpAnyH_ready (rs:=[2]) Je Jb$ AllReadyH.cons rfl (λK C=>?_) AllReadyH.nil;go_simp;apply(aj _$ j _ HD).mono;rintro e w1 ⟨rfl,p⟩;have G:=zh$ yT HD p;clear p;try go_wp2_with fail
   refine C.out _ _ ?_ λhHeld=>?_
   .exact O _ G
   clear C K;try simp only[yG,Act.put]
   cases b1
   focus
    have D:=zh$ aw.o Jb;refine tkW 3 rfl ?_;try simp only[yG,Act.put]
    refine tkW 4 rfl ?_;try simp only[yG,Act.put]
    refine tkS 5 rfl ?_;try simp only[yG,Act.put]
    refine tkS 6 rfl ?_;try simp only[yG,Act.put]
    refine tkS 7 rfl ?_;try simp only[yG,Act.put]
    refine tkS 8 rfl ?_;try simp only[yG,Act.put]
    refine tkS 9 rfl ?_;try simp only[yG,Act.put]
    refine tkW 10 rfl ?_;try simp only[yG,Act.put]
    refine tkW 11 rfl ?_;try simp only[yG,Act.put]
    have ai:=zh G
   rotate_left;refine tkW 3 rfl ?_;try simp only[yG,Act.put]
   refine tkW 4 rfl ?_;try simp only[yG,Act.put]
   refine tkW 5 rfl ?_;try simp only[yG,Act.put]
   refine tkV 6 _ rfl (λw hSw=>aUc (hSw.1.cell 12) rfl) ?_;try simp only[yG,Act.put]
   refine tkW 7 rfl ?_;try simp only[yG,Act.put]
   refine wpAnyH_ready (rs:=[8]) Je Jb$ AllReadyH.cons rfl (λK C=>?_) AllReadyH.nil;go_simp;apply(am _$ j _ G).mono;rintro e w2 ⟨rfl,p⟩;have l:=zh$ yT G p;clear p;try go_wp2_with fail
   refine C.out _ _ ?_ λhHeld=>?_
   .exact O _ l
   clear C K;try simp only[yG,Act.put]
   cases b2
   focus
    have D:=zh$ ax.o Jb;refine tkW 9 rfl ?_;try simp only[yG,Act.put]
    refine tkW 10 rfl ?_;try simp only[yG,Act.put]
    refine tkW 11 rfl ?_;try simp only[yG,Act.put]
    have ai:=zh l
   rotate_left;refine tkW 9 rfl ?_;try simp only[yG,Act.put]
   refine tkW 10 rfl ?_;try simp only[yG,Act.put]
   refine tkW 11 rfl ?_;try simp only[yG,Act.put]
   refine tkW 12 rfl ?_;try simp only[yG,Act.put]
   refine tkV 13 _ rfl (λw hSw=>aW7 (hSw.2.2.cell 0) rfl) ?_;try simp only[yG,Act.put]
   refine tkW 14 rfl ?_;try simp only[yG,Act.put]
   cases u
   focus
    have D:=zh$ b0.o Jb Jb Jb;refine tkS 15 rfl ?_;try simp only[yG,Act.put]
    refine tkS 16 rfl ?_;try simp only[yG,Act.put]
    refine tkS 17 rfl ?_;try simp only[yG,Act.put]
    refine tkS 18 rfl ?_;try simp only[yG,Act.put]
    refine tkS 19 rfl ?_;try simp only[yG,Act.put]
    refine tkS 20 rfl ?_;try simp only[yG,Act.put]
    refine tkS 21 rfl ?_;try simp only[yG,Act.put]
    refine tkS 22 rfl ?_;try simp only[yG,Act.put]
    refine tkS 23 rfl ?_;try simp only[yG,Act.put]
    refine tkW 24 rfl ?_;try simp only[yG,Act.put]
    refine tkW 25 rfl ?_;try simp only[yG,Act.put]
    refine wpAnyH_done Je ?_ _;have HE:=zh$ j _ l;clear O j HD hHeld;go_wp2
    go_roundw
    .exact⟨k+1,J,by go_num,D,HE⟩
    .simp[qf,intOf];omega
   let⟨pq,p2⟩:=au.o Jb Jb;have ao:=zh$ ad true x1 x2 x3 pq p2;clear pq p2;refine tkV 15 _ rfl (λw hSw=>yS hSw.1 rfl) ?_;try simp only[yG,Act.put]
   refine tkV 16 _ rfl (λw hSw=>aP1 hSw.2.1 rfl) ?_;try simp only[yG,Act.put]
   refine tkW 17 rfl ?_;try simp only[yG,Act.put]
   refine tkV 19 _ rfl (λw hSw=>yS hSw.1 rfl) ?_;try simp only[yG,Act.put]
   refine tkV 20 _ rfl (λw hSw=>aUd hSw.2.2 rfl) ?_;try simp only[yG,Act.put]
   refine wpAnyH_ready (rs:=[18]) Je Jb$ AllReadyH.cons rfl (λK C=>?_) AllReadyH.nil;go_simp;apply(ak _$ j _ l).mono;rintro e w3 ⟨sa,sc,rfl,hs,p⟩;have a8:=zh$ yT l p;have ac:=zh hs;clear hs;clear p;try go_wp2_with fail
   refine C.out _ _ ?_ λhHeld=>?_
   .exact O _ a8
   clear C K;try simp only[yG,Act.put]
   refine wpAnyH_ready (rs:=[21]) Je Jb$ AllReadyH.cons rfl (λK C=>?_) AllReadyH.nil;go_simp;apply(ao _$ j _ a8).mono;rintro e w4 ⟨bg,rfl,hs,p⟩;have a7:=zh$ yT a8 p;have af:=zh$ nK sa (qP bg) (slz M.cw) sc (slz M.cw) (slz M.cw) _ _ w4 (ac.bw p) hs;rw[ap.o]at af;clear hs p ac;try go_wp2_with fail
   refine C.out _ _ ?_ λhHeld=>?_
   .exact O _ a7
   clear C K;try simp only[yG,Act.put]
   refine wpAnyH_ready (rs:=[22]) Je Jb$ AllReadyH.cons rfl (λK C=>?_) AllReadyH.nil;go_simp;apply af.mono;rintro e w5 ⟨rfl,rfl⟩;try go_wp2_with fail
   refine C.out _ _ ?_ λhHeld=>?_
   .exact O _ a7
   clear C K;try simp only[yG,Act.put]
   focus
    cases b3
    focus
     have D:=zh$ aq.o Jb Jb
    rotate_left
    focus
     have D:=zh$ az.o Jb Jb Jb
    all_goals
     refine tkW 23 rfl ?_;try simp only[yG,Act.put]
     refine tkW 24 rfl ?_;try simp only[yG,Act.put]
     refine tkW 25 rfl ?_;try simp only[yG,Act.put]
     refine wpAnyH_done Je ?_ _;have HE:=zh$ j _ a7;clear O j HD hHeld;go_wp2
    focus
     go_roundw
     .exact⟨k+1,J,by go_num,D,HE⟩
     .simp[qf,intOf];omega
    go_ret;exact dL D$ yT HB HE
   all_goals
    refine tkS 12 rfl ?_;try simp only[yG,Act.put]
    refine tkS 13 rfl ?_;try simp only[yG,Act.put]
    refine tkS 14 rfl ?_;try simp only[yG,Act.put]
    refine tkS 15 rfl ?_;try simp only[yG,Act.put]
    refine tkS 16 rfl ?_;try simp only[yG,Act.put]
    refine tkS 17 rfl ?_;try simp only[yG,Act.put]
    refine tkS 18 rfl ?_;try simp only[yG,Act.put]
    refine tkS 19 rfl ?_;try simp only[yG,Act.put]
    refine tkS 20 rfl ?_;try simp only[yG,Act.put]
    refine tkS 21 rfl ?_;try simp only[yG,Act.put]
    refine tkS 22 rfl ?_;try simp only[yG,Act.put]
    refine tkS 23 rfl ?_;try simp only[yG,Act.put]
    refine tkS 24 rfl ?_;try simp only[yG,Act.put]
    refine tkW 25 rfl ?_;try simp only[yG,Act.put]
    refine wpAnyH_done Je ?_ _;have HE:=zh$ j _ ai;clear O j HD hHeld;go_wp2;go_ret;exact dL D$ yT HB HE
  .have HY:Zh (dM (aI M.ms) L M.cs M.cw M.tn M.rz M.lz):=⟨jK H.o,λi hi=>hF i J⟩;have l:=zh E;clear E hF;go_wp2;go_ret;exact uK HY$ yT HB l
def aXk (h:(xs.getD i zSl).1=false):aln xs i:=λk _ q=>by have:=q.1;rw[h]at this;cases this
def aEt (M i w)(h:MnD w M)(hi:i<M.ln):
 qC 119 #[.agg #[qS M.ma M.mn M.mc,qI M.cs,qI M.cw,qI M.ck,qI M.cd,qI M.pc,qS M.ka M.kn M.kc,qS M.fa M.fn M.fc,qS M.ra M.rn M.rc,qS M.oa M.on M.oc,qI M.md,qI M.bk,qS M.la M.ln M.lc,qS M.ha M.hn M.hc,qI M.tn],qI i] w (Yn (slk (aI M.ms) M.tn (M.lz.getD i zSl)/\aln M.lz i) w):=by
 have a4:=h.l.2.1;unfold maxLen at a4;have ae:(i:Int)<(M.ln:Int):=J
 let⟨U,hU,bU,kU⟩:=nwb w #[qS M.ma M.mn M.mc,qI M.cs,qI M.cw,qI M.ck,qI M.cd,qI M.pc,qS M.ka M.kn M.kc,qS M.fa M.fn M.fc,qS M.ra M.rn M.rc,qS M.oa M.on M.oc,qI M.md,qI M.bk,qS M.la M.ln M.lc,qS M.ha M.hn M.hc,qI M.tn] 43;have H:=zh$ h.l.bw bU;have Z:=zh$ h.m.bw bU;have a2:=zh$ fL h.m;have s:=zh λ(k:Nat)(hk:k<i)(q:cmn (M.lz.getD i zSl) (M.lz.getD k zSl))=>aRa hk q;have B:=zh λ(k:Nat)(P:∀j,j<k->¬cmn (M.lz.getD i zSl) (M.lz.getD j zSl))(q:¬cmn (M.lz.getD i zSl) (M.lz.getD k zSl))=>aQ9 P q;have u:Zh ((∀j,j<i->¬cmn (M.lz.getD i zSl) (M.lz.getD j zSl))->aln M.lz i):=λq=>q;have K:=zh λq=>aXk (xs:=M.lz) (i:=i) q;clear h;generalize M.la=la at *;obtain⟨g,f,rfl,q0,q1,q2,q3⟩:=H.at i hi _ _ _ _ rfl;generalize M.lz.getD i zSl=x at *;obtain⟨x0,x1,x2,x3⟩:=x;dsimp only at q0 q1 q2 q3;let⟨V,hV,bV,kV⟩:=nwb U #[.bool x0,qI x1,qI x2,qI x3] 132;have BV:=yT bU bV;have C:=kU.bw bV;have a6:=kU.e12;have d:=zh$ jQ M.ma M.mn M.mc M.ms x1 x2 V$ Z.s.bw bV;rw[a2.o x1 x2]at d
 have S:=zh (λ(X:qw)(N:qY V X)=>show(qn X w 0=qk M.ma M.mn M.mc/\qn X w 12=qk (qe g f) M.ln M.lc/\qn X w 14=qj M.tn)/\qn X U 0=some (.bool x0)/\qn X U 1=qj x1/\qn X U 2=qj x2/\qn X U 3=qj x3 from
  ⟨⟨(C.bw N).cell 0,(C.bw N).cell 12,(C.bw N).cell 14⟩,(kV.bw N).cell 0,(kV.bw N).cell 1,(kV.bw N).cell 2,(kV.bw N).cell 3⟩)
 have O:=zh$ H.bw bV;have a:=zh BV;have E:=zh hU;have G:=zh hV;clear hU hV bU bV kU C kV BV H Z a2;let⟨⟨p0,a0,a1⟩,s0,s1,s2,s3⟩:=S V brf;cases x0 with
 | false=>
   have a9:=zh$ K rfl;rw[aTz];clear d S s B u K O p0 a0 a1;by_cases e1:x1=0
   .by_cases e2:x2=0
    .by_cases e3:x3=0
     .subst e1 e2 e3
      delta qC;go_in
      go_wp2_with (rw[<-E.o])
      go_ret;exact uK ⟨rfl,a9.o⟩ (by have:=a.o;rw[G.o]at this;exact this)
     .have ai:(x3==0)=false:=by simp[e3]
      have HX:Zh (¬(false,x1,x2,x3)=zSl):=λq=>e3 (by unfold zSl at q;simp at q;exact q.2.2);subst e1 e2;clear e3
      delta qC;go_in
      go_wp2_with (first|rw[<-E.o]|rw[<-G.o])
      go_ret;exact dL (λq=>HX q.1) a
    .have ad:(x2==0)=false:=by simp[e2]
     have HX:Zh (¬(false,x1,x2,x3)=zSl):=λq=>e2 (by unfold zSl at q;simp at q;exact q.2.1);subst e1;clear e2
     delta qC;go_in
     go_wp2_with (first|rw[<-E.o]|rw[<-G.o])
     go_ret;exact dL (λq=>HX q.1) a
   .have ah:(x1==0)=false:=by simp[e1]
    have HX:Zh (¬(false,x1,x2,x3)=zSl):=λq=>e1 (by unfold zSl at q;simp at q;exact q.1);clear e1
    delta qC;go_in
    go_wp2_with (first|rw[<-E.o]|rw[<-G.o])
    go_ret;exact dL (λq=>HX q.1) a
 | true=>
   rw[aKp];clear K;by_cases c2:0<=pcq (aI M.ms) x1 x2
   .have I:=zh c2;rw[xR c2]at d;clear c2
    delta qC;go_in
    go_wp2_with (first|rw[<-E.o]|rw[<-G.o])
    apply d.mono;rintro e X1 ⟨rfl,p⟩;have a7:=zh p;have t:=zh$ yT a p;clear p0 a0 a1 s0 s1 s2 s3 q0 q1 q2 q3 a6;let⟨⟨p0,a0,a1⟩,s0,s1,s2,s3⟩:=S X1 p;clear p d E G;by_cases c3:x2<0
    .go_wp2;go_ret;exact dL (λq=>jK q.1.1) t
    by_cases c4:x3<1
    .go_wp2;go_ret;exact dL (λq=>jK q.1.2.2.1) t
    by_cases c5:M.tn<x3
    .go_wp2;go_ret;exact dL (λq=>jK q.1.2.2.2) t
    have a8:Zh (0<=x2/\0<=pcq (aI M.ms) x1 x2/\1<=x3/\x3<=M.tn):=⟨J,I,J,J⟩;go_wp2;clear p0 a0 a1 s0 s1 s2 s3;go_loopw [6] (λj wr=>∃k:Nat,k<=i/\j=qI k/\(∀j,j<k->¬cmn (true,x1,x2,x3) (M.lz.getD j zSl))/\qY V wr) (qf i)
    .exact⟨0,xC _,rfl,λj hj=>absurd hj J,a7⟩
    .obtain⟨k,hk,rfl,P,Q⟩:=hrel;by_cases a5:k<i
     .have aa:(k:Int)<(i:Int):=J
      have ab:(k:Int)<(M.ln:Int):=J
      let⟨g',f',a3,q0,q1,q2,q3⟩:=(O.bw Q).at k J _ _ _ _ rfl;simp at a3;obtain⟨rfl,rfl⟩:=a3;let⟨⟨r0,aj,ak⟩,_⟩:=S wr Q;have l:=zh$ s k a5;have b:=zh$ B k P;generalize M.lz.getD k zSl=y at *;obtain⟨o0,o1,o2,o3⟩:=y;dsimp only at q0 q1 q2 q3;let⟨W,hW,bW,kW⟩:=nwb wr #[.bool o0,qI o1,qI o2,qI o3] 132;have BW:=yT Q bW;have A:=zh BW;have Y:=zh hW;have t0:=S W BW;let⟨p0,p1,p2,p3⟩:=kW.z4;clear hW bW kW BW Q P s B u O;cases o0 with
      | false=>
        have D:=zh$ b (λq=>by have:=q.2.1;cases this);clear l b;go_wp2_with (rw[<-Y.o])
        go_roundw
        .exact⟨k+1,J,by go_num,D,A⟩
        .simp[qf,intOf];omega
      | true=>
        by_cases c3:o3=x3
        .subst c3;have D:=zh$ l ⟨rfl,rfl,.inl rfl⟩;clear l b;go_wp2_with (rw[<-Y.o])
         go_ret;exact dL (λq=>D q.2)$ yT a A
        .have ag:(o3==x3)=false:=by simp[c3]
         by_cases c1:o1=x1
         .by_cases c2:o2=x2
          .have D:=zh$ l ⟨rfl,rfl,.inr ⟨c1,c2⟩⟩;subst c1 c2;clear l b c3;go_wp2_with (rw[<-Y.o])
           go_ret;exact dL (λq=>D q.2)$ yT a A
          .have ac:(o2==x2)=false:=by simp[c2]
           have D:=zh$ b (λq=>by rcases q.2.2 with e|e;exact c3 e;exact c2 e.2);subst c1;clear l b c3 c2;go_wp2_with (rw[<-Y.o])
           go_roundw
           .exact⟨k+1,J,by go_num,D,A⟩
           .simp[qf,intOf];omega
         .have af:(o1==x1)=false:=by simp[c1]
          have D:=zh$ b (λq=>by rcases q.2.2 with e|e;exact c3 e;exact c1 e.1);clear l b c3 c1;go_wp2_with (rw[<-Y.o])
          go_roundw
          .exact⟨k+1,J,by go_num,D,A⟩
          .simp[qf,intOf];omega
     .have HY:=zh$ u λj hj=>P j J;have HB:=zh Q;clear Q P;go_wp2;go_ret;exact uK ⟨a8,HY⟩$ yT a HB
   .have I:=zh c2;rw[xS c2]at d;clear c2
    delta qC;go_in
    go_wp2_with (first|rw[<-E.o]|rw[<-G.o])
    apply d.mono;rintro e X1 ⟨rfl,p⟩;have t:=zh$ yT a p;clear p d S E G;go_wp2;go_ret;exact dL (λq=>by have h1:=I.o;have h2:=q.1.2.1;omega) t
def aW5 {a:Act}{W:qw}{G:Nat}{d:Option Tmp}{f:TypeId}{p:String}{e:Array _}{b:Option _}{v0 v1 v2 v3:Value}(q:W.cell? (qR G i)=some v0)(g:W.cell? (qR G$ i+1)=some v1)(l:W.cell? (qR G$ i+2)=some v2)(j:W.cell? (qR G$ i+3)=some v3)(h:a.tmps[k]?.getD undef=.pointer (some$ qR G i)):(execOp a.eval { dst:=d,op:=Op.load 132$ Operand.tmp k,type:=f,pos:=p,after:=e,guard:=b }).run Tryz.prog W=.ok (.value$ .agg #[v0,v1,v2,v3]) W:=by
 go_simp
def aBk (M L a7 c0 xs a2 c2 a8 c5 ts w)(h:MnD w M)(hL:LyT w L a7 c0 xs a2 c2 a8 c5 ts)(eL:L=M.L)(D:lkc (aI M.ms) M.cs M.cw M.ck M.cd=0)(hr:(M.rn:Int)=L.ram):
 qC 68 #[.agg$ qA M,.agg$ qJ L a7 xs c0 a2 c2 a8 ts c5] w (Yn (dM (aI M.ms) L M.cs M.cw M.tn M.rz M.lz/\(M.cs=0\/M.bk=-1\/hld M.lz M.md M.bk≠-1)) w):=by
 let⟨a1,w0,w1⟩:=aP0 D;have C:L=lkL (aI M.ms) M.cs M.cw M.ck M.cd:=eL;rw[<-C]at a1;have hl:=h.l.1;have b0:=h.l.2.1;have b5:=h.r.2.1;have az:=hL.s.2.1;have bb:=h.r.2.2.2.2;unfold maxLen at b0 b5 az;let⟨U,hU,bU,kU⟩:=nwb w (qA M) 43;let⟨V,hV,bV,kV⟩:=nwb U (qJ L a7 xs c0 a2 c2 a8 ts c5) 65;have BV:=yT bU bV;have a3:=kU.bw bV;have y:=zh$ h.bw BV;have ab:=zh$ hL.s.bw BV;have HU:=zh hU;have HV:=zh hV;have HB:=zh BV;have HC:=zb V λX l=>xA (a3.bw l)$ kV.bw l;have y1:=a3.e1;have Q:=a3.e12;have ad:=zh$ Below.refl V.heap.size V;have ar:=zh$ xA C$ xA a1$ xA hr D;clear hU hV bU bV kU a3 kV BV h hL eL C a1 hr D;by_cases j:¬(M.ln:Int)=M.cs
 .have N:Zh (¬(dM (aI M.ms) L M.cs M.cw M.tn M.rz M.lz/\(M.cs=0\/M.bk=-1\/hld M.lz M.md M.bk≠-1))):=λf=>j$ jK f.1.1;have aw:((M.ln:Int) !=M.cs)=true:=by simp[j]
  clear j
  delta qC;go_in
  go_wp2_with (first|rw[<-HU.o]|rw[<-HV.o])
  go_ret;exact dL N HB
 replace j:(M.ln:Int)=M.cs:=xZ.1 j;have aw:((M.ln:Int) !=M.cs)=false:=by simp[j]
 have B:=zh j;clear j;by_cases cn:M.ln=0
 .have HY:Zh (dM (aI M.ms) L M.cs M.cw M.tn M.rz M.lz/\(M.cs=0\/M.bk=-1\/hld M.lz M.md M.bk≠-1)):=⟨⟨jK B.o,λi hi=>absurd hi J⟩,.inl$ jK B.o⟩;have aq:=zh cn;clear cn
  delta qC;go_in
  go_wp2_with (first|rw[<-HU.o]|rw[<-HV.o])
  clear y1 Q;go_loopw [5] (λi wr=>∃k:Nat,i=qI k/\qY V wr) (λi _=>0)
  .exact⟨0,rfl,ad⟩
  .obtain⟨k,rfl,u⟩:=hrel;have H:¬((k:Int)<(M.ln:Int)):=jK aq.o;have h0:((M.ln:Int)==0)=true:=by rw[aq.o];rfl
   have Q:=(HC wr u).1.e12;have b3:=zh u;clear u;go_wp2;go_ret;exact uK HY$ yT HB b3
 obtain⟨g,f,hg⟩:∃g f,M.la=some ⟨g,f,none⟩:=by
  let⟨g,f,hg,_⟩:=y.l.2.2.1 cn;exact⟨g,f,hg⟩
 let⟨C,a1,hr,D⟩:=ar.o
 obtain⟨gs,os,aj⟩:∃gs os,a2=some ⟨gs,os,none⟩:=by
  let⟨gs,os,hg,_⟩:=ab.2.2.2.1$ jK B.o;exact⟨gs,os,hg⟩
 have W:=zh (λ(wr:qw)(u:qY V wr)(k:Nat)(D:k<L.slots.length)=>(show qN wr gs (os+k)=qj (L.slots.getD k 0)by
  let⟨g',o',he,hc⟩:=(ab.bw u).2.2.2.1 J;try unfold qA at *
  try unfold qL at *
  rw[aj]at he;simp at he;obtain⟨rfl,rfl⟩:=he
  exact hc k D))
 have HQ:=zh λ(wr:qw)(u:qY V wr)(k:Nat)(D:k<M.ln)=>(y.l.bw u).at k D _ _ _ _ rfl;have a5:=zh λ(k:Nat)(D:k<M.ln)(b:Bool)(d:b=true ↔ slk (aI M.ms) M.tn (M.lz.getD k zSl)/\aln M.lz k)(X:qw)(l:qY V X)=>(aEt M k X (y.bw l) D).mono λe w' he=>show e=.returned (.bool b)/\qY X w' from pU he b d
 have a9:=zh (λ(k:Nat)(hi:k<L.slots.length)=>show 65536<=L.slots.getD k 0/\L.slots.getD k 0-65536+(slz M.cw:Int)<=(M.rn:Int)/\M.rn<=16384 by
  have:=wD D (show k<(lkL (aI M.ms) M.cs M.cw M.ck M.cd).slots.length by rw[<-C];exact hi);rw[<-C]at this;obtain⟨h1,h2,h3,_⟩:=this
  exact⟨h1,J,J⟩)
 have P:=zh (λ(x0:Bool)(x1 x2 x3:Int)(hp:0<=pcq (aI M.ms) x1 x2)(d:0<=x2)(X:qw)(l:qY V X)=>(mH M x0 x1 x2 x3 X (y.bw l) D (jK B.o) hp d).mono (λe w' he=>show ∃g,e=.returned (qS (qP g) (slz M.cw)$ slz M.cw)/\BS w' (qP g) (slz M.cw) (slz M.cw) (bkb (aI M.ms) M.cw x1 x2)/\qY X w' by
  obtain⟨g,h1,h2,h3⟩:=he
  exact⟨g,h1,h2.bs,h3⟩))
 have ah:=zb V λX l=>dP M.la M.ln M.lc M.lz M.md M.bk X$ y.l.bw l;have I:=zb V λX l=>y.r.bw l;have ba:=(gS w0 w1).2.1;have bd:1<=slz M.cw:=jK$ (gS w0 w1).2.2;try unfold qA at *
 try unfold qL at *
 rw[hg]at HC a5 P ah Q HU HQ⊢;try unfold qA at *
 try unfold qL at *
 rw[aj]at HC HV⊢;have a4:=zh (show L.slots.length=M.ln by have:=B.o;omega);have b2:((M.ln:Int)==0)=false:=Jc
 clear cn hg aj y ab D C a1 hr ar
 delta qC;go_in
 go_wp2_with (first|rw[<-HU.o]|rw[<-HV.o])
 clear y1 Q HU HV;go_loopw [5,6,7] (λi _ _ wr=>∃k:Nat,k<=M.ln/\i=qI k/\(∀i,i<k->qD (aI M.ms) L M.cw M.tn M.rz M.lz i)/\qY V wr) (λi _ _ _=>M.ln-(intOf i).toNat)
 .exact⟨0,xC _,rfl,λi hi=>absurd hi J,ad⟩
 .obtain⟨k,D,rfl,hF,u⟩:=hrel;have ai:=zh u;have m0:=(HC wr u).1.mc;by_cases H:k<M.ln
  .have av:(k:Int)<(M.ln:Int):=J
   have Z:=zh λ(q:¬qD (aI M.ms) L M.cw M.tn M.rz M.lz k)=>aOg (cs:=M.cs) (show k<M.lz.length from J) q;have O:=zh λ(q:qD (aI M.ms) L M.cw M.tn M.rz M.lz k)=>aOf hF q;have p:Zh (qD (aI M.ms) L M.cw M.tn M.rz M.lz k ↔ slk (aI M.ms) M.tn (M.lz.getD k zSl)/\aln M.lz k/\((M.lz.getD k zSl).1=true->slb M.rz L M.cw k=bkb (aI M.ms) M.cw (M.lz.getD k zSl).2.1 (M.lz.getD k zSl).2.2.1)):=Iff.rfl;have Y:=zb V λX l=>HQ X l k H;let⟨b1,a6⟩:=iK$ slk (aI M.ms) M.tn (M.lz.getD k zSl)/\aln M.lz k;have am:=zh$ a5 k H b1 a6 wr u;let⟨s1,s2,s3⟩:=a9.o k (by rw[a4.o];exact H);have s4:=W.o wr u k (by rw[a4.o];exact H);have af:=zb V λX l=>W.o X l k (by rw[a4.o];exact H);generalize M.lz.getD k zSl=x at *;obtain⟨x0,x1,x2,x3⟩:=x;dsimp only at p Y;have ae:=zh (λ(e:b1=false)=>Z.o (λq=>by have:=a6.2 ⟨(p.o.1 q).1,(p.o.1 q).2.1⟩;rw[e]at this;cases this));have t:=zh a6;obtain⟨A,hA⟩:∃A:Nat,L.slots.getD k 0=65536+(A:Int):=⟨(L.slots.getD k 0-65536).toNat,J⟩;have an:=zh (show slb M.rz L M.cw k=(M.rz.drop A).take (slz M.cw)by unfold slb;rw[hA,show(65536+(A:Int)-65536).toNat=A from J]);rw[hA]at s2 s4 af;clear a6 u hF HQ a5 W a9 ad s4 s1 hA;go_wp2_with fail
   apply am.mono;rintro e X1 ⟨rfl,d⟩;have a:=zh$ yT ai d;clear d am m0;cases b1 with
   | false=>
     have N:Zh (¬(dM (aI M.ms) L M.cs M.cw M.tn M.rz M.lz/\(M.cs=0\/M.bk=-1\/hld M.lz M.md M.bk≠-1))):=λq=>ae.o Jb q.1;go_wp2;go_ret;exact dL N$ yT HB a
   | true=>
     let⟨g',f',a0,q0,q1,q2,q3⟩:=Y X1 a;simp at a0;obtain⟨rfl,rfl⟩:=a0;have m0:=(HC X1 a).1.mc;cases x0 with
     | false=>
       have N:=zh (O (p.2 ⟨(t.1 rfl).1,(t.1 rfl).2,λq=>by cases q⟩));clear ae Z O p t;go_wp2
       go_roundw
       .exact⟨k+1,J,by go_num,N,a⟩
       .simp[intOf];omega
     | true=>
       let⟨p2,pq,_⟩:=aKp.1 (t.1 rfl).1;have ax:=zh$ P true x1 x2 x3 pq p2
       have HS:=zh (λ(X:qw)(l:qY V X)=>show Blk X w.heap.size (qX M M.ma M.mn M.mc M.ka M.kn M.kc M.fa M.fn M.fc M.ra M.rn M.rc M.oa M.on M.oc (qe g f) M.ln M.lc M.ha M.hn M.hc) 43/\qN X g (f+k*4)=some (.bool true)/\qN X g (f+k*4+1)=qj x1/\qN X g (f+k*4+2)=qj x2/\qN X g (f+k*4+3)=qj x3 by
        let⟨g',f',a0,r0,r1,r2,r3⟩:=Y X l;simp at a0;obtain⟨rfl,rfl⟩:=a0
        exact⟨(HC X l).1,r0,r1,r2,r3⟩)
       have ac:=zh λ(e:slb M.rz L M.cw k=bkb (aI M.ms) M.cw x1 x2)=>O$ p.2 ⟨(t.1 rfl).1,(t.1 rfl).2,λ_=>e⟩;have ag:=zh λ(e:¬slb M.rz L M.cw k=bkb (aI M.ms) M.cw x1 x2)=>show ¬(dM (aI M.ms) L M.cs M.cw M.tn M.rz M.lz/\(M.cs=0\/M.bk=-1\/hld M.lz M.md M.bk≠-1))from λq=>Z (λr=>e$ (p.1 r).2.2 rfl) q.1;clear ae Z O p t P p2 pq Y;go_wp2_with fail
       clear m0 q0 q1 q2 q3;refine wp_region_held_drew (S:=(λX=>Blk X w.heap.size (qX M M.ma M.mn M.mc M.ka M.kn M.kc M.fa M.fn M.fc M.ra M.rn M.rc M.oa M.on M.oc (qe g f) M.ln M.lc M.ha M.hn M.hc) 43/\qN X g (f+k*4)=some (.bool true)/\qN X g (f+k*4+1)=qj x1/\qN X g (f+k*4+2)=qj x2/\qN X g (f+k*4+3)=qj x3)) Je ?_ λhHeld=>?_
       .exact HS _ a.drew
       refine tkV 0 _ rfl (λw hSw=>yS hSw.1 rfl) ?_;try simp only[yG,Act.put]
       refine tkV 1 ?_ rfl ?_ ?_;rotate_left
       ·(intro w hSw;(try dsimp only at hSw);go_simp;try with_reducible rfl)
       try simp only[yG,Act.put]
       refine tkV 2 _ rfl (λw hSw=>aUc (hSw.1.cell 12) rfl) ?_;try simp only[yG,Act.put]
       refine tkV 3 ?_ rfl ?_ ?_;rotate_left
       ·(intro w hSw;(try dsimp only at hSw);go_simp;try with_reducible rfl)
       try simp only[yG,Act.put]
       refine tkV 4 ?_ rfl ?_ ?_;rotate_left
       ·(intro w hSw;(try dsimp only at hSw);go_simp;try with_reducible rfl)
       try simp only[yG,Act.put]
       refine tkV 5 _ rfl (λw hSw=>aW5 hSw.2.1 hSw.2.2.1 hSw.2.2.2.1 hSw.2.2.2.2 rfl) ?_;try simp only[yG,Act.put]
       refine wpAnyH_ready (rs:=[6]) Je Jb$ AllReadyH.cons rfl (λK hK=>?_) AllReadyH.nil;go_simp;apply(ax _ a.drew).mono;rintro e X2 ⟨bg,rfl,hs,d⟩;have s:=zh$ yT a.drew d;have ap:=zh hs;clear hs d;try go_wp2_with fail
       refine hK.out _ _ ?_ λhHeld=>?_
       .exact HS _ s
       clear hK K;try simp only[yG,Act.put]
       refine tkV 7 ?_ rfl ?_ ?_;rotate_left
       ·(intro w hSw;(try dsimp only at hSw);go_simp;try with_reducible rfl)
       try simp only[yG,Act.put]
       refine wpAnyH_done Je ?_ _;clear hHeld HS;have y8:=(HC X2 s).1.e8;have z2:=(HC X2 s).2.e2;have s4:=af X2 s;have b9:(k:Int)<(L.slots.length:Int):=by rw[a4.o];exact av
       generalize slz M.cw=sz at *
       obtain⟨rb,ro,ak⟩:∃rb ro,M.ra=some ⟨rb,ro,none⟩:=by
        let⟨rb,ro,he,_⟩:=(I X2 s).2.2.2.1 J;exact⟨rb,ro,he⟩
       obtain⟨E,hE⟩:∃E:Nat,E=A+sz:=⟨_,rfl⟩
       have G:=zh (show qC 66 #[qS (qe rb$ ro+A) (E-A)$ M.rc-A,qS (qP bg) sz sz] X2 (λe w'=>e=.returned (.bool$ decide$ slb M.rz L M.cw k=bkb (aI M.ms) M.cw x1 x2)/\qY X2 w')by
        have h1:=I X2 s;rw[ak]at h1;have h2:=(h1.drop A J).take sz J;rw[show E-A=sz from J,an.o]
        exact uE _ _ _ _ _ _ _ _ X2 h2 ap)
       have bc:IntKind.i64.wrap (65536+(A:Int)-65536)=(A:Int):=by rw[xP,xQ _ J];omega
       have b6:IntKind.i64.wrap (A:Int)=(A:Int):=by rw[xP,xQ _ J]
       have b8:IntKind.i64.wrap ((A:Int)+(sz:Int))=(E:Int):=by rw[xP,xQ _ J];omega
       have ao:(A:Int)+(sz:Int)=(E:Int):=J
       have g0:(0:Int)<=(A:Int):=J
       have g1:(A:Int)<=(E:Int):=J
       have g2:(E:Int)<=(M.rc:Int):=J
       have g3:(A:Int)<(M.rc:Int):=J
       have g4:A<=E:=J
       have g5:¬(M.rc=A):=J
       have g6:A<M.rc:=J
       rw[ak]at y8;have b7:=zh ao;clear hE ak I an ap af s2 s3 ao;by_cases c3:slb M.rz L M.cw k=bkb (aI M.ms) M.cw x1 x2
       .rw[xR c3]at G;have N:=zh$ ac c3;clear ac ag c3;go_wp2_with fail
        apply G.mono;rintro e X3 ⟨rfl,d⟩;have aa:=zh$ yT s d;clear d G;go_wp2
        go_roundw
        .exact⟨k+1,J,by go_num,N,aa⟩
        .simp[intOf];omega
       .rw[xS c3]at G;have N:=zh$ ag c3;clear ac ag c3;go_wp2_with fail
        apply G.mono;rintro e X3 ⟨rfl,d⟩;have aa:=zh$ yT s d;clear d G;go_wp2;go_ret;exact dL N$ yT HB aa
  .have HY:Zh (dM (aI M.ms) L M.cs M.cw M.tn M.rz M.lz):=⟨jK B.o,λi hi=>hF i J⟩;have HH:=zh$ ah wr u;have au:=lA M.lz M.md M.bk;have ay:Zh (¬M.cs=0):=λe=>by have:=B.o;simp at b2;omega
   clear u hF HC W a9 a5 P I ah HQ;by_cases cb:M.bk=-1
   .have b4:(M.bk == -1)=true:=by rw[cb];rfl
    have HP:Zh (dM (aI M.ms) L M.cs M.cw M.tn M.rz M.lz/\(M.cs=0\/M.bk=-1\/hld M.lz M.md M.bk≠-1)):=⟨HY,.inr$ .inl cb⟩;clear cb au HH;go_wp2;go_ret;exact uK HP$ yT HB ai
   .have b4:(M.bk == -1)=false:=by simp[cb]
    have HP:Zh ((dM (aI M.ms) L M.cs M.cw M.tn M.rz M.lz/\(M.cs=0\/M.bk=-1\/hld M.lz M.md M.bk≠-1)) ↔ 0<=hld M.lz M.md M.bk):=⟨λq=>by rcases q.2 with e|e|e;exact absurd e ay;exact absurd e cb;omega,λq=>⟨HY,.inr$ .inr J⟩⟩;clear cb au;generalize hld M.lz M.md M.bk=r at *;go_wp2_with fail
    apply HH.mono;rintro e X1 ⟨rfl,d⟩;have a:=zh$ yT ai d;clear d HH;go_wp2;go_ret;exact aV9 HP.symm$ yT HB a
section
variable {zc:Array Value}{t:TypeId}{n g:Nat}{ms m:List Md}{L:Lay}{W0 X Y:qw}{o:Option Nat}{b0:qO}{d0:Nat}{ys:List PB}{b2:qO}{d2:Nat}{b5:qO}{d5:Nat}{us:List TB}
end
theorem aMd {W w:qw}{c n d:Nat}{a:qO}{ms b:List Md}(h:RowM W c n ms b)(s:b.length=n)(p:MS w a n d ms):upS (jF b λi=>bnF$ b.getD i aM) n<=3*(n+upS (λj=>(ms.getD j aM).size) n):=by
 have f:∀i,i<n->jF b (λi=>bnF$ b.getD i aM) i<=2+3*(ms.getD i aM).size:=λi hi=>by
  have hc:=(h.2.2 i J).2;have:=(aAh (p.2.2.2.1 i hi) hc).2
  have e2:(b.getD i aM).tn=(ms.getD i aM).tn/\(b.getD i aM).bn=(ms.getD i aM).bn/\(b.getD i aM).dn=(ms.getD i aM).dn/\(b.getD i aM).rn=(ms.getD i aM).rn/\(b.getD i aM).im=(ms.getD i aM).im/\(b.getD i aM).en=(ms.getD i aM).en:=by
   obtain⟨y,A,B,C,D,E,G,e,_⟩:=hc
   grind
  obtain⟨g,k,l,f4,t,u⟩:=e2;have:(ms.getD i aM).size=(ms.getD i aM).nm.size+(ms.getD i aM).tn+((ms.getD i aM).bn+upS (λj=>((ms.getD i aM).bl.getD j zB).2.1) (ms.getD i aM).bn)+(ms.getD i aM).dn+(ms.getD i aM).rn+((ms.getD i aM).im+upS (λj=>((ms.getD i aM).ss.getD j zS).size) (ms.getD i aM).im)+((ms.getD i aM).en+upS (λj=>((ms.getD i aM).es.getD j zE).1.size) (ms.getD i aM).en):=rfl;unfold jF
  grind
 have:∀q,q<=n->upS (jF b λi=>bnF$ b.getD i aM) q<=2*q+3*upS (λj=>(ms.getD j aM).size) q:=by
  intro q
  induction q with
  | zero=>intro _;simp[upS]
  | succ q ih=>
    intro x;have:=f q J;show upS _ q+jF b (λi=>bnF$ b.getD i aM) q<=2*(q+1)+3*(upS _ q+(ms.getD q aM).size);omega
 grind
def eZ (M)(Y:Lyb)(a w)(h:MnD w M)(hl:Y.T w)(C:Cv M.cn Y.L)(ha:0<=a/\a<=4294967295):
 Calls Tryz.prog 134 #[.agg$ qA M,.agg$ qL Y.L Y.a0 Y.xs.length Y.c0 Y.a2 Y.L.slots.length Y.c2 Y.a5 Y.ts.length Y.c5,qI a] w (qB w$ .tuple #[qI$ if atB M.cn Y.L a=true then awy M.cn Y.L a/4 else 0,.bool$ atB M.cn Y.L a]):=by
 let⟨V,k⟩:=aO$ (w.alloc$ .cells (qA M) 43).alloc$ .cells (qL Y.L Y.a0 Y.xs.length Y.c0 Y.a2 Y.L.slots.length Y.c2 Y.a5 Y.ts.length Y.c5) 65;have I:qY w V:=by rw[k];exact bal.alloc Jb _
 have O:Blk V w.heap.size (qA M) 43:=by rw[k];exact(Blk.new _ _ _).alloc _
 have kL:Blk V (w.heap.size+1) (qL Y.L Y.a0 Y.xs.length Y.c0 Y.a2 Y.L.slots.length Y.c2 Y.a5 Y.ts.length Y.c5) 65:=by rw[k];have:=Blk.new (w.alloc$ .cells (qA M) 43) (qL Y.L Y.a0 Y.xs.length Y.c0 Y.a2 Y.L.slots.length Y.c2 Y.a5 Y.ts.length Y.c5) 65;simpa using this
 have t:=h.m.bw I;have c:0<=pcq (aI M.ms) M.md M.bk:=C.cz.p;let⟨⟨m0,m1⟩,_⟩:=pF t c;let⟨gm,i,ea,v0,v1,v2,v3,v4,v5,v6,v7⟩:=t.s.at M.md.toNat J;let⟨E,hE⟩:=aO$ M.ms.getD M.md.toNat aM;rw[<-hE]at v0 v1 v2 v3 v4 v5 v6 v7;have x:=zh λ(X:World)(b:qY V X)=>(tB t c hE.symm X b).mono (λe g B=>show ∃xa xn xc,e=.returned (.tuple #[qS xa xn xc,.bool true])/\(xn:Int)=pcq (aI M.ms) M.md M.bk/\qY V g from B);have U:Pkn (aI M.ms) Y.L Y.xs M.md M.bk 0:=mR (s:=0) (hl.bw I) C.cf.2.2.2.2 C.cz.p;let⟨S,hS⟩:=aO$ hld M.lz M.md M.bk;have a2:S=-1\/M.bk≠-1/\0<=S/\S<(Y.L.slots.length:Int):=by rw[hS];exact C.cz.s
 let⟨Z,hZ⟩:=aO$ eE Y.L (plc (aI M.ms) M.md.toNat) M.bk S;let⟨D,hD⟩:=aO$ a-Z;have hA:awy M.cn Y.L a=D:=by rw[hD,hZ,hS];rfl
 have a6:0<=Z/\Z<=100000:=by rw[hZ,hS];exact aO9 C
 have Q:=zh (λ(X:World)(b:qY V X)=>(dP M.la M.ln M.lc M.lz M.md M.bk X$ (h.l.bw I).bw b).mono (λe g B=>show e=.returned (qI S)/\qY V g from⟨by rw[B.1,hS],yT b B.2⟩));have P:=zh (λ(X:World)(b:qY V X)=>(lT Y.L Y.a0 Y.c0 Y.xs Y.a2 Y.c2 Y.a5 Y.c5 Y.ts M.md M.bk 0 S X ((hl.bw I).bw b) U.m0 U.m1 U.bb a2).mono (λe g B=>show e=.returned (qI Z)/\qY V g from⟨by rw[B.1,aEe,U.p,hZ],yT b B.2⟩));have G:=zh$ aQ7 C hA;let⟨r,u⟩:=aO$ atB M.cn Y.L a;rw[<-u]at G;rw[<-u,hA];have aa:IntKind.i64.wrap (a-Z)=D:=by rw[<-hD,xP,xQ _ J]
 have q1:=Int.tmod_add_mul_tdiv D 4;have q2:=Int.lt_tmod_of_pos D$ show(0:Int)<4 from J;have q3:=Int.tmod_lt_of_pos D$ show(0:Int)<4 from J;have a9:IntKind.i64.wrap (D.tdiv 4)=D.tdiv 4:=by rw[xP,xQ _ J]
 have ab:IntKind.i64.wrap (D.tmod 4)=D.tmod 4:=by rw[xP,xQ _ J]
 have K:=zh (λ(X:World)(b:qY V X)=>show(X.cell? ⟨w.heap.size,0,none⟩=qk (some ⟨gm,i,none⟩) M.mn M.mc/\X.cell? ⟨w.heap.size,10,none⟩=qj M.md/\X.cell? ⟨w.heap.size,11,none⟩=qj M.bk/\X.cell? ⟨w.heap.size,12,none⟩=qk M.la M.ln M.lc)/\(X.cell? ⟨gm,i+M.md.toNat*8,none⟩=some (.string E.nm)/\X.cell? ⟨gm,i+M.md.toNat*8+1,none⟩=qk E.ta E.tn E.tc/\X.cell? ⟨gm,i+M.md.toNat*8+2,none⟩=qk E.ba E.bn E.bc/\X.cell? ⟨gm,i+M.md.toNat*8+3,none⟩=qk E.da E.dn E.dc/\X.cell? ⟨gm,i+M.md.toNat*8+4,none⟩=qj E.bss/\X.cell? ⟨gm,i+M.md.toNat*8+5,none⟩=qk E.ra E.rn E.rc/\X.cell? ⟨gm,i+M.md.toNat*8+6,none⟩=qk E.ia E.im E.ic/\X.cell? ⟨gm,i+M.md.toNat*8+7,none⟩=qk E.ea E.en E.ec)/\(X.cell? ⟨w.heap.size+1,0,none⟩=qk Y.a0 Y.xs.length Y.c0/\X.cell? ⟨w.heap.size+1,1,none⟩=qj Y.L.stack/\X.cell? ⟨w.heap.size+1,2,none⟩=qk Y.a2 Y.L.slots.length Y.c2/\X.cell? ⟨w.heap.size+1,3,none⟩=qj Y.L.flash/\X.cell? ⟨w.heap.size+1,4,none⟩=qj Y.L.ram/\X.cell? ⟨w.heap.size+1,5,none⟩=qk Y.a5 Y.ts.length Y.c5)from
  ⟨⟨by rw[<-ea];exact(O.bw b).cell 0,(O.bw b).cell 10,(O.bw b).cell 11,(O.bw b).cell 12⟩,⟨aB b v0,aB b v1,aB b v2,aB b v3,aB b v4,aB b v5,aB b v6,aB b v7⟩,(kL.bw b).z6⟩)
 have HP:=zh c;generalize hq:pcq (aI M.ms) M.md M.bk=q at *;have HR:=zh (show r=true ↔ (D.tmod 4=0/\0<=D.tdiv 4/\D.tdiv 4<=q)from G.o.symm.trans (by unfold tgk;rw[show pcq M.cn.ps M.cn.md M.cn.bk=q from hq];have:=HP.o;omega));let⟨v,a0⟩:=aO$ if r=true then D/4 else 0;rw[<-a0];have a3:=zh a0;have HV:=zh k;have HB:=zh I;have N:=t.s.2.1;unfold maxLen at N;let⟨⟨x0,x1,x2,x3⟩,⟨e0,e1,e2,e3,e4,e5,e6,e7⟩,l0,l1,l2,l3,l4,l5⟩:=K V brf;clear k I O kL h hl C t c ea v0 v1 v2 v3 v4 v5 v6 v7 hE U a2 hS hZ hD hA a6 G u hq a0
 go_in
 go_wp2_with (rw[<-HV.o])
 go_region_held3 (λg=>g.cell? ⟨w.heap.size,0,none⟩=qk (some ⟨gm,i,none⟩) M.mn M.mc/\g.cell? ⟨w.heap.size,10,none⟩=qj M.md/\g.cell? ⟨w.heap.size,11,none⟩=qj M.bk/\g.cell? ⟨gm,i+M.md.toNat*8,none⟩=some (.string E.nm)/\g.cell? ⟨gm,i+M.md.toNat*8+1,none⟩=qk E.ta E.tn E.tc/\g.cell? ⟨gm,i+M.md.toNat*8+2,none⟩=qk E.ba E.bn E.bc/\g.cell? ⟨gm,i+M.md.toNat*8+3,none⟩=qk E.da E.dn E.dc/\g.cell? ⟨gm,i+M.md.toNat*8+4,none⟩=qj E.bss/\g.cell? ⟨gm,i+M.md.toNat*8+5,none⟩=qk E.ra E.rn E.rc/\g.cell? ⟨gm,i+M.md.toNat*8+6,none⟩=qk E.ia E.im E.ic/\g.cell? ⟨gm,i+M.md.toNat*8+7,none⟩=qk E.ea E.en E.ec) (go_keep)
  (first
    | (go_at_call 118;first
        | with_reducible refine(x.o _ brf).mono ?_
        | with_reducible refine(x.o _ brf.drew).mono ?_
       rintro e X1 ⟨xa,xn,xc,rfl,a1,A⟩;have a4:=zh A;let⟨⟨x0,x1,x2,x3⟩,⟨e0,e1,e2,e3,e4,e5,e6,e7⟩,l0,l1,l2,l3,l4,l5⟩:=K X1 A
       clear A))
 have f:=zh λ(X:World)(b:qY X1 X)=>Q X$ yT a4 b;have W:=zh a1;clear a1 e0 e1 e2 e3 e4 e5 e6 e7;go_wp2_with fail
 go_region_held3 (λg=>(g.cell? ⟨w.heap.size,10,none⟩=qj M.md/\g.cell? ⟨w.heap.size,11,none⟩=qj M.bk/\g.cell? ⟨w.heap.size,12,none⟩=qk M.la M.ln M.lc)/\g.cell? ⟨w.heap.size+1,0,none⟩=qk Y.a0 Y.xs.length Y.c0/\g.cell? ⟨w.heap.size+1,1,none⟩=qj Y.L.stack/\g.cell? ⟨w.heap.size+1,2,none⟩=qk Y.a2 Y.L.slots.length Y.c2/\g.cell? ⟨w.heap.size+1,3,none⟩=qj Y.L.flash/\g.cell? ⟨w.heap.size+1,4,none⟩=qj Y.L.ram/\g.cell? ⟨w.heap.size+1,5,none⟩=qk Y.a5 Y.ts.length Y.c5) (go_keep)
  (first
    | (go_at_call 74;first
        | with_reducible refine(f.o _ brf).mono ?_
        | with_reducible refine(f.o _ brf.drew).mono ?_
       rintro e X2 ⟨rfl,y⟩;have a7:=zh y;let⟨⟨x0,x1,x2,x3⟩,_,l0,l1,l2,l3,l4,l5⟩:=K X2 y
       clear y)
    | (go_at_call 123;with_reducible refine(P.o _ a7.o).mono ?_
       rintro e X3 ⟨rfl,H⟩;have l:=zh H;let⟨⟨x0,x1,x2,x3⟩,_,l0,l1,l2,l3,l4,l5⟩:=K X3 H
       clear H))
 clear x0 x1 x2 x3 l0 l1 l2 l3 l4 l5 K Q f P x N;have HF:=zh (λ(u:r=false)=>show r=false/\v=0 from⟨u,by rw[a3.o,u];rfl⟩);have d:∀{p:Prop},(r=true->p)->¬p->r=false:=λh1 h2=>by cases r;rfl;exact absurd (h1 rfl) h2
 by_cases d1:D<0
 .have j:=zh$ HF$ d (λq=>(HR.1 q)) J;clear d;go_wp2
  go_ret2
  exact⟨by rw[j.o.1,j.o.2];rfl,yT HB.o l.o⟩
 have a8:¬D<0:=d1;by_cases d2:D.tmod 4=0
 .have a5:(D.tmod 4 !=0)=false:=by simp[d2]
  by_cases d3:(xn:Int)<D.tdiv 4
  .have j:=zh$ HF$ d (λq=>(HR.1 q))$ jK W.o;clear d;go_wp2
   go_ret2
   exact⟨by rw[j.o.1,j.o.2];rfl,yT HB.o l.o⟩
  .have j:=zh (show r=true/\v=D.tdiv 4 by
    have u:r=true:=HR.2$ jK W.o
    exact⟨u,by rw[a3.o,if_pos u,Int.tdiv_eq_ediv_of_nonneg J]⟩)
   clear d HF;go_wp2
   go_ret2
   exact⟨by rw[j.o.1,j.o.2];rfl,yT HB.o l.o⟩
 .have a5:(D.tmod 4 !=0)=true:=by simp[d2]
  have j:=zh$ HF$ d (λq=>(HR.1 q)) J;clear d;go_wp2
  go_ret2
  exact⟨by rw[j.o.1,j.o.2];rfl,yT HB.o l.o⟩
