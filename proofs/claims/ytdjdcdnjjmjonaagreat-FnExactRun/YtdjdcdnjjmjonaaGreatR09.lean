import Derived.Deep.AppendLies
import Derived.Deep.RegionLaw
import Derived.Test.YtdjdcdnjjmjonaaGreatR08
set_option linter.all false
set_option maxHeartbeats 4000000
namespace Go.Proofs.YtdjdcdnjjmjonaaGreat
open Go.RowKit Go.Maps
open Go.Proofs.Tryz
set_option maxRecDepth 100000
variable {a:qO}{bl:List Bk}{bn c cap dn en im k n rn tn:Nat}{bss:Int}{es:List Ex}{ms':List Md}{nm s:ByteArray}{ss:List ByteArray}
theorem aHj (f:Nat->List UInt8)(s){k j:Nat}(h:fst? f s k=some j):∀n,k<=n->fst? f s n=some j
 | 0,hn=>by
   grind
 | n+1,hn=>by
   by_cases e:k=n+1
   .grind
   .rw[gP,aHj f s h n J]
def aLd (f:Nat->List UInt8)(s)(h:fst? f s k=none)(e:f k=s)(b:k<n):fst? f s n=some k:=
 aHj f s (k:=k+1) (by rw[gP,h];simp[e]) n b
def aHi (f:Nat->List UInt8)(s)(h:fst? f s k=none)(e:f k≠s):fst? f s (k+1)=none:=by
 rw[gP,h];simp[e]
theorem aRi (n ms k)(b:k<n)(h:16<(ms.getD k aM).en):tbf n ms=false:=by
 unfold tbf
 grind
theorem aNz (n ms)(b:n<=4)(h:∀j,j<n->(ms.getD j aM).en<=16):tbf n ms=true:=by
 unfold tbf
 grind
def aDx (a n ac ms s w)(h:MS w a n ac ms)(hn:n<=1048576)(hs:s.size<=1048576)(hE:∀i,i<n->ES w (ms.getD i aM).ea (ms.getD i aM).en (ms.getD i aM).ec (ms.getD i aM).es/\(ms.getD i aM).en<=1048576):
 qC 164 #[qS a n ac,.string s] w (qB w$ rsv n ms s):=by
 let⟨W,hW,a2,kb⟩:=nwb w (qT 0 0 0) 121;have HW:=zh hW;clear hW;have HF:=zh λw=>rM s w hs;have HD:=zh λw=>aCq s w hs;let⟨V,hV⟩:=aO$ rsv n ms s;rw[<-hV];have Y:=zh hV;clear hV
 have fin:∀(X:qw)(x y z:Int),qY w X->Blk X w.heap.size (qT 0 0 0) 121 ->
  Blk (((X.setCell (qh w 0)$ qI x).setCell (qh w 1)$ qI y).setCell (qh w 2)$ qI z) w.heap.size (qT x y z) 121/\qY w (((X.setCell (qh w 0)$ qI x).setCell (qh w 1)$ qI y).setCell (qh w 2)$ qI z):=λX x y z P k=>by
  refine⟨?_,((P.setCell (p:=(qh w 0)) aQ _).setCell (p:=(qh w 1)) aQ _).setCell (p:=(qh w 2)) aQ _⟩;have:=((k.set 0$ qI x).set 1$ qI y).set 2$ qI z;simpa using this
 have q:=zh fin;clear fin;by_cases c1:4<n
 .have ah:(4:Int)<(n:Int):=J
  have u:=zh (fK (n:=n) (ms:=ms) (s:=s) (by unfold rsT tbf;rw[xS$ show ¬n<=4 from J];simp));let⟨k2,a0⟩:=q W 0 0 0 a2 kb;let⟨q1,q2,q3,q4⟩:=kb.three;let⟨s1,s2,s3,s4⟩:=k2.three;have A:=zh a0;clear a0 a2 kb k2
  delta qC;go_in
  go_wp2_with (rw[<-HW.o])
  exact bodyPost_ret (v:=.tuple #[.agg$ qT 0 0 0,.bool false]) (by simp[results,results164,go_sem,s1,s2,s3]) rfl ⟨by rw[Y.o,u.o],A.o⟩
 .have ah:¬(4:Int)<(n:Int):=J
  cases O:gO s
  .rw[O]at HF;have u:=zh (fK (n:=n) (ms:=ms) (s:=s) (by unfold rsT;rw[O];simp));let⟨k2,a0⟩:=q W 0 0 0 a2 kb;let⟨q1,q2,q3,q4⟩:=kb.three;let⟨s1,s2,s3,s4⟩:=k2.three;have A:=zh a0;clear a0 a2 kb k2
   delta qC;go_in
   go_wp2_with (first|(rw[<-HW.o])|(go_at_call 244;refine(HF.o _).mono ?_;rintro e w1 ⟨rfl,rfl⟩))
   exact bodyPost_ret (v:=.tuple #[.agg$ qT 0 0 0,.bool false]) (by simp[results,results164,go_sem,s1,s2,s3]) rfl ⟨by rw[Y.o,u.o],A.o⟩
  .rw[O]at HF
   have ad:0<=dot s/\dot s<s.size:=by
    rcases tO s with h0|h0
    .exfalso;unfold gO at O;rw[h0]at O;simp at O
    .exact h0
   have HT:Zh (tbf n ms=true->rsT n ms s=(fst? (dK ms) (eK s).data.toList n).bind λi=>(fst? (gX (ms.getD i aM).es) (gB s).data.toList (ms.getD i aM).en).map λk=>(i,k)):=λS=>by unfold rsT;rw[O,S];simp
   have a5:Zh (tbf n ms=false->rsT n ms s=none):=λS=>by unfold rsT;rw[S];simp
   clear O
   delta qC;go_in
   go_wp2_with (first|(rw[<-HW.o])|(go_at_call 244;refine(HF.o _).mono ?_;rintro e w1 ⟨rfl,rfl⟩))
   go_loopw [6] (λi wr=>∃k:Nat,k<=n/\i=qI k/\Hid (∀j,j<k->(ms.getD j aM).en<=16)/\qY w wr/\Blk wr w.heap.size (qT 0 0 0) 121) (qf n)
   .exact⟨0,xC _,rfl,zh λj hj=>J,a2,kb⟩
   .obtain⟨k,hk,rfl,N,P,Z⟩:=hrel;clear a2 kb;by_cases f:k<n
    .have ae:(k:Int)<(n:Int):=J
     obtain⟨bb,off,rfl,q0,q1,q2,q3,q4,q5,q6,M⟩:=(h.bw P).at k f
     have HG:=zh (show(ms.getD k aM).en<=16->∀j,j<k+1->(ms.getD j aM).en<=16 from λh j hj=>by
      by_cases e:j=k
      .subst e;exact h
      .exact N.out j J)
     have HB:=zh$ aRi n ms k f;generalize ms.getD k aM=m at *;obtain⟨nm,ta,tn,tc,tz,ba,bn,bc,bl,da,dn,dc,dz,ak,ra,rn,rc,rz,ia,im,ic,ss,ea,en,ec,es⟩:=m;dsimp only at q0 q1 q2 q3 q4 q5 q6 M HB HG;by_cases d:16<en
     .have d':(16:Int)<(en:Int):=J
      have u:=zh$ fK$ a5$ HB d;let⟨k2,a0⟩:=q wr 0 0 0 P Z;let⟨p1,p2,p3,p4⟩:=Z.three;let⟨s1,s2,s3,s4⟩:=k2.three;have A:=zh a0;clear a0 P Z k2 q0 q1 q2 q3 q4 q5 q6;go_wp2;exact bodyPost_ret (v:=.tuple #[.agg$ qT 0 0 0,.bool false]) (by simp[results,results164,go_sem,s1,s2,s3]) rfl ⟨by rw[Y.o,u.o],A.o⟩
     .have d':¬(16:Int)<(en:Int):=J
      clear q0 q1 q2 q3 q4 q5 q6;go_wp2
      go_roundw
      .exact⟨k+1,J,by go_num,zh$ HG J,P,Z⟩
      .simp[qf,intOf];omega
    .have ag:k=n:=J
     subst ag;have C:=zh$ HT$ aNz k ms J N.out;clear HT a5 N hk f;unfold eK gB at C;generalize dot s=p at *;obtain⟨p0,p1⟩:=ad;go_wp2_with (go_at_call 246;refine(HD.o _).mono ?_;rintro e w1 ⟨rfl,rfl⟩)
     go_loopw [8] (λi wx=>∃j:Nat,j<=k/\i=qI j/\Hid (fst? (dK ms) (s.extract 0 p.toNat).data.toList j=none)/\qY w wx/\Blk wx w.heap.size (qT 0 0 0) 121) (qf k)
     .exact⟨0,xC _,rfl,zh rfl,P,Z⟩
     .obtain⟨j,hj,rfl,N,g,kx⟩:=hrel;clear P Z;by_cases f:j<k
      .have ae:(j:Int)<(k:Int):=J
       obtain⟨bb,off,rfl,q0,q1,q2,q3,q4,q5,q6,M⟩:=(h.bw g).at j f;have H:=zh λe=>aHi (dK ms) (s.extract 0 p.toNat).data.toList N.out e;have G:=zh λe=>aLd (dK ms) (s.extract 0 p.toNat).data.toList N.out e f;let⟨e1,e2⟩:=hE j f;have e3:=e1.bw g;clear e1;have a8:=zh λi(h:rsT k ms s=some (j,i))=>aF8 h;have U:Zh (dK ms j=(s.extract 0 p.toNat).data.toList->rsT k ms s=(fst? (gX (ms.getD j aM).es) (s.extract (p+1).toNat s.size).data.toList (ms.getD j aM).en).map (λi=>(j,i))):=λe=>by rw[C.o,G.o e];rfl
       have b:Zh (dK ms j=(ms.getD j aM).nm.data.toList):=rfl;clear G N;generalize dK ms j=mj at *;generalize ms.getD j aM=m at *;obtain⟨nm,ta,tn,tc,tz,ba,bn,bc,bl,da,dn,dc,dz,ak,ra,rn,rc,rz,ia,im,ic,ss,ea,en,ec,es⟩:=m;dsimp only at q0 q1 q2 q3 q4 q5 q6 M e2 e3 a8 U b;cases hq:(nm.toList==(s.extract 0 p.toNat).toList)
       .have Q:=zh (show mj≠(s.extract 0 p.toNat).data.toList from λe=>by
         rw[b.o]at e;rw[ByteArray.toList_eq,ByteArray.toList_eq,e]at hq
         simp at hq)
        clear q1 q2 q3 q4 q5 q6 M;go_wp2_with fail
        go_quiet (fail)
        go_wp2
        go_roundw
        .exact⟨j+1,J,by go_num,zh$ H Q,below_drewN g nq,kx.bw$ below_drewN brf nq⟩
        .simp[qf,intOf];omega
       .have a3:=zh (U (by
         rw[b.o];rw[ByteArray.toList_eq,ByteArray.toList_eq]at hq
         simpa using hq))
        clear U C H b;clear q1 q2 q3 q4 q5 q6;go_wp2_with fail
        go_quiet (fail)
        have a6:(wr.drewN nq).cell? (qR bb$ off+j*8+7)=qk ea en ec:=((below_drewN (Below.refl wr.heap.size wr) nq).cell$ xD wr _ M).trans M;have e4:=e3.bw$ below_drewN (Below.refl wr.heap.size wr) nq;have ai:=below_drewN g nq;have k4:=kx.bw$ below_drewN (Below.refl wr.heap.size wr) nq;clear q0 M e3 g kx;generalize wr.drewN nq=w4 at *;go_wp2;go_loopw [9] (λi wy=>∃l:Nat,l<=en/\i=qI l/\Hid (fst? (gX es) (s.extract (p+1).toNat s.size).data.toList l=none)/\qY w4 wy) (qf en)
        .exact⟨0,xC _,rfl,zh rfl,brf⟩
        .obtain⟨l,hl,rfl,HL,t⟩:=hrel;have M:qN wr bb (off+j*8+7)=qk ea en ec:=(t.cell$ xD w4 _ a6).trans a6;have I:=yT ai t;have k5:=k4.bw t;by_cases ab:l<en
         .have am:(l:Int)<(en:Int):=J
          have e5:=e4.bw t;obtain⟨eb,eo,rfl⟩:=e5.addr J;let⟨x0,x1,x2⟩:=e5.at l ab;have H:=zh λe=>aHi (gX es) (s.extract (p+1).toNat s.size).data.toList HL.out e;have G:=zh λe=>aLd (gX es) (s.extract (p+1).toNat s.size).data.toList HL.out e ab;have b:Zh (gX es l=(es.getD l zE).1.data.toList):=rfl;have a7:=zh$ a8 l;generalize gX es l=xl at *;generalize es.getD l zE=E at *;obtain⟨xn,xb,xa⟩:=E;dsimp only at x0 x1 x2 b a7;have B:qY wr (wr.alloc$ .cells #[.string xn,qI xb,qI xa] 209):=bal;have kE:=Blk.new wr #[.string xn,qI xb,qI xa] 209;have k6:=k5.bw B;have a9:=yT I B;have K:=yT t B;clear I k5;have z1:=kE.three;cases D:(xn.toList==(s.extract (p+1).toNat s.size).toList)
          .have Q:=zh (show xl≠(s.extract (p+1).toNat s.size).data.toList from λe=>by
            rw[b.o]at e;rw[ByteArray.toList_eq,ByteArray.toList_eq,e]at D
            simp at D)
           go_wp2_with fail
           go_quiet (fail)
           go_wp2
           go_roundw
           .exact⟨l+1,J,by go_num,zh$ H Q,below_drewN K nq⟩
           .simp[qf,intOf];omega
          .have u:=zh (a7 (by
            rw[a3.o,G.o (by
             rw[b.o];rw[ByteArray.toList_eq,ByteArray.toList_eq]at D
             simpa using D)]
            rfl))
           go_wp2_with fail
           go_quiet (fail)
           have k7:=k6.bw$ below_drewN brf nq;have aa:=kE.bw$ below_drewN brf nq;have a4:=below_drewN a9 nq;generalize (wr.alloc$ .cells #[.string xn,qI xb,qI xa] 209).drewN nq=w7 at *;clear z1 k6 kE a9 K B;have z1:=aa.three;let⟨k8,a1⟩:=q w7 j xb xa a4 k7;have g1:=k7.three;let⟨s1,s2,s3,s4⟩:=k8.three;have A:=zh a1;clear a1 a4 k7 k8 aa;go_wp2;exact bodyPost_ret (v:=.tuple #[.agg$ qT j xb xa,.bool true]) (by simp[results,results164,go_sem,s1,s2,s3]) rfl ⟨by rw[Y.o,u.o],A.o⟩
         .have af:l=en:=J
          subst af;have u:=zh (fK (n:=k) (ms:=ms) (s:=s) (by rw[a3.o,HL.out];rfl));let⟨k8,a1⟩:=q wr 0 0 0 I k5;have g1:=k5.three;let⟨s1,s2,s3,s4⟩:=k8.three;have A:=zh a1;clear a1 I k5 k8;go_wp2;exact bodyPost_ret (v:=.tuple #[.agg$ qT 0 0 0,.bool false]) (by simp[results,results164,go_sem,s1,s2,s3]) rfl ⟨by rw[Y.o,u.o],A.o⟩
      .have aj:j=k:=J
       subst aj;have u:=zh (fK (n:=j) (ms:=ms) (s:=s) (by rw[C.o,N.out];rfl));let⟨k8,a1⟩:=q wr 0 0 0 g kx;have g1:=kx.three;let⟨s1,s2,s3,s4⟩:=k8.three;have A:=zh a1;clear a1 g kx k8;go_wp2;exact bodyPost_ret (v:=.tuple #[.agg$ qT 0 0 0,.bool false]) (by simp[results,results164,go_sem,s1,s2,s3]) rfl ⟨by rw[Y.o,u.o],A.o⟩
def aCx {f g:Nat->List UInt8}{s:List UInt8}:∀k,(∀i,i<k->f i=g i)->fst? f s k=fst? g s k
 | 0,_=>rfl
 | k+1,h=>by rw[gP,gP,aCx k λi hi=>h i J,h k J]
theorem vE {f g:Nat->Bool}:∀n,(∀i,i<n->f i=g i)->(List.range n).all f=(List.range n).all g
 | 0,_=>rfl
 | n+1,h=>by grind
def aXl (n:Nat)(ms ms':List Md):Prop:=∀i,i<n->(ms'.getD i aM).nm=(ms.getD i aM).nm/\(ms'.getD i aM).en=(ms.getD i aM).en/\(ms'.getD i aM).es=(ms.getD i aM).es
def aU5 {ms:List Md}{i:Nat}(h:rsT n ms s=some (i,k)):i<n:=by
 unfold rsT at h;split at h
 .cases b:fst? (dK ms) (eK s).data.toList n with
  | none=>rw[b]at h;cases h
  | some j=>
    rw[b]at h;simp at h;obtain⟨d,a,rfl,rfl⟩:=h;exact zO _ _ _ _ b
 .cases h
theorem aMc {ms:List Md}(h:aXl n ms ms'):rsT n ms' s=rsT n ms s:=by
 unfold rsT
 have e1:tbf n ms'=tbf n ms:=by
  unfold tbf;rw[vE n (λi hi=>by rw[(h i hi).2.1])]
 have e2:fst? (dK ms') (eK s).data.toList n=fst? (dK ms) (eK s).data.toList n:=aCx n (λi hi=>by unfold dK;rw[(h i hi).1]);rw[e1,e2];cases b:fst? (dK ms) (eK s).data.toList n with
 | none=>rfl
 | some j=>
   let⟨_,a,d⟩:=h j$ zO _ _ _ _ b
   grind
theorem RowM.ms {W w:qw}{ms:List Md}(h:RowM W c n ms ms')(d:ms'.length=n)(b:MS w a n cap ms):MS W (qP c) n n ms':=by
 obtain⟨_,_,e⟩:=h;refine⟨d,b.2.1,λ_=>⟨c,0,rfl,λi hi=>?_⟩,λi hi=>aLl (b.2.2.2.1 i hi) (e i J).2,aQ⟩
 grind
def RowM.same {W f:qw}{c':Nat}{ms x y:List Md}{w:qw}(d:MS w a n cap ms)(h:RowM W c n ms x)(g:x.length=n)(e:RowM f c' n ms y)(b:y.length=n):∀i,i<n->aRe (x.getD i aM) (y.getD i aM):=λi hi=>
 aF4 (d.2.2.2.1 i hi).b.1 (h.2.2 i J).2 (e.2.2 i J).2
structure Vm (nm:ByteArray)(tn:Nat)(tz:qi)(bn:Nat)(bl:List Bk)(dn:Nat)(bss:Int)(rn:Nat)(rz:qi)(im:Nat)(ss:List ByteArray)(en:Nat)(es:List Ex):Prop where
 n:nm.size<=12
 t:tn<=200
 tw:∀z∈tz,0<=z/\z<=4294967295
 b:bn<=4
 bw:∀i,i<bl.length->(bl.getD i zB).2.1<=64/\∀z∈(bl.getD i zB).2.2.2,0<=z/\z<=4294967295
 d:dn<=512
 s:0<=bss/\bss<=512
 r:rn<=16
 rw:∀i,i<rn->0<=rz.getD i 0/\rz.getD i 0<=512
 i:im<=16
 iw:∀i,i<im->(ss.getD i zS).size<=25
 e:en<=16
 ew:∀i,i<en->(es.getD i zE).1.size<=12/\-1<=(es.getD i zE).2.1/\(es.getD i zE).2.1<=4/\0<=(es.getD i zE).2.2/\(es.getD i zE).2.2<=200
theorem aKk {b:qi}(h:wds b=true):∀z∈b,0<=z/\z<=4294967295:=λz a=>by
 unfold wds at h
 grind
theorem rC (h:nmo s=true):s.size<=12:=by
 unfold nmo at h
 grind
def aNh (h:gO s=true):s.size<=25:=by
 unfold gO at h;simp only[Bool.and_eq_true,decide_eq_true_eq]at h;obtain⟨f,d,e⟩:=h;have a:=rC d;have b:=rC e;unfold eK at a;unfold gB at b;simp only[ByteArray.size_extract]at a b;omega
theorem aD2 {f:Nat->Bool}(h:(List.range n).all f=true)(i)(hi:i<n):f i=true:=by grind
theorem jZ {e:qi}{rz:qi}(j:bl.length=bn)(h:mdo nm tn e bn bl dn bss rn rz im ss en es=0):Vm nm tn e bn bl dn bss rn rz im ss en es:=by
 unfold mdo at h;by_cases k:nmo nm=false
 .grind
 rw[if_neg k]at h;by_cases c2:cdo tn e bn bl=false
 .grind
 rw[if_neg c2]at h;by_cases q:512<dn\/bss<0\/512<bss
 .grind
 rw[if_neg q]at h;by_cases a:rlo rn rz dn=false
 .grind
 rw[if_neg a]at h;by_cases b:imo im ss=false
 .grind
 rw[if_neg b]at h;by_cases d:exo tn bn bl en es=false
 .grind
 simp only[Bool.not_eq_false]at k c2 a b d;unfold cdo at c2;unfold rlo at a;unfold imo at b;unfold exo at d;simp only[Bool.and_eq_true,decide_eq_true_eq]at c2 a b d;obtain⟨⟨t,u⟩,w,p⟩:=c2
 have f:∀i,i<bl.length->(bl.getD i zB).2.1<=64/\∀z∈(bl.getD i zB).2.2.2,0<=z/\z<=4294967295:=λi hi=>by
  rw[List.all_eq_true]at p;have g:bl.getD i zB∈bl:=by grind
  have:=p _ g;unfold bko at this;simp only[Bool.and_eq_true,decide_eq_true_eq]at this;exact⟨this.1.2,aKk this.2⟩
 refine⟨rC k,t,aKk w,u,f,J,J,a.1,λi hi=>?_,b.1,λi hi=>aNh$ aD2 b.2 i hi,d.1,λi hi=>?_⟩
 .have:=aD2 a.2 i hi;unfold rlk at this
  grind
 .have:=aD2 d.2 i hi;unfold ex1 at this;simp only[Bool.and_eq_true,decide_eq_true_eq]at this;obtain⟨⟨s,x,y⟩,_⟩:=this;have A:=rC s
  have l:pcn tn bn bl (es.getD i zE).2.1<=200/\(0<pcn tn bn bl (es.getD i zE).2.1->-1<=(es.getD i zE).2.1/\(es.getD i zE).2.1<=4):=by
   unfold pcn;split
   .omega
   .split
    .next h1 h2=>
     grind
    .omega
  grind
def aHz (xs:List Nat)(bl:List Bk)(i:Nat):qO×Nat×Nat:=(some$ qR (xs.getD i 0) 0,(bl.getD i zB).2.1,(bl.getD i zB).2.1)
def aB6 (xs:List Nat)(a:List Bk):∀n,cC (aHz xs a) n=upS (λj=>(a.getD j zB).2.1) n
 | 0=>rfl
 | n+1=>by show cC (aHz xs a) n+_=upS _ n+_;rw[aB6 xs a n];rfl
def aVl {O:qO}{b:Nat}{t:qi}{K:qO}{x:Nat}{I:qO}{H:Nat}{q:qi}{ra:qO}{rc:Nat}{rz:qi}{N:qO}{M:Nat}{B:qO}{A:Nat}{w W:qw}{f e g j p l:Nat}{d:List Nat}(h:MT w nm O tn b t K bn x bl I dn H q bss ra rn rc rz N im M ss B en A es)(V:d.length=bn)
 (C:RowI W f t) (E:RowB W e bn d bl) (G:Row8 W g q) (Q:RowI W j rz) (y:RowT W p ss) (P:RowX W l es) {S:Nat->Prop} (s1:S f) (s2:¬S e) (D:∀i,i<bn->S (d.getD i 0)) (s3:S g) (s5:S j) (u:S p) (U:S l):
 Sl S W (qP f) tn 1/\SlB S W (qP e) bn (aHz d bl)/\Sl S W (qP g) dn 1/\Sl S W (qP j) rn 1/\Sl S W (qP p) im 1/\Sl S W (qP l) en 3:=by
 obtain⟨⟨a,k,Z,hc⟩,s,_⟩:=E;obtain⟨⟨Y,hx,X⟩,_⟩:=P;refine⟨Sl.ofBlk (c:=b) C s1 (by simp[h.t.1]),⟨λ_=>⟨e,0,a,_,rfl,s2,k,λi hi=>by rw[Nat.zero_add];exact hc i J⟩,λi hi=>?_⟩,Sl.ofBlk (c:=b) G s3 (by simp[h.d.1]),Sl.ofBlk (c:=b) Q s5 (by simp[h.r.1]),Sl.ofBlk (c:=b) y u (by simp[h.i.1]),Sl.ofBlk (c:=b) hx U (by rw[X,h.e.1];exact aQ)⟩;exact Sl.ofBlk (c:=b) (s i J).1 (D i hi) (by have e1:(aHz d bl i).2.1=(bl.getD i zB).2.1:=rfl;have e2:=(h.b.2.2.2.1 i hi).1;rw[e1,List.size_toArray,xH,e2];omega)
theorem dU {α:Type}(z)(xs b:List α)(k)(h:xs.take k=b.take k)(hx:k<xs.length)(d:k<b.length)(e:xs.getD k z=b.getD k z):xs.take (k+1)=b.take (k+1):=by
 rw[List.take_succ_eq_append_getElem hx,List.take_succ_eq_append_getElem d,h]
 grind
def aB9 {x:Nat}(C:x=248\/x=307)(a y n H p I xs s w)(h:IS w a n H xs)(D:IS w y p I s):
 qC x #[qS a n H,qS y p I] w (qB w$ .bool$ decide$ xs=s):=by
 rcases C with rfl|rfl
 all_goals
  obtain⟨M,Q,X,hc,_⟩:=h;obtain⟨P,S,Y,O,_⟩:=D;unfold maxLen at Q S;by_cases U:n=p
  .subst U;have q:((n:Int) !=(n:Int))=false:=Jb
   by_cases f:n=0
   .subst f;obtain rfl:xs=[]:=xE M;obtain rfl:s=[]:=xE P
    delta qC;go_in
    go_wp2;first|(go_loop [5] (λi=>i=qI 0) (λ_=>0);focus (rfl))|(go_loop [13] (λi=>i=qI 0) (λ_=>0);focus (rfl))
    .obtain rfl:=hrel;go_wp2;go_ret;exact⟨rfl,brf⟩
   .obtain⟨b,off,rfl,hd⟩:=hc f;obtain⟨N,W,rfl,K⟩:=O f
    delta qC;go_in
    go_wp2;first|(go_loopw [5] (λi wr=>∃k:Nat,k<=n/\i=qI k/\xs.take k=s.take k/\qY w wr) (qf n);focus (exact⟨0,xC _,rfl,Jb,brf⟩))|(go_loopw [13] (λi wr=>∃k:Nat,k<=n/\i=qI k/\xs.take k=s.take k/\qY w wr) (qf n);focus (exact⟨0,xC _,rfl,Jb,brf⟩))
    .obtain⟨k,E,rfl,u,g⟩:=hrel;by_cases d:k<n
     .have A:(k:Int)<(n:Int):=J
      have t:qN wr b (off+k)=qj (xs.getD k 0):=(g.cell$ xD w _$ hd k d).trans$ hd k d;have:qN wr N (W+k)=qj (s.getD k 0):=(g.cell$ xD w _$ K k d).trans$ K k d;by_cases l:xs.getD k 0=s.getD k 0
      .have hS:=oM xs s k u J J l;have B:Zh (xs.take (k+1)=s.take (k+1)):=hS;rw[l]at t;generalize s.getD k 0=z at *;have V:(z !=z)=false:=Jb
       go_wp2
       go_quiet (fail)
       go_wp2
       go_roundw
       .exact⟨k+1,J,by go_num,B,below_drewN g _⟩
       .simp[qf,intOf];omega
      .have j:Zh (decide (xs=s)=false):=by
        show _=_;simp;intro e;exact l (by rw[e])
       have V:(xs.getD k 0 !=s.getD k 0)=true:=by simpa using l
       generalize s.getD k 0=z at *;generalize xs.getD k 0=G at *;go_wp2
       go_quiet (fail)
       go_wp2;go_ret;exact⟨aA j.symm,below_drewN g _⟩
     .have j:Zh (decide (xs=s)=true):=by
       show _=_;simp;rw[xG J,xG J]at u;exact u
      go_wp2;go_ret;exact⟨aA j.symm,g⟩
  .have j:Zh (decide (xs=s)=false):=by
    show _=_;simp;intro e;rw[e]at M;omega
   have q:((n:Int) !=(p:Int))=true:=Jc
   delta qC;go_in
   go_wp2;go_ret;exact⟨aA j.symm,brf⟩
def nE:=@aB9 _$ .inl rfl
def pZ:=@aB9 _$ .inr rfl
def fQ (w:qw)(pc:Int)(n:Nat)(zs:qi)(e:Ending)(w':qw):Prop:=
 ∃a' cap',e=.returned (.agg #[qI pc,qS a' n cap'])/\OI w' w.heap.size (qS a' n cap') zs/\qY w w'
def Blk.two' {w:qw}{g:Nat}{a b:Value}{t:TypeId}(h:Blk w g #[a,b] t):w.cell? (qR g 0)=some a/\w.cell? (qR g 1)=some b/\∀i,w.frozen? (qR g i)=false:=
 ⟨by rw[h.cell];rfl,by rw[h.cell];rfl,λi=>h.frozen i⟩
