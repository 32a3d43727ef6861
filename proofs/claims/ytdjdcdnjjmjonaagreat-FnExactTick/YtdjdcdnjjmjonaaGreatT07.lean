import Derived.Deep.OwnRows
import Derived.Laws.CopyOwn
import Derived.Maps.AppendAt
import Derived.Test.YtdjdcdnjjmjonaaGreatT06
set_option linter.all false
set_option maxHeartbeats 8000000
namespace Go.Proofs.YtdjdcdnjjmjonaaGreat
open Go.RowKit Classical
set_option maxRecDepth 100000
variable {L:Lay}{P:PMod}{ps:List PMod}
def sR (a3 n c0 xs st a2 sn c2 fl rm a5 q c5 ts a4 R a7 a0 ae a9 ad aa ab ac a6 t a8 a1 w)(h0:PlS w a3 n c0 xs)(h1:TsS w a5 q c5 ts)(I:PlS w a4 R a7 a0)(H:TsS w a6 t a8 a1):
 qC 247 #[.agg #[qS a3 n c0,qI st,qS a2 sn c2,qI fl,qI rm,qS a5 q c5],.agg #[qS a4 R a7,qI ae,qS a9 ad aa,qI ab,qI ac,qS a6 t a8]] w λe w'=>e=.returned (.bool$ decide$ xs.map (λx=>x.1)=a0.map (λx=>x.1)/\ts.map (λx=>x.1)=a1.map (λx=>x.1))/\qY w w':=by
 let⟨r,hr⟩:=aN$ decide$ xs.map (λx=>x.1)=a0.map (λx=>x.1)/\ts.map (λx=>x.1)=a1.map (λx=>x.1);rw[<-hr];have Q:=zh hr;clear hr;have am:=h0.2.1;have aq:=h1.2.1;have Z:=I.2.1;have X:=H.2.1;unfold maxLen at am aq Z X;have ba:=h0.1;have b8:=h1.1;have b5:=I.1;have b4:=H.1;have B0:qY w ((w.alloc$ .cells #[qS a3 n c0,qI st,qS a2 sn c2,qI fl,qI rm,qS a5 q c5] 65).alloc$ .cells #[qS a4 R a7,qI ae,qS a9 ad aa,qI ab,qI ac,qS a6 t a8] 65):=bal.alloc Jb _;have u:=(Blk.new w #[qS a3 n c0,qI st,qS a2 sn c2,qI fl,qI rm,qS a5 q c5] 65).alloc$ .cells #[qS a4 R a7,qI ae,qS a9 ad aa,qI ab,qI ac,qS a6 t a8] 65;have v:=Blk.new (w.alloc$ .cells #[qS a3 n c0,qI st,qS a2 sn c2,qI fl,qI rm,qS a5 q c5] 65) #[qS a4 R a7,qI ae,qS a9 ad aa,qI ab,qI ac,qS a6 t a8] 65;try unfold qY at *
 simp only[xF]at v;have HK:=zh$ xA B0$ xA u v;clear u v;by_cases n1:n=R
 rotate_left
 .have g1:((n:Int) !=(R:Int))=true:=Jc
  have f:=zh (show r=false by
   rw[Q.o,decide_eq_false_iff_not];intro e;have:=congrArg List.length e.1;simp at this
   omega)
  clear Q
  delta qC;go_in
  go_wp2;go_ret;exact⟨aA f.symm,HK.1⟩
 subst n1;have g1:((n:Int) !=(n:Int))=false:=Jb
 by_cases n2:q=t
 rotate_left
 .have g2:((q:Int) !=(t:Int))=true:=Jc
  have f:=zh (show r=false by
   rw[Q.o,decide_eq_false_iff_not];intro e;have:=congrArg List.length e.2;simp at this
   omega)
  clear Q
  delta qC;go_in
  go_wp2;go_ret;exact⟨aA f.symm,HK.1⟩
 subst n2;have g2:((q:Int) !=(q:Int))=false:=Jb
 have M:=zh$ xA h0$ xA I$ xA h1 H;clear h0 I h1 H B0
 delta qC;go_in
 go_wp2;go_loopw [5] (λi wr=>∃k:Nat,k<=n/\i=qI k/\(xs.map λx=>x.1).take k=(a0.map λx=>x.1).take k/\qY w wr/\Blk wr w.heap.size #[qS a3 n c0,qI st,qS a2 sn c2,qI fl,qI rm,qS a5 q c5] 65/\Blk wr (w.heap.size+1) #[qS a4 n a7,qI ae,qS a9 ad aa,qI ab,qI ac,qS a6 q a8] 65) (qf n)
 .exact⟨0,xC _,rfl,Jb,HK.o⟩
 .obtain⟨k,hk,rfl,p,s⟩:=hrel;clear HK;have s:=zh s;generalize wr=wo at *;have p0:=(s.2.1).ly6;have V:=(s.2.2).ly6;by_cases ah:k<n
  .have b6:(k:Int)<(n:Int):=J
   obtain⟨b,ax,rfl,s0,s1,s2,s3⟩:=(M.1.bw s.1).at k ah;obtain⟨b',ay,rfl,t0,t1,t2,t3⟩:=(M.2.1.bw s.1).at k J;have i1:=(M.1.bw s.1).2.2.2.1 k ah;have i2:=(M.2.1.bw s.1).2.2.2.1 k J;have d:Zh ((xs.getD k zPB).1=(a0.getD k zPB).1->(xs.map λx=>x.1).take (k+1)=(a0.map λx=>x.1).take (k+1)):=λg=>dW zPB.1 _ _ k p Jc Jc (by rw[bR _ _ _ zPB _,bR _ _ _ zPB _,g])
   have a:=zh (show(xs.getD k zPB).1≠(a0.getD k zPB).1->r=false from λg=>by
    rw[Q.o,decide_eq_false_iff_not];intro e;have e2:=congrArg (λl=>l.getD k zPB.1) e.1;try simp only at e2
    rw[bR _ _ _ zPB _,bR _ _ _ zPB _]at e2
    exact g e2)
   clear p;unfold svP at s1 t1;generalize xs.getD k zPB=x at *;generalize a0.getD k zPB=y at *;obtain⟨⟨xt,xb,xd,xz⟩,xa,xc⟩:=x;obtain⟨⟨yt,yb,yd,yz⟩,ya,yc⟩:=y;dsimp only at s0 s1 s2 s3 t0 t1 t2 t3 i1 i2 d a;have bb:=s.2.1.lt;have b1:=s.2.2.lt;have bc:=xD _ _ s0;have b3:=xD _ _ t0;have C:qY wo ((wo.alloc$ .cells #[qI xt,qS xa xb.length xc,qI xd,qI xz] 170).alloc$ .cells #[qI yt,qS ya yb.length yc,qI yd,qI yz] 170):=bal.alloc Jb _;have D:=zh$ nA xa ya xb.length xc yb.length yc xb yb _ (i1.bw C)$ i2.bw C;have F:=zh$ xA (yT s.1 C)$ xA (s.2.1.bw C)$ s.2.2.bw C;have kp:=(Blk.new wo #[qI xt,qS xa xb.length xc,qI xd,qI xz] 170).alloc$ .cells #[qI yt,qS ya yb.length yc,qI yd,qI yz] 170;have S:=Blk.new (wo.alloc$ .cells #[qI xt,qS xa xb.length xc,qI xd,qI xz] 170) #[qI yt,qS ya yb.length yc,qI yd,qI yz] 170;try unfold qY at *
   simp only[xF]at S;have N:=zh$ xA kp S;clear i1 i2 C s kp S;by_cases e1:xt=yt
   rotate_left
   .have g3:(xt !=yt)=true:=by simpa using e1
    have f:Zh (r=false):=a λe=>e1 (by injection e);clear a d D;go_wp2;go_ret;exact⟨aA f.symm,F.1⟩
   have g3:(xt !=yt)=false:=by simpa using e1
   have ar:=zh e1;clear e1;go_wp2_with fail
   apply D.mono;rintro e w1 ⟨rfl,E⟩;have K:=zh$ xA (yT F.1 E)$ xA (F.2.1.bw E)$ F.2.2.bw E;have kp:=N.1.bw E;have S:=N.2.bw E;have x0:=kp.e2;have x1:=kp.e3;have y0:=S.e2;have y1:=S.e3;clear E kp S N F p0 V s0 s1 s2 s3 t0 t1 t2 t3;by_cases e2:xb=yb
   rotate_left
   .rw[xS e2];have f:Zh (r=false):=a λe=>e2 (by injection e);clear a d D;go_wp2;go_ret;exact⟨aA f.symm,K.1⟩
   rw[xR e2];have au:=zh e2;clear e2;by_cases e3:xd=yd
   rotate_left
   .have g4:(xd !=yd)=true:=by simpa using e3
    have f:Zh (r=false):=a λe=>e3 (by injection e);clear a d D;go_wp2;go_ret;exact⟨aA f.symm,K.1⟩
   have g4:(xd !=yd)=false:=by simpa using e3
   have ao:=zh e3;clear e3;by_cases e4:xz=yz
   rotate_left
   .have g5:(xz !=yz)=true:=by simpa using e4
    have f:Zh (r=false):=a λe=>e4 (by injection e);clear a d D;go_wp2;go_ret;exact⟨aA f.symm,K.1⟩
   have g5:(xz !=yz)=false:=by simpa using e4
   have ap:=zh e4;clear e4;have HG:=zh (d.o (by rw[ar.o,au.o,ao.o,ap.o]));clear d a D;go_wp2
   go_roundw
   .exact⟨k+1,J,by go_num,HG,K⟩
   .simp[qf,intOf];omega
  .have av:=zh (show xs.map (λx=>x.1)=a0.map (λx=>x.1)by
    rw[xG Jc,xG Jc]at p
    exact p)
   clear p;go_wp2;clear p0 V;go_loopw [8] (λi wr=>∃m:Nat,m<=q/\i=qI m/\(ts.map λx=>x.1).take m=(a1.map λx=>x.1).take m/\qY w wr/\Blk wr w.heap.size #[qS a3 n c0,qI st,qS a2 sn c2,qI fl,qI rm,qS a5 q c5] 65/\Blk wr (w.heap.size+1) #[qS a4 n a7,qI ae,qS a9 ad aa,qI ab,qI ac,qS a6 q a8] 65) (qf q)
   .exact⟨0,xC _,rfl,Jb,s.o⟩
   .clear s;obtain⟨m,hm,rfl,p,A⟩:=hrel;have A:=zh A;generalize wr=wn at *;have p0:=(A.2.1).ly6;have V:=(A.2.2).ly6;by_cases U:m<q
    .have b0:(m:Int)<(q:Int):=J
     obtain⟨b,ax,rfl,s0⟩:=(M.2.2.1.bw A.1).at m U;obtain⟨b',ay,rfl,t0⟩:=(M.2.2.2.bw A.1).at m J;have I1:=zh$ M.2.2.1.2.2.2.1 m U;have I2:=zh$ M.2.2.2.2.2.2.1 m J;have d:Zh ((ts.getD m zTB).1=(a1.getD m zTB).1->(ts.map λx=>x.1).take (m+1)=(a1.map λx=>x.1).take (m+1)):=λg=>dW zTB.1 _ _ m p Jc Jc (by rw[bR _ _ _ zTB _,bR _ _ _ zTB _,g])
     have a:=zh (show(ts.getD m zTB).1≠(a1.getD m zTB).1->r=false from λg=>by
      rw[Q.o,decide_eq_false_iff_not];intro e;have e2:=congrArg (λl=>l.getD m zTB.1) e.2;try simp only at e2
      rw[bR _ _ _ zTB _,bR _ _ _ zTB _]at e2
      exact g e2)
     have O:=zb wn λW hb=>xA (aB hb s0)$ aB hb t0;clear p;unfold svT at s0 t0 O;generalize ts.getD m zTB=x at *;generalize a1.getD m zTB=y at *;obtain⟨P,xa,xc⟩:=x;obtain⟨yl,ya,yc⟩:=y;dsimp only at s0 t0 I1 I2 d a O;have aj:=I1.2.1;have ak:=I2.2.1;unfold maxLen at aj ak;by_cases e1:P.length=yl.length
     rotate_left
     .have g3:((P.length:Int) !=(yl.length:Int))=true:=Jc
      have f:Zh (r=false):=a.o (λe=>e1 (by rw[e]));clear a d;go_wp2
      go_quiet (fail)
      go_wp2;go_ret;exact⟨aA f.symm,below_drewN A.1 _⟩
     have g3:((P.length:Int) !=(yl.length:Int))=false:=Jc
     go_wp2
     go_quiet (fail)
     go_wp2;clear p0 V s0 t0;go_loopw [9] (λi wr=>∃j:Nat,j<=P.length/\i=qI j/\P.take j=yl.take j/\qY wn wr) (qf P.length)
     .exact⟨0,xC _,rfl,Jb,below_drewN brf _⟩
     .obtain⟨j,hj,rfl,p,G⟩:=hrel;have G:=zh G;generalize wr=wm at *;let⟨s0,t0⟩:=O wm G;have p0:=(A.2.1.bw G).ly6;have V:=(A.2.2.bw G).ly6;have B:=zh$ yT A.1 G;by_cases aw:j<P.length
      .have b2:(j:Int)<(P.length:Int):=J
       have az:(j:Int)<(yl.length:Int):=J
       obtain⟨bx,ox,rfl,u0,u1,u2⟩:=((I1.bw B)).at j aw;obtain⟨be,oy,rfl,v0,v1,v2⟩:=((I2.bw B)).at j J;have HS:Zh (P.getD j zT=yl.getD j zT->P.take (j+1)=yl.take (j+1)):=λg=>dW zT _ _ j p J J g;have HF:Zh (P.getD j zT≠yl.getD j zT->r=false):=λg=>a.o (λe=>g (by rw[e]));clear p;generalize P.getD j zT=z at *;generalize yl.getD j zT=z' at *;obtain⟨z0,z1,z2⟩:=z;obtain⟨af,ag,z2'⟩:=z';dsimp only at u0 u1 u2 v0 v1 v2;by_cases g:(z0,z1,z2)=((af,ag,z2'):Tg)
       .have an:=zh$ HS g;simp only[Prod.mk.injEq]at g;obtain⟨rfl,rfl,rfl⟩:=g;clear HS HF;go_wp2
        go_quiet (fail)
        go_wp2
        go_roundw
        .exact⟨j+1,J,by go_num,an,below_drewN G _⟩
        .simp[qf,intOf];omega
       .have f:=zh$ HF g;have Y:¬(z0=af/\z1=ag/\z2=z2'):=λe=>g (by rw[e.1,e.2.1,e.2.2]);clear HS HF g;by_cases f0:z0=af
        .by_cases f1:z1=ag
         .have f2:¬z2=z2':=λe=>Y ⟨f0,f1,e⟩;subst f0 f1;have b9:(z2==z2')=false:=by simpa using f2
          go_wp2
          go_quiet (fail)
          go_wp2;go_ret;exact⟨aA f.symm,below_drewN B _⟩
         .subst f0;have b7:(z1==ag)=false:=by simpa using f1
          go_wp2
          go_quiet (fail)
          go_wp2;go_ret;exact⟨aA f.symm,below_drewN B _⟩
        .have bd:(z0==af)=false:=by simpa using f0
         go_wp2
         go_quiet (fail)
         go_wp2;go_ret;exact⟨aA f.symm,below_drewN B _⟩
      .have HG:=zh (d (by
        rw[xG J,xG J]at p
        exact p))
       have ai:=zh$ xA B$ xA (A.2.1.bw G)$ A.2.2.bw G;clear p d a;go_wp2
       go_roundw
       .exact⟨m+1,J,by go_num,HG,ai⟩
       .simp[qf,intOf];omega
    .have f:=zh (show r=true by
      rw[Q.o];simp only[decide_eq_true_eq];rw[xG Jc,xG Jc]at p
      exact⟨av,p⟩)
     clear p;go_wp2;go_ret;exact⟨aA f.symm,A.1⟩
def zW (L a5 c0 xs a2 c2 a7 c5 ts P a6 a9 a4 V X a8 aa a3 w)(h:LyT w L a5 c0 xs a2 c2 a7 c5 ts)(q:LyT w P a6 a9 a4 V X a8 aa a3):
 qC 165 #[.agg$ qJ L a5 xs c0 a2 c2 a7 ts c5,.agg$ qL P a6 a4.length a9 V P.slots.length X a8 a3.length aa] w (qB w$ .bool$ decide$ L=P):=by
 have D:=h.ps;have s:=q.ps;have I:=h.tt;have l:=q.tt;have F:=zb w λW g=>nA a2 V L.slots.length c2 P.slots.length X L.slots P.slots W (h.s.bw g)$ q.s.bw g;have k:=zb w λW g=>sR a5 xs.length c0 xs L.stack a2 L.slots.length c2 L.flash L.ram a7 ts.length c5 ts a6 a4.length a9 a4 P.stack V P.slots.length X P.flash P.ram a8 a3.length aa a3 W (h.p.bw g) (h.t.bw g) (q.p.bw g)$ q.t.bw g;rw[D,s,I,l]at k;obtain⟨pl,st,sl,Y,rm,tg⟩:=L;obtain⟨ac,a1,ab,Z,a0,ad⟩:=P;let⟨r,hr⟩:=aN$ decide$ (⟨pl,st,sl,Y,rm,tg⟩:Lay)=⟨ac,a1,ab,Z,a0,ad⟩;rw[<-hr];simp only[Lay.mk.injEq]at hr;have j:=zh hr;have M:qY w ((w.alloc$ .cells #[qS a5 xs.length c0,qI st,qS a2 sl.length c2,qI Y,qI rm,qS a7 ts.length c5] 65).alloc$ .cells #[qS a6 a4.length a9,qI a1,qS V ab.length X,qI Z,qI a0,qS a8 a3.length aa] 65):=bal.alloc Jb _;have u:=(Blk.new w #[qS a5 xs.length c0,qI st,qS a2 sl.length c2,qI Y,qI rm,qS a7 ts.length c5] 65).alloc$ .cells #[qS a6 a4.length a9,qI a1,qS V ab.length X,qI Z,qI a0,qS a8 a3.length aa] 65;have v:=Blk.new (w.alloc$ .cells #[qS a5 xs.length c0,qI st,qS a2 sl.length c2,qI Y,qI rm,qS a7 ts.length c5] 65) #[qS a6 a4.length a9,qI a1,qS V ab.length X,qI Z,qI a0,qS a8 a3.length aa] 65;simp only[xF]at v;have B:=zh$ xA M$ xA u v
 delta qC;go_in
 go_wp2_with fail
 apply(k _ B.1).mono;rintro e S ⟨rfl,i⟩;have a:=zh$ xA (yT B.1 i)$ xA (B.2.1.bw i)$ B.2.2.bw i;by_cases C:pl=ac/\tg=ad
 rotate_left
 .rw[xS C];have d:=zh (show r=false by rw[j.o,decide_eq_false_iff_not];exact λe=>C ⟨e.1,e.2.2.2.2.2⟩);go_wp2;go_ret;exact⟨aA d.symm,a.1⟩
 rw[xR C];have p:=zh C;have O:=(a.2.1).ly6;have R:=(a.2.2).ly6;by_cases A:st=a1
 rotate_left
 .have Q:(st==a1)=false:=by simpa using A
  have d:=zh (show r=false by rw[j.o];simp[A]);go_wp2;go_ret;exact⟨aA d.symm,a.1⟩
 have Q:(st==a1)=true:=by simpa using A
 have H:=zh A;go_wp2_with fail
 apply(F _ a.1).mono;rintro e U ⟨rfl,f⟩;have b:=zh$ xA (yT a.1 f)$ xA (a.2.1.bw f)$ a.2.2.bw f;by_cases x:sl=ab
 rotate_left
 .rw[xS x];have d:=zh (show r=false by rw[j.o];simp[x]);go_wp2;go_ret;exact⟨aA d.symm,b.1⟩
 rw[xR x];have G:=zh x;have O:=(b.2.1).ly6;have R:=(b.2.2).ly6;by_cases y:Y=Z
 rotate_left
 .have N:(Y==Z)=false:=by simpa using y
  have d:=zh (show r=false by rw[j.o];simp[y]);go_wp2;go_ret;exact⟨aA d.symm,b.1⟩
 have N:(Y==Z)=true:=by simpa using y
 have E:=zh y;by_cases t:rm=a0
 rotate_left
 .have K:(rm==a0)=false:=by simpa using t
  have d:=zh (show r=false by rw[j.o];simp[t]);go_wp2;go_ret;exact⟨aA d.symm,b.1⟩
 have K:(rm==a0)=true:=by simpa using t
 have d:=zh (show r=true by rw[j.o];simp[p.o.1,p.o.2,H.o,E.o,t,G.o]);go_wp2;go_ret;exact⟨aA d.symm,b.1⟩
def Zb (zc:Array Value)(t:TypeId)(W0 X:qw)(o:Option Nat):Prop:=qY W0 X/\∀g,o=some g->W0.heap.size<=g/\Blk X g zc t
section
variable {zc:Array Value}{t:TypeId}{W0 X Y:qw}{o:Option Nat}
def aTn (b t a):Zb b t a a none:=⟨brf,λg e=>by cases e⟩
def Zb.bw (h:Zb zc t W0 X o)(a:qY X Y):Zb zc t W0 Y o:=⟨h.1.trans$ a.mono h.1.size,λg e=>⟨(h.2 g e).1,(h.2 g e).2.bw a⟩⟩
def Zb.drew (h:Zb zc t W0 X o):Zb zc t W0 X.drew o:=⟨h.1.drew,λg e=>⟨(h.2 g e).1,(h.2 g e).2⟩⟩
def Zb.box (h:Zb zc t W0 X none):Zb zc t W0 (X.alloc$ .cells zc t) (some X.heap.size):=⟨h.1.alloc h.1.size _,λg e=>by cases e;exact⟨h.1.size,Blk.new X zc t⟩⟩
end
section
variable {zc:Array Value}{t:TypeId}{n g:Nat}{ms m:List Md}{W0 X Y:qw}{o:Option Nat}
end
section
variable {base:Nat}{L:Lay}{W0 X:qw}{gb:Nat}{a0:qO}{c0:Nat}{xs:List PB}{a2:qO}{c2:Nat}{a5:qO}{c5:Nat}{ts:List TB}
end
section
variable {cf:Array Value}{tc:TypeId}{base:Nat}{L:Lay}{w W5 W W':qw}{gb:Nat}{a0:qO}{c0:Nat}{xs:List PB}{a2:qO}{c2:Nat}{a5:qO}{c5:Nat}{ts:List TB}
end
def zby (n:Nat):Array Value:=((List.replicate n (0:Int)).map$ Value.int .u8).toArray
def aB0 (n:Nat)(hn:n<=16384)(W):(Instr.makeSlice 28 (qI (n:Int))$ qI (n:Int)).run Tryz.prog W=.ok (qS (qP W.heap.size) n n) (W.alloc$ .cells (zby n) 5):=by
 rw[run_make_row' 28 5 (.int .u8 0) 1 Tryz.underlying28 rC rfl .i64 .i64 n J J W];have:=aS5 n;rw[Nat.mul_one]at this;unfold zby;rw[<-this];rfl
def rY {W:qw}{g base n:Nat}(h:Blk W g (zby n) 5)(a:base<=g)(hn:n<=16384):OB W base (qS (qP g) n n) (List.replicate n 0):=by
 refine⟨⟨Jb,.inr ⟨g,n,zby n,Jb,a,h,Jb,Jf,by simp[zby],?_⟩⟩,λz b=>by grind⟩;unfold zby;simp only[List.toList_toArray,List.length_replicate,Nat.mul_one];exact xG Jb
def dF (zs:qi)(P:PMod)(p:Pl):Nat->List Int
 | 0=>cF zs p.text.toNat P.tz P.tz.length
 | j+1=>cF (dF zs P p j) (p.banks.getD j 0).toNat (P.bl.getD j []) (P.bl.getD j []).length
def aLs (a:qi)(P:PMod)(p:Pl):∀j,(dF a P p j).length=a.length
 | 0=>gH _ _ _ _
 | j+1=>by rw[dF,gH,aLs a P p j]
def flB (ps:List PMod)(L:Lay):Nat->List Int
 | 0=>List.replicate L.flash.toNat 0
 | i+1=>dF (flB ps L i) (ps.getD i zP) (L.places.getD i zPB.1) (ps.getD i zP).bl.length
def kZ (zs:qi)(f:Nat)(rz:qi)(d:Int):Nat->List Int
 | 0=>zs
 | j+1=>put (kZ zs f rz d j) (f+(rz.getD j 0).toNat) (low (((kZ zs f rz d j).drop$ f+(rz.getD j 0).toNat).take 4)+d) 4
def aFh (a:qi)(f:Nat)(rz:qi)(d:Int):∀j,(kZ a f rz d j).length=a.length
 | 0=>rfl
 | j+1=>by rw[kZ,nN,aFh a f rz d j]
def ovr (zs:qi)(f:Nat)(ds:qi):List Int:=zs.take f++(ds++zs.drop (f+ds.length))
def nP (a f b)(h:f+b.length<=a.length):(ovr a f b).length=a.length:=by simp[ovr];omega
def raB (ps:List PMod)(L:Lay):Nat->List Int
 | 0=>List.replicate L.ram.toNat 0
 | i+1=>kZ (ovr (raB ps L i) ((L.places.getD i zPB.1).data-65536).toNat (ps.getD i zP).dz) ((L.places.getD i zPB.1).data-65536).toNat (ps.getD i zP).rz (L.places.getD i zPB.1).data (ps.getD i zP).rz.length
def aRz {s w k d:Int}(h:lkc ps s w k d=0):(lay ps s w k).flash<=16384/\(lay ps s w k).ram<=16384:=by
 unfold lkc at h;split at h
 .rename_i a;exact absurd h a
 split at h
 .grind
 split at h
 .grind
 grind
def aKz {ps:List PMod}(b:jH ps):∀i j,i<=j->j<=ps.length->Fl ps i<=Fl ps j
 | i,0,h,_=>by grind
 | i,j+1,h,hj=>by
   by_cases e:i=j+1
   .grind
   .have k:=aKz b i j J J;have a:=b j J;have:=iJ a;have:=cV a _ aO;show Fl ps i<=Fl ps j+(tsz (ps.getD j zP)+cU (ps.getD j zP) (ps.getD j zP).bl.length);omega
def aEt {ps:List PMod}(a:jH ps):∀i j,i<=j->j<=ps.length->Ra ps i<=Ra ps j
 | i,0,h,_=>by grind
 | i,j+1,h,hj=>by
   by_cases e:i=j+1
   .grind
   .have b:=aEt a i j J J;have:=iL$ a j J;show Ra ps i<=Ra ps j+dsz (ps.getD j zP);omega
def aB9 {P:PMod}(a:gX P=0):∀i j,i<=j->j<=P.bl.length->cU P i<=cU P j
 | i,0,h,_=>by grind
 | i,j+1,h,hj=>by
   by_cases e:i=j+1
   .grind
   .have b:=aB9 a i j J J;have:=bC (x:=4*((P.bl.getD j []).length:Int));show cU P i<=cU P j+rnd (4*((P.bl.getD j []).length:Int));omega
structure Lkn (ps:List PMod)(L:Lay):Prop where
 n:1<=ps.length/\ps.length<=4
 v:jH ps
 im:oH ps
 pl:L.places=(List.range ps.length).map (plc ps)
 fl:L.flash=Fl ps ps.length
 fr:0<=L.flash/\L.flash<=16384
 ra:Ra ps ps.length<=L.ram
 rr:0<=L.ram/\L.ram<=16384
 tg:L.targets=(List.range ps.length).map fun i=>tgs ps (ps.getD i zP)
 st:L.stack=65536+Ra ps ps.length
def mX (h:Lok ps L):Lkn ps L:=by
 obtain⟨a,b⟩:=h;have e:lay ps (L.slots.length:Int) (cfW L) (cfK L)=L:=by unfold lkL at b;rw[if_pos a]at b;exact b
 let⟨hc,i,j,d,hi⟩:=iK a;let⟨f,g⟩:=aRz a;unfold cfo at hc;simp at hc;have k:=dE d ps.length aO;have l:=bL d ps.length aO;have p:(0:Int)<=((L.slots.length:Int).toNat:Int)*rnd (4*cfW L):=Int.mul_nonneg J$ jK$ bC (x:=4*cfW L);have e1:L.flash=Fl ps ps.length:=by rw[<-e];rfl
 have e2:L.ram=Ra ps ps.length+cfK L+((L.slots.length:Int).toNat:Int)*rnd (4*cfW L):=by
  have:=congrArg Lay.ram e;rw[<-this];rfl
 rw[e]at f g;exact⟨⟨i,j⟩,d,hi,by rw[<-e];rfl,e1,⟨J,f⟩,J,⟨J,g⟩,by rw[<-e];rfl,by have:=congrArg Lay.stack e;rw[<-this];rfl⟩
def Lkn.place (h:Lkn ps L)(i)(hi:i<ps.length):L.places.getD i zPB.1=plc ps i:=by
 rw[h.pl]
 grind
def aM0 (h:gX P=0):∀j,j<P.rz.length->0<=P.rz.getD j 0/\P.rz.getD j 0+4<=(P.dz.length:Int):=by
 unfold gX mdo at h;split at h
 .grind
 split at h
 .grind
 split at h
 .grind
 split at h
 .grind
 rename_i k f d i;intro j e;have a:rlo P.rz.length P.rz P.dz.length=true:=by grind
 unfold rlo at a;rw[Bool.and_eq_true,List.all_eq_true]at a;have b:=a.2 j (by grind);unfold rlk at b
 grind
def aGn {α:Type}(l:List α)(i z)(h:i<l.length):l.getD i z∈l:=by simp[xB,h]
def aHn {α:Type}(f:Nat->α)(n j z)(h:j<n):((List.range n).map f).getD j z=f j:=by grind
def aCh (h:gX P=0):(∀i,i<P.tz.length->0<=P.tz.getD i 0/\P.tz.getD i 0<=4294967295)/\∀k,k<P.bl.length->∀i,i<(P.bl.getD k []).length->0<=(P.bl.getD k []).getD i 0/\(P.bl.getD k []).getD i 0<=4294967295:=by
 have V:=nI (by simp[oI]) h;refine⟨λi hi=>V.tw _ (by simp[xB,hi]),λk a i hi=>?_⟩
 have:=(V.bw k (by simp[oI];exact a)).2 ((P.bl.getD k []).getD i 0) (by
  have:((oI P.bl).getD k zB).2.2.2=P.bl.getD k []:=by simp[oI,xB,a]
  grind)
 grind
def Lkn.at (h:Lkn ps L)(i)(hi:i<ps.length):
 (0<=(plc ps i).text/\(plc ps i).text+4*((ps.getD i zP).tz.length:Int)<=L.flash)/\(plc ps i).banks.length=(ps.getD i zP).bl.length/\(∀j,j<(ps.getD i zP).bl.length->0<=(plc ps i).banks.getD j 0/\(plc ps i).banks.getD j 0+4*(((ps.getD i zP).bl.getD j []).length:Int)<=L.flash)/\(65536<=(plc ps i).data/\(plc ps i).data-65536+((ps.getD i zP).dz.length:Int)<=L.ram):=by
 have a:=h.v i hi;have d:=dE h.v i J;have:=aKz h.v (i+1) ps.length J aO;have:Fl ps (i+1)=Fl ps i+(tsz (ps.getD i zP)+cU (ps.getD i zP) (ps.getD i zP).bl.length):=rfl;have:=cV a _ aO;have:=bC (x:=4*((ps.getD i zP).tz.length:Int));have:tsz (ps.getD i zP)=rnd (4*((ps.getD i zP).tz.length:Int)):=rfl;have:=bL h.v i J;have:=aEt h.v (i+1) ps.length J aO;have:Ra ps (i+1)=Ra ps i+dsz (ps.getD i zP):=rfl;have:=cR a;have:=bC (x:=((ps.getD i zP).dz.length:Int)+(ps.getD i zP).bss);have:dsz (ps.getD i zP)=rnd (((ps.getD i zP).dz.length:Int)+(ps.getD i zP).bss):=rfl;have:=h.fl;have:=h.ra;refine⟨⟨d.1,?_⟩,by simp[plc],λj b=>?_,?_,?_⟩
 .show Fl ps i+4*_<=_;omega
 .have e:=cV a j J;have:=aB9 a (j+1) (ps.getD i zP).bl.length J aO;have:cU (ps.getD i zP) (j+1)=cU (ps.getD i zP) j+rnd (4*(((ps.getD i zP).bl.getD j []).length:Int)):=rfl;have:=bC (x:=4*(((ps.getD i zP).bl.getD j []).length:Int));have:(plc ps i).banks.getD j 0=Fl ps i+tsz (ps.getD i zP)+cU (ps.getD i zP) j:=aHn _ _ _ _ b
  grind
 .show 65536<=65536+Ra ps i;omega
 .show 65536+Ra ps i-65536+_<=_;omega
end Go.Proofs.YtdjdcdnjjmjonaaGreat
namespace Go.Proofs.YtdjdcdnjjmjonaaGreat
open Go.RowKit Classical
open Go.Proofs.Tryz
set_option maxRecDepth 100000
variable {base f g n:Nat}
structure OM (w:qw)(base:Nat)(v1 v2 v3:Value)(x1 x2 x3:qi):Prop where
 o1:OB w base v1 x1
 o2:OB w base v2 x2
 o3:OB w base v3 x3
 a12:∀k,v1.ownBlock=some k->v2.ownBlock≠some k
 a13:∀k,v1.ownBlock=some k->v3.ownBlock≠some k
 a23:∀k,v2.ownBlock=some k->v3.ownBlock≠some k
def imF (ps:List PMod)(L:Lay):List Int:=@ite _ (Lok ps L) (aUm ps L) (flB ps L ps.length) []
def imR (ps:List PMod)(L:Lay):List Int:=@ite _ (Lok ps L) (aUm ps L) (raB ps L ps.length) []
def ImM (w:qw)(ps:List PMod)(L:Lay)(e:Ending)(w':qw):Prop:=qY w w'/\∃a1 n1 c1 a2 n2 c2 a3 n3 c3,e=.returned (.tuple #[.agg$ qV a1 n1 c1 a2 n2 c2 a3 n3 c3,.bool$ decide$ Lok ps L])/\OM w' w.heap.size (qS a1 n1 c1) (qS a2 n2 c2) (qS a3 n3 c3) (imF ps L) (imR ps L) []
def uY {W:qw}{a:qi}(h:OB W base (qS (qP g) n n) a):W.heap[g]?=some (.cells (a.map$ Value.int .u8).toArray 5 (0,0))/\a.length=n/\base<=g/\n<=maxLen:=by
 obtain⟨u,⟨l,_⟩|⟨k,j,d,b,f,i,p,q,s,t⟩⟩:=h.1
 .grind
 .simp at b;obtain⟨rfl,rfl,rfl⟩:=b;refine⟨?_,rfl,f,J⟩;have e:d.toList=a.map (Value.int .u8):=by grind
  rw[i,<-e]
def aDj (b f a):splice (b.map$ Value.int .u8) f (a.map$ Value.int .u8)=(ovr b f a).map (Value.int .u8):=by
 simp[splice,ovr,List.map_take,List.map_drop]
def aBv {b a:qi}(hz:∀z∈b,0<=z/\z<=255)(hd:∀z∈a,0<=z/\z<=255):∀z∈ovr b f a,0<=z/\z<=255:=λz h=>by
 unfold ovr at h
 grind
def aRc (zs f):ovr zs f []=zs:=by simp[ovr]
def tT (g w cs):eW g w (w.setRow g cs):=⟨by simp[World.setRow],λk a=>setRow_other w g k cs a,rfl,rfl,rfl⟩
def nT {W:qw}{zs:qi}(h:W.heap[g]?=some (.cells (zs.map$ Value.int .u8).toArray 5 (0,0)))(a:zs.length=n)(b:base<=g)(e:n<=maxLen)(d:∀z∈zs,0<=z/\z<=255):OB W base (qS (qP g) n n) zs:=by
 subst a;refine⟨⟨Jb,.inr ⟨g,zs.length,_,rfl,b,h,aO,e,Jb,?_⟩⟩,d⟩;simp only[List.toList_toArray,Nat.mul_one];exact xG Jb
def zH {W:qw}{i e:qi}(q:OB W base (qS (qP g) n n) i)(G E F w D t C)(d:BS W F t C e)(B:t<=w)(y:f+t<=n)(k:0<t->E=some (qR g f)):
 ∃w',(Builtin.copy_ #[28,28] G #[qS E w D,qS F t C]).run prog W=.ok (goInt t) w'/\OB w' base (qS (qP g) n n) (ovr i f e)/\eW g W w':=by
 let⟨H,K,I,M⟩:=uY q;have hld:=d.1;have l:(prog.info? 5).map (·.size)=some 1:=Je
 by_cases x:t=0
 .subst x;obtain rfl:e=[]:=xE hld;exact⟨W,run_copy_none (P:=prog) W _ _ G 5 E F w D 0 C underlying28 l Jb,by rw[aRc];exact q,fO _ _⟩
 .obtain⟨b,p,rfl,hc⟩:=d.2.2.2.1 x;rw[k J];subst hld
  have a:=run_copy_row (P:=prog) W 28 28 G 5 g f w D (qR b p) e.length C (i.map$ Value.int .u8).toArray 5 (e.map$ Value.int .u8) underlying28 l H (by grind) (λj v A=>by
   have s:j<e.length:=by
    grind
   rw[cI,hc j s,<-A]
   grind) (by grind) (λv u=>by
   simp at u;obtain⟨z,_,rfl⟩:=u
   rfl)
  rw[xH]at a;refine⟨_,a,?_,tT _ _ _⟩;refine nT ?_ (by rw[nP _ _ _ J];exact K) I M$ aBv q.2 d.2.2.1;have:=setRow_heap W g (i.map$ Value.int .u8).toArray (splice (i.map$ Value.int .u8) f$ e.map$ Value.int .u8).toArray 5 (0,0) H;rw[aDj]at this;rw[<-aDj]at this⊢;simpa[splice]using this
section
variable {W W':qw}{base:Nat}{v1 v2 v3:Value}{x1 x2 x3:qi}
def OM.bw (h:OM W base v1 v2 v3 x1 x2 x3)(a:qY W W'):OM W' base v1 v2 v3 x1 x2 x3:=⟨h.o1.bw a,h.o2.bw a,h.o3.bw a,h.a12,h.a13,h.a23⟩
def OM.mono {base':Nat}(h:OM W base v1 v2 v3 x1 x2 x3)(a:base'<=base):OM W base' v1 v2 v3 x1 x2 x3:=⟨h.o1.mono a,h.o2.mono a,h.o3.mono a,h.a12,h.a13,h.a23⟩
def OM.lt (h:OM W base v1 v2 v3 x1 x2 x3){j:Nat}(a:uT v1 v2 v3 j):base<=j/\j<W.heap.size:=by
 rcases a with e|e|e
 .exact h.o1.lt j e
 .exact h.o2.lt j e
 .exact h.o3.lt j e
def OM.kept {S:Nat->Prop}(h:OM W base v1 v2 v3 x1 x2 x3)(t:Turn S W W')(hs:∀j,uT v1 v2 v3 j->¬S j):OM W' base v1 v2 v3 x1 x2 x3:=⟨aT t h.o1 λk a=>hs k$ .inl a,aT t h.o2 λk a=>hs k$ .inr$ .inl a,aT t h.o3 λk a=>hs k$ .inr$ .inr a,h.a12,h.a13,h.a23⟩
end
def aEu (w:qw)(b l c:Int)(q:Nat)(e:Ending)(w':qw):Prop:=
 ∃o:Int,e=.returned (.tuple #[.agg #[qI b,qI l,qI o,.bool false,.bool false,.bool false],qI c])/\(0<c->o=255-(q:Int))/\qY w w'
def aEo (w W tmps b l o c)(q:Nat)(d:tmps[6]?=some (.pointer$ qP w.heap.size))(e:tmps[7]?=some (qI c))
 (hz:Blk W w.heap.size #[qI b,qI l,qI o,.bool false,.bool false,.bool false] 231) (i:qY w W) (a:0<c->o=255-(q:Int)):
 bodyPost prog f249 (aEu w b l c q) Exit.ret ⟨tmps,[]⟩ W:=by
 refine bodyPost_ret (v:=.tuple #[.agg #[qI b,qI l,qI o,.bool false,.bool false,.bool false],qI c]) ?_ rfl ⟨o,rfl,a,i⟩;let⟨f,g,j,k,p,s,t⟩:=hz.six';simp[results,results249,go_sem,d,e,f,g,j,k,p,s]
def aEn {a:qw}(hz:Blk a g #[qI 0,qI 0,qI 0,.bool false,.bool false,.bool false] 231)(b l o):
 Blk ((((((a.setCell (qR g 0)$ qI b).setCell (qR g 1)$ qI l).setCell (qR g 2)$ qI o).setCell (qR g 3)$ .bool false).setCell (qR g 4)$ .bool false).setCell (qR g 5)$ .bool false) g #[qI b,qI l,qI o,.bool false,.bool false,.bool false] 231:=
 Blk.set (Blk.set (Blk.set (Blk.set (Blk.set (Blk.set hz 0 _) 1 _) 2 _) 3 _) 4 _) 5 _
def nH {B:Nat}{w d:qw}(a:B<=g)(h:Below B w d)(b l o):
 Below B w ((((((d.setCell (qR g 0)$ qI b).setCell (qR g 1)$ qI l).setCell (qR g 2)$ qI o).setCell (qR g 3)$ .bool false).setCell (qR g 4)$ .bool false).setCell (qR g 5)$ .bool false):=
 (((((h.setCell a _).setCell a _).setCell a _).setCell a _).setCell a _).setCell a _
def aA1 (a s l w)(F:5<=l)(y:l<8)(ha:0<=a)(hs:0<s)(G:a+s<=262144):
 qC 249 (qT l a s) w (aEu w (bH a l) l (cnt l$ qOf a (a+s) l)$ qOf a (a+s) l):=by
 obtain⟨P,S⟩:∃P,(2:Int)^(l-3).toNat=P:=⟨_,rfl⟩;obtain⟨N,t⟩:∃N,(2:Int)^l.toNat=N:=⟨_,rfl⟩;let⟨Y,g2,g3,g4,g5,g6,g7⟩:=pV a l P N F J S t ha J;let⟨Z,b1,W,b3,b4⟩:=mK a l N F J t ha;have B:=rN a N ha J;let⟨b,U⟩:=aN$ a-a%N;have u:bH a l=b:=by unfold bH;rw[t,U]
 rw[<-U]at Z b1 W B;have q:=zh λw=>cE l J J w;rw[t]at q;have x:(Lit.int .i64 b).wf=true:=by simp[Lit.wf,IntKind.min,IntKind.max,IntKind.bits,IntKind.signed];omega
 have E:=zh λw=>jY b l 0 false false false w x;have i:rok b l 0=true:=by unfold rok;rw[t];simp;omega
 rw[i]at E;rw[u]
 have H:8*P<=1024:=by
  have:l=5\/l=6\/l=7:=J
  rcases this with rfl|rfl|rfl<;>(simp at S;omega)
 have p:=zh (show ∀c:Bool,(c=true ↔ (a=b/\N<=s))->qOf a (a+s) l=(if c then 255 else 0)/\cnt l (qOf a (a+s) l)=(if c then N else 0)by
  intro c hc
  have e:qOf a (a+s) l=(if c then 255 else 0):=by
   unfold qOf;rw[if_pos y,t];cases c
   .rw[if_neg (by simp at hc;omega)];rfl
   .have:=hc.1 rfl;rw[if_pos J];rfl
  refine⟨e,?_⟩;rw[e];cases c
  .exact nE l
  .show cnt l 255=N;unfold cnt;rw[S,show uD 255=8 from rfl,Y]
   rfl)
 have K:0<N:=J
 clear S t Y g2 g3 g4 g5 g6 g7 i u H W b3 b4 U x
 delta qC;go_in
 go_wp2_with fail
 apply(q _).mono;rintro e M ⟨rfl,rfl⟩;go_wp2_with fail
 apply(E _).mono;rintro e O ⟨rfl,d⟩;have V:=((Blk.new w #[qI 0,qI 0,qI 0,.bool false,.bool false,.bool false] 231).alloc$ .cells #[qI b,qI l,qI 0,.bool false,.bool false,.bool false] 231).bw d;have A:=(Blk.new (qm w #[qI 0,qI 0,qI 0,.bool false,.bool false,.bool false] 231) #[qI b,qI l,qI 0,.bool false,.bool false,.bool false] 231).bw d;try unfold qY at *
 simp only[xF]at A;have k:=zh$ (((Below.refl w.heap.size w).alloc aO$ .cells #[qI 0,qI 0,qI 0,.bool false,.bool false,.bool false] 231).alloc Jb$ .cells #[qI b,qI l,qI 0,.bool false,.bool false,.bool false] 231).trans$ d.mono Jc;have R:=V.six';have Q:=A.six';have C:=zh V;clear V A d;by_cases j:b=a
 .subst j;by_cases I:s<N
  .have⟨f,g⟩:=p.o false Jc;have X:=zh$ xA f g;clear f g p;go_wp2;rw[X.o.2,X.o.1];exact aEo w _ _ b l 0 0 0 rfl rfl (aEn C b l 0) (nH aO k b l 0) λh=>absurd h J
  .have⟨f,g⟩:=p.o true Jc;have X:=zh$ xA f g;clear f g p;go_wp2;rw[X.o.2,X.o.1];exact aEo w _ _ b l 0 N 255 rfl rfl (aEn C b l 0) (nH aO k b l 0) λ_=>rfl
 .have⟨f,g⟩:=p.o false Jc;have X:=zh$ xA f g;have D:(b !=a)=true:=by simpa using j
  clear f g p j;go_wp2;rw[X.o.2,X.o.1];exact aEo w _ _ b l 0 0 0 rfl rfl (aEn C b l 0) (nH aO k b l 0) λh=>absurd h J
def aGc (a s l w)(hl:8<=l)(a4:l<=14)(ha:0<=a)(hs:0<s)(a8:a+s<=262144):
 qC 249 (qT l a s) w (aEu w (bH a l) l (cnt l$ qOf a (a+s) l)$ qOf a (a+s) l):=by
 obtain⟨P,hP⟩:∃P,(2:Int)^(l-3).toNat=P:=⟨_,rfl⟩;obtain⟨N,g⟩:∃N,(2:Int)^l.toNat=N:=⟨_,rfl⟩;obtain⟨g1,g2,g3,g4,f,g6,g7⟩:=pV a l P N J J hP g ha J;obtain⟨b0,b1,b2,b3,b4⟩:=mK a l N J J g ha;have Z:=rN a N ha J;have k:=aVz a (a+s) l f;have a1:=zh$ aQ9 a (a+s) l P N J a4 hP g ha J a8
 have HQ:=zh (show qOf a (a+s) l=bS (cT a l) (jj a (a+s) l)/\cnt l (qOf a (a+s) l)=(jj a (a+s) l:Int)*P by
  have e:=aN2 a (a+s) l hl;refine⟨e,?_⟩;rw[e]
  exact nZ l P hP _ _ f k)
 obtain⟨b,hb⟩:=aN$ a-a%N;have Q:bH a l=b:=by unfold bH;rw[g,hb]
 rw[<-hb]at b0 b1 b2 Z;have M:=zh λw=>cE l J J w;rw[g]at M;have a3:(Lit.int .i64 b).wf=true:=by simp[Lit.wf,IntKind.min,IntKind.max,IntKind.bits,IntKind.signed];omega
 have HR:=zh λw=>jY b l 0 false false false w a3;have C:rok b l 0=true:=by unfold rok;rw[g];simp;omega
 rw[C]at HR;rw[Q]at a1⊢;generalize cT a l=d at *;generalize jj a (a+s) l=j at *;generalize qOf a (a+s) l=q at *;have V:N/8=P:=J
 have a9:N<=16384:=J
 have ab:0<N:=J
 clear hP g g1 g4 g6 g7 C Q b2 b3 b4 hb a3;go_enter func249,ntmps249
 go_wp2_with fail
 apply(M.o _).mono;rintro e w1 ⟨rfl,rfl⟩;go_wp2_with fail
 apply(HR.o _).mono;rintro e w2 ⟨rfl,A⟩;have t:=((Blk.new w #[qI 0,qI 0,qI 0,.bool false,.bool false,.bool false] 231).alloc$ .cells #[qI b,qI l,qI 0,.bool false,.bool false,.bool false] 231).bw A;have E:=(Blk.new (w.alloc$ .cells #[qI 0,qI 0,qI 0,.bool false,.bool false,.bool false] 231) #[qI b,qI l,qI 0,.bool false,.bool false,.bool false] 231).bw A;try unfold qY at *
 simp only[xF]at E;have U:=zh$ (((Below.refl w.heap.size w).alloc aO$ .cells #[qI 0,qI 0,qI 0,.bool false,.bool false,.bool false] 231).alloc Jb$ .cells #[qI b,qI l,qI 0,.bool false,.bool false,.bool false] 231).trans$ A.mono Jc;have KZ:=zh t;have KR:=zh E;clear t E A;go_wp2_with fail
 rw[V];have aj:b<=262144:=J
 clear V Z b1 a9 ab
 have ae:=zh (show ∀i,i<=8->∃o,o=2^i-1-bS d (ci d j i)/\o<=255 from λi hi=>⟨_,rfl,by
  have:2^i<=2^8:=Nat.pow_le_pow_right J hi
  omega⟩)
 go_loopw [12,13] (λc x wr=>∃(i o:Nat),i<=8/\c=qI ((ci d j i:Int)*P)/\x=qI (i:Int)/\o=2^i-1-bS d (ci d j i)/\Blk wr (w.heap.size+1) #[qI b,qI l,qI (o:Int),.bool false,.bool false,.bool false] 231/\Blk wr w.heap.size #[qI 0,qI 0,qI 0,.bool false,.bool false,.bool false] 231/\qY w wr) (λ_ x _=>8-(intOf x).toNat)
 .have h0:ci d j 0=0:=by simp[ci]
  exact⟨0,0,J,by rw[h0];simp,rfl,Jb,KR.o,KZ.o,U.o⟩
 .obtain⟨i,o,hi,rfl,rfl,ho,E,t,hB⟩:=hrel
  have ao:o<=255:=by
   have:2^i<=2^8:=Nat.pow_le_pow_right J hi;omega
  have ai:ci d j i<=8:=by unfold ci;omega
  obtain⟨c,hc⟩:∃c:Int,c=(ci d j i:Int)*P:=⟨_,rfl⟩;have am:0<=c:=by rw[hc];exact Int.mul_nonneg J J
  have an:c<=16384:=by
   have:(ci d j i:Int)*P<=8*P:=Int.mul_le_mul_of_nonneg_right J J;omega
  have I:=zh hc;rw[<-hc];have H:=zh ho;have HB:=zh hB;have S:=zh E;have G:=zh t;obtain⟨q1,q2,q3,q4,q5,q6,q7⟩:=t.six';obtain⟨p1,p2,p3,p4,p5,p6,p7⟩:=E.six';clear hc ho E t hB U KZ KR;by_cases h8:i<8
  .have ag:0<=(i:Int)*P:=Int.mul_nonneg J J
   have af:(i:Int)*P<=16384:=by
    have:(i:Int)*P<=8*P:=Int.mul_le_mul_of_nonneg_right J J;omega
   have B:=a1.o i h8;by_cases O:d<=i/\i<d+j
   .obtain⟨k1,k2,k3⟩:=B.2 O;have Y:=zh$ aV6 d f j J i h8 O;clear B O;go_wp2_with fail
    constructor
    .exact⟨i+1,o,J,by rw[Y.o.1,I.o];congr 1;rw[Int.natCast_add,Int.add_mul];simp,by go_num,by rw[H.o];exact Y.o.2,S.o,G.o,HB.o⟩
    .simp[intOf];omega
   .have Y:=zh$ aUr d f j J i h8 ⟨J,k⟩;obtain⟨X,hX⟩:∃X:Nat,X=2^i:=⟨_,rfl⟩
    have ak:X<=256:=by
     have:2^i<=2^8:=Nat.pow_le_pow_right J hi;omega
    have F:Zh (∀w,qC 174 #[qI (i:Int)] w λe w'=>e=.returned (qI (X:Int))/\w'=w):=λw=>(cE (i:Int) J J w).mono λe w' h=>⟨by rw[h.1,hX];simp,h.2⟩;have HX:=zh hX
    have a6:(b+(i:Int)*P<a)\/(a<=b+(i:Int)*P/\a+s<b+(i:Int)*P+P)\/(a<=b+(i:Int)*P/\b+(i:Int)*P+P<=a+s/\a%P≠0):=by
     by_cases K:a<=b+(i:Int)*P
     .by_cases u2:b+(i:Int)*P+P<=a+s
      .exact Or.inr (Or.inr ⟨K,u2,λu3=>O$ B.1 ⟨K,u2,u3⟩⟩)
      .exact Or.inr (Or.inl ⟨K,J⟩)
     .exact Or.inl J
    clear B O hX
    have p:=zh (show ∀W,W=(wr.setCell (qR (w.heap.size+1) 2)$ qI$ (o:Int)+(X:Int)).drew->∃(y o:Nat),y<=8/\qI c=qI ((ci d j y:Int)*P)/\qI ((i:Int)+1)=qI (y:Int)/\o=2^y-1-bS d (ci d j y)/\Blk W (w.heap.size+1) #[qI b,qI l,qI (o:Int),.bool false,.bool false,.bool false] 231/\Blk W w.heap.size #[qI 0,qI 0,qI 0,.bool false,.bool false,.bool false] 231/\qY w W by
     rintro W rfl;refine⟨i+1,o+X,J,by rw[Y.o.1,I.o],Jb,by rw[H.o,HX.o];exact Y.o.2,?_,(show Blk (wr.setCell (qR (w.heap.size+1) 2)$ qI$ (o:Int)+(X:Int)) _ _ _ from Blk.other G.o _ _ Jb),(HB.o.setCell Jb _).drew⟩;have:=Blk.set S.o 2$ qI$ (o:Int)+(X:Int);rw[Int.natCast_add]
     exact this)
    have D:IntKind.i64.wrap ((o:Int)+(X:Int))=(o:Int)+(X:Int):=rP;rcases a6 with u|⟨K,u2⟩|⟨K,u2,u3⟩
    .go_wp2_with fail
     go_region_with (go_at_call 174;refine(F.o _).mono ?_;rintro e w3 ⟨rfl,rfl⟩)
     all_goals
      try rw[D]
      go_wp2_with fail
      constructor
      .exact p.o _ rfl
      .simp[intOf];omega
    .have ah:¬(b+(i:Int)*P+P<=a+s):=J
     go_wp2_with fail
     all_goals first
      | (exfalso;omega)
      | (go_region_with (go_at_call 174;refine(F.o _).mono ?_;rintro e w3 ⟨rfl,rfl⟩)
         all_goals(try rw[D])
         all_goals go_wp2_with fail
         all_goals(refine⟨p.o _ rfl,?_⟩;simp[intOf];omega))
    .have ap:(a%P==0)=false:=by simpa using u3
     clear u3;go_wp2_with fail
     go_region_with (go_at_call 174;refine(F.o _).mono ?_;rintro e w3 ⟨rfl,rfl⟩)
     all_goals
      try rw[D]
      go_wp2_with fail
      constructor
      .exact p.o _ rfl
      .simp[intOf];omega
  .have aa:i=8:=J
   subst aa
   have hq:(o:Int)=255-(q:Int):=by
    have:=H.o;rw[aP4 d f j J k,<-HQ.o.1]at this;have ad:q<256:=by rw[HQ.o.1];exact nM d f j J k
    omega
   have R:cnt l q=c:=by rw[HQ.o.2,I.o,aP4 d f j J k]
   have a7:=zh R;have ac:=zh hq;clear hq R;go_wp2_with fail
   rw[a7.o];refine aEo w _ _ b l (o:Int) c q ?_ ?_ (aEn G.o b l (o:Int)) (nH aO HB.o b l (o:Int)) λ_=>ac.o
   .rfl
   .rfl
def aIl (a s l w)(e:5<=l)(d:l<=14)(ha:0<=a)(hs:0<s)(b:a+s<=262144):
 qC 249 (qT l a s) w (aEu w (bH a l) l (cnt l$ qOf a (a+s) l)$ qOf a (a+s) l):=by
 by_cases h:l<8
 .exact aA1 a s l w e h ha hs b
 .exact aGc a s l w J d ha hs b
def aHk (f s w)(D:-9223372036854775808<=f/\f<=9223372036854775807)(C:-9223372036854775808<=s/\s<=9223372036854775807)(h:uR f s=false):
 qC 167 #[qI f,qI s] w (pK w false []):=by
 have A:=zh$ vY w (qs w) aO;have B:=zh$ (Below.refl (qs w) w).alloc aO$ .cells #[] 231
 have k:=zh (show ∀e W,W=qm w #[] 231->e=Ending.returned (.tuple #[qS (qp w) 0 0,.bool false])->pK w false [] e W by
  rintro e W rfl rfl
  exact⟨_,0,0,rfl,A,B⟩)
 have j:f<0\/(0<=f/\s<0)\/(0<=f/\0<=s/\262144<f)\/(0<=f/\0<=s/\f<=262144/\262144<s)\/(0<=f/\0<=s/\f<=262144/\s<=262144/\262144<f+s)\/(0<=f/\0<=s/\f<=262144/\s<=262144/\f+s<=262144/\f%32≠0)\/(0<=f/\0<=s/\f<=262144/\s<=262144/\f+s<=262144/\f%32=0/\s%32≠0):=by
  unfold uR grn at h;simp at h;omega
 clear h;rcases j with u|⟨a,d⟩|⟨a,d,i⟩|⟨a,d,i,l⟩|⟨a,d,i,l,q⟩|⟨a,d,i,l,q,b⟩|⟨a,d,i,l,q,b,x⟩
 case inr.inr.inr.inr.inr.inl=>
  have p:(f%32 !=0)=true:=by simpa using b
  clear b
  delta qC;go_in
  go_wp2
  go_ret2
  exact k _ _ rfl rfl
 case inr.inr.inr.inr.inr.inr=>
  have p:(f%32 !=0)=false:=by simpa using b
  have:(s%32 !=0)=true:=by simpa using x
  clear b x
  delta qC;go_in
  go_wp2
  go_ret2
  exact k _ _ rfl rfl
 all_goals
  delta qC;go_in
  go_wp2
  go_ret2
  exact k _ _ rfl rfl
def aEp:CSt->Array Value
 | none=>#[qI 0,qI 0,qI 0,.bool false,.bool false,.bool false]
 | some (b,l,q)=>#[qI b,qI l,qI$ 255-(q:Int),.bool false,.bool false,.bool false]
def aJj (s):∃x y z,aEp s=#[qI x,qI y,qI z,.bool false,.bool false,.bool false]:=by
 match s with
 | none=>exact⟨_,_,_,rfl⟩
 | some (b,l,q)=>exact⟨_,_,_,rfl⟩
def aQu (a f)(ha:0<=a)(e:a<f)(d:f<=262144)(n)(hn:n<=10):oX (bZ a f n)<=262144:=by
 match h:bZ a f n with
 | none=>simp[oX]
 | some (b,l,q)=>
   let⟨i,j,p,k⟩:=mE a f ha e d n hn b l q h;let⟨g,c2⟩:=aDc a f l i j ha e d;rw[<-k]at g;simp only[oX];omega
set_option maxRecDepth 100000 in
def aFd (f s w)(hf:0<=f)(af:f%32=0)(hs:0<=s)(b7:s%32=0)(b8:s<=262144-f):
 qC 167 #[qI f,qI s] w (pK w true$ zD f s):=by
 let⟨i0,hi,b3,b4,b5⟩:=info_parts aKi;let⟨L,hL⟩:=aN$ zD f s;rw[<-hL];have HL:=zh hL;clear hL;have HO:=zh$ vY w w.heap.size aO;have HB:=zh$ (Below.refl w.heap.size w).alloc aO$ .cells #[] 231
 delta qC;go_in
 go_wp2_with fail
 go_loopw [0,1,6] (λx y r wr=>∃(A:qO) (m p:Nat) (rs:List Rg) (n:Nat) (a z:Int),x=qI a/\y=qI z/\r=qS A m p/\f<=a/\a+z=f+s/\0<=z/\a%32=0/\z<=32*(n:Int)/\m+n<=8192/\ORg wr w.heap.size (qS A m p) rs/\L=rs++fT (f+s) n a/\qY w wr) (λ_ y _ _=>(intOf y).toNat)
 .exact⟨_,0,0,[],(s/32).toNat,f,s,rfl,rfl,rfl,J,J,J,af,J,J,HO.o,by rw[HL.o];rfl,HB.o⟩
 .obtain⟨A,m,p,rs,n,a,z,rfl,rfl,rfl,ha,a7,hz,ac,hn,b9,hO,u,Y⟩:=hrel;let⟨w9,b2⟩:=aN$ wr;subst b2;by_cases ay:0<z
  .rw[<-a7]at u;have H:=(eM hO).1;let⟨b,l,q,hF,hl,b1,hq,a2,a5,b0,hb,_⟩:=aJg a (a+z) J J J ac J;obtain⟨n,rfl⟩:∃n',n=n'+1:=⟨n-1,J⟩;rw[nD (a+z) n a b l q J hF]at u
   have:0<=b/\b<=262144:=by
    have:=mK a l _ hl b1 rfl;have:=pow_pos l.toNat;rw[hb];unfold bH;omega
   clear hb;have HF:=zh hF;have O:=zh u;have N:=zh hO;have Z:=zh Y;have C:=zh H;have am:=zh a7;have au:=Y.size;have KZ:=zh$ Blk.new w9 #[qI 0,qI 0,qI 0,.bool false,.bool false,.bool false] 231;clear u hO Y hF H HO HB;go_wp2_with fail
   go_loopw [8,9] (λmo lg wq=>∃(k:Nat),k<=10/\mo=qI (oX$ bZ a (a+z) k)/\lg=qI (5+(k:Int))/\Blk wq w9.heap.size (aEp$ bZ a (a+z) k) 231/\qY w9 wq) (λ_ lg _=>15-(intOf lg).toNat)
   .exact⟨0,J,by rw[eV];rfl,rfl,by rw[eV];exact KZ.o,bal⟩
   .obtain⟨k,hk,rfl,rfl,kb,i⟩:=hrel;have V:=jM$ bZ a (a+z) k;have a4:=aQu a (a+z) J J J k hk;by_cases b6:k<10
    .have ak:=zh$ aIl a z (5+(k:Int)) wr J J J ay J;have aa:=zh$ eU a (a+z) k;let⟨x1,x2,x3,hx⟩:=aJj$ bZ a (a+z) k;rw[hx]at kb;have av:=aDc a (a+z) (5+(k:Int)) J J J J J;have:=zJ (5+(k:Int))$ qOf a (a+z)$ 5+(k:Int);generalize ap:bZ a (a+z) k=st at *;generalize ab:cnt (5+(k:Int)) (qOf a (a+z)$ 5+(k:Int))=c at *;generalize ax:bH a (5+(k:Int))=t at *;let⟨sc,B⟩:=aN$ oX st;rw[<-B]at V a4⊢;have U:=zh B;have a3:=zh ab;have HX:=zh hx;have:c<=262144:=J
     have KB:=zh kb;have ao:=zh i;have I:=i.size;have:=kb.lt;clear B ab hx av ap ax kb i;go_wp2_with fail
     apply ak.mono;rintro e w3 ⟨o,rfl,P,F⟩;have R:=zh P;have a1:=(KB.bw F).alloc$ .cells #[qI t,qI$ 5+(k:Int),qI o,.bool false,.bool false,.bool false] 231;have:=F.size;have E:=zh$ (ao.trans$ F.mono I).alloc J$ .cells #[qI t,qI$ 5+(k:Int),qI o,.bool false,.bool false,.bool false] 231;have a8:=zh a1;have q1:=a1.six';clear P F a1;by_cases a9:sc<c
     .have X:=zh (show bZ a (a+z) (k+1)=some (t,5+(k:Int),qOf a (a+z)$ 5+(k:Int))by
       rw[aa.o];unfold keep
       rw[if_pos (by rw[<-U.o,a3.o];exact a9)])
      go_wp2_with fail
      refine⟨⟨k+1,J,by rw[X.o];exact congrArg (Value.int .i64) a3.o.symm,by go_num,?_,nH aO E.o t (5+(k:Int)) o⟩,by simp[intOf];omega⟩;rw[X.o]
      have e2:aEp (some (t,5+(k:Int),qOf a (a+z)$ 5+(k:Int)))=#[qI t,qI$ 5+(k:Int),qI o,.bool false,.bool false,.bool false]:=by
       simp only[aEp];rw[R.o J]
      rw[e2];exact Blk.set (Blk.set (Blk.set (Blk.set (Blk.set (Blk.set a8 0 _) 1 _) 2 _) 3 _) 4 _) 5 _
     .have X:=zh (show bZ a (a+z) (k+1)=st by
       rw[aa.o];unfold keep
       rw[if_neg (by rw[<-U.o,a3.o];exact a9)])
      go_wp2_with fail
      exact⟨⟨k+1,J,by rw[X.o,U.o],by go_num,by rw[X.o,HX.o];exact a8.o,E.o⟩,by simp[intOf];omega⟩
    .have ai:k=10:=J
     subst ai;rw[HF.o]at kb V a4⊢;let⟨o,P⟩:=aN$ 255-(q:Int);let⟨c,hc⟩:=aN$ cnt l q;have ad:Blk wr w9.heap.size #[qI b,qI l,qI o,.bool false,.bool false,.bool false] 231:=by rw[P];exact kb
     have B:oX (some (b,l,q))=c:=hc.symm;rw[B]at V a4⊢;rw[<-hc]at a2 a5 b0 O;rw[<-P]at O;have ae:wfi b/\wfi l/\wfi o:=Jh
     have aw:=zh ae;have D:=aCn (S:=λ_=>False) (aI i) N λ_ _=>id;have K:=zh$ D.1.alloc$ .cells #[qI b,qI l,qI o,.bool false,.bool false,.bool false] 231;rw[C.o]at K;have ah:Zh ((dT (b,l,o,false,false,false)).length=1*6):=rfl;have Q:=zh$ aOm wr (b,l,o,false,false,false);have ag:=zh$ aRi (b,l,o,false,false,false);have aj:=zh D.2;have aq:=zh D.1.lt;have I:=i.size;have E:=zh$ (Z.trans$ i.mono au).alloc J$ .cells #[qI b,qI l,qI o,.bool false,.bool false,.bool false] 231;have q1:=ad.six';clear D i kb ad P hc B ae;go_wp2_with (at_builtin;refine wpList_append_own _ rfl _ _ 118 rfl w.heap.size 231 i0 (.agg #[qI 0,qI 0,qI 0,.bool false,.bool false,.bool false]) 6 32 underlying118 hi b3 b4 b5 rfl Ja (qS A m p) m (fI rs) rfl K.o (qh wr 0) 1 1 (dT (b,l,o,false,false,false)) rfl ah.o Q.o ag.o Jf J Jc ?_;intro v' w3 d G _;obtain⟨A',a0,he⟩:=pW d;subst he;have a6:=aDm (W:=wr) (v:=qS A m p) (g:=(b,l,o,false,false,false)) aj.o aw.o (by rw[C.o];exact d);have t3:=lZ G;have M:∀j,(qS A m p).ownBlock=some j->w.heap.size<=j:=λj hj=>(aq.o j hj).1;have az:=zh$ aG E.o t3 M Jc;have R:=zh a6;clear a6 t3 M d G)
     refine⟨⟨A',m+1,a0,rs++[(b,l,o,false,false,false)],n,a+c,z-c,by go_num,by go_num,rfl,J,J,J,J,J,J,R.o,by rw[O.o,am.o];simp,az.o⟩,?_⟩;simp[intOf];omega
  .have an:z=0:=J
   subst an;have ar:L=rs:=by rw[u,pI _ _ _ J,List.append_nil]
   subst ar;have N:=zh hO;have Z:=zh Y;clear u hO Y;go_wp2_with fail
   go_ret2
   exact⟨A,m,p,rfl,N,Z⟩
def aHl (f s w)(a:-9223372036854775808<=f/\f<=9223372036854775807)(b:-9223372036854775808<=s/\s<=9223372036854775807):
 qC 167 #[qI f,qI s] w (pK w (uR f s)$ cvL f s):=by
 unfold cvL;cases e:uR f s
 .exact aHk f s w a b e
 .unfold uR grn at e;simp at e;exact aFd f s w J J J J J
def rgt (r x y:Bool)(g:Rg):Rg:=(g.1,g.2.1,g.2.2.1,r,x,y)
def rts (r x y:Bool)(L:List Rg):List Rg:=L.map$ rgt r x y
def jN (r x y L):(rts r x y L).length=L.length:=by simp[rts]
def aNt (r x y L k)(h:k<L.length):(rts r x y L).take (k+1)=(rts r x y L).take k++[rgt r x y$ L.getD k z6]:=by
 rw[List.take_add_one];congr 1;simp[rts,xB,h]
def zC:∀(n:Nat)(b a:Int),(fT b n a).length<=n
 | 0,b,a=>by simp[fT]
 | n+1,b,a=>by
   unfold fT;split
   .unfold aI4;split
    .have:=zC n b
     grind
    .simp
   .simp
def vD (f s):(cvL f s).length<=8192:=by
 unfold cvL;split
 .rename_i h;unfold zD;unfold uR grn at h;simp at h;have:=zC (s/32).toNat (f+s) f;omega
 .simp
