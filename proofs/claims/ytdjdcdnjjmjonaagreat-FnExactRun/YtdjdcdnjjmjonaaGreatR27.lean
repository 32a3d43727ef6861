import Derived.Test.YtdjdcdnjjmjonaaGreatR24
import Derived.Test.YtdjdcdnjjmjonaaGreatR25
import Derived.Test.YtdjdcdnjjmjonaaGreatR26
set_option linter.all false
set_option maxHeartbeats 8000000
namespace Go.Proofs.YtdjdcdnjjmjonaaGreat
open Go.RowKit
open Go.Proofs.Tryz
set_option maxRecDepth 100000
variable {C:Cn}{L:Lay}{a s:Int}
variable {w W X:qw}{M:Mz}{pc pc':Int}{rg rg':qi}
def aXn (k:Nat)(N:k<6)(op d a i w)(h:Pz w M pc rg)(I:RS w M.ra M.rn M.rc M.rs)(l:op=(k:Int)+14)(B:0<=d)(E:d<=7)(t:0<=a)(x:a<=7)(D:0<=i)(j:i<=65535):
 qC (opL.getD (k+13) 0) #[.pointer$ qP M.g,.agg$ qW op d a i] w (OpP w M$ opz M.toCy op d a i pc rg):=by
 have b:qY w ((w.alloc$ .cells (qW op d a i) 186).alloc$ .cells #[qI 0,qI 0] 80):=bal.alloc Jb _;have kb:=(Blk.new w (qW op d a i) 186).alloc$ .cells #[qI 0,qI 0] 80;have f:=Blk.new (w.alloc$ .cells (qW op d a i) 186) #[qI 0,qI 0] 80;simp only[xF]at f;have p:=h.p.blk.lt;let⟨r,C⟩:=aO$ opz M.toCy op d a i pc rg;rw[<-C];have G:Zh (∀s w,r=ldz M.toCy pc rg d a i s->Pz w M pc rg->RS w M.ra M.rn M.rc M.rs->qC 222 #[.pointer$ qP M.g,.agg$ qW op d a i,qI s] w (OpP w M r)):=λs w hs h r=>by rw[hs];exact aV7 op d a i s w h r B E t x D j
 have K:Zh (∀s w,r=stz M.toCy pc rg d a i s->Pz w M pc rg->RS w M.ra M.rn M.rc M.rs->qC 226 #[.pointer$ qP M.g,.agg$ qW op d a i,qI s] w (OpP w M r)):=λs w hs h r=>by rw[hs];exact aUl op d a i s w h r B E t x D j
 have y:=zh C;have g:=h.bw b;have H:=b;let⟨V,W,X,Y,Z⟩:=kb.four';let⟨e1,e2,e3⟩:=f.two';have u:=I.bw b;rcases(show k=0\/k=1\/k=2\/k=3\/k=4\/k=5 from J)with rfl|rfl|rfl|rfl|rfl|rfl
 all_goals simp at l;have A:=zh l;clear l
 show qC 221 _ _ _;go_enter func221,ntmps221;rotate_left;show qC 223 _ _ _;go_enter func223,ntmps223;rotate_left;show qC 224 _ _ _;go_enter func224,ntmps224;rotate_left;show qC 225 _ _ _;go_enter func225,ntmps225;rotate_left;show qC 227 _ _ _;go_enter func227,ntmps227;rotate_left;show qC 228 _ _ _;go_enter func228,ntmps228;rotate_left
 all_goals
  go_wp2_with fail
  first|(go_at_call 222;refine(G.o _ _ (by rw[y.o,A.o];simp[opz]) (by exact g) (by exact u)).mono ?_)|(go_at_call 226;refine(K.o _ _ (by rw[y.o,A.o];simp[opz]) (by exact g) (by exact u)).mono ?_)
  intro e O q;obtain⟨rfl,t9,P,Q,S⟩:=gZ g H p f J q;clear V W X Y Z e1 e2 e3;obtain⟨e1,e2,e3⟩:=(g.kp t9 f Ja J).two';clear q;obtain⟨j,U,i3,i4,i5,i6,i7⟩:=r;go_wp2;exact bodyPost_ret (v:=.agg #[qI j,qI U]) (by simp[results,results221,results223,results224,results225,results227,results228,go_sem,Q,S]) rfl P.o
variable {w W X:qw}{M:Mz}{pc pc':Int}{rg rg':qi}
def wQ {C:Cy}{op d i:Int}(h:op=1\/20<=op):opz C op d a i pc rg=C.go (ev op i$ m32$ pc+4).1 (ev op i$ m32$ pc+4).2 (if jmp op (rg.getD d.toNat 0)=true then m32 (pc+4+4*eA i) else m32 (pc+4)) rg:=by
 unfold opz
 repeat rw[if_neg J]
def aXm (k:Nat)(Y:k<7)(op d a i w)(h:Pz w M pc rg)(B:op=if k=0 then 1 else (k:Int)+19)(S:0<=d)(U:d<=7)(V:0<=a)(Z:a<=7)(N:0<=i)(D:i<=65535):
 qC (opL.getD (if k=0 then 0 else k+18) 0) #[.pointer$ qP M.g,.agg$ qW op d a i] w (OpP w M$ opz M.toCy op d a i pc rg):=by
 have u:qY w ((w.alloc$ .cells (qW op d a i) 186).alloc$ .cells #[qI 0,qI 0] 80):=bal.alloc Jb _;have kb:=(Blk.new w (qW op d a i) 186).alloc$ .cells #[qI 0,qI 0] 80;have f:=Blk.new (w.alloc$ .cells (qW op d a i) 186) #[qI 0,qI 0] 80;simp only[xF]at f;have j:=h.p.blk.lt;have O:=zh λw h=>aIn op d a i M.g pc rg M.v1 M.v2 M.v3 M.v4 w h S U;have Q:=zh λw h=>uA op d a i M.g pc rg M.v1 M.v2 M.v3 M.v4 w h N D;have:=h.p.range d.toNat;let⟨r,C⟩:=aO$ opz M.toCy op d a i pc rg;rw[<-C];rw[wQ (by split at B<;>omega)]at C;generalize rg.getD d.toNat 0=z at *;have I:Zh (∀w t,t=jmp op z->ev op i (m32$ pc+4)=(0,0)->Pz w M pc rg->qC 230 #[.pointer$ qP M.g,.agg$ qW op d a i,.bool t] w (OpP w M r)):=λw t G H h=>(aMk op d a i t M.g pc rg M.v1 M.v2 M.v3 M.v4 w h.p N D).mono λe W q=>by rw[C,H,<-G];exact opT h q
 have K:Zh (∀w x y,(x,y)=ev op i (m32$ pc+4)->jmp op z=false->Pz w M pc rg->qC 204 #[.pointer$ qP M.g,qI x,qI y] w (OpP w M r)):=λw x y G H h=>(aIm x y M.g pc rg M.v1 M.v2 M.v3 M.v4 w h.p).mono λe W q=>by rw[C,H,<-G];exact opT h q
 have b:=h.bw u;have l:=u;have A:=kb.four';have e1:=f.two';clear h u C;rcases(show k=0\/k=1\/k=2\/k=3\/k=4\/k=5\/k=6 from J)with rfl|rfl|rfl|rfl|rfl|rfl|rfl
 all_goals simp at B;have p:=zh B;clear B
 show qC 203 _ _ _;go_enter func203,ntmps203;rotate_left;show qC 229 _ _ _;go_enter func229,ntmps229;rotate_left;show qC 231 _ _ _;go_enter func231,ntmps231;rotate_left;show qC 232 _ _ _;go_enter func232,ntmps232;rotate_left;show qC 233 _ _ _;go_enter func233,ntmps233;rotate_left;show qC 235 _ _ _;go_enter func235,ntmps235;rotate_left;show qC 236 _ _ _;go_enter func236,ntmps236;rotate_left
 all_goals
  go_wp2_with fail
  first
  | (go_at_call 230;refine(I.o _ _ (by rw[p.o];first|(simp[jmp];done)|(rw[xJ];simp[jmp];done)|(rw[xJ];simp[jmp];omega)) (by rw[p.o];rfl) (by first|exact b|exact b.drew)).mono ?_;intro e E q;obtain⟨rfl,s,X,c0,c1⟩:=gZ b l j f J q;have A:=(b.kp s kb Ja J).four';have e1:=(b.kp s f Ja J).two';clear q)
  | (go_at_call 204;refine(K.o _ _ _ (by rw[p.o];first|rfl|exact congrArg (Prod.mk _) (by unfold m32;omega)) (by rw[p.o];simp[jmp]) (by first|exact b|exact b.drew)).mono ?_;intro e E q;obtain⟨rfl,s,X,c0,c1⟩:=gZ b l j f J q;have A:=(b.kp s kb Ja J).four';have e1:=(b.kp s f Ja J).two';clear q)
  | (go_at_call 234;refine(Q.o _ (by first|exact b.p|exact b.drew.p)).mono ?_;rintro e P ⟨rfl,g⟩;(try replace g:=aU g);replace l:=yT l g;replace b:=b.bw g;replace kb:=kb.bw g;replace f:=f.bw g;have A:=kb.four';have e1:=f.two';go_wp2_with fail;go_at_call 204;refine(K.o _ _ _ (by rw[p.o];first|rfl|exact congrArg (Prod.mk _) (by unfold m32;omega)) (by rw[p.o];simp[jmp]) (by first|exact b|exact b.drew)).mono ?_;intro e E q;obtain⟨rfl,s,X,c0,c1⟩:=gZ b l j f J q;have A:=(b.kp s kb Ja J).four';have e1:=(b.kp s f Ja J).two';clear q)
  | go_region_held3 (λw'=>qn w' w 0=qj op/\qn w' w 1=qj d/\qn w' w 2=qj a/\qn w' w 3=qj i) (go_keep)
    (first
      | (go_at_call 208;refine(O _ (by first|exact b.p|exact b.drew.p)).mono ?_;rintro e P ⟨rfl,g⟩;(try replace g:=aU g);replace l:=yT l g;replace b:=b.bw g;replace kb:=kb.bw g;replace f:=f.bw g;have A:=kb.four';have e1:=f.two')
      | (go_at_call 230;refine(I.o _ _ (by rw[p.o];first|(simp[jmp];done)|(rw[xJ];simp[jmp];done)|(rw[xJ];simp[jmp];omega)) (by rw[p.o];rfl) (by first|exact b|exact b.drew)).mono ?_;intro e E q;obtain⟨rfl,s,X,c0,c1⟩:=gZ b l j f J q;have A:=(b.kp s kb Ja J).four';have e1:=(b.kp s f Ja J).two';clear q))
  all_goals
   obtain⟨D,i2,i3,i4,i5,i6,i7⟩:=r;go_wp2;exact bodyPost_ret (v:=.agg #[qI D,qI i2]) (by simp[results,results203,results229,results231,results232,results233,results235,results236,go_sem,c0,c1]) rfl X.o
variable {w W X:qw}{M:Mz}{pc pc':Int}{rg rg':qi}
def fez (C:Cy)(pc:Int):Int:=if C.al pc 4 3=true then if (C.rd pc 4).2=0 then if dOk (C.rd pc 4).1=true then 0 else 6 else (C.rd pc 4).2 else 5
def fiz (f x:Int):Value:=if f=0 then .agg (qW (x/67108864) (x/8388608%8) (x/1048576%8)$ x%65536) else .agg (qW 0 0 0 0)
def aUm (w)(h:Pz w M pc rg)(hr:RS w M.ra M.rn M.rc M.rs):
 qC 153 #[.pointer$ qP M.g] w (qB w$ .tuple #[fiz (fez M.toCy pc) (M.rd pc 4).1,qI$ fez M.toCy pc]):=by
 have t:qY w (w.alloc$ .cells (qW 0 0 0 0) 186):=bal;have kr:=Blk.new w (qW 0 0 0 0) 186;have H:=h.bw t;have Z:=hr.bw t;let⟨p0,p1⟩:=h.p.pcw;let⟨f,a0⟩:=aO$ fez M.toCy pc;rw[<-a0];unfold fez Cy.al Cy.rd at a0;unfold Cy.rd;have HA:=zh λw h=>iH M.ra M.rn M.rc M.rs pc 4 3 w h ⟨J,J⟩;have HR:=zh λw h1 h2=>iRd M.a1 M.a2 M.a3 M.n1 M.c1 M.n2 M.c2 M.n3 M.c3 M.x1 M.x2 pc 4 w h1 h2 p0 p1;generalize alw M.rs M.rn pc 4 3=A at *;generalize rd M.n1 M.n2 M.n3 M.x1 M.x2 pc 4=R at *;obtain⟨x,q⟩:=R;have I:=zh a0;let⟨v,hv⟩:=aO$ fiz f x;rw[<-hv];have S:=zh hv;clear a0 hv h hr;have HD:=zh λw=>aHb x w;have G:=zh (show IntKind.i64.wrap pc=pc by rw[IntKind.wrap_i64];omega);have hc:=H.p.pc;have m1:=H.p.mem
 delta qC;go_in
 go_wp2_with fail
 go_region_held3 (λs=>qN s M.g 0=some (.int .u32 pc)/\qN s M.g 12=some M.v4) (go_keep)
  (first
    | (go_at_call 200;rw[G.o];refine(HA.o _ (by exact Z)).mono ?_;rintro e w1 ⟨rfl,B⟩;replace B:=aU B;have y:=H.bw B;have V:=y.p.pc;obtain⟨o1,o2,o3,o4⟩:=y.p.mem))
 have p:=kr.bw B;have P:=t.trans$ B.mono Jb;clear B H Z kr t hc m1;have g:=λ{X:qw}(k:Blk X w.heap.size (qW 0 0 0 0) 186)(hB:qY w X)(o d a i:Int)=>(show Zh (qY w _)/\_ from⟨kZ aQ hB o d a i,(nX k o d a i).four'⟩);have K:=p.four';cases A
 .obtain rfl:f=5:=I.o;let⟨HB,C,W,y3,y4,y5⟩:=g p P 0 0 0 0;obtain rfl:v=.agg (qW 0 0 0 0):=S.o;clear p P y g;go_wp2;exact bodyPost_ret (v:=.tuple #[.agg$ qW 0 0 0 0,qI 5]) (by simp[results,results153,go_sem,C,W,y3,y4]) rfl ⟨rfl,HB.o⟩
 .go_wp2_with fail
  go_region_held3 (λs=>qN s M.g 0=some (.int .u32 pc)/\qN s M.g 9=some M.v1/\qN s M.g 10=some M.v2/\qN s M.g 11=some M.v3) (go_keep)
   (first
     | (go_at_call 201;rw[G.o];refine(HR.o _ (by exact y.o.1.bs) (by exact y.o.2.1.bs)).mono ?_;rintro e w2 ⟨rfl,D⟩;replace D:=aU D;have Q:=y.bw D;have Y:=Q.p.pc;obtain⟨j1,j2,j3,j4⟩:=Q.p.mem))
  have l:=p.bw D;have O:=yT P D;clear D y p P V o1 o2 o3 o4 K;have K:=l.four';by_cases N:q=0
  .subst N;go_wp2_with fail
   apply(HD _).mono;have u:=I.o;clear I;intro e w3 hd;unfold oH at hd;let⟨b,hb⟩:=aO$ dOk x
   obtain⟨o,d,a,i,hd,hv,hz⟩:∃o d a i,gL w2 o d a i b e w3/\v=.agg (qW o d a i)/\(b=false->o=0/\d=0/\a=0/\i=0):=by
    rw[<-hb]at hd u;have e:=S.o;cases b
    .exact⟨_,_,_,_,hd,by rw[e,u];rfl,λ_=>⟨rfl,rfl,rfl,rfl⟩⟩
    .exact⟨_,_,_,_,hd,by rw[e,u];rfl,λe=>by cases e⟩
   obtain⟨rfl,b3⟩:=hd;have j:=l.bw b3;have U:=yT O b3;let⟨HB,C,W,y3,y4,y5⟩:=g j U o d a i;have E:=zh (HB.o.alloc (by simp only[aL];exact U.size)$ .cells (qW o d a i) 186);have KK:=((nX j o d a i).alloc$ .cells (qW o d a i) 186).four';obtain⟨C,W,y3,y4,y5⟩:=KK;clear K Y j1 j2 j3 j4 g S;have:=j.lt;have K:=j.four';clear j U l O Q b3;subst hv;rw[<-hb]at u;clear hb;cases b
   .obtain⟨rfl,rfl,rfl,rfl⟩:=hz rfl;obtain rfl:f=6:=u;go_wp2;exact bodyPost_ret (v:=.tuple #[.agg$ qW 0 0 0 0,qI 6]) (by simp[results,results153,go_sem,C,W,y3,y4]) rfl ⟨rfl,E.o⟩
   .obtain rfl:f=0:=u;clear hz;go_wp2;exact bodyPost_ret (v:=.tuple #[.agg$ qW o d a i,qI 0]) (by simp[results,results153,go_sem,C,W,y3,y4]) rfl ⟨rfl,E.o⟩
  .have a1:(q !=0)=true:=by simpa using N
   have u:=I.o;simp only[reduceIte,N]at u;subst u;let⟨HB,C,W,y3,y4,y5⟩:=g l O 0 0 0 0;obtain rfl:v=.agg (qW 0 0 0 0):=by rw[S.o,fiz,if_neg N]
   clear l O Q g;go_wp2;exact bodyPost_ret (v:=.tuple #[.agg$ qW 0 0 0 0,qI f]) (by simp[results,results153,go_sem,C,W,y3,y4]) rfl ⟨rfl,HB.o⟩
variable {w W X:qw}{M:Mz}{pc pc':Int}{rg rg':qi}
theorem zop (k:Nat)(B:k<25)(op d a i w)(h:Pz w M pc rg)(u:RS w M.ra M.rn M.rc M.rs)(A:op=(k:Int)+1)(f:0<=d)(p:d<=7)(b:0<=a)(g:a<=7)(l:0<=i)(q:i<=65535):
 qC (opL.getD k 0) #[.pointer$ qP M.g,.agg$ qW op d a i] w (OpP w M$ opz M.toCy op d a i pc rg):=by
 by_cases t:k=0\/19<=k
 .obtain⟨j,x,e⟩:∃j,j<7/\k=if j=0 then 0 else j+18:=by
   rcases t with rfl|t
   .exact⟨0,J,rfl⟩
   .exact⟨k-18,J,by grind⟩
  rw[e];exact aXm j x op d a i w h (by grind) f p b g l q
 .by_cases y:k<=12
  .have:=aXo (k-1) J op d a i w h J f p b g l q
   grind
  .have:=aXn (k-13) J op d a i w h u J f p b g l q
   grind
def aJw {x:Int}(h:dOk x=true):1<=x/67108864/\x/67108864<=25:=by
 unfold dOk okI okU at h;simp only[Bool.and_eq_true,decide_eq_true_eq]at h;by_cases hc:x/67108864<=0\/26<=x/67108864
 .rw[aC7 _ hc]at h;omega
 .omega
def aSe (f)(b:f∈opL)(a w):(callFunc f a).run prog w=.ok (.enter f a) w:=by
 repeat(rcases List.mem_cons.1 b with rfl|b;· go_simp)
 cases b
def OpP.more {r:Res}{e:Ending}(q:OpP w M r e W)(o):OpP w M r e (W.alloc o):=by
 obtain⟨a,d,b,h,H,T⟩:=q;exact⟨a,d,b,h,H.bw bal,T.trans$ cK _ _⟩
def spz (C:Cy)(pc:Int)(rg:qi):Res:=
 if fez C pc=0 then opz C ((C.rd pc 4).1/67108864) ((C.rd pc 4).1/8388608%8) ((C.rd pc 4).1/1048576%8) ((C.rd pc 4).1%65536) pc rg else C.go 5 (fez C pc) pc rg
def aV5 (w)(h:Pz w M pc rg)(Q:RS w M.ra M.rn M.rc M.rs):qC 90 #[.pointer$ qP M.g] w (OpP w M$ spz M.toCy pc rg):=by
 have g:qY w (w.alloc$ .cells #[qI 0,qI 0] 80):=bal;have G:=Blk.new w #[qI 0,qI 0] 80;have u:=h.bw g;have A:=Q.bw g;have B:=h.p.blk.lt;have E:=zh λw h r=>aUm (M:=M) (pc:=pc) (rg:=rg) w h r;unfold spz
 have hd:fez M.toCy pc=0->dOk (M.rd pc 4).1=true:=λh=>by
  unfold fez at h
  repeat' split at h
  all_goals first|assumption|omega
 generalize fez M.toCy pc=f at *;generalize (M.rd pc 4).1=x at *;clear h Q;by_cases D:f=0
 .subst D;have S:=aJw$ hd rfl;rw[if_pos rfl];rw[fiz,if_pos rfl]at E;obtain⟨k,C⟩:∃k:Nat,x/67108864=(k:Int)+1:=⟨(x/67108864).toNat-1,J⟩;have Y:=zh λw h r=>zop (M:=M) (pc:=pc) (rg:=rg) k J (x/67108864) (x/8388608%8) (x/1048576%8) (x%65536) w h r C J J J J J J;have O:=zh λw=>aV6 k J (x/67108864) C w;unfold opV at O;have U:=aSe (opL.getD k 0) (by rw[xB,xN (show k<opL.length by show k<25;omega)];exact List.getElem_mem _);generalize opL.getD k 0=F at *;generalize x/67108864=o at *;generalize x/8388608%8=d at *;generalize x/1048576%8=a at *;generalize x%65536=i at *;generalize opz M.toCy o d a i pc rg=r at *;obtain⟨i1,i2,i3,i4,i5,i6,i7⟩:=r;clear hd S C
  delta qC;go_in
  go_wp2_with fail
  apply(E _ u A).mono;rintro e p ⟨rfl,l⟩;have j:=l.alloc l.size$ .cells (qW o d a i) 186;have kb:=Blk.new p (qW o d a i) 186;have y:=u.bw j;have K:=A.bw j;have b:=G.bw j;have I:=g.trans$ j.mono Jb;have H:w.heap.size<p.heap.size:=by have:=l.size;simp at this;omega
  have n1:p.heap.size≠w.heap.size:=J
  have n2:w.heap.size≠p.heap.size:=J
  clear l j G u A g;go_wp2_with fail
  let⟨W,X,k3,k4,k5⟩:=kb.four';let⟨e1,e2,e3⟩:=b.two'
  go_region_held3 (λs=>qn s p 0=qj o/\qn s p 1=qj d/\qn s p 2=qj a/\qn s p 3=qj i) (go_keep)
   (first
     | (go_at_call 154;refine(O _).mono ?_;rintro e w2 ⟨rfl,t⟩;(try replace t:=aU t);replace kb:=kb.bw t;obtain⟨W,X,k3,k4,k5⟩:=kb.four';replace y:=y.bw t;replace K:=K.bw t;replace b:=b.bw t;replace I:=yT I t)
     | (refine(Y _ (by exact y) (by exact K)).mono ?_;intro e Z q;obtain⟨rfl,t9,N,c0,c1⟩:=gZ y I B b J q;obtain⟨W,X,k3,k4,k5⟩:=(y.kp t9 kb Ja J).four';obtain⟨e1,e2,e3⟩:=(y.kp t9 b Ja J).two';clear q))
  all_goals
   go_wp2;exact bodyPost_ret (v:=.agg #[qI i1,qI i2]) (by simp[results,results90,go_sem,c0,c1]) rfl N.o
 .rw[if_neg D];rw[fiz,if_neg D]at E;have V:(f !=0)=true:=by simpa using D
  clear D hd
  delta qC;go_in
  go_wp2_with fail
  apply(E _ u A).mono;rintro e p ⟨rfl,l⟩;have b:=G.bw l;have N:=zh$ (pG B (u.bw l) b (aG$ g.trans$ l.mono Jb) aQ 5 f).1.o.more$ .cells (qW 0 0 0 0) 186;have P:=((b.set 0$ qI 5).set 1$ qI f).alloc$ .cells (qW 0 0 0 0) 186;let⟨y0,y1,y2⟩:=Blk.two' P;let⟨e1,e2,e3⟩:=b.two';have H:w.heap.size<p.heap.size:=by have:=l.size;simp at this;omega
  clear b u l G P A g;go_wp2;exact bodyPost_ret (v:=.agg #[qI 5,qI f]) (by simp[results,results90,go_sem,y0,y1]) rfl N.o
abbrev wrd (z:Int):Prop:=0<=z/\z<=4294967295
theorem aGm {rs:List Rg}{a k:Int}:∀{n:Nat},dC rs a k n=true->∃j,j<n/\zM (rs.getD j z6) a=true/\aCt (rs.getD j z6) k=true
 | 0,h=>by cases h
 | n+1,h=>by
   unfold dC at h;split at h
   .grind
   .obtain⟨j,b,d⟩:=aGm h
    grind
theorem aFb {f:Int}(i:0<=f)(d:f%32=0)(k:0<=s)(j:s%32=0)(e:f+s<=262144){g:Rg}(b:g∈cvL f s)(ha:zM g a=true):f<=a/\a<f+s:=by
 unfold cvL aAe at b;rw[if_pos (by grind)]at b;exact(aC2 _ _ _ (sA (f+s) e J (s/32).toNat f i J d J) a).1 ⟨g,b,ha⟩
def Cv.ends (h:Cv C L):L.stack=65536+Ra C.ps C.ps.length/\cX L=L.stack+C.ck/\0<=C.ck/\C.ck<=1024/\C.ck%32=0/\∀i,i<L.slots.length->cX L<=L.slots.getD i 0:=by
 have d:=dX.1 h.k;have hc:=d.1;unfold cfo at hc;simp at hc;have j:=cN d.2.2.2.1 C.ps.length aQ;have e:L=lay C.ps C.cs C.cw C.ck:=by rw[h.e];unfold lkL;rw[if_pos h.k]
 have b:∀i,i<L.slots.length->L.slots.getD i 0=slt C.ps C.cw C.ck i:=λi hi=>by
  rw[e]at hi⊢;simp only[lay,List.length_map,List.length_range]at hi;simp[lay,xB,hi]
 have st:L.stack=65536+Ra C.ps C.ps.length:=by rw[e];rfl
 have a:=aX (x:=4*C.cw)
 have f:cX L=L.stack+C.ck:=by
  unfold cX;by_cases c:L.slots=[]
  .rw[if_pos c];have g:C.cs.toNat=0:=by have:=congrArg List.length c;rw[e]at this;simpa[lay]using this
   have:L.ram=Ra C.ps C.ps.length+C.ck:=by rw[e];simp[lay,g]
   unfold wrap64;omega
  .rw[if_neg c,b 0$ List.length_pos_iff.2 c,st];unfold slt;simp
 refine⟨st,f,J,J,J,λi hi=>?_⟩;rw[f,b i hi,st];unfold slt;have:=Int.mul_nonneg (Int.natCast_nonneg i)$ show 0<=rnd (4*C.cw)from J;omega
theorem aVc (h:Cv C L){n:Nat}(hn:n<=(plR C.ps L C.md C.bk s).length)(f:dC (plR C.ps L C.md C.bk s) a 2 n=true):a<cX L\/131072<=a:=by
 have:=h.ends;have d:=h.n.1;have v:=(dX.1 h.k).2.2.2.1;have:=h.cf.2.1
 have:0<=C.md/\C.md<(C.ps.length:Int):=by
  unfold pcq at d
  grind
 have i:=iN$ v C.md.toNat J;have:=cN v C.md.toNat J;have:=cN v C.ps.length aQ;have:Ra C.ps (C.md.toNat+1)<=Ra C.ps C.ps.length:=aFm v _ _ J aQ;have:Ra C.ps (C.md.toNat+1)=Ra C.ps C.md.toNat+dsz (C.ps.getD C.md.toNat zP):=rfl;have:=aLs C.ps C.md.toNat;have:=aLs C.ps C.ps.length;have k:dsz (C.ps.getD C.md.toNat zP)%32=0:=aOv _;let⟨j,p,e,l⟩:=aGm f;have b:=aHh _ j z6$ show j<(plR C.ps L C.md C.bk s).length from J;generalize (plR C.ps L C.md C.bk s).getD j z6=g at *;unfold plR rts at b;simp only[List.nil_append,List.mem_append,List.mem_map]at b;rcases b with((⟨x,hx,rfl⟩|⟨x,hx,rfl⟩)|⟨x,hx,rfl⟩)|⟨x,hx,rfl⟩
 .have:=aFb (by show 0<=65536+Ra C.ps C.md.toNat;omega) (by show(65536+Ra C.ps C.md.toNat)%32=0;omega) (by exact i.1) (by exact k) (by show 65536+Ra C.ps C.md.toNat+dsz _<=_;omega) hx e;have:(plc C.ps C.md.toNat).data+(plc C.ps C.md.toNat).size=65536+Ra C.ps C.md.toNat+dsz (C.ps.getD C.md.toNat zP):=rfl;omega
 .have:=aFb J J J J J hx e;omega
 .have:=aFb Ja Ja Ja Ja Ja hx e;omega
 .cases l
def pW (w1 G Y C M a1 vr a w)(h:Mg w1 w G Y C M a1 vr)(O:Cv C Y.L)(ha:0<=a/\a<=4294967295):
 qC 155 #[.pointer$ qP G,qI a] w λe w'=>(∃z:Int,e=.returned (.tuple #[.agg$ qT C.md C.bk z,.bool$ atB C Y.L a])/\(atB C Y.L a=true->z=awy C Y.L a/4))/\qY w w':=by
 let⟨U,hU,bU,kU⟩:=nwb w (qT 0 0 0) 121;have hg:G<w.heap.size:=h.k.lt;have f:=h.bw bU;let⟨⟨_,_,_,_,_,e1,e2,_⟩,ep,_⟩:=h.vs;have KN:=mR (s:=0) f.ly O.cf.2.2.2.2 O.cz.p;have A:=zh$ aCh w1 G Y C M a1 vr U f;rw[e1,e2]at A;let⟨S,hS⟩:=aO$ hld C.lz C.md C.bk;let⟨Z,hZ⟩:=aO$ eE Y.L (plc C.ps C.md.toNat) C.bk S;let⟨D,hD⟩:=aO$ a-Z;have hA:awy C Y.L a=D:=by unfold awy;rw[hD,hZ,hS]
 have a4:=aO9 O;rw[<-hS,<-hZ]at a4;have N:=O.cz.s;rw[<-hS]at N;have a6:=zb U λX d=>(wE w1 G Y C M a1 vr X$ f.bw d).mono (λe w' i=>show e=.returned (qI S)/\qY X w' from⟨by rw[i.1,e1,e2,hS],i.2⟩);have a2:=zb U λX d=>(lN Y.L Y.a0 Y.c0 Y.xs Y.a2 Y.c2 Y.a5 Y.c5 Y.ts C.md C.bk 0 S X (f.bw d).ly KN.m0 KN.m1 KN.bb N).mono (λe w' i=>show e=.returned (qI Z)/\qY X w' from⟨by rw[i.1,aEe,KN.p,hZ],i.2⟩);have a5:=zb U λX d=>(lG M.ma M.mn M.mc M.ms C.md C.bk (D.tdiv 4) X$ (f.mnd O.cf.2.1).m.bw d).mono (λe w' i=>show e=.returned (.bool$ decide$ tgk C.ps C.md C.bk$ D.tdiv 4)/\qY X w' from⟨by rw[i.1,ep],i.2⟩);have HC:=zb U λX d=>show qN X G 0=qk M.ma M.mn M.mc/\(qN X G 15=qk Y.a0 Y.xs.length Y.c0/\qN X G 16=qj Y.L.stack/\qN X G 17=qk Y.a2 Y.L.slots.length Y.c2/\qN X G 18=qj Y.L.flash/\qN X G 19=qj Y.L.ram/\qN X G 20=qk Y.a5 Y.ts.length Y.c5)/\Blk X w.heap.size (qT 0 0 0) 121 from⟨(f.bw d).k.cell 0,⟨(f.bw d).k.cell 15,(f.bw d).k.cell 16,(f.bw d).k.cell 17,(f.bw d).k.cell 18,(f.bw d).k.cell 19,(f.bw d).k.cell 20⟩,kU.bw d⟩;let⟨r,hr⟩:=aO$ atB C Y.L a;have P:=zh$ aQ7 O hA;rw[<-hr]at P;rw[<-hr,hA];have ah:IntKind.i64.wrap (a-Z)=D:=by rw[<-hD,xP,xQ _ J]
 have ag:IntKind.i64.wrap (D.tdiv 4)=D.tdiv 4:=by
  have q:=Int.tmod_add_mul_tdiv D 4;have:=Int.lt_tmod_of_pos D$ show(0:Int)<4 from J;have:=Int.tmod_lt_of_pos D$ show(0:Int)<4 from J;rw[xP,xQ _ J]
 have Q:=zh (λ(a8:r=true)=>show D.tdiv 4=D/4 by
  have:0<=D:=by
   have:=a8;rw[hr]at this;unfold atB at this;rw[hA,decide_eq_true_eq]at this;exact this.1
  rw[Int.tdiv_eq_ediv_of_nonneg this])
 have HU:=zh hU;have x:=zh bU;have ai:U.heap.size=w.heap.size+1:=by rw[hU];simp
 clear hU bU kU h f O ha KN e1 e2 ep hS hZ hD hA a4 N hr
 delta qC;go_in
 go_wp2_with (rw[<-HU.o])
 apply A.mono;rintro e g ⟨rfl,E⟩;let⟨V,hV,bV,kV⟩:=nwb g (qT C.md C.bk 0) 121;have l:=yT E bV;have ab:U.heap.size<=g.heap.size:=E.size;have HV:=zh hV;have af:¬G=g.heap.size:=J
 have ad:¬g.heap.size=G:=J
 have ak:¬w.heap.size=g.heap.size:=J
 have ae:¬g.heap.size=w.heap.size:=J
 have ac:¬G=w.heap.size:=J
 have aj:¬w.heap.size=G:=J
 have t:=zh (λ(X:qw)(d:qY V X)=>show(qN X G 15=qk Y.a0 Y.xs.length Y.c0/\qN X G 16=qj Y.L.stack/\qN X G 17=qk Y.a2 Y.L.slots.length Y.c2/\qN X G 18=qj Y.L.flash/\qN X G 19=qj Y.L.ram/\qN X G 20=qk Y.a5 Y.ts.length Y.c5)/\qn X g 0=qj C.md/\qn X g 1=qj C.bk/\qn X g 2=qj 0 by
  let⟨_,q,_⟩:=HC X$ yT l d
  exact⟨q,(kV.bw d).cell 0,(kV.bw d).cell 1,(kV.bw d).cell 2⟩)
 have p:=zb V λX d=>xA (kV.bw d)$ yT l d;have y:=zb V λX d=>(a6 X$ yT l d).mono λe w' i=>show e=.returned (qI S)/\qY V w' from⟨i.1,yT d i.2⟩;have a7:=zb V λX d=>(a2 X$ yT l d).mono λe w' i=>show e=.returned (qI Z)/\qY V w' from⟨i.1,yT d i.2⟩;clear E hV bV kV l A HU a6 a2;let⟨⟨l0,l1,l2,l3,l4,l5⟩,t0,t1,t2⟩:=t V brf;go_wp2_with (rw[<-HV.o])
 go_region_held3 (λw'=>(qN w' G 15=qk Y.a0 Y.xs.length Y.c0/\qN w' G 16=qj Y.L.stack/\qN w' G 17=qk Y.a2 Y.L.slots.length Y.c2/\qN w' G 18=qj Y.L.flash/\qN w' G 19=qj Y.L.ram/\qN w' G 20=qk Y.a5 Y.ts.length Y.c5)/\qn w' g 0=qj C.md/\qn w' g 1=qj C.bk/\qn w' g 2=qj 0) (go_keep)
  (first
    | (go_at_call 149;first
        | with_reducible refine(y.o _ brf).mono ?_
        | with_reducible refine(y.o _ brf.drew).mono ?_
       rintro e Xa ⟨rfl,I⟩
       let⟨⟨l0,l1,l2,l3,l4,l5⟩,t0,t1,t2⟩:=t Xa I)
    | (go_at_call 198;with_reducible refine(a7.o _ I).mono ?_
       rintro e Xb ⟨rfl,k⟩
       let⟨⟨l0,l1,l2,l3,l4,l5⟩,t0,t1,t2⟩:=t Xb k))
 let⟨X5,a0⟩:=aO$ Xb.setCell ⟨g.heap.size,2,none⟩$ qI$ D.tdiv 4;have kb:=(p Xb k).1;have B5:qY U X5:=by rw[a0];exact aF (p.o Xb k).2 (aD _ g.heap.size 2 _) (λj hj=>J) (p.o Xb k).2.size
 have k5:Blk X5 g.heap.size (qT C.md C.bk$ D.tdiv 4) 121:=by rw[a0];exact kb.set 2 _
 have a9:=kb.frozen 2
 have u:=zh (λ(X:qw)(d:qY X5 X)=>show qN X G 0=qk M.ma M.mn M.mc/\(qn X g 0=qj C.md/\qn X g 1=qj C.bk/\qn X g 2=qj (D.tdiv 4))/\Blk X w.heap.size (qT 0 0 0) 121/\qY U X by
  have b:=yT B5 d;let⟨q1,_,q2⟩:=HC X b
  exact⟨q1,⟨(k5.bw d).cell 0,(k5.bw d).cell 1,(k5.bw d).cell 2⟩,q2,b⟩)
 have H:=zb X5 λX d=>(a5 X$ yT B5 d).mono λe w' i=>show e=.returned (.bool$ decide$ tgk C.ps C.md C.bk$ D.tdiv 4)/\qY X5 w' from⟨i.1,yT d i.2⟩;have a3:=zh a0;clear t p y a7 I k kb B5 k5 HC a5 l0 l1 l2 l3 l4 l5 HV a0;go_wp2_with (rw[<-a3.o])
 clear a3 a9 t0 t1 t2;let⟨q0,⟨t0,t1,t2⟩,KR,_⟩:=u X5 brf;let⟨r0,r1,r2,rf⟩:=KR.three;by_cases W:D.tmod 4=0
 .have hc:(D.tmod 4==0)=true:=by simp[W]
  have B:=zh (show decide (tgk C.ps C.md C.bk$ D.tdiv 4)=r by
   have h:=P.o;cases r
   .exact xS λe=>absurd (h.1 ⟨W,e⟩) Ja
   .exact xR (h.2 rfl).2)
  rw[B.o]at H;clear W
  go_region_held3 (λw'=>qN w' G 0=qk M.ma M.mn M.mc/\qn w' g 0=qj C.md/\qn w' g 1=qj C.bk/\qn w' g 2=qj (D.tdiv 4)) (go_keep)
   (first
     | (go_at_call 193;first
         | with_reducible refine(H.o _ brf).mono ?_
         | with_reducible refine(H.o _ brf.drew).mono ?_
        rintro e X6 ⟨rfl,aa⟩;let⟨q0,⟨t0,t1,t2⟩,KR,B6⟩:=u X6 aa
        let⟨r0,r1,r2,rf⟩:=KR.three))
  have b6:=yT x B6;have HF:Zh (qY w$ ((X6.setCell (qh w 0)$ qI C.md).setCell (qh w 1)$ qI C.bk).setCell (qh w 2)$ qI$ D.tdiv 4):=((b6.setCell Jd _).setCell Jd _).setCell Jd _;clear b6 B6;go_wp2;exact bodyPost_ret (v:=.tuple #[.agg$ qT C.md C.bk$ D.tdiv 4,.bool r]) (by simp[results,results155,go_sem,r0,r1,r2]) rfl ⟨⟨_,rfl,Q.o⟩,HF.o⟩
 .have hc:(D.tmod 4==0)=false:=by simp[W]
  have B:=zh (show r=false by
   have h:=P.o;cases r
   .rfl
   .exact absurd (h.2 rfl).1 W)
  clear W;refine wp_region_held_drew (S:=(λw'=>qn w' g 0=qj C.md/\qn w' g 1=qj C.bk/\qn w' g 2=qj (D.tdiv 4))) Je ?_ λhHeld=>?_
  .go_keep
  refine tkW 0 rfl ?_;try simp only[yG,Act.put]
  refine tkW 1 rfl ?_;try simp only[yG,Act.put]
  refine tkW 2 rfl ?_;try simp only[yG,Act.put]
  refine tkW 3 rfl ?_;try simp only[yG,Act.put]
  refine tkW 4 rfl ?_;try simp only[yG,Act.put]
  refine tkS 5 rfl ?_;try simp only[yG,Act.put]
  refine tkS 6 rfl ?_;try simp only[yG,Act.put]
  refine tkS 7 rfl ?_;try simp only[yG,Act.put]
  refine tkS 8 rfl ?_;try simp only[yG,Act.put]
  refine tkS 9 rfl ?_;try simp only[yG,Act.put]
  refine tkS 10 rfl ?_;try simp only[yG,Act.put]
  refine tkS 11 rfl ?_;try simp only[yG,Act.put]
  refine tkW 12 rfl ?_;try simp only[yG,Act.put]
  refine wpAnyH_ready (rs:=[13]) Je Jb$ AllReadyH.cons rfl (λK hK=>?_) AllReadyH.nil;go_simp;refine hK.out _ _ ?_ λhHeld=>?_
  .go_keep
  clear hK K;try simp only[yG,Act.put]
  refine wpAnyH_ready (rs:=[14]) Je Jb$ AllReadyH.cons rfl (λK hK=>?_) AllReadyH.nil;go_simp;refine hK.out _ _ ?_ λhHeld=>?_
  .go_keep
  clear hK K;try simp only[yG,Act.put]
  refine wpAnyH_done Je ?_ _;have b6:=(x.trans$ (u X5 brf).2.2.2.mono x.size).drew;have HF:Zh (qY w$ ((X5.drew.setCell (qh w 0)$ qI C.md).setCell (qh w 1)$ qI C.bk).setCell (qh w 2)$ qI$ D.tdiv 4):=((b6.setCell Jd _).setCell Jd _).setCell Jd _;clear b6;go_wp2;exact bodyPost_ret (v:=.tuple #[.agg$ qT C.md C.bk$ D.tdiv 4,.bool false]) (by simp[results,results155,go_sem,r0,r1,r2]) rfl ⟨⟨_,by rw[B.o],Q.o⟩,HF.o⟩
end Go.Proofs.YtdjdcdnjjmjonaaGreat
namespace Go.Proofs.YtdjdcdnjjmjonaaGreat
open Go.RowKit Classical
set_option maxRecDepth 100000
theorem aKq (L b s):s∈slF L b ↔ sOk L b s:=by
 unfold slF sOk;by_cases c:b=-1\/L.slots=[]
 .grind
 .rw[if_neg c,if_neg c];simp only[List.mem_map,List.mem_range];constructor
  .grind
  .intro h;exact⟨s.toNat,J,J⟩
theorem aM1 {ps:List PMod}{L:Lay}(h:Lok ps L):L.slots.length<=4:=by
 let⟨hc,_⟩:=cW h.1;unfold cfo at hc
 grind
def aDq (L l q xs a2 c2 p s t b w)(h:LyT w L l q xs a2 c2 p s t)(k:L.slots.length<=4):
 qC 182 #[.agg$ qJ L l xs q a2 c2 p t s,qI b] w λe w'=>∃a n c,e=.returned (qS a n c)/\IS w' a n c (slF L b)/\qY w w':=by
 by_cases c:b=-1\/L.slots=[]
 .exact(aDp L l q xs a2 c2 p s t b w h c).mono λe w'⟨a,c,f,hi,d⟩=>⟨a,_,c,f,hi,d⟩
 .apply(aA5 L l q xs a2 c2 p s t b L.slots.length w (λe=>c$ .inl e) (λe=>c$ .inr$ xE e) J).mono;rintro e w' ⟨g,rfl,j,d⟩;have e2:slF L b=upN L.slots.length:=by unfold slF upN;rw[if_neg c]
  rw[e2];refine⟨_,_,_,rfl,⟨nO _,Jf,λz u=>?_,λ_=>⟨g,0,rfl,λi hi=>?_⟩,aQ⟩,d⟩
  .simp only[upN,List.mem_map,List.mem_range]at u;obtain⟨i,hi,rfl⟩:=u;unfold wfi;omega
  .rw[Nat.zero_add];exact j.cell i (by rw[nO];exact hi)
