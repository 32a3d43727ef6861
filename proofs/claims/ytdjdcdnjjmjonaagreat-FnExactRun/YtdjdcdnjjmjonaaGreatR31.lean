import Derived.Test.YtdjdcdnjjmjonaaGreatR27
import Derived.Test.YtdjdcdnjjmjonaaGreatR28
import Derived.Test.YtdjdcdnjjmjonaaGreatR30
set_option linter.all false
set_option maxHeartbeats 16000000
namespace Go.Proofs.YtdjdcdnjjmjonaaGreat
open Go.RowKit
set_option maxRecDepth 100000
variable {C:Cn}{L:Lay}{Y:Lyb}{cs:Array Value}{d i pc:Int}{q:Nat}
structure Stk (C:Cy)(pc:Int)(rg:qi)(r:Res):Prop where
 w:wrd r.pc
 l:r.rg.length=8
 g:∀z∈r.rg,wrd z
 a:r.x1=C.x1
 b:r.x2=C.x2\/∃p s v,C.al p s 2=true/\wd s=true/\ins p s 65536 C.n2=true/\r.x2=put C.x2 (p-65536).toNat v s.toNat
 o:r.x3.length<=5000/\r.x3.length<=C.x3.length+1
 d:(r.did=0/\r.num=0)\/(∃f,r=C.go 5 f pc rg)\/∃d n,(1<=d/\d<=4)/\r=C.go d n (m32 (pc+4)) rg/\wrd n/\(d=4->n=0)
theorem aUr {n1 n2 n3:Nat}{x1 x2 x3:qi}{p s v:Int}:(wrm n1 n2 n3 x1 x2 x3 p s v).2.2.2=0->(wrm n1 n2 n3 x1 x2 x3 p s v).1=x1/\((wrm n1 n2 n3 x1 x2 x3 p s v).2.1=x2\/wd s=true/\ins p s 65536 n2=true/\(wrm n1 n2 n3 x1 x2 x3 p s v).2.1=put x2 (p-65536).toNat v s.toNat)/\((wrm n1 n2 n3 x1 x2 x3 p s v).2.2.1=x3\/n3<5000/\(wrm n1 n2 n3 x1 x2 x3 p s v).2.2.1=x3++[v%256]):=by
 unfold wrm;by_cases c:mok n1 n2 n3=true/\wd s=true
 .rw[if_pos c]
  repeat' split
  all_goals intro h
  all_goals first
   | (simp at h;done)
   | exact⟨rfl,.inl rfl,.inr ⟨J,rfl⟩⟩
   | exact⟨rfl,.inr ⟨c.2,‹_›,rfl⟩,.inl rfl⟩
 .grind
theorem aSc {C:Cy}{rg:qi}(k:rg.length=8)(b:∀z∈rg,wrd z)(E:∀z∈C.x1,0<=z/\z<=255)(I:∀z∈C.x2,0<=z/\z<=255)(l:C.x3.length=C.n3)(K:mok C.n1 C.n2 C.n3=true)(F:∀f,Stk C pc rg$ C.go 5 f pc rg){op a:Int}(P:1<=op)(O:op<=25)(M:0<=d)(N:d<=7)(u:0<=a)(a1:a<=7)(t:0<=i)(G:i<=65535):Stk C pc rg (opz C op d a i pc rg):=by
 have g:C.x3.length<=5000/\C.x3.length<=C.x3.length+1:=⟨by rw[l];exact(uO K).2.2,Nat.le_succ _⟩;have w:∀x,wrd$ m32 x:=λx=>by grind
 have S:∀v,wrd v->Stk C pc rg (C.go 0 0 (m32$ pc+4)$ rg.set d.toNat v):=λv H=>⟨w _,by grind,λz U=>by
  rcases List.mem_or_eq_of_mem_set U with h|rfl
  .exact b z h
  .exact H,rfl,.inl rfl,g,.inl ⟨rfl,rfl⟩⟩
 have p:∀j:Int,0<=j->j<=7->wrd (rg.getD j.toNat 0):=λj x y=>b _$ aHh _ _ _ J
 have A:∀s,Stk C pc rg$ ldz C pc rg d a i s:=λs=>by
  unfold ldz
  repeat' split
  .exact S _ (wI _ _ _ _ _ _ _ E I)
  .grind
  .grind
 have B:∀s,Stk C pc rg$ stz C pc rg d a i s:=λs=>by
  unfold stz;split
  .next q=>
   dsimp only;split
   .next e=>
    let⟨e1,e2,e3⟩:=aUr e;refine⟨w _,k,b,e1,e2.imp id λx=>⟨_,_,_,q,x⟩,?_,.inl ⟨rfl,rfl⟩⟩;rcases e3 with x|⟨x,y⟩
    .rw[show _=C.x3 from x];exact g
    .rw[show _=C.x3++[_] from y,List.length_append,l];exact⟨x,Nat.le_refl _⟩
   .next e=>
    have:=aTu e;unfold Cy.wr;rw[this];exact F _
  .exact F _
 by_cases Q:op=1\/20<=op
 .rw[wQ Q];have X:∀{d n:Int}{q:Int},(d=0/\n=0)\/((1<=d/\d<=4)/\q=m32 (pc+4)/\wrd n/\(d=4->n=0))->wrd q->Stk C pc rg (C.go d n q rg):=λh D=>⟨D,k,b,rfl,.inl rfl,g,h.imp id λx=>.inr ⟨_,_,x.1,by rw[x.2.1],x.2.2⟩⟩;refine X ?_ (by split<;>exact w _);by_cases c2:20<=op/\op<=22
  .unfold ev;rw[if_neg J,if_neg J,if_neg J,if_neg J]
   grind
  .rw[if_neg (by unfold jmp;simp;omega)];refine .inr ?_;rcases(show op=1\/op=23\/op=24\/op=25 from J)with rfl|rfl|rfl|rfl
   .rw[show ev 1 i (m32$ pc+4)=(1,0)from rfl];exact⟨Ja,rfl,Ja,Ja⟩
   .exact⟨⟨by show(1:Int)<=2;decide,by show(2:Int)<=4;decide⟩,rfl,w _,λh=>absurd h (by show ¬(2:Int)=4;decide)⟩
   .exact⟨⟨by show(1:Int)<=3;decide,by show(3:Int)<=4;decide⟩,rfl,⟨t,by show i<=_;omega⟩,λh=>absurd h (by show ¬(3:Int)=4;decide)⟩
   .rw[show ev 25 i (m32$ pc+4)=(4,0)from rfl];exact⟨Ja,rfl,Ja,Ja⟩
 by_cases c2:op<=13
 .rw[aEi J c2];let⟨Y,Z⟩:=p d M N;let⟨V,W⟩:=p a u a1;have:=aFl t G Y Z V W (op-2).toNat J;rw[this.1,show(((op-2).toNat+2:Nat):Int)=op from J]at this;exact S _ this.2
 rcases(show op=14\/op=15\/op=16\/op=17\/op=18\/op=19 from J)with rfl|rfl|rfl|rfl|rfl|rfl
 .exact A 1
 .exact A 2
 .exact A 4
 .exact B 1
 .exact B 2
 .exact B 4
theorem aDo {C:Cy}{rg:qi}(j:wrd pc)(a:rg.length=8)(e:∀z∈rg,wrd z)(l:∀z∈C.x1,0<=z/\z<=255)(k:∀z∈C.x2,0<=z/\z<=255)(g:C.x3.length=C.n3)(b:mok C.n1 C.n2 C.n3=true):Stk C pc rg (spz C pc rg):=by
 have F:∀f,Stk C pc rg$ C.go 5 f pc rg:=λf=>⟨j,a,e,rfl,.inl rfl,⟨by rw[g];exact(uO b).2.2,Nat.le_succ _⟩,.inr$ .inl ⟨f,rfl⟩⟩;unfold spz;split
 .next hf=>
  have hd:dOk (C.rd pc 4).1=true:=by
   unfold fez at hf
   grind
  have:=aJw hd;exact aSc a e l k g b F this.1 this.2 J J J J J J
 .grind
def Cn.z (C:Cn)(L:Lay):Cy:=⟨C.fz.length,C.rz.length,C.oz.length,C.fz,C.rz,C.oz,(plQ C L).length,plQ C L⟩
def Cn.r (C:Cn)(L:Lay):Res:=spz (C.z L) C.pc C.kz
def Cn.n (C:Cn)(L:Lay):Cn:={ C with pc:=(C.r L).pc,kz:=(C.r L).rg,fz:=(C.r L).x1,rz:=(C.r L).x2,oz:=(C.r L).x3 }
theorem Cv.stp (h:Cv C L)(k:Stk (C.z L) C.pc C.kz (C.r L)):Cv (C.n L) L:=by
 unfold Cn.n;generalize C.r L=r at *
 have g:r.x2.length=C.rz.length:=by
  rcases k.b with e|⟨p,s,v,_,_,_,e⟩
  .rw[e];rfl
  .rw[e,qQ];rfl
 refine⟨h.k,h.e,?_,?_,k.l,⟨h.s.1,λi hi=>?_⟩,h.n,h.t⟩
 .show mok r.x1.length r.x2.length r.x3.length=true;have:=uO h.b;have o:=k.o.1;have e:(C.z L).x1.length=C.fz.length:=rfl;rw[k.a,g,e];unfold mok
  grind
 .show(r.x2.length:Int)=L.ram;rw[g];exact h.r
 .have⟨s1,s2,s3⟩:=h.s.2 i hi;refine⟨s1,s2,λu=>?_⟩;refine Eq.trans (show slb r.x2 L C.cw i=slb C.rz L C.cw i from ?_)$ s3 u;rcases k.b with e|⟨p,s,v,a,l,b,e⟩
  .rw[e];rfl
  rw[e];let⟨x,y,A,q,B,D⟩:=h.slot hi;have:=h.ends.2.2.2.2.2 i q;unfold slb;refine congrArg (List.take _)$ List.ext_getElem? λj=>?_;rw[List.getElem?_drop,List.getElem?_drop,aD5,if_neg]
  .rfl
  unfold ins at b;simp at b;have:=h.r;have:=(uO h.b).2.1;unfold Cy.al alw at a;simp only[Bool.and_eq_true,decide_eq_true_eq]at a;have:(C.z L).n2=C.rz.length:=rfl;have w:=pV.1 a.2.2.2;rintro⟨E,G,H⟩;have o:=w (s.toNat-1) (by grind);have:1<=s/\s<=4:=by rcases eD l with rfl|rfl|rfl<;>decide
  have t:wrap64 (p+((s.toNat-1:Nat):Int))=p+s-1:=by unfold wrap64;omega
  rw[t]at o;have d:(C.z L).rs=plQ C L:=rfl;have f:(C.z L).rn=(plQ C L).length:=rfl;rw[d,f]at o;unfold plQ at o;split at o
  .have:=aVc h aQ o;omega
  .cases o
def lFr (C:Cn):FrT:=C.hz.getD (C.hz.length-1) zFr
def aR5 (C:Cn):Cn:={ C with hz:=C.hz.take (C.hz.length-1) }
def aRw (C:Cn)(L:Lay):Cn:=dG (aR5 C) L (lFr C).1 (lFr C).2.1 (lFr C).2.2.1
def mQ (C:Cn)(L:Lay):Cn:={ aRw C L with kz:=(aRw C L).kz.set 7 (lFr C).2.2.2 }
def vP (C L m b t):(dG C L m b t).kz.length=C.kz.length:=by unfold dG;split<;>simp
def GbP (w1 w:World)(G:Nat)(Y:Lyb)(C:Cn)(M:Mn)(v13:Value)(e:Ending)(w':World):Prop:=
 if C.hz.length≠0/\C.tn<1000000000 then e=.returned (.bool true)/\Mr w1 w' G Y (mQ C Y.L) v13/\Kb w w' else e=.returned (.bool false)/\qY w w'
def aJr (w1 G Y C M a0 vr w)(h:Mg w1 w G Y C M a0 vr)(a:Cv C Y.L)(hf:∀i,i<C.hz.length->frk C.ps (C.hz.getD i zFr)):
 Calls Tryz.prog 157 #[.pointer$ qP G] w (GbP w1 w G Y C M a0):=by
 have a6:w.cell? ⟨G,14,none⟩=qj M.tn:=h.k.cell 14;have p:=h.vs.1.2.2.2.2.2.2.2;by_cases c1:C.tn=1000000000
 .refine Calls.mono (R:=λe d=>e=.returned (.bool false)/\qY w d) ?_ (λe d b=>by unfold GbP;rw[if_neg J];exact b);have ht:(M.tn==1000000000)=true:=by rw[p,c1];rfl
  go_in
  go_wp2;go_ret;exact⟨rfl,brf⟩
 have ht:(M.tn==1000000000)=false:=by rw[p];simpa using c1
 by_cases c2:C.hz.length=0
 .refine Calls.mono (R:=λe d=>e=.returned (.bool false)/\qY w d) ?_ (λe d b=>by unfold GbP;rw[if_neg J];exact b);have y:=zh$ aO3 w1 G Y C M a0 vr w h c2
  go_in
  go_wp2_with fail
  apply y.mono;rintro e g ⟨rfl,I⟩;have HB:=zh$ I.trans$ (bal (w:=g) (o:=.cells (qW 0 0 0 0) 136)).mono I.size;go_wp2;go_ret;exact⟨rfl,HB⟩
 refine Calls.mono (R:=λe d=>e=.returned (.bool true)/\Mr w1 d G Y (mQ C Y.L) a0/\Kb w d) ?_ (λe d b=>by unfold GbP;rw[if_pos ⟨c2,jK a.t.2⟩];exact b);obtain⟨n,hn⟩:∃n,C.hz.length=n+1:=⟨C.hz.length-1,J⟩;let⟨⟨x0,x1,x2,x3⟩,hx⟩:=aO$ C.hz.getD n zFr;have K:=zh (show frk C.ps (x0,x1,x2,x3)by rw[hx];exact hf n J)
 have Z:=zh (show mQ C Y.L={ dG { C with hz:=C.hz.take n } Y.L x0 x1 x2 with kz:=(dG { C with hz:=C.hz.take n } Y.L x0 x1 x2).kz.set 7 x3 } by
  unfold mQ aRw aR5 lFr
  rw[hn,show n+1-1=n from J,<-hx])
 have y:=zh$ aR4 w1 G Y C M a0 vr w h n hn x0 x1 x2 x3 hx.symm;have s:=zh λ(X:World)(a1:Value)(hX:Mg w1 X G Y { C with hz:=C.hz.take n } { M with hn:=n,hz:=C.hz.take n } a0 a1)=>aCz w1 G Y _ _ a0 a1 x0 x1 x2 X hX ⟨a.k,a.e,a.b,a.r,a.g,a.s,a.n,a.t⟩;have P:=zh a.g;have HT:=zh (show C.tn<1000000000 by have:=a.t.2;omega)
 go_in
 go_wp2_with fail
 apply y.mono;rintro e g ⟨rfl,h1,D⟩;let⟨U,hU,bU,kU⟩:=nwb g (qW x0 x1 x2 x3) 136;have Q:=zh$ xA (h1.bw bU) kU;have HU:=zh hU;let⟨y0,y1,y2,y3⟩:=kU.z4;have t:=zh λ(X:World)=>mJ x0 x1 x2 x3 X;have B:=zh$ D.trans$ bR bU;go_wp2_with (rw[<-HU.o])
 apply(t _).mono;rintro e X2 ⟨rfl,f⟩;have S:=zh$ xA (Q.1.bw f)$ Q.2.bw f;have x:=zh$ B.trans$ bR f;go_wp2_with fail
 apply(s X2 vr S.1).mono;intro e l b;unfold EtP at b;rw[if_pos ⟨HT.o,K.o.1⟩]at b;obtain⟨rfl,M',a1,h3,T3,R3⟩:=b;have N:=T3.blk S.2 Jg;have y3:=N.e3
 obtain⟨gk,a2,a5,x7,xf,n1,n2,n3,n4⟩:∃gk,M'.ka=some ⟨gk,0,none⟩/\M'.kn=8/\(∃u,l.cell? ⟨gk,7,none⟩=some u)/\(∀i,l.frozen? ⟨gk,i,none⟩=false)/\¬gk=G/\¬G=gk/\¬gk=g.heap.size/\¬g.heap.size=gk:=by
  let⟨a3,aN,Ls,β,mm,_⟩:=h3.m;have mk:=mm.k;have e8:M'.kn=8:=by rw[gU mk,vP];exact P.o
  let⟨gk,cp,e,_⟩:=World.ownsRow.form mk.1 (by rw[vP];show 0<C.kz.length;rw[P.o];decide);simp only[Value.slice.injEq]at e;rw[e.1]at mk;let⟨cs,kb⟩:=aE mk.1 (k:=gk) rfl;have O:gk≠G:=λq=>by subst q;exact absurd (aH kb h3.k) Ja
  have V:gk≠g.heap.size:=λq=>by rw[q]at kb;exact absurd (aH kb N) Ja
  exact⟨gk,e.1,e8,⟨_,mk.is.at 7 J⟩,kb.frozen,O,λq=>O q.symm,V,λq=>V q.symm⟩
 obtain⟨u,x7⟩:=x7;have c6:l.cell? ⟨G,6,none⟩=qk (some ⟨gk,0,none⟩) 8 M'.kc:=by rw[<-a2,<-a5];exact h3.k.cell 6
 have H3:=zh (show Mg w1 (l.setCell ⟨gk,7,none⟩$ qI x3).drew G Y (mQ C Y.L) { M' with kz:=(dG { C with hz:=C.hz.take n } Y.L x0 x1 x2).kz.set 7 x3 } a0 a1 by
  rw[Z.o]
  exact(h3.reg a2 7 J x3 (by have:=K.o.2;dsimp only at this;unfold wfi;omega)).bw brf.drew)
 have E:=zh (show Rgn (l.setCell ⟨gk,7,none⟩$ qI x3).drew a1 (plQ (mQ C Y.L) Y.L)by
  rw[Z.o]
  exact vI R3 ((aD _ gk 7 _).trans$ aG brf.drew) (λj hj=>by
   have H:j=gk:=by simpa using hj
   subst H;let⟨a3,aN,Ls,β,mm,_⟩:=h3.m;let⟨a4,kb⟩:=aE mm.k.1 (k:=j) (by rw[a2];rfl)
   exact⟨_,_,kb,Ja⟩))
 have A:Zh (Kb w (l.setCell ⟨gk,7,none⟩$ qI x3).drew):=(x.trans T3.kb).trans (λj cs ty hn W=>(W.other ⟨gk,7,none⟩ _ (λe=>by
  have H:j=gk:=e;subst H;let⟨a3,aN,Ls,β,mm,_⟩:=h3.m;let⟨a4,kb⟩:=aE mm.k.1 (k:=j) (by rw[a2];rfl)
  exact hn$ .inl$ .inr$ .inr$ .inr$ aH W kb)).bw brf.drew)
 go_wp2_with fail
 go_region_held3 (λd=>d.cell? ⟨G,6,none⟩=qk (some ⟨gk,0,none⟩) 8 M'.kc/\d.cell? ⟨g.heap.size,3,none⟩=qj x3) (go_keep) (fail)
 go_wp2;go_ret;exact⟨rfl,⟨_,_,H3,E⟩,A⟩
def gC (C:Cn)(L:Lay)(m b t:Int):Int:=if atB C L C.pc=true/\C.tn<1000000000/\tgk C.ps m b t then (if (C.hz.length:Int)<C.cd then 0 else 7) else 2
def psC (C:Cn)(L:Lay):Cn:={ C with hz:=C.hz++[(C.md,C.bk,awy C L C.pc/4,C.kz.getD 7 0)] }
def vD (C:Cn)(L:Lay)(m b t:Int):Cn:=dG (psC C L) L m b t
def CaP (w1 w:World)(G:Nat)(Y:Lyb)(C:Cn)(v13:Value)(m b t:Int)(e:Ending)(w':World):Prop:=
 e=.returned (qI$ gC C Y.L m b t)/\(if gC C Y.L m b t=0 then Mr w1 w' G Y (vD C Y.L m b t) v13/\Kb w w' else qY w w')
theorem aKb {f w w':World}{G:Nat}{a:Value}{m b t k:Int}{e:Ending}(l:gC C Y.L m b t=k)(j:k≠0)(g:e=.returned (qI k)/\qY w w'):CaP f w G Y C a m b t e w':=by
 unfold CaP
 grind
def aQ0 (w1 G Y C M i vr m b t w)(h:Mg w1 w G Y C M i vr)(j:Cv C Y.L)(O:0<=C.pc/\C.pc<=4294967295)(a0:C.cd<=100):
 Calls Tryz.prog 237 #[.pointer$ qP G,.agg$ qT m b t] w (CaP w1 w G Y C i m b t):=by
 let⟨U,hU,bU,kU⟩:=nwb w (qT m b t) 121;have y:=h.bw bU;have Z:=h.vs.1.2.2.2.2.1;have c5:U.cell? ⟨G,5,none⟩=qj C.pc:=by rw[<-Z];exact y.k.cell 5
 have E:=zh$ pW w1 G Y C M i vr C.pc U y j O;have aa:=zh λ(X:World)(a:qY U X)=>aB4 w1 G Y C M i vr m b t X (y.bw a) j.cf.2.1;have HM:=zh λ(X:World)(a:qY U X)=>xA (y.bw a)$ kU.bw a;have N:=zh λ(X:World)(a:qY U X)=>aO2 w1 G Y C M i vr X (y.bw a) C.md C.bk (awy C Y.L C.pc/4) (C.kz.getD 7 0) a0;have a3:=zh λ(X:World)(M':Mn)(a2:Value)(a:Mg w1 X G Y (psC C Y.L) M' i a2)=>aCz w1 G Y _ M' i a2 m b t X a ⟨j.k,j.e,j.b,j.r,j.g,j.s,j.n,j.t⟩
 have P:=zh (λ(X:World)(a:qY U X)=>show ∃W,X.cell? ⟨G,6,none⟩=qk (some ⟨W,0,none⟩) 8 M.kc/\X.cell? ⟨W,7,none⟩=qj (C.kz.getD 7 0)by
  let⟨ad,aN,Ls,β,mm,_⟩:=(y.bw a).m;have mk:=mm.k;have e8:M.kn=8:=by rw[gU mk];exact j.g
  let⟨W,cp,e,_⟩:=World.ownsRow.form mk.1 (by rw[j.g];decide);simp only[Value.slice.injEq]at e;rw[e.1]at mk;refine⟨W,?_,by simpa using mk.is.at 7 J⟩;rw[<-e.1,<-e8]
  exact(y.bw a).k.cell 6)
 let⟨r,hr⟩:=aO$ atB C Y.L C.pc;let⟨A,hA⟩:=aO$ awy C Y.L C.pc;let⟨D,hD⟩:=aO$ C.kz.getD 7 0;have u:Zh (gC C Y.L m b t=if r=true/\C.tn<1000000000/\tgk C.ps m b t then (if (C.hz.length:Int)<C.cd then 0 else 7) else 2):=by unfold gC;rw[hr];rfl
 have a5:=zh (show psC C Y.L={ C with hz:=C.hz++[(C.md,C.bk,A/4,D)] } by unfold psC;rw[hA,hD]);rw[<-hr,<-hA]at E;rw[<-hA,<-hD]at N;rw[<-hD]at P;have HU:=zh hU;have HB:=zh bU;clear hU bU kU h y j hr hA hD Z O a0
 go_in
 go_wp2_with (rw[<-HU.o])
 apply E.mono;rintro e B ⟨⟨z,rfl,hz⟩,S⟩;let⟨V,hV,bV,kV⟩:=nwb B (qT C.md C.bk z) 121;have B1:=yT S bV;have k:=zh B1;have H:=zh λ(X:World)(a:qY V X)=>kV.bw a;have HV:=zh hV;clear S hV bV kV B1 c5 E;cases r with
 | false=>
   have K:=zh (show gC C Y.L m b t=2 by rw[u.o,if_neg (λq=>by cases q.1)]);go_wp2_with (rw[<-HV.o])
   go_ret;exact aKb K Ja ⟨rfl,yT HB k⟩
 | true=>
   obtain rfl:=hz rfl;have t0:=(HM V k).2.three;have s:=zh$ aa V k;by_cases c0:C.tn<1000000000/\tgk C.ps m b t
   .rw[xR c0]at s;have I:=zh c0;go_wp2_with (rw[<-HV.o])
    apply s.mono;rintro e x ⟨rfl,l⟩;have f:=zh$ yT k l;have Q:=zh l;let⟨f0,f1,f2,_⟩:=(H x l).three;let⟨W,y6,y7⟩:=P x f;have a4:=zh (HM x f).2;by_cases c1:(C.hz.length:Int)<C.cd
    .have K:=zh (show gC C Y.L m b t=0 by rw[u.o,if_pos (by simpa using I.o),if_pos c1])
     have p:=zh (λ(X:World)(a:qY x X)=>(N X$ yT f a).mono (λe d g=>show e=.returned (.bool true)/\(∃M',Mg w1 d G Y (psC C Y.L) M' i vr)/\Blk d w.heap.size (qT m b t) 121/\Blk d B.heap.size (qT C.md C.bk$ A/4) 121/\Kb x d by
      unfold PuP at g;rw[if_pos c1]at g;rw[a5.o]
      exact⟨g.1,g.2.1,g.2.2 _ _ _ Jg$ a4.bw a,g.2.2 _ _ _ Jg$ H X$ yT Q a,(bR a).trans g.2.2⟩))
     go_wp2_with fail
     go_region_held3 (λd=>d.cell? ⟨B.heap.size,0,none⟩=qj C.md/\d.cell? ⟨B.heap.size,1,none⟩=qj C.bk/\d.cell? ⟨B.heap.size,2,none⟩=qj (A/4)) (go_keep)
      (first
        | (go_at_call 280;first
            | with_reducible refine(p.o _ brf).mono ?_
            | with_reducible refine(p.o _ brf.drew).mono ?_
           rintro e X3 ⟨rfl,⟨M3,h3⟩,k3,ab,a9⟩;have a6:=zh$ (bR$ yT HB f).trans a9;obtain⟨f0,f1,f2,_⟩:=ab.three))
     have t0:=k3.three;have a8:=zh$ a3 X3 M3 vr h3;go_wp2_with fail
     apply a8.mono;intro e X4 g;unfold EtP at g;rw[if_pos (show(psC C Y.L).tn<1000000000/\tgk (psC C Y.L).ps m b t from I.o)]at g;obtain⟨rfl,M4,ac,h4,T4,R4⟩:=g;have HF:=zh (show CaP w1 w G Y C i m b t (.returned$ qI 0) X4 by unfold CaP;rw[K.o,if_pos rfl];exact⟨rfl,⟨M4,ac,h4,R4⟩,a6.o.trans T4.kb⟩);go_wp2;go_ret;exact HF
    .have K:=zh (show gC C Y.L m b t=7 by rw[u.o,if_pos (by simpa using I.o),if_neg c1])
     have p:=zh (λ(X:World)(a:qY x X)=>(N X$ yT f a).mono (λe d g=>show e=.returned (.bool false)/\qY x d by
      unfold PuP at g;rw[if_neg c1]at g
      exact⟨g.1,yT a g.2⟩))
     go_wp2_with fail
     go_region_held3 (λd=>d.cell? ⟨B.heap.size,0,none⟩=qj C.md/\d.cell? ⟨B.heap.size,1,none⟩=qj C.bk/\d.cell? ⟨B.heap.size,2,none⟩=qj (A/4)) (go_keep)
      (first
        | (go_at_call 280;first
            | with_reducible refine(p.o _ brf).mono ?_
            | with_reducible refine(p.o _ brf.drew).mono ?_
           rintro e X3 ⟨rfl,a1⟩;have a7:=zh$ yT f a1;obtain⟨f0,f1,f2,_⟩:=(H X3$ yT Q a1).three))
     go_wp2;go_ret;exact aKb K Ja ⟨rfl,yT HB a7⟩
   .rw[xS c0]at s;have K:=zh (show gC C Y.L m b t=2 by rw[u.o,if_neg (λq=>c0 q.2)]);go_wp2_with (rw[<-HV.o])
    apply s.mono;rintro e x ⟨rfl,l⟩;have f:=zh$ yT k l;go_wp2;go_ret;exact aKb K Ja ⟨rfl,yT HB f⟩
def cld (C:Cn)(L:Lay)(d m b t:Int):Int×Int×Cn:=if gC C L m b t=0 then (d,0,vD C L m b t) else (5,gC C L m b t,C)
abbrev tgl (C:Cn)(L:Lay):List Tg:=L.targets.getD C.md.toNat []
def flw (C:Cn)(L:Lay)(d n:Int):Int×Int×Cn:=
 if d=2 then (if atB C L n=true then cld C L d C.md C.bk (awy C L n/4) else (5,5,C))
 else if d=3 then (if n<(tgl C L).length then cld C L d ((tgl C L).getD n.toNat zT).1 ((tgl C L).getD n.toNat zT).2.1 ((tgl C L).getD n.toNat zT).2.2 else (5,8,C))
 else if d=4/\C.hz.length≠0 then (d,n,mQ C L)
 else if d=1\/d=4 then (1,C.kz.getD 0 0,C) else (d,n,C)
structure Vc (C:Cn)(L:Lay):Prop where
 v:Cv C L
 p:wrd C.pc
 d:C.cd<=100
 f:∀i,i<C.hz.length->frk C.ps (C.hz.getD i zFr)
 t:C.tn<1000000000
def FlP (w1 w:qw)(G:Nat)(Y:Lyb)(v13:Value)(r:Int×Int×Cn)(e:Ending)(w':qw):Prop:=e=.returned (.agg #[qI r.1,qI r.2.1])/\Mr w1 w' G Y r.2.2 v13/\Kb w w'/\(r.1=5->qY w w')
section
variable {w1 w W W':qw}{G base aN:Nat}{Y:Lyb}{C:Cn}{M:Mn}{v13 vr:Value}{Ls:List (PMod×Mb)}{β:Nat->Nat}
abbrev bxk (t:TypeId):Prop:=t≠128/\t≠25/\t≠3/\t≠5/\t≠132/\t≠136
theorem MxO.bx {t:TypeId}(h:MxO W base aN C M Ls β)(kb:Blk W q cs t)(e:aN<=q)(b:bxk t)(T:Turn (λj=>j=q) W W'):MxO W' base aN C M Ls β:=
 let⟨k,l,f,d,g,i⟩:=b
 ⟨h.upd T (λj a=>by grind),h.e,aV T h.k$ aS kb h.k.1 f.symm,dV h.q T (λj a=>by
  rcases a with q|q|q
  .exact aS kb h.q.1.1 d.symm j q
  .exact aS kb h.q.2.1.1 d.symm j q
  .exact aS kb h.q.2.2.1.1 d.symm j q),h.l.kept T$ aS kb h.l g.symm,h.h.kept T$ aS kb h.h i.symm,h.bm,h.bh,h.vs,h.vz⟩
def Mg.bx {t:TypeId}(h:Mg w1 W G Y C M v13 vr)(kb:Blk W q cs t)(b:G<q)(a:bxk t)(T:Turn (λj=>j=q) W W'):Mg w1 W' G Y C M v13 vr:=by
 let⟨g,aN,d,l,m,i,k⟩:=h.m;have:=h.g;exact⟨aF h.b T (λj f=>J) h.b.size,h.g,aC T h.k λe=>J,⟨g,aN,d,l,m.bx kb J a T,i,k⟩,h.l⟩
def eG (h:Mg w1 W G Y C M v13 vr/\Rgn W vr (plQ C Y.L))(a:qY W W'):Mg w1 W' G Y C M v13 vr/\Rgn W' vr (plQ C Y.L):=⟨h.1.bw a,mP h.2 a⟩
def jX {fn:Func}{a:Nat}{tmps:Array Value}{u v:Value}{j:Int}{r:Int×Int×Cn}(p:fn.results=#[.cell a 80])(ha:tmps[a]?=some (.pointer$ qP q))(h:Mg w1 W G Y C M v13 vr/\Rgn W vr (plQ C Y.L))(g:Blk W q #[u,v] 80)(s:Kb w W)(f:i≠5\/qY w W)(x:w.heap.size<=q)(y:G<w.heap.size)(e:r=(i,j,C)):bodyPost Tryz.prog fn (FlP w1 w G Y v13 r) Exit.ret ⟨tmps,[]⟩ (evs W q i j):=by
 subst e;have T:=(aK W q 0$ qI i).trans$ aK _ q 1$ qI j;have l:=(g.set 0$ qI i).set 1$ qI j;have e0:(evs W q i j).cell? (qR q 0)=qj i:=by rw[l.cell];rfl
 have e1:(evs W q i j).cell? (qR q 1)=qj j:=by rw[l.cell];rfl
 exact bodyPost_ret_by (v:=.agg #[qI i,qI j]) (by simp[results,p,go_sem,ha,e0,e1]) rfl ⟨rfl,⟨M,vr,h.1.bx g J Ja T,pA h.2 T g⟩,λk d t n b=>aC T (s k d t n b) λe=>jK b.lt,λh=>by
  rcases f with f|f
  .exact absurd h f
  .exact aF f T (λj A=>J) f.size⟩
end
def aAm (E G Y C M B D d n m b t w)(h:Mg E w G Y C M B D/\Rgn w D (plQ C Y.L))(V:Vc C Y.L)(hd:d≠5):qC 156 #[.pointer$ qP G,.agg #[qI d,qI n],.agg$ qT m b t] w (FlP E w G Y B$ cld C Y.L d m b t):=by
 have u:=h.1.k.lt;let⟨U,q⟩:=aO$ ((w.alloc$ .cells #[qI d,qI n] 80).alloc$ .cells (qT m b t) 121).alloc$ .cells #[qI 0,qI 0] 80;have g:qY w U:=by rw[q];exact(bal.alloc Jb _).alloc Jc _
 have j:=((Blk.new w #[qI d,qI n] 80).alloc$ .cells (qT m b t) 121).alloc$ .cells #[qI 0,qI 0] 80;have l:=(Blk.new (w.alloc$ .cells #[qI d,qI n] 80) (qT m b t) 121).alloc$ .cells #[qI 0,qI 0] 80;have a:=Blk.new ((qm w #[qI d,qI n] 80).alloc$ .cells (qT m b t) 121) #[qI 0,qI 0] 80;simp only[xF]at l a;rw[<-q]at j l a;have x:=zh$ aQ0 E G Y C M B D m b t U (h.1.bw g) V.v V.p V.d;have s:=zh$ xA (eG h g)$ xA j$ xA a g;have:=l.three;have A:=zh q
 delta qC;go_in
 go_wp2_with (rw[<-A.o])
 apply x.mono;intro e X k;unfold CaP at k;by_cases c:gC C Y.L m b t=0
 .rw[c,if_pos rfl]at k;obtain⟨rfl,⟨K,N,I⟩,kb⟩:=k;let⟨H,j,a,g⟩:=s.o;replace j:=kb _ _ _ Jg j;replace a:=kb _ _ _ Jg a;have:=j.two';have y:=a.two';have f:=zh$ xA I$ xA a$ (bR g).trans kb;have p:=zh (show cld C Y.L d m b t=(d,0,vD C Y.L m b t)by unfold cld;rw[if_pos c]);go_wp2;exact jX rfl rfl f.1 f.2.1 f.2.2 (.inl hd) J u p
 .rw[if_neg c]at k;obtain⟨rfl,i⟩:=k;let⟨H,j,a,g⟩:=s.o;have y:=(a.bw i).two';have f:=zh$ xA (eG H i)$ xA (a.bw i)$ yT g i;have p:=zh (show cld C Y.L d m b t=(5,gC C Y.L m b t,C)by unfold cld;rw[if_neg c]);have:(gC C Y.L m b t !=0)=true:=by simpa using c
  go_wp2;exact jX rfl rfl f.1 f.2.1 (bR f.2.2) (.inr f.2.2) J u p
def Lyb.tgl {W:qw}(h:Y.T W)(i):(Y.ts.getD i zTB).1=Y.L.targets.getD i []:=by
 rw[<-h.tt];simp only[xB,List.getElem?_map];cases Y.ts[i]?<;>rfl
def aJu (w1 G Y C M a0 vr d n w)(h:Mg w1 w G Y C M a0 vr/\Rgn w vr (plQ C Y.L))(V:Vc C Y.L)(d0:0<=d)(d5:d<=5)(hn:2<=d->d<=3->wrd n):qC 92 #[.pointer$ qP G,.agg #[qI d,qI n]] w (FlP w1 w G Y a0$ flw C Y.L d n):=by
 have A:=h.1.k.lt;obtain⟨U,hU⟩:=aO$ (w.alloc$ .cells #[qI d,qI n] 80).alloc$ .cells #[qI 0,qI 0] 80;have y:qY w U:=by rw[hU];exact bal.alloc Jb _
 have k:=(Blk.new w #[qI d,qI n] 80).alloc$ .cells #[qI 0,qI 0] 80;have f:=Blk.new (w.alloc$ .cells #[qI d,qI n] 80) #[qI 0,qI 0] 80;simp only[xF]at f;rw[<-hU]at k f;have a:=zh$ xA (eG h y)$ xA k$ xA f y;have e0:=k.two';have r0:=f.two';have H:=zh hU;have E:=zh V
 have N:=zh (λ(X:qw)(K:qY U X)=>show ∃I,qN X G 6=qk (qP I) 8 M.kc/\qN X I 0=qj (C.kz.getD 0 0)by
  let⟨a6,aN,Ls,β,mm,_⟩:=((h.1.bw y).bw K).m;have mk:=mm.k;have e8:M.kn=8:=by rw[gU mk];exact V.v.g
  let⟨I,ea⟩:=mV mk J;rw[ea]at mk;refine⟨I,?_,by simpa using mk.is.at 0 J⟩;rw[<-ea,<-e8]
  exact((h.1.bw y).bw K).k.cell 6)
 have HN:=zh hn;clear h V y k f hU hn;rcases(show d=2\/d=3\/d=4\/d=1\/d=0\/d=5 from J)with rfl|rfl|rfl|rfl|hd
 .have HT:=zh$ pW w1 G Y C M a0 vr n U a.1.1 E.v$ HN Ja Ja
  delta qC;go_in
  go_wp2_with (rw[<-H.o])
  apply HT.mono;rintro e X ⟨⟨z,rfl,hz⟩,b⟩;let⟨X1,a2,b1,k1⟩:=nwb X (qT C.md C.bk z) 121;have B:=yT b b1;let⟨h0,k,f,y⟩:=a.o;have u:=zh$ xA (eG h0 B)$ xA (f.bw B)$ yT y B;have x0:=(k.bw B).two';have Q:=(f.bw B).two';let⟨t0,t1,t2,_⟩:=k1.three;have S:=zh a2;clear e0 r0 h0 k f y b b1 B a2 HT H a k1;cases c:atB C Y.L n
  .have j:=zh (show flw C Y.L 2 n=(5,5,C)by unfold flw;rw[if_pos rfl,c];rfl);clear c hz;go_wp2_with (rw[<-S.o])
   exact jX rfl rfl u.1 u.2.1 (bR u.2.2) (.inr u.2.2) J A j
  .obtain rfl:=hz c;have j:=zh (show flw C Y.L 2 n=cld C Y.L 2 C.md C.bk (awy C Y.L n/4)by unfold flw;rw[if_pos rfl,c];rfl);have HC:=zh$ aAm w1 G Y C M a0 vr 2 n C.md C.bk (awy C Y.L n/4) X1 u.1 E Ja;clear c hz;go_wp2_with (rw[<-S.o])
   apply HC.mono;rintro e X2 ⟨rfl,⟨M',a3,t⟩,kb,O⟩;have f:=kb _ _ _ Jg u.2.1;clear Q;have Q:=f.two';have g:=zh$ xA t$ xA f$ xA ((bR u.2.2).trans kb) λq=>yT u.2.2$ O q;clear t kb O f x0 t0 t1 t2;go_wp2_with fail
   exact jX rfl rfl g.1 g.2.1 g.2.2.1 (Decidable.or_iff_not_imp_left.2 λq=>g.2.2.2$ Decidable.not_not.1 q) J A j
 .have hv:=E.v;have hp:=hv.n.1;have em:=a.1.1.vs.1.2.2.2.2.2.1;obtain⟨n0,n1⟩:=HN Ja Ja;have hT:=a.1.1.ly.t
  have el:Y.ts.length=C.ps.length:=by
   have:=congrArg List.length a.1.1.ly.tt;rw[hv.e,show lkL C.ps C.cs C.cw C.ck C.cd=lay C.ps C.cs C.cw C.ck by unfold lkL;rw[if_pos hv.k]]at this;simpa[lay]using this
  obtain⟨m0,m1⟩:0<=C.md/\C.md<(Y.ts.length:Int):=by
   rw[el];unfold pcq at hp;split at hp
   .assumption
   .exact absurd hp Ja
  obtain⟨b5,o5,ea,ec⟩:=hT.at C.md.toNat J;have a5:qN U G 10=some (qI C.md):=by rw[<-em];exact a.o.1.1.k.cell 10
  have a4:qN U G 20=some (qS (some$ qR b5 o5) Y.ts.length Y.c5):=by rw[<-ea];exact a.o.1.1.k.cell 20
  have l:=zh λ(X:qw)(h:Y.T X)=>show TgS X (Y.ts.getD C.md.toNat zTB).2.1 (Y.ts.getD C.md.toNat zTB).1.length (Y.ts.getD C.md.toNat zTB).2.2 (Y.ts.getD C.md.toNat zTB).1 from h.t.2.2.2.1 C.md.toNat J;have hl:=Lyb.tgl a.1.1.ly C.md.toNat;unfold svT at ec
  have p:Zh (flw C Y.L 3 n=if n<((Y.ts.getD C.md.toNat zTB).1.length:Int) then cld C Y.L 3 ((Y.ts.getD C.md.toNat zTB).1.getD n.toNat zT).1 ((Y.ts.getD C.md.toNat zTB).1.getD n.toNat zT).2.1 ((Y.ts.getD C.md.toNat zTB).1.getD n.toNat zT).2.2 else (5,8,C)):=by
   show _=_;unfold flw;rw[if_neg Ja,if_pos rfl,show tgl C Y.L=_ from hl.symm]
  generalize Y.ts.getD C.md.toNat zTB=T at *;obtain⟨W,ta,tc⟩:=T;dsimp only at l p ec;clear hv hp em hT el hl HN ea
  delta qC;go_in
  go_wp2_with (rw[<-H.o])
  go_region_held3 (λi=>qN i G 10=qj C.md/\qN i G 20=qk (qe b5 o5) Y.ts.length Y.c5/\qN i b5 (o5+C.md.toNat)=qk ta W.length tc) (go_keep) (fail)
  clear a5 a4 ec;by_cases c:n<(W.length:Int)
  .have j:=zh$ p.trans$ if_pos c;have HC:=zb U λX K=>aAm w1 G Y C M a0 vr 3 n (W.getD n.toNat zT).1 (W.getD n.toNat zT).2.1 (W.getD n.toNat zT).2.2 X (eG a.1 K) E Ja |>.mono λe i s=>show FlP w1 U G Y a0 _ e i from⟨s.1,s.2.1,(bR K).trans s.2.2.1,λq=>yT K$ s.2.2.2 q⟩
   let⟨bt,ot,et,t0,t1,t2⟩:=(l U a.1.1.ly).at n.toNat J
   have D:=zh (λ(X:qw)(h:Y.T X)=>show qN X bt (ot+n.toNat*3)=qj (W.getD n.toNat zT).1/\qN X bt (ot+n.toNat*3+1)=qj (W.getD n.toNat zT).2.1/\qN X bt (ot+n.toNat*3+2)=qj (W.getD n.toNat zT).2.2 by
    let⟨a7,a8,a1,q⟩:=(l X h).at n.toNat J;rw[et]at a1;cases a1
    exact q)
   subst et;generalize W.getD n.toNat zT=x at *;obtain⟨xm,xb,xt⟩:=x;dsimp only at j HC t0 t1 t2 D;have P:=xD w1 _ (D w1 a.1.1.l).1;dsimp only at P;obtain⟨q1,q2,q3,q4⟩:bt≠w.heap.size+1/\w.heap.size+1≠bt/\w.heap.size≠w.heap.size+1/\w.heap.size+1≠w.heap.size:=jK a.1.1.g;clear p l P;go_wp2
   go_region_held3 (λi=>qn i w 0=qj 3/\qn i w 1=qj n/\qN i bt (ot+n.toNat*3)=qj xm/\qN i bt (ot+n.toNat*3+1)=qj xb/\qN i bt (ot+n.toNat*3+2)=qj xt) (go_keep)
    (first|(go_at_call 156;(first|with_reducible refine(HC.o _ brf.drew).mono ?_|with_reducible refine(HC.o _ brf.drew.drew).mono ?_);rintro e X2 ⟨rfl,⟨M',a3,t⟩,kb,O⟩;have c0:=D.o X2 t.1.ly;have k:=kb _ _ _ Jg a.o.2.1;have f:=kb _ _ _ Jg a.o.2.2.1;have x0:=k.two';have Q:=f.two'))
   have g:=zh$ xA t$ xA f$ xA ((bR a.2.2.2).trans kb) λq=>yT a.2.2.2$ O q;clear t kb O f k;go_wp2;exact jX rfl rfl g.1 g.2.1 g.2.2.1 (Decidable.or_iff_not_imp_left.2 λq=>g.2.2.2$ Decidable.not_not.1 q) J A j
  .have j:=zh$ p.trans$ if_neg c;clear p l;go_wp2;exact jX rfl rfl (eG a.1 brf.drew) (a.2.2.1.bw brf.drew) (bR$ yT a.2.2.2 brf.drew) (.inr$ yT a.2.2.2 brf.drew) J A j
 .have Z:=zh$ aJr w1 G Y C M a0 vr U a.1.1 E.v E.f;have ht:=E.t
  delta qC;go_in
  go_wp2_with (rw[<-H.o])
  apply Z.mono;intro e X s;unfold GbP at s;clear e0 r0 Z H HN;by_cases c:C.hz.length≠0
  .rw[if_pos ⟨c,ht⟩]at s;obtain⟨rfl,⟨M',a3,t⟩,kb⟩:=s;have k:=kb _ _ _ Jg a.2.1;have f:=kb _ _ _ Jg a.2.2.1;have x0:=k.two';have Q:=f.two';have j:=zh (show flw C Y.L 4 n=(4,n,mQ C Y.L)by unfold flw;rw[if_neg Ja,if_neg Ja,if_pos ⟨rfl,c⟩]);have g:=zh$ xA t$ xA f$ (bR a.2.2.2).trans kb;clear t kb k f c ht;go_wp2;exact jX rfl rfl g.1 g.2.1 g.2.2 (.inl Ja) J A j
  .rw[if_neg (λq=>c q.1)]at s;obtain⟨rfl,b⟩:=s;let⟨I,x6,x7⟩:=N X b;have Q:=(a.2.2.1.bw b).two';have j:=zh (show flw C Y.L 4 n=(1,C.kz.getD 0 0,C)by unfold flw;rw[if_neg Ja,if_neg Ja,if_neg (λq=>c q.2),if_pos (.inr rfl)]);have g:=zh$ xA (eG a.1 b)$ xA (a.2.2.1.bw b)$ yT a.2.2.2 b;clear b c ht;go_wp2;exact jX rfl rfl g.1 g.2.1 (bR g.2.2) (.inr g.2.2) J A j
 .have⟨I,x6,x7⟩:=N U brf;have j:=zh (show flw C Y.L 1 n=(1,C.kz.getD 0 0,C)by unfold flw;rw[if_neg Ja,if_neg Ja,if_neg (λq=>absurd q.1 Ja),if_pos (.inl rfl)])
  delta qC;go_in
  go_wp2_with (rw[<-H.o])
  exact jX rfl rfl a.1 a.2.2.1 (bR a.2.2.2) (.inr a.2.2.2) J A j
 .have j:=zh (show flw C Y.L d n=(d,n,C)by unfold flw;rw[if_neg J,if_neg J,if_neg J,if_neg J]);have n1:(d==2)=false:=Jc
  have n2:(d==3)=false:=Jc
  have n3:(d==4)=false:=Jc
  have n4:(d==1)=false:=Jc
  clear hd
  delta qC;go_in
  go_wp2_with (rw[<-H.o])
  exact jX rfl rfl a.1 a.2.2.1 (bR a.2.2.2) (.inr a.2.2.2) J A j
def tkF (C:Cn)(L:Lay):Int×Int×Cn:=flw (C.n L) L (C.r L).did (C.r L).num
def tkR (C:Cn)(L:Lay):Int×Int×Cn:=if C.tn<1000000000 then (if (tkF C L).1=5 then (5,(tkF C L).2.1,C) else tkF C L) else (5,2,C)
theorem aXe {N:Cn}{n:Int}:(flw N L d n).1=5->(flw N L d n).2.2=N:=by
 have a:∀{d m b t:Int},d≠5->(cld N L d m b t).1=5->(cld N L d m b t).2.2=N:=λhd h=>by
  unfold cld at *
  grind
 unfold flw
 repeat' split
 all_goals intro h
 all_goals first
  | rfl
  | exact a J h
  | (have:d=5:=h;omega)
theorem aWf (k:Stk (C.z L) C.pc C.kz (C.r L))(h:(tkF C L).1=5):(tkF C L).2.2=C.n L/\{ C.n L with pc:=C.pc,kz:=C.kz }=C:=by
 refine⟨aXe h,?_⟩;unfold tkF at h;unfold Cn.n at *;generalize C.r L=r at *;rcases k.d with⟨e1,e2⟩|⟨f,e⟩|⟨d,n,hd,e,_,_⟩
 .rw[e1,e2]at h;unfold flw at h
  grind
 all_goals
  subst e;rfl
abbrev st5 (W:qw)(G:Nat)(a b c d e:Value):qw:=((((W.setCell (qR G 5) a).setCell (qR G 6) b).setCell (qR G 7) c).setCell (qR G 8) d).setCell (qR G 9) e
section
variable {w1 W W' X:qw}{G base aN:Nat}{Y:Lyb}{C:Cn}{M:Mn}{v13 vr:Value}{Ls:List (PMod×Mb)}{β:Nat->Nat}{S:Nat->Prop}{fa ra oa ka:qO}{fn fc rn rc on oc kn kc:Nat}{x1 x2 x3 kz:qi}
theorem MxO.stp (h:MxO W base aN C M Ls β)(T:Turn S W W')(hS:∀j,S j->aN<=j/\∃cs f,Blk W j cs f/\(f=5\/f=152))(q:cB W' aN (qS fa fn fc) (qS ra rn rc) (qS oa on oc) x1 x2 x3)(k:OI W' aN (qS ka kn kc) kz)(pc):MxO W' base aN { C with pc:=pc,kz:=kz,fz:=x1,rz:=x2,oz:=x3 } { M with pc:=pc,ka:=ka,kn:=kn,kc:=kc,kz:=kz,fa:=fa,fn:=fn,fc:=fc,fz:=x1,ra:=ra,rn:=rn,rc:=rc,rz:=x2,oa:=oa,on:=on,oc:=oc,oz:=x3 } Ls β/\OI W' aN (qS M.ka M.kn M.kc) C.kz:=by
 have a:∀{t:TypeId}{sz n b:Nat}{v:Value}{i:List Value},W.ownsRow b t sz v n i->t≠5->t≠152->∀k,v.ownBlock=some k->¬S k:=λl p u k g s=>by
  let⟨_,cs,f,kb,e⟩:=hS k s;let⟨c,d⟩:=aE l g;have:=aH d kb
  grind
 exact⟨⟨h.upd T (λj s=>by
  grind),h.e,k,q,h.l.kept T$ a h.l Ja Ja,h.h.kept T$ a h.h Ja Ja,h.bm,h.bh,⟨h.vs.1,h.vs.2.1,h.vs.2.2.1,h.vs.2.2.2.1,rfl,h.vs.2.2.2.2.2⟩,⟨h.vz.1,rfl,rfl,rfl,rfl,h.vz.2.2.2.2.2⟩⟩,aV T h.k$ a h.k.1 Ja Ja⟩
theorem aVn (h:Mg w1 W G Y C M v13 vr)(m:MxO W base aN C M Ls β)(u:w1.heap.size<=base)(g:aN<=G)(T:Turn S W W')(hS:∀j,S j->aN<=j/\∃cs f,Blk W j cs f/\(f=5\/f=152))(q:cB W' aN (qS fa fn fc) (qS ra rn rc) (qS oa on oc) x1 x2 x3)(k:OI W' aN (qS ka kn kc) kz)(pc)(l:X=st5 W' G (qI pc) (qS ka kn kc) (qS fa fn fc) (qS ra rn rc) (qS oa on oc)):
 Mg w1 X G Y { C with pc:=pc,kz:=kz,fz:=x1,rz:=x2,oz:=x3 } { M with pc:=pc,ka:=ka,kn:=kn,kc:=kc,kz:=kz,fa:=fa,fn:=fn,fc:=fc,fz:=x1,ra:=ra,rn:=rn,rc:=rc,rz:=x2,oa:=oa,on:=on,oc:=oc,oz:=x3 } v13 vr/\MxO X base aN { C with pc:=pc,kz:=kz,fz:=x1,rz:=x2,oz:=x3 } { M with pc:=pc,ka:=ka,kn:=kn,kc:=kc,kz:=kz,fa:=fa,fn:=fn,fc:=fc,fz:=x1,ra:=ra,rn:=rn,rc:=rc,rz:=x2,oa:=oa,on:=on,oc:=oc,oz:=x3 } Ls β/\OI X aN (qS M.ka M.kn M.kc) C.kz/\Turn (λj=>j=G) W' X:=by
 let⟨d,i⟩:=m.stp T hS q k pc
 have b:=aC T h.k (λs=>by
  let⟨_,cs,f,kb,e⟩:=hS _ s;have:=aH h.k kb
  grind)
 have:=m.bm;have B:=aF h.b T (λj s=>by grind) h.b.size;have t:=h.g;subst l;have a:=((((aD W' G 5$ qI pc).trans$ aD _ G 6$ qS ka kn kc).trans$ aD _ G 7$ qS fa fn fc).trans$ aD _ G 8$ qS ra rn rc).trans$ aD _ G 9$ qS oa on oc;have p:=((((b.set 5$ qI pc).set 6$ qS ka kn kc).set 7$ qS fa fn fc).set 8$ qS ra rn rc).set 9$ qS oa on oc;exact⟨⟨aF B a (λj y=>J) B.size,t,by simpa using p,⟨base,aN,Ls,β,d.gm b g a,u,g⟩,h.l⟩,d.gm b g a,aV a i$ aS b i.1 Ja,a⟩
def aSq (h:Mg w1 W G Y C M v13 vr)(m:MxO W base aN C M Ls β)(f:w1.heap.size<=base)(a:aN<=G)(k:OI W aN (qS ka kn kc) kz)(pc):Mg w1 ((W.setCell (qR G 5)$ qI pc).setCell (qR G 6)$ qS ka kn kc) G Y { C with pc:=pc,kz:=kz } { M with pc:=pc,ka:=ka,kn:=kn,kc:=kc,kz:=kz } v13 vr:=by
 have b:=h.g;have T:=(aD W G 5$ qI pc).trans$ aD _ G 6$ qS ka kn kc;have e:=(h.k.set 5$ qI pc).set 6$ qS ka kn kc;have x:=m.gm h.k a T;exact⟨aF h.b T (λj g=>J) h.b.size,b,by simpa using e,⟨base,aN,Ls,β,⟨x.m,x.e,aV T k$ aS h.k k.1 Ja,x.q,x.l,x.h,x.bm,x.bh,⟨x.vs.1,x.vs.2.1,x.vs.2.2.1,x.vs.2.2.2.1,rfl,x.vs.2.2.2.2.2⟩,⟨x.vz.1,rfl,x.vz.2.2⟩⟩,f,a⟩,h.l⟩
end
end Go.Proofs.YtdjdcdnjjmjonaaGreat
namespace Go.Proofs.YtdjdcdnjjmjonaaGreat
open Go.RowKit Classical
set_option maxRecDepth 100000
theorem aS5 {ps:List PMod}{L:Lay}(e:Lok ps L):((imR ps L).length:Int)=L.ram:=by
 unfold imR;rw[if_pos e];have K:=nB e;have:=K.rr
 have:∀i,i<=ps.length->(raB ps L i).length=L.ram.toNat:=by
  intro i
  induction i with
  | zero=>intro _;simp[raB]
  | succ i ih=>
    intro hi;have a:=ih J;have:=(K.at i J).2.2.2;rw[raB,aGa,nR]
    .exact a
    .rw[a,K.place i J];omega
 grind
def aEp (M L i G xs a2 c2 C S ts w)(h:MnD w M)(hL:LyT w L i G xs a2 c2 C S ts)(hk:Lok (aI M.ms) L):
 qC 143 #[.agg$ qA M,.agg$ qJ L i xs G a2 c2 C ts S] w (Yn (mok M.fn M.rn M.on=true/\imF (aI M.ms) L=M.fz/\(M.rn:Int)=L.ram) w):=by
 let⟨U,hU,bU,kU⟩:=nwb w (qA M) 43;let⟨V,hV,bV,kV⟩:=nwb U (qJ L i xs G a2 c2 C ts S) 65;have t:=yT bU bV;have g:=kU.bw bV
 have A:=zh (show qC 184 #[qS M.ma M.mn M.mc,.agg$ qJ L i xs G a2 c2 C ts S] V (λe w'=>qY V w'/\∃u Y B Q n2 I N n3 P,e=.returned (.tuple #[.agg$ qV u Y B Q n2 I N n3 P,.bool true])/\OM w' V.heap.size (qS u Y B) (qS Q n2 I) (qS N n3 P) (imF (aI M.ms) L) (imR (aI M.ms) L) [])by
  have:=aJl M.ma M.mn M.mc M.ms L i G xs a2 c2 C S ts V (h.m.bw t)$ hL.bw t;unfold ImM at this;rw[xR hk]at this
  exact this)
 have a4:=zh$ aS5 hk;have D:=zb V λX k=>(h.f.bw t).bw k;have HU:=zh hU;have HV:=zh hV;have HB:=zh t;have f:=zh λ(X:qw)=>zH M.fa M.ra M.oa M.fn M.fc M.rn M.rc M.on M.oc X;have a7:=h.r.2.1;have H:=zb V λX k=>show qn X w 0=qk M.ma M.mn M.mc/\qn X w 7=qk M.fa M.fn M.fc/\qn X w 8=qk M.ra M.rn M.rc/\qn X w 9=qk M.oa M.on M.oc from⟨(g.bw k).cell 0,(g.bw k).cell 7,(g.bw k).cell 8,(g.bw k).cell 9⟩;have z0:=kV.ly6;have K:=H V brf;clear hU hV bU bV kU g kV t h hL hk
 delta qC;go_in
 go_wp2_with (first|rw[<-HU.o]|rw[<-HV.o])
 apply A.mono;rintro e X1 ⟨y,u,Y,B,Q,n2,I,N,n3,P,rfl,O⟩;let⟨W,hW,bW,kW⟩:=nwb X1 (qV u Y B Q n2 I N n3 P) 39;have BW:=yT y bW;have Z:=zh hW;have s:=zh BW;have x:=zb W λX k=>(((O.o1.bw bW).bw k).bs);have a3:=zh (show((n2:Nat):Int)=L.ram by rw[<-a4.o,O.o2.bs.1]);have a1:=O.o2.bs.2.1;unfold maxLen at a1;have p:=zh kW;clear K z0 HU HV A hW bW kW y O;have K:=H W BW;clear BW;have E:=zb W λX k=>nK M.fa u M.fn M.fc Y B M.fz (imF (aI M.ms) L) X (D X$ yT s k)$ x X k;by_cases d:mok M.fn M.rn M.on=true
 .rw[d]at f;have a6:=zh d;clear d;go_wp2_with (rw[<-Z.o])
  apply(f _).mono;rintro e X2 ⟨rfl,a⟩;have l:=zh$ yT s a;have b:=zh$ E X2 a;clear K;have K:=H X2 l;have i0:=(p.bw a).e0;have i1:=(p.bw a).e1;clear a f E p x D H Z;by_cases c2:M.fz=imF (aI M.ms) L
  .rw[xR c2]at b;have j:=zh c2.symm;clear c2;go_wp2_with fail
   apply b.mono;rintro e X3 ⟨rfl,rfl⟩;go_wp2;go_ret;have a8:=a3.o;refine⟨_,rfl,?_,yT HB l⟩;constructor
   .intro q;exact⟨a6.o,j.o,by simp at q;omega⟩
   .intro q;have:=q.2.2;simp;omega
  .rw[xS c2]at b;have j:Zh (¬(mok M.fn M.rn M.on=true/\imF (aI M.ms) L=M.fz/\(M.rn:Int)=L.ram)):=λq=>c2 q.2.1.symm;clear c2;go_wp2_with fail
   apply b.mono;rintro e X3 ⟨rfl,rfl⟩;go_wp2;go_ret;exact dL j$ yT HB l
 .have e1:mok M.fn M.rn M.on=false:=by simpa using d
  rw[e1]at f;have j:Zh (¬(mok M.fn M.rn M.on=true/\imF (aI M.ms) L=M.fz/\(M.rn:Int)=L.ram)):=λq=>d q.1;clear d e1;go_wp2_with (rw[<-Z.o])
  apply(f _).mono;rintro e X2 ⟨rfl,a⟩;have l:=zh$ yT s a;clear a;go_wp2;go_ret;exact dL j$ yT HB l
def aIh (M w)(h:MnD w M):
 qC 145 #[.agg$ qA M] w (Yn (aBb (aI M.ms) M.cs M.md M.bk M.lz) w):=by
 let⟨U,K,G,d⟩:=nwb w (qA M) 43;have f:=zh$ nG M.ma M.mn M.mc M.ms M.md M.bk U$ h.m.s.bw G;rw[fL h.m M.md M.bk]at f;have s:=zb U λX j=>lH M.la M.ln M.lc M.lz M.md M.bk X$ (h.l.bw G).bw j;have B:=zh K;have l:=zh G;have D:=zb U λX j=>show qn X w 0=qk M.ma M.mn M.mc/\qn X w 1=qj M.cs/\qn X w 10=qj M.md/\qn X w 11=qj M.bk/\qn X w 12=qk M.la M.ln M.lc from⟨(d.bw j).cell 0,(d.bw j).cell 1,(d.bw j).cell 10,(d.bw j).cell 11,(d.bw j).cell 12⟩;have E:=D U brf;by_cases i:0<=pcq (aI M.ms) M.md M.bk
 .rw[xR i]at f;have g:Zh ((aBb (aI M.ms) M.cs M.md M.bk M.lz) ↔ (M.cs=0\/M.bk=-1\/hld M.lz M.md M.bk≠-1)):=⟨λq=>q.2,λq=>⟨i,q⟩⟩
  delta qC;go_in
  go_wp2_with (rw[<-B.o])
  apply f.mono;rintro e A ⟨rfl,a⟩;have b:=zh a;have E:=D A a;have x:=zh$ s A a;by_cases c2:M.cs=0
  .have p:(M.cs !=0)=false:=by simp[c2]
   have k:=zh$ g.2$ .inl c2;go_wp2;go_ret;exact uK k$ yT l b
  have p:(M.cs !=0)=true:=by simp[c2]
  by_cases C:M.bk=-1
  .have y:(M.bk !=-1)=false:=by simp[C]
   have k:=zh$ g.2$ .inr$ .inl C;go_wp2;go_ret;exact uK k$ yT l b
  have y:(M.bk !=-1)=true:=by simp[C]
  have k:Zh ((aBb (aI M.ms) M.cs M.md M.bk M.lz) ↔ hld M.lz M.md M.bk≠-1):=⟨λq=>by rcases g.1 q with e|e|e;exact absurd e c2;exact absurd e C;exact e,λq=>g.2$ .inr$ .inr q⟩;generalize hld M.lz M.md M.bk=r at *;go_wp2_with fail
  apply x.mono;rintro e I ⟨rfl,t⟩;have u:=zh$ yT b t;go_wp2;go_ret;exact⟨_,rfl,by rw[k.o];simp,yT l.o u.o⟩
 .rw[xS i]at f;have H:Zh (¬(aBb (aI M.ms) M.cs M.md M.bk M.lz)):=λq=>i q.1
  delta qC;go_in
  go_wp2_with (rw[<-B.o])
  apply f.mono;rintro e A ⟨rfl,a⟩;have b:=zh a;go_wp2;go_ret;exact dL H$ yT l b
