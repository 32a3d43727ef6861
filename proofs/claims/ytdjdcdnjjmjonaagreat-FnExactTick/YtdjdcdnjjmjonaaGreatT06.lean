import Derived.Test.YtdjdcdnjjmjonaaGreatT04
set_option linter.all false
set_option maxHeartbeats 8000000
namespace Go.Proofs.YtdjdcdnjjmjonaaGreat
open Go.RowKit
set_option maxRecDepth 100000
variable {L:List (Hd×Ct)}{Q:Nat->Prop}{a a0 a2 a5:qO}{base c0 c2 c5 cap g i k m n:Nat}{c c':Ct}{d s w:Int}{hs:List Hd}{ps:List PMod}{ts:List TB}{x:Hd}{xs:List PB}{zs:List Tg}{β:Nat->Nat}
structure Mkg (w W:qw)(base:Nat)(Q:Nat->Prop)(v:Value)(hs:List Hd)(L:List (Hd×Ct))(β:Nat->Nat)(k m:Nat):Prop where
 o:OMs W base v L β
 h:L.map (fun x=>x.1)=hs
 d:∀i,i<m->L[i]?=some (hs.getD i zHd,mkC (hs.getD i zHd) (k+upS (fun j=>bK (hs.getD j zHd)) i))
 t:Turn Q w W
def aTg (h:L.map (λx=>x.1)=hs)(b:m<hs.length):∃c,L[m]?=some (hs.getD m zHd,c):=by
 subst h;rw[xH]at b;exact⟨L[m].2,by simp[xB,b]⟩
def aO2 (h:L.map (λx=>x.1)=hs)(hx:L[i]?=some (x,c)):(L.set i (x,c')).map (λx=>x.1)=hs:=by
 subst h;apply List.ext_getElem?
 grind
def aPo {α:Type}{L:List α}{x x':α}(h:L[i]?=some x):(L.set i x')[i]?=some x':=by grind
structure Mkm (w W:qw)(base:Nat)(Q:Nat->Prop)(g n cap:Nat)(hs:List Hd)(L:List (Hd×Ct))(β:Nat->Nat)(k m:Nat)(x:Hd)(c:Ct):Prop where
 o:OMs W base (qS (qP g) n cap) L β
 h:L.map (fun x=>x.1)=hs
 d:∀i,i<m->L[i]?=some (hs.getD i zHd,mkC (hs.getD i zHd) (k+upS (fun j=>bK (hs.getD j zHd)) i))
 t:Turn Q w W
 x:L[m]?=some (x,c)
def Mkm.bw {w W b:qw}(H:Mkm w W base Q g n cap hs L β k m x c)(e:qY W b):Mkm w b base Q g n cap hs L β k m x c:=⟨H.o.bw e,H.h,H.d,H.t.trans$ aI e,H.x⟩
def Mkm.mod {w W b:qw}(H:Mkm w W base Q g n cap hs L β k m x c)(l:M6h b (β m) (x,c'))(e:clH (x,c')=clH (x,c)){S:Nat->Prop}(hS:∀j,S j->Sh x j)(f:∀j,Sh x j->Q j)(T:Turn S W b):Mkm w b base Q g n cap hs (L.set m (x,c')) β k m x c':=
 ⟨H.o.mod H.x l e hS T,aO2 H.h H.x,λi hi=>by rw[List.getElem?_set_ne J];exact H.d i hi,H.t.trans$ T.mono λj s=>f j$ hS j s,aPo H.x⟩
def Mkm.cell {w W:qw}(H:Mkm w W base Q g n cap hs L β k m x c)(hn:L.length=n)(j)(b:j<8)(u)(e:clH (x,c')=(clH (x,c)).set j u)(f:M6h W (β m) (x,c'))(l:Q g):Mkm w (W.setCell (qR g$ m*8+j) u) base Q g n cap hs (L.set m (x,c')) β k m x c':=
 ⟨H.o.cell hn H.x j b u e f,aO2 H.h H.x,λi hi=>by rw[List.getElem?_set_ne J];exact H.d i hi,H.t.trans$ (aC W g _ u).mono (λj s=>by grind),aPo H.x⟩
def sN (g n d base k)(Q:Nat->Prop)(hs L)(a:Nat->Nat)(w)(H:OMs w base (qS (qP g) n d) L a)(hL:L.map (λx=>x.1)=hs)(hl:L.length=n)(h0:0<k)(hz:k+upS (λj=>bK$ hs.getD j zHd) n<=4194305)(hb:∀i,i<n->(hs.getD i zHd).bn<=1048576)(hn:n<=1048576)(hg:Q g)(N:∀i,i<n->∀j,Sh (hs.getD i zHd) j->Q j):
 qC 41 #[qS (qP g) n d,qI k] w λe w'=>e=.returned (qI ((k+upS (λj=>bK$ hs.getD j zHd) n:Nat):Int))/\∃M,Mkg w w' base Q (qS (qP g) n d) hs M a k n:=by
 have a4:hs.length=n:=by rw[<-hL,xH,hl]
 have HH:=zh$ xA H hL;clear H hL hl
 delta qC;go_in
 go_wp2;go_loopw [1,5] (λx i wr=>∃m:Nat,m<=n/\i=qI m/\x=qI ((k+upS (λj=>bK$ hs.getD j zHd) m:Nat):Int)/\∃M,Mkg w wr base Q (qS (qP g) n d) hs M a k m) (λ_ i _=>n-(intOf i).toNat)
 .exact⟨0,xC _,rfl,rfl,L,HH.1,HH.2,λi hi=>absurd hi$ Nat.not_lt_zero _,Turn.refl _ _⟩
 .obtain⟨m,hm,rfl,rfl,M,R⟩:=hrel;by_cases F:m<n
  .have a7:(m:Int)<(n:Int):=J
   let⟨c,hc⟩:=aTg R.h$ show m<hs.length from J;have y7:=hb m F;have a8:bK (hs.getD m zHd)+upS (λj=>bK$ hs.getD j zHd) m<=upS (λj=>bK$ hs.getD j zHd) n:=aCk (λj=>bK$ hs.getD j zHd) n m F;have a1:Zh (upS (λj=>bK$ hs.getD j zHd) (m+1)=upS (λj=>bK$ hs.getD j zHd) m+bK (hs.getD m zHd)):=rfl;have l:=zh$ N m F;have S:Zh (bK (hs.getD m zHd)=2+(hs.getD m zHd).tn+cD (hs.getD m zHd).f (hs.getD m zHd).bn+(hs.getD m zHd).dn+(hs.getD m zHd).rn+(hs.getD m zHd).im+3*(hs.getD m zHd).en):=rfl;have HX:Zh (Mkm w wr base Q g n d hs M a k m (hs.getD m zHd) c):=zh ⟨R.o,R.h,R.d,R.t,hc⟩;have V:Zh (∀(L:List (Hd×Ct)),L.map (λx=>x.1)=hs->L.length=n):=λL h=>by rw[<-a4,<-h,xH]
   have a6:=zh (λ(W:qw)(L2:List (Hd×Ct))(c2:Ct)(Z:Mkm w W base Q g n d hs L2 a k m (hs.getD m zHd) c2)(e:c2=mkC (hs.getD m zHd) (k+upS (λj=>bK$ hs.getD j zHd) m))=>(⟨Z.o,Z.h,λi hi=>by
    by_cases q:i=m
    .subst q;rw[Z.x,e]
    .exact Z.d i J,Z.t⟩:Mkg w W base Q (qS (qP g) n d) hs L2 a k (m+1)))
   have a3:Zh (mkC (hs.getD m zHd) (k+upS (λj=>bK$ hs.getD j zHd) m)=mkC (hs.getD m zHd) (k+upS (λj=>bK$ hs.getD j zHd) m)):=rfl;clear R hc N HH;generalize upS (λj=>bK$ hs.getD j zHd) m=b at *;generalize hs.getD m zHd=q at *;have hC:=S.o;clear a3 S;generalize P:cD q.f q.bn=f at *;have K:=zh P;generalize bK q=cm at *;obtain⟨nm,T,X,D,s,R,I,E⟩:=c;go_wp2_with fail
   apply(eO (k+b) wr).mono;rintro e w1 ⟨rfl,Y⟩;have G:=HX.bw Y;let⟨⟨p0,p1,p2,p3,p4,p5,p6,p7⟩,pf⟩:=G.o.at G.x;have f0:=pf$ m*8;have p:=G.cell (c':=⟨mtx$ k+b,T,X,D,s,R,I,E⟩) (V _ G.h) 0 J (.string$ mtx$ k+b) rfl (G.o.m m _ G.x).1 hg;simp only[Nat.add_zero]at p;clear HX G Y p1 p2 p3 p4 p5 p6 p7 pf P;let⟨⟨_,q1,_⟩,_⟩:=p.o.at p.x;go_wp2_with fail
   apply(gY q.a1 q.tn q.c1 (a m) _ (k+b+1) _ (p.o.m m _ p.x).1.t).mono;rintro e w2 ⟨rfl,O,U⟩;have y:=p.mod (c':=⟨mtx$ k+b,bT (k+b+1) q.tn,X,D,s,R,I,E⟩) ((p.o.m m _ p.x).1.set_t O U) rfl (λj s=>.inl s) l U;clear p O U q1 p0 f0;let⟨⟨_,_,q2,_⟩,_⟩:=y.o.at y.x;go_wp2_with fail
   apply(aAw q.a2 q.bn q.c2 (k+b+1+q.tn) (a m) q.f _ _ (y.o.m m _ y.x).1.b J (by rw[K.o];omega) J).mono;rw[K.o];rintro e w3 ⟨rfl,O,U⟩;have B:=y.mod (c':=⟨mtx$ k+b,bT (k+b+1) q.tn,mrk (k+b+1+q.tn) q.f,D,s,R,I,E⟩) ((y.o.m m _ y.x).1.set_b O U) rfl (λj s=>.inr$ .inl s) l U;clear y O U q2;let⟨⟨_,_,_,q3,_⟩,_⟩:=B.o.at B.x;go_wp2_with fail
   apply(fZ q.a3 q.dn q.c3 (a m) _ (k+b+1+q.tn+f) _ (B.o.m m _ B.x).1.d).mono;rintro e w4 ⟨rfl,O,U⟩;have C:=B.mod (c':=⟨mtx$ k+b,bT (k+b+1) q.tn,mrk (k+b+1+q.tn) q.f,dC (k+b+1+q.tn+f) q.dn,s,R,I,E⟩) ((B.o.m m _ B.x).1.set_d O U) rfl (λj s=>.inr$ .inr$ .inl s) l U;clear B O U q3;let⟨⟨_,_,_,_,q4,_⟩,qf⟩:=C.o.at C.x;have f4:=qf$ m*8+4;have A:=C.cell (c':=⟨mtx$ k+b,bT (k+b+1) q.tn,mrk (k+b+1+q.tn) q.f,dC (k+b+1+q.tn+f) q.dn,((k+b+1+q.tn+f+q.dn:Nat):Int),R,I,E⟩) (V _ C.h) 4 J (qI ((k+b+1+q.tn+f+q.dn:Nat):Int)) rfl (C.o.m m _ C.x).1 hg;clear C qf;let⟨⟨_,_,_,_,_,q5,_⟩,_⟩:=A.o.at A.x;go_wp2_with fail
   apply(gY q.a5 q.rn q.c5 (a m) _ (k+b+1+q.tn+f+q.dn+1) _ (A.o.m m _ A.x).1.r).mono;rintro e w5 ⟨rfl,O,U⟩;have u:=A.mod (c':=⟨mtx$ k+b,bT (k+b+1) q.tn,mrk (k+b+1+q.tn) q.f,dC (k+b+1+q.tn+f) q.dn,((k+b+1+q.tn+f+q.dn:Nat):Int),bT (k+b+1+q.tn+f+q.dn+1) q.rn,I,E⟩) ((A.o.m m _ A.x).1.set_r O U) rfl (λj s=>.inr$ .inr$ .inr$ .inl s) l U;clear A O U q5 q4 f4;let⟨⟨_,_,_,_,_,_,q6,_⟩,_⟩:=u.o.at u.x;go_wp2_with fail
   apply(uG q.a6 q.im q.c6 (a m) _ (k+b+1+q.tn+f+q.dn+1+q.rn) _ (u.o.m m _ u.x).1.i J J J).mono;rintro e w6 ⟨rfl,O,U⟩;have t:=u.mod (c':=⟨mtx$ k+b,bT (k+b+1) q.tn,mrk (k+b+1+q.tn) q.f,dC (k+b+1+q.tn+f) q.dn,((k+b+1+q.tn+f+q.dn:Nat):Int),bT (k+b+1+q.tn+f+q.dn+1) q.rn,gR (k+b+1+q.tn+f+q.dn+1+q.rn) q.im,E⟩) ((u.o.m m _ u.x).1.set_i O U) rfl (λj s=>.inr$ .inr$ .inr$ .inr$ .inl s) l U;clear u O U q6;let⟨⟨_,_,_,_,_,_,_,q7⟩,_⟩:=t.o.at t.x;go_wp2_with fail
   apply(uL q.a7 q.en q.c7 (a m) _ (k+b+1+q.tn+f+q.dn+1+q.rn+q.im) _ (t.o.m m _ t.x).1.e J J J).mono;rintro e w7 ⟨rfl,O,U⟩;have Z9:=zh$ t.mod (c':=⟨mtx$ k+b,bT (k+b+1) q.tn,mrk (k+b+1+q.tn) q.f,dC (k+b+1+q.tn+f) q.dn,((k+b+1+q.tn+f+q.dn:Nat):Int),bT (k+b+1+q.tn+f+q.dn+1) q.rn,gR (k+b+1+q.tn+f+q.dn+1+q.rn) q.im,iW (k+b+1+q.tn+f+q.dn+1+q.rn+q.im) q.en⟩) ((t.o.m m _ t.x).1.set_e O U) rfl (λj s=>.inr$ .inr$ .inr$ .inr$ .inr s) l U;clear t O U q7;go_wp2
   go_roundw
   .exact⟨m+1,J,by go_num,by rw[a1.o];go_num,_,a6.o _ _ _ Z9.o (by unfold mkC;rw[K.o])⟩
   .simp[intOf];omega
  .have e:Zh (m=n):=by show m=n;omega
   have HX:=zh R;clear R HH;go_wp2;go_ret;exact⟨aJ (by rw[e.o]),M,by have:=HX.o;rw[e.o]at this;exact this⟩
def tB (g n a0 base k)(hs:List Hd)(L)(a:Nat->Nat)(w)(H:OMs w base (qS (qP g) n a0) L a)(hd:∀i,i<n->L[i]?=some (hs.getD i zHd,mkC (hs.getD i zHd)$ k+upS (λj=>bK$ hs.getD j zHd) i))(h0:0<k)(hz:k+upS (λj=>bK$ hs.getD j zHd) n<=4194305)(f:∀i,i<n->(hs.getD i zHd).bn<=1048576)(hn:n<=1048576):
 qC 46 #[qS (qP g) n a0,qI k] w λe w'=>e=.returned (qI ((k+upS (λj=>bK$ hs.getD j zHd) n:Nat):Int))/\qY w w':=by
 delta qC;go_in
 go_wp2;go_loopw [1,5] (λx i wr=>∃m:Nat,m<=n/\i=qI m/\x=qI ((k+upS (λj=>bK$ hs.getD j zHd) m:Nat):Int)/\qY w wr) (λ_ i _=>n-(intOf i).toNat)
 .exact⟨0,xC _,rfl,rfl,brf⟩
 .obtain⟨m,hm,rfl,rfl,B⟩:=hrel;by_cases y:m<n
  .have U:(m:Int)<(n:Int):=J
   have:=f m y;have:bK (hs.getD m zHd)+upS (λj=>bK$ hs.getD j zHd) m<=upS (λj=>bK$ hs.getD j zHd) n:=aCk (λj=>bK$ hs.getD j zHd) n m y;have I:Zh (upS (λj=>bK$ hs.getD j zHd) (m+1)=upS (λj=>bK$ hs.getD j zHd) m+bK (hs.getD m zHd)):=rfl;have F:Zh (bK (hs.getD m zHd)=2+(hs.getD m zHd).tn+cD (hs.getD m zHd).f (hs.getD m zHd).bn+(hs.getD m zHd).dn+(hs.getD m zHd).rn+(hs.getD m zHd).im+3*(hs.getD m zHd).en):=rfl;have u:=zb w λX R=>xA ((H.bw R).at$ hd m y) ((H.bw R).m m _$ hd m y).1;generalize upS (λj=>bK$ hs.getD j zHd) m=b at *;generalize hs.getD m zHd=q at *;unfold mkC at u;have:=F.o;clear F;generalize E:cD q.f q.bn=l at *;have G:=zh E;generalize bK q=cm at *;have N:=zh B;clear B E hd;dsimp only at u;let⟨⟨p0,_⟩,_⟩:=(u wr N).1;have K:=zh λW=>eO (k+b) W;let⟨s,hs⟩:=aN$ mtx$ k+b;rw[<-hs]at K u p0;clear hs;have:(s.toList !=s.toList)=false:=Jb
   go_wp2_with fail
   go_region_held3 (λw'=>qN w' g (m*8)=some (.string s)) (go_keep) (first
    | (go_at_call 97;refine(K _).mono ?_;rintro e A ⟨rfl,f⟩;replace f:=yT N$ aW f;have c1:=(u A f).1.1.1;have p:=zh f;clear f))
   clear p0 N K c1;let⟨⟨_,d,q2,q3,q4,q5,q6,q7⟩,_⟩:=(u A p).1;have D:=(u A p).2;have:¬(((k+b+1+q.tn:Nat):Int)<0):=J
   have:¬(((k+b+1+q.tn+l:Nat):Int)<0):=J
   have:¬(((k+b+1+q.tn+l+q.dn:Nat):Int)<0):=J
   have:¬(((k+b+1+q.tn+l+q.dn+1+q.rn:Nat):Int)<0):=J
   have:¬(((k+b+1+q.tn+l+q.dn+1+q.rn+q.im:Nat):Int)<0):=J
   have:¬(((k+b+1+q.tn+l+q.dn+1+q.rn+q.im+3*q.en:Nat):Int)<0):=J
   have S:=zh$ iE q.a1 q.tn q.c1 (k+b+1) A D.t.is;go_wp2_with fail
   apply S.mono;rintro e C ⟨rfl,rfl⟩;have M:=zh (aA8 q.a2 q.bn q.c2 (k+b+1+q.tn) (a m) q.f A D.b J (by rw[G.o];omega) J);rw[G.o]at M;have Y:=zh$ gB q.a3 q.dn q.c3 (k+b+1+q.tn+l) A D.d.bs;have P:=zh$ iE q.a5 q.rn q.c5 (k+b+1+q.tn+l+q.dn+1) A D.r.is;have Q:=zh$ uN q.a6 q.im q.c6 (a m) (k+b+1+q.tn+l+q.dn+1+q.rn) A D.i J J J;clear S D;go_wp2_with fail
   apply M.mono;rintro e C ⟨rfl,rfl⟩;go_wp2_with fail
   apply Y.mono;rintro e C ⟨rfl,rfl⟩;go_wp2_with fail
   apply P.mono;rintro e C ⟨rfl,rfl⟩;go_wp2_with fail
   apply Q.mono;rintro e C ⟨rfl,f⟩;have t:=zh$ yT p f;have V:=zh$ uQ q.a7 q.en q.c7 (a m) (k+b+1+q.tn+l+q.dn+1+q.rn+q.im) C (u C t).2.e J J J;clear M Y P Q f d q2 q3 q4 q5 q6 q7;let⟨⟨_,d,q2,q3,q4,q5,q6,q7⟩,_⟩:=(u C t).1;go_wp2_with fail
   apply V.mono;rintro e w4 ⟨rfl,f⟩;have O:=zh$ yT t f;clear f V d q2 q3 q4 q5 q6 q7 p t;go_wp2
   go_roundw
   .exact⟨m+1,J,by go_num,by rw[I.o];go_num,O.o⟩
   .simp[intOf];omega
  .have e:Zh (m=n):=by show m=n;omega
   have Z:=zh B;clear B;go_wp2;go_ret;exact⟨aJ (by rw[e.o]),Z.o⟩
def sM (a)(b k:Nat)(w):
 qC 41 #[qS a 0 b,qI k] w λe w'=>e=.returned (qI (k:Nat))/\w=w':=by
 delta qC;go_in
 go_wp2;go_loopw [1,5] (λx i wr=>x=qI (k:Nat)/\i=qI 0/\w=wr) (λ_ _ _=>0)
 .exact⟨rfl,rfl,rfl⟩
 .obtain⟨rfl,rfl,rfl⟩:=hrel;go_wp2;go_ret;exact⟨rfl,rfl⟩
def tA (a)(b k:Nat)(w):
 qC 46 #[qS a 0 b,qI k] w λe w'=>e=.returned (qI (k:Nat))/\w=w':=by
 delta qC;go_in
 go_wp2;go_loopw [1,5] (λx i wr=>x=qI (k:Nat)/\i=qI 0/\w=wr) (λ_ _ _=>0)
 .exact⟨rfl,rfl,rfl⟩
 .obtain⟨rfl,rfl,rfl⟩:=hrel;go_wp2;go_ret;exact⟨rfl,rfl⟩
structure LayB (L:Lay):Prop where
 r:LayR L
 p:L.places.length<=4/\∀x∈L.places,x.banks.length<=4
 s:L.slots.length<=4
 t:L.targets.length<=4/\∀x∈L.targets,x.length<=16
def aMa:LayB L0:=⟨⟨by simp[L0],by simp[L0],by simp[L0]⟩,by simp[L0],by simp[L0],by simp[L0]⟩
def iK {k:Int}(h:lkc ps s w k d=0):cfo s w k d=true/\1<=ps.length/\ps.length<=4/\jH ps/\oH ps:=by
 unfold lkc at h;split at h
 .rename_i b;exact absurd h b
 rename_i b;split at h
 .grind
 rename_i f;simp at b;unfold fE at b;split at b
 .grind
 rename_i e;split at b
 .grind
 rename_i j
 grind
def aO8 {k:Int}(h:lkc ps s w k d=0):LayB (lay ps s w k):=by
 let⟨hc,p,t,g,_⟩:=iK h;unfold cfo at hc;simp at hc;have b:∀i,i<ps.length->gX (ps.getD i zP)=0:=g;refine⟨⟨λx hx z a=>?_,λz a=>?_,?_,?_,λx hx=>?_⟩,⟨?_,λx hx=>?_⟩,?_,⟨?_,λx hx=>?_⟩⟩
 .simp only[lay,List.mem_map,List.mem_range]at hx;obtain⟨i,hi,rfl⟩:=hx;simp only[plc,List.mem_map,List.mem_range]at a;obtain⟨q,u,rfl⟩:=a;have l:=dE g i J;have:=cV (b i hi) q J;have f:=cR$ b i hi;have e:=bC (x:=4*((ps.getD i zP).tz.length:Int));have j:tsz (ps.getD i zP)=rnd (4*((ps.getD i zP).tz.length:Int)):=rfl;rw[j];unfold wfi;omega
 .simp only[lay,List.mem_map,List.mem_range]at a;obtain⟨i,hi,rfl⟩:=a;have l:=bL g ps.length aO;have e:=bC (x:=4*w);have j:(0:Int)<=(i:Int)*rnd (4*w):=Int.mul_nonneg J J;have:(i:Int)*rnd (4*w)<=4*287:=Int.mul_le_mul J J J J;unfold slt wfi;omega
 .simp[lay];omega
 .simp[lay];omega
 .simp only[lay,List.mem_map,List.mem_range]at hx;obtain⟨i,hi,rfl⟩:=hx;have f:=cR$ b i hi;simp only[tgs,xH,List.length_range];omega
 .simp[lay];omega
 .simp only[lay,List.mem_map,List.mem_range]at hx;obtain⟨i,hi,rfl⟩:=hx;have f:=cR$ b i hi;simp only[plc,xH,List.length_range];omega
 .simp[lay];omega
 .simp[lay];omega
 .simp only[lay,List.mem_map,List.mem_range]at hx;obtain⟨i,hi,rfl⟩:=hx;have f:=cR$ b i hi;simp only[tgs,xH,List.length_range];omega
def uZ (ps s w k d):LayB (lkL ps s w k d):=by
 unfold lkL;by_cases h:lkc ps s w k d=0
 .rw[if_pos h];exact aO8 h
 .rw[if_neg h];exact aMa
def TgS (w:qw)(a:qO)(n cap:Nat)(zs:List Tg):Prop:=
 zs.length=n/\n<=maxLen/\(n≠0->∃b off,a=some (qR b off)/\∀i,i<n->w.cell? (qR b$ off+i*3)=some (qI (zs.getD i zT).1)/\w.cell? (qR b$ off+i*3+1)=some (qI (zs.getD i zT).2.1)/\w.cell? (qR b$ off+i*3+2)=some (qI (zs.getD i zT).2.2))/\n<=cap
def aB {w w':qw}(e:qY w w'){b o:Nat}{v:Value}(h:w.cell? (qR b o)=some v):w'.cell? (qR b o)=some v:=(e.cell$ xD w _ h).trans h
def TgS.bw {w w':qw}(h:TgS w a n cap zs)(f:qY w w'):TgS w' a n cap zs:=by
 obtain⟨d,g,j,k⟩:=h;refine⟨d,g,λl=>?_,k⟩;let⟨b,p,e,hc⟩:=j l;exact⟨b,p,e,λi hi=>⟨aB f (hc i hi).1,aB f (hc i hi).2.1,aB f (hc i hi).2.2⟩⟩
def TgS.at {w:qw}(h:TgS w a n cap zs)(i)(hi:i<n):∃b f,a=some (qR b f)/\w.cell? (qR b$ f+i*3)=some (qI (zs.getD i zT).1)/\w.cell? (qR b$ f+i*3+1)=some (qI (zs.getD i zT).2.1)/\w.cell? (qR b$ f+i*3+2)=some (qI (zs.getD i zT).2.2):=by
 let⟨b,f,e,hc⟩:=h.2.2.1 J
 grind
def TsS (w:qw)(a:qO)(n cap:Nat)(ts:List TB):Prop:=
 ts.length=n/\n<=maxLen/\(n≠0->∃b off,a=some (qR b off)/\∀i,i<n->w.cell? (qR b$ off+i)=some (svT$ ts.getD i zTB))/\(∀i,i<n->TgS w (ts.getD i zTB).2.1 (ts.getD i zTB).1.length (ts.getD i zTB).2.2 (ts.getD i zTB).1)/\n<=cap
def TsS.bw {w w':qw}(h:TsS w a n cap ts)(f:qY w w'):TsS w' a n cap ts:=by
 obtain⟨d,g,j,k,l⟩:=h;refine⟨d,g,λp=>?_,λi hi=>(k i hi).bw f,l⟩;let⟨b,q,e,hc⟩:=j p;exact⟨b,q,e,λi hi=>aB f$ hc i hi⟩
def TsS.at {w:qw}(h:TsS w a n cap ts)(i)(hi:i<n):∃b f,a=some (qR b f)/\w.cell? (qR b$ f+i)=some (svT$ ts.getD i zTB):=by
 let⟨b,f,e,hc⟩:=h.2.2.1 J
 grind
def PlS (w:qw)(a:qO)(n cap:Nat)(xs:List PB):Prop:=
 xs.length=n/\n<=maxLen/\(n≠0->∃b off,a=some (qR b off)/\∀i,i<n->w.cell? (qR b$ off+i*4)=some (qI (xs.getD i zPB).1.text)/\w.cell? (qR b$ off+i*4+1)=some (svP$ xs.getD i zPB)/\w.cell? (qR b$ off+i*4+2)=some (qI (xs.getD i zPB).1.data)/\w.cell? (qR b$ off+i*4+3)=some (qI (xs.getD i zPB).1.size))/\(∀i,i<n->IS w (xs.getD i zPB).2.1 (xs.getD i zPB).1.banks.length (xs.getD i zPB).2.2 (xs.getD i zPB).1.banks)/\n<=cap
def PlS.bw {w w':qw}(h:PlS w a n cap xs)(f:qY w w'):PlS w' a n cap xs:=by
 obtain⟨d,g,j,k,l⟩:=h;refine⟨d,g,λp=>?_,λi hi=>(k i hi).bw f,l⟩;let⟨b,q,e,hc⟩:=j p;exact⟨b,q,e,λi hi=>⟨aB f (hc i hi).1,aB f (hc i hi).2.1,aB f (hc i hi).2.2.1,aB f (hc i hi).2.2.2⟩⟩
def PlS.at {w:qw}(h:PlS w a n cap xs)(i)(hi:i<n):∃b f,a=some (qR b f)/\w.cell? (qR b$ f+i*4)=some (qI (xs.getD i zPB).1.text)/\w.cell? (qR b$ f+i*4+1)=some (svP$ xs.getD i zPB)/\w.cell? (qR b$ f+i*4+2)=some (qI (xs.getD i zPB).1.data)/\w.cell? (qR b$ f+i*4+3)=some (qI (xs.getD i zPB).1.size):=by
 let⟨b,f,e,hc⟩:=h.2.2.1 J
 grind
structure LyT (w:qw)(L:Lay)(a0:qO)(c0:Nat)(xs:List PB)(a2:qO)(c2:Nat)(a5:qO)(c5:Nat)(ts:List TB):Prop where
 p:PlS w a0 xs.length c0 xs
 ps:xs.map (fun x=>x.1)=L.places
 s:IS w a2 L.slots.length c2 L.slots
 t:TsS w a5 ts.length c5 ts
 tt:ts.map (fun x=>x.1)=L.targets
 v:wfi L.stack/\wfi L.flash/\wfi L.ram
def LyT.bw {w w':qw}{L:Lay}(h:LyT w L a0 c0 xs a2 c2 a5 c5 ts)(b:qY w w'):LyT w' L a0 c0 xs a2 c2 a5 c5 ts:=⟨h.p.bw b,h.ps,h.s.bw b,h.t.bw b,h.tt,h.v⟩
def aUk {W:qw}{L:Lay}(b:OPl W base base (qS a0 xs.length c0) xs)(f:xs.map (λx=>x.1)=L.places)(hs:OG 3 1 clI W base (qS a2 L.slots.length c2) L.slots)(e:OTg W base base (qS a5 ts.length c5) ts)(l:ts.map (λx=>x.1)=L.targets)(R:LayR L)(q:wfi L.stack/\wfi L.flash/\wfi L.ram):LyT W L a0 c0 xs a2 c2 a5 c5 ts where
 p:=by
  let⟨_,A,B,k⟩:=aY b.head;refine⟨rfl,J,λd=>?_,λi hi=>?_,J⟩
  .have⟨g,a,_⟩:=k d;refine⟨g,0,a,λi hi=>?_⟩;let⟨w,y,E,H,I,K,_⟩:=aOe b i hi
   grind
  .have⟨_,_,_,_,_,_,o⟩:=aOe b i hi;exact aFu o$ R.p _ (by grind)
 ps:=f
 s:=aFu hs R.s
 t:=by
  let⟨_,A,B,k⟩:=aY e.head;refine⟨rfl,J,λd=>?_,λi hi=>?_,J⟩
  .have⟨g,a,_⟩:=k d;refine⟨g,0,a,λi hi=>?_⟩;let⟨w,y,E,_⟩:=aOb e i hi
   grind
  .have⟨_,_,_,o⟩:=aOb e i hi;let⟨C,F,G,D⟩:=aY o;refine⟨C,J,λd=>?_,J⟩;let⟨g,a,_⟩:=D d;refine⟨g,0,a,λj u=>?_⟩;let⟨w,y,M,N,O⟩:=aUd o j u
   grind
 tt:=l
 v:=q
def LayO.lyt {W:qw}{L:Lay}(h:LayO W base L a0 c0 xs a2 c2 a5 c5 ts)(R:LayR L)(b:wfi L.stack/\wfi L.flash/\wfi L.ram):LyT W L a0 c0 xs a2 c2 a5 c5 ts:=aUk h.p h.ps h.s h.t h.tt R b
def aVy {k:Int}(h:lkc ps s w k d=0):wfi (lay ps s w k).stack/\wfi (lay ps s w k).flash/\wfi (lay ps s w k).ram:=by
 let⟨hc,b,e,a,_⟩:=iK h;unfold cfo at hc;simp at hc;have:=bL a ps.length aO;have:=dE a ps.length aO;have:=bC (x:=4*w);have:(0:Int)<=(s.toNat:Int)*rnd (4*w):=Int.mul_nonneg J J;have:(s.toNat:Int)*rnd (4*w)<=4*287:=Int.mul_le_mul J J J J;simp only[lay];unfold wfi;omega
def aKg (ps s w k d):wfi (lkL ps s w k d).stack/\wfi (lkL ps s w k d).flash/\wfi (lkL ps s w k d).ram:=by
 unfold lkL;by_cases h:lkc ps s w k d=0
 .rw[if_pos h];exact aVy h
 .rw[if_neg h];unfold L0 wfi;simp
def dW {α:Type}(z)(xs b:List α)(k)(h:xs.take k=b.take k)(hx:k<xs.length)(e:k<b.length)(f:xs.getD k z=b.getD k z):xs.take (k+1)=b.take (k+1):=by
 rw[List.take_succ_eq_append_getElem hx,List.take_succ_eq_append_getElem e,h]
 grind
def nA (a g n s t x xs d w)(h:IS w a n s xs)(E:IS w g t x d):
 qC 248 #[qS a n s,qS g t x] w (qB w$ .bool$ decide$ xs=d):=by
 obtain⟨I,O,U,hc,_⟩:=h;obtain⟨N,P,V,M,_⟩:=E;unfold maxLen at O P;by_cases Q:n=t
 .subst Q;have B:((n:Int) !=(n:Int))=false:=Jb
  by_cases j:n=0
  .subst j;obtain rfl:xs=[]:=xE I;obtain rfl:d=[]:=xE N
   delta qC;go_in
   go_wp2;go_loop [5] (λi=>i=qI 0) (λ_=>0)
   .rfl
   .obtain rfl:=hrel;go_wp2;go_ret;exact⟨rfl,brf⟩
  .obtain⟨b,A,rfl,hd⟩:=hc j;obtain⟨K,S,rfl,D⟩:=M j
   delta qC;go_in
   go_wp2;go_loopw [5] (λi wr=>∃k:Nat,k<=n/\i=qI k/\xs.take k=d.take k/\qY w wr) (qf n)
   .exact⟨0,xC _,rfl,Jb,brf⟩
   .obtain⟨k,H,rfl,u,p⟩:=hrel;by_cases f:k<n
    .have C:(k:Int)<(n:Int):=J
     have y:qN wr b (A+k)=qj (xs.getD k 0):=(p.cell$ xD w _$ hd k f).trans$ hd k f;have:qN wr K (S+k)=qj (d.getD k 0):=(p.cell$ xD w _$ D k f).trans$ D k f;by_cases q:xs.getD k 0=d.getD k 0
     .have hS:=jX xs d k u J J q;have F:Zh (xs.take (k+1)=d.take (k+1)):=hS;rw[q]at y;generalize d.getD k 0=z at *;have R:(z !=z)=false:=Jb
      go_wp2
      go_quiet (fail)
      go_wp2
      go_roundw
      .exact⟨k+1,J,by go_num,F,below_drewN p _⟩
      .simp[qf,intOf];omega
     .have l:Zh (decide (xs=d)=false):=by
       show _=_;simp;intro e;exact q (by rw[e])
      have R:(xs.getD k 0 !=d.getD k 0)=true:=by simpa using q
      generalize d.getD k 0=z at *;generalize xs.getD k 0=G at *;go_wp2
      go_quiet (fail)
      go_wp2;go_ret;exact⟨aA l.symm,below_drewN p _⟩
    .have l:Zh (decide (xs=d)=true):=by
      show _=_;simp;rw[xG J,xG J]at u;exact u
     go_wp2;go_ret;exact⟨aA l.symm,p⟩
 .have l:Zh (decide (xs=d)=false):=by
   show _=_;simp;intro e;rw[e]at I;omega
  have B:((n:Int) !=(t:Int))=true:=Jc
  delta qC;go_in
  go_wp2;go_ret;exact⟨aA l.symm,brf⟩
def pQ (a g n s t x xs d w)(h:IS w a n s xs)(E:IS w g t x d):
 qC 307 #[qS a n s,qS g t x] w (qB w$ .bool$ decide$ xs=d):=by
 obtain⟨I,O,U,hc,_⟩:=h;obtain⟨N,P,V,M,_⟩:=E;unfold maxLen at O P;by_cases Q:n=t
 .subst Q;have B:((n:Int) !=(n:Int))=false:=Jb
  by_cases j:n=0
  .subst j;obtain rfl:xs=[]:=xE I;obtain rfl:d=[]:=xE N
   delta qC;go_in
   go_wp2;go_loop [13] (λi=>i=qI 0) (λ_=>0)
   .rfl
   .obtain rfl:=hrel;go_wp2;go_ret;exact⟨rfl,brf⟩
  .obtain⟨b,A,rfl,hd⟩:=hc j;obtain⟨K,S,rfl,D⟩:=M j
   delta qC;go_in
   go_wp2;go_loopw [13] (λi wr=>∃k:Nat,k<=n/\i=qI k/\xs.take k=d.take k/\qY w wr) (qf n)
   .exact⟨0,xC _,rfl,Jb,brf⟩
   .obtain⟨k,H,rfl,u,p⟩:=hrel;by_cases f:k<n
    .have C:(k:Int)<(n:Int):=J
     have y:qN wr b (A+k)=qj (xs.getD k 0):=(p.cell$ xD w _$ hd k f).trans$ hd k f;have:qN wr K (S+k)=qj (d.getD k 0):=(p.cell$ xD w _$ D k f).trans$ D k f;by_cases q:xs.getD k 0=d.getD k 0
     .have hS:=jX xs d k u J J q;have F:Zh (xs.take (k+1)=d.take (k+1)):=hS;rw[q]at y;generalize d.getD k 0=z at *;have R:(z !=z)=false:=Jb
      go_wp2
      go_quiet (fail)
      go_wp2
      go_roundw
      .exact⟨k+1,J,by go_num,F,below_drewN p _⟩
      .simp[qf,intOf];omega
     .have l:Zh (decide (xs=d)=false):=by
       show _=_;simp;intro e;exact q (by rw[e])
      have R:(xs.getD k 0 !=d.getD k 0)=true:=by simpa using q
      generalize d.getD k 0=z at *;generalize xs.getD k 0=G at *;go_wp2
      go_quiet (fail)
      go_wp2;go_ret;exact⟨aA l.symm,below_drewN p _⟩
    .have l:Zh (decide (xs=d)=true):=by
      show _=_;simp;rw[xG J,xG J]at u;exact u
     go_wp2;go_ret;exact⟨aA l.symm,p⟩
 .have l:Zh (decide (xs=d)=false):=by
   show _=_;simp;intro e;rw[e]at I;omega
  have B:((n:Int) !=(t:Int))=true:=Jc
  delta qC;go_in
  go_wp2;go_ret;exact⟨aA l.symm,brf⟩
def cW (L:Lay):Int:=if L.slots=[] then wrap64 (65536+L.ram) else L.slots.getD 0 0
def wY (L a g xs a2 c2 d i j w)(h:LyT w L a g xs a2 c2 d i j):
 qC 122 #[.agg$ qL L a xs.length g a2 L.slots.length c2 d j.length i] w (qB w$ qI$ cW L):=by
 have f:Zh (qY w$ w.alloc$ .cells (qL L a xs.length g a2 L.slots.length c2 d j.length i) 65):=brf.alloc aO _;have hs:=h.s.bw f;unfold cW;by_cases c:L.slots=[]
 .rw[if_pos c];have e:L.slots.length=0:=by rw[c];rfl
  rw[e];rw[e]at f
  delta qC;go_in
  go_wp2;go_ret;exact⟨rfl,f⟩
 .rw[if_neg c];have e:0<L.slots.length:=List.length_pos_iff.2 c;obtain⟨b,k,rfl,hc⟩:=hs.2.2.2.1 J;have q:=hc 0 e;rw[Nat.add_zero]at q;generalize L.slots.length=n at *;generalize L.slots.getD 0 0=z at *
  delta qC;go_in
  go_wp2;go_ret;exact⟨rfl,f⟩
def cfQ (L:Lay):Int:=wrap64$ (wrap64$ wrap64 (65536+L.ram)-L.slots.getD 0 0).tdiv (L.slots.length:Int)
def cfW (L:Lay):Int:=if L.slots=[] then 1 else wrap64 ((cfQ L).tdiv 4)
def cfK (L:Lay):Int:=wrap64$ cW L-L.stack
def aEj (L a g xs a2 c2 d i x w)(h:LyT w L a g xs a2 c2 d i x):
 qC 294 #[.agg$ qL L a xs.length g a2 L.slots.length c2 d x.length i] w (qB w$ .agg$ qW L.slots.length (cfW L) (cfK L) 0):=by
 have:=h.s.2.1;by_cases c:L.slots=[]
 .have y:L.slots.length=0:=by rw[c];rfl
  have l:=zh (show cfW L=1 by unfold cfW;rw[if_pos c]);have p:=zh (show cfK L=wrap64 (wrap64 (65536+L.ram)-L.stack)by unfold cfK cW;rw[if_pos c]);rw[l.o,p.o,y]
  delta qC;go_in
  go_wp2;refine bodyPost_ret (v:=.agg #[qI 0,qI 1,qI$ wrap64$ wrap64 (65536+L.ram)-L.stack,qI 0]) (by simp[results,Tryz.results294,go_sem]) rfl ⟨rfl,?_⟩;exact(brf.alloc aO _).alloc Jb _
 .have y:0<L.slots.length:=List.length_pos_iff.2 c;have l:=zh (show cfW L=wrap64 ((cfQ L).tdiv 4)by unfold cfW;rw[if_neg c]);have p:=zh (show cfK L=wrap64 (L.slots.getD 0 0-L.stack)by unfold cfK cW;rw[if_neg c]);rw[l.o,p.o];have F:Zh (cfQ L=wrap64 ((wrap64$ wrap64 (65536+L.ram)-L.slots.getD 0 0).tdiv (L.slots.length:Int))):=rfl;clear l p;obtain⟨b,s,rfl,hc⟩:=h.s.2.2.2.1 J;have q:=hc 0 y;have:=xD _ _ q;rw[Nat.add_zero]at q;generalize L.slots.length=n at *;generalize L.slots.getD 0 0=z at *;generalize cfQ L=Q at *;clear hc c h;have B:qY w ((w.alloc$ .cells (qL L a xs.length g (qe b s) n c2 d x.length i) 65).alloc$ .cells (qW 0 0 0 0) 37):=(brf.alloc aO _).alloc Jb _;have u:=(Blk.new w (qL L a xs.length g (qe b s) n c2 d x.length i) 65).alloc$ .cells (qW 0 0 0 0) 37;have v:=Blk.new (w.alloc$ .cells (qL L a xs.length g (qe b s) n c2 d x.length i) 65) (qW 0 0 0 0) 37;simp only[xF]at v;have A:=zh λ(nq:Nat)=>xA (below_drewN B nq)$ xA (u.bw$ below_drewN brf nq)$ v.bw$ below_drewN brf nq;clear B u v
  delta qC;go_in
  go_wp2
  go_quiet (fail)
  rw[<-F.o];go_wp2;let⟨C,u,v⟩:=A nq;clear A;generalize (((w.alloc$ .cells (qL L a xs.length g (qe b s) n c2 d x.length i) 65).alloc$ .cells (qW 0 0 0 0) 37).drewN nq)=W at *;have:=aB C q;have:=u.e1;have:=u.e2;have:=v.z4;have:=v.frozen;have:b≠w.heap.size+1:=J
  have:w.heap.size+1≠b:=J
  have f:=zh$ xA C v;clear u v C
  go_region_held3 (λE=>qn E w 1=qj L.stack/\qn E w 2=qk (qe b s) n c2/\qN E b s=qj z) (go_keep) (fail)
  simp only[xP];have D:=(((f.2.set 0$ qI n).set 1$ qI$ wrap64$ Q.tdiv 4).set 2$ qI$ wrap64$ z-L.stack).set 3$ qI 0;have T:Turn (λj=>j=w.heap.size+1) W ((((W.setCell (qr w 0)$ qI n).setCell (qr w 1)$ qI$ wrap64$ Q.tdiv 4).setCell (qr w 2)$ qI$ wrap64$ z-L.stack).setCell (qr w 3)$ qI 0):=(((aC _ _ _ _).trans$ aC _ _ _ _).trans$ aC _ _ _ _).trans$ aC _ _ _ _;have t:=zh$ aG f.1 T (λk e=>J) f.1.size;simp only[yA,yB,yC]at D;generalize ((((W.setCell (qr w 0)$ qI n).setCell (qr w 1)$ qI$ wrap64$ Q.tdiv 4).setCell (qr w 2)$ qI$ wrap64$ z-L.stack).setCell (qr w 3)$ qI 0)=G at *;let⟨s0,s1,s2,s3⟩:=D.z4;clear T D f;go_wp2;exact bodyPost_ret (v:=.agg$ qW n (wrap64$ Q.tdiv 4) (wrap64$ z-L.stack) 0) (by simp[results,Tryz.results294,go_sem,s0,s1,s2,s3]) rfl ⟨rfl,t.o.drew⟩
def Lok (ps:List PMod)(L:Lay):Prop:=lkc ps (L.slots.length:Int) (cfW L) (cfK L) 0=0/\lkL ps (L.slots.length:Int) (cfW L) (cfK L) 0=L
def plE (a b:Pl):Decidable (a=b):=decidable_of_iff (a.text=b.text/\a.banks=b.banks/\a.data=b.data/\a.size=b.size) (by cases a;cases b;simp)
def aWj (a b:Lay):Decidable (a=b):=
 have:DecidableEq Pl:=plE
 decidable_of_iff (a.places=b.places/\a.stack=b.stack/\a.slots=b.slots/\a.flash=b.flash/\a.ram=b.ram/\a.targets=b.targets) (by cases a;cases b;simp)
def aUm (ps:List PMod)(L:Lay):Decidable (Lok ps L):=@instDecidableAnd _ _ _$ aWj _ _
def aC0 (a G n P u Q xs d w)(h:TgS w a n P xs)(C:TgS w G u Q d):
 qC 311 #[qS a n P,qS G u Q] w (qB w$ .bool$ decide$ xs=d):=by
 have K:=h.1;have:=C.1;have A:=h.2.1;have p:=C.2.1;unfold maxLen at A p;by_cases U:n=u
 .subst U;have D:((n:Int) !=(n:Int))=false:=Jb
  delta qC;go_in
  go_wp2;go_loopw [13] (λi wr=>∃k:Nat,k<=n/\i=qI k/\xs.take k=d.take k/\qY w wr) (qf n)
  .exact⟨0,xC _,rfl,Jb,brf⟩
  .obtain⟨k,N,rfl,B,f⟩:=hrel;by_cases q:k<n
   .have E:(k:Int)<(n:Int):=J
    obtain⟨b,Z,rfl,V,W,X⟩:=(h.bw f).at k q;obtain⟨Y,a0,rfl,p0,p1,p2⟩:=(C.bw f).at k q;by_cases y:xs.getD k zT=d.getD k zT
    .have I:Zh (xs.take (k+1)=d.take (k+1)):=dW zT xs d k B J J y;rw[y]at V W X;generalize d.getD k zT=z at *;obtain⟨g,x,z2⟩:=z;go_wp2
     go_quiet (fail)
     go_wp2
     go_roundw
     .exact⟨k+1,J,by go_num,I,below_drewN f _⟩
     .simp[qf,intOf];omega
    .have j:Zh (decide (xs=d)=false):=by
      show _=_;simp;intro e;exact y (by rw[e])
     generalize d.getD k zT=z at *;generalize xs.getD k zT=H at *;obtain⟨g,x,z2⟩:=z;obtain⟨s,R,S⟩:=H;have l:¬(s=g/\R=x/\S=z2):=λe=>y (by rw[e.1,e.2.1,e.2.2]);by_cases t:s=g
     .by_cases F:R=x
      .have O:¬S=z2:=λe=>l ⟨t,F,e⟩;subst t F;go_wp2
       go_quiet (fail)
       go_wp2;go_ret;exact⟨aA j.symm,below_drewN f _⟩
      .subst t;go_wp2
       go_quiet (fail)
       go_wp2;go_ret;exact⟨aA j.symm,below_drewN f _⟩
     .have M:(s==g)=false:=by simpa using t
      go_wp2
      go_quiet (fail)
      go_wp2;go_ret;exact⟨aA j.symm,below_drewN f _⟩
   .have j:Zh (decide (xs=d)=true):=by
     show _=_;simp;rw[xG J,xG J]at B;exact B
    go_wp2;go_ret;exact⟨aA j.symm,f⟩
 .have j:Zh (decide (xs=d)=false):=by
   show _=_;simp;intro e;rw[e]at K;omega
  have D:((n:Int) !=(u:Int))=true:=Jc
  delta qC;go_in
  go_wp2;go_ret;exact⟨aA j.symm,brf⟩
end Go.Proofs.YtdjdcdnjjmjonaaGreat
namespace Go.Proofs.YtdjdcdnjjmjonaaGreat
open Go.RowKit Classical
set_option maxRecDepth 100000
variable {L:Lay}{S:Nat->Prop}{a a0 a2 a5:qO}{base c c0 c2 c5 cap g n n1 n2 n3:Nat}{cs:Array Value}{m m':Md}{ms ms':List Md}{p s:Int}{ts:List TB}{v1 v2 v3:Value}{xs:List PB}
def aAm (t d z a n c bs i k p E F c' x w)(h:IS w a n c bs)(B:IS w E F c' x):
 qC 309 #[.agg #[qI t,qS a n c,qI d,qI z],.agg #[qI i,qS E F c',qI k,qI p]] w λe w'=>e=.returned (.bool$ decide$ (⟨t,bs,d,z⟩:Pl)=⟨i,x,k,p⟩)/\qY w w':=by
 have u:qY w ((w.alloc$ .cells #[qI t,qS a n c,qI d,qI z] 170).alloc$ .cells #[qI i,qS E F c',qI k,qI p] 170):=bal.alloc Jb _;have f:=zh u;have b:=zh$ pQ a E n c F c' bs x _ (h.bw u)$ B.bw u;let⟨r,G⟩:=aN$ decide$ (⟨t,bs,d,z⟩:Pl)=⟨i,x,k,p⟩;rw[<-G];have j:=zh G;clear G;by_cases g:t=i
 .by_cases c2:d=k
  .by_cases s:z=p
   .have q:(t==i)=true:=by simpa using g
    have A:(d==k)=true:=by simpa using c2
    have C:(z==p)=true:=by simpa using s
    have l:=zh (show decide (bs=x)=r by rw[j.o];simp[g,c2,s]);rw[l.o]at b;clear g c2 s j
    delta qC;go_in
    go_wp2_with fail
    apply b.mono;rintro e D ⟨rfl,y⟩;cases r
    all_goals
     go_wp2;go_ret;exact⟨rfl,yT f y⟩
   .have q:(t==i)=true:=by simpa using g
    have A:(d==k)=true:=by simpa using c2
    have C:(z==p)=false:=by simpa using s
    have l:=zh (show r=false by rw[j.o];simp[s]);clear g c2 s j b
    delta qC;go_in
    go_wp2;go_ret;exact⟨aA l.symm,f⟩
  .have q:(t==i)=true:=by simpa using g
   have A:(d==k)=false:=by simpa using c2
   have l:=zh (show r=false by rw[j.o];simp[c2]);clear g c2 j b
   delta qC;go_in
   go_wp2;go_ret;exact⟨aA l.symm,f⟩
 .have q:(t==i)=false:=by simpa using g
  have l:=zh (show r=false by rw[j.o];simp[g]);clear g j b
  delta qC;go_in
  go_wp2;go_ret;exact⟨aA l.symm,f⟩
def bR {α d:Type}(f:α->d)(xs:List α)(i a b)(h:i<xs.length:=by omega):(xs.map f).getD i b=f (xs.getD i a):=by
 simp[xB,h]
def yX (a a' n a0 H a1 xs d w)(h:PlS w a n a0 xs)(I:PlS w a' H a1 d):
 qC 308 #[qS a n a0,qS a' H a1,.func (.func 309) #[] #[]] w λe w'=>e=.returned (.bool$ decide$ xs.map (λx=>x.1)=d.map (λx=>x.1))/\qY w w':=by
 have hl:=h.1;have W:=I.1;have K:=h.2.1;have F:=I.2.1;unfold maxLen at K F;let⟨r,hr⟩:=aN$ decide$ xs.map (λx=>x.1)=d.map (λx=>x.1);rw[<-hr];have M:=zh hr;clear hr;by_cases hn:n=H
 .subst hn;have R:((n:Int) !=(n:Int))=false:=Jb
  delta qC;go_in
  go_wp2;go_loopw [17] (λi wr=>∃k:Nat,k<=n/\i=qI k/\(xs.map λx=>x.1).take k=(d.map λx=>x.1).take k/\qY w wr) (qf n)
  .exact⟨0,xC _,rfl,Jb,brf⟩
  .obtain⟨k,Z,rfl,E,C⟩:=hrel;by_cases u:k<n
   .have U:(k:Int)<(n:Int):=J
    obtain⟨b,a2,rfl,s,S,q2,q3⟩:=(h.bw C).at k u;obtain⟨b',a3,rfl,g,p,p2,p3⟩:=(I.bw C).at k u;have N:=(h.bw C).2.2.2.1 k u;have O:=(I.bw C).2.2.2.1 k u;have A:Zh ((xs.getD k zPB).1=(d.getD k zPB).1->(xs.map λx=>x.1).take (k+1)=(d.map λx=>x.1).take (k+1)):=λq=>dW zPB.1 _ _ k E Jc Jc (by rw[bR _ _ _ zPB _,bR _ _ _ zPB _,q])
    have B:=zh (show(xs.getD k zPB).1≠(d.getD k zPB).1->r=false from λq=>by
     rw[M.o,decide_eq_false_iff_not];intro e;have e2:=congrArg (λl=>l.getD k zPB.1) e;try simp only at e2
     rw[bR _ _ _ zPB _,bR _ _ _ zPB _]at e2
     exact q e2)
    clear E;unfold svP at S p;generalize xs.getD k zPB=x at *;generalize d.getD k zPB=y at *;obtain⟨⟨xt,xb,xd,xz⟩,xa,xc⟩:=x;obtain⟨⟨yt,yb,yd,yz⟩,ya,yc⟩:=y;dsimp only at s S q2 q3 g p p2 p3 N O A B;have Y:=xD _ _ s;have V:=xD _ _ g;have t:qY wr ((wr.alloc$ .cells #[qI xt,qS xa xb.length xc,qI xd,qI xz] 170).alloc$ .cells #[qI yt,qS ya yb.length yc,qI yd,qI yz] 170):=bal.alloc Jb _;have f:=zh$ aAm xt xd xz xa xb.length xc xb yt yd yz ya yb.length yc yb _ (N.bw t)$ O.bw t;have G:=zh$ yT C t;clear N O t C;by_cases q:(⟨xt,xb,xd,xz⟩:Pl)=⟨yt,yb,yd,yz⟩
    .rw[xR q]at f;have P:=zh$ A q;clear q A B;go_wp2_with fail
     apply f.mono;rintro e X ⟨rfl,j⟩;have D:=zh$ yT G j;clear s S q2 q3 g p p2 p3 j f;go_wp2
     go_roundw
     .exact⟨k+1,J,by go_num,P,D⟩
     .simp[qf,intOf];omega
    .rw[xS q]at f;have P:=zh$ B q;clear q A B;go_wp2_with fail
     apply f.mono;rintro e X ⟨rfl,j⟩;have D:=zh$ yT G j;clear s S q2 q3 g p p2 p3 j f;go_wp2;go_ret;exact⟨aA P.symm,D⟩
   .have Q:Zh (r=true):=by
     show _=_;rw[M.o];simp;rw[xG Jc,xG Jc]at E;exact E
    clear E;go_wp2;go_ret;exact⟨aA Q.symm,C⟩
 .have Q:Zh (r=false):=by
   show _=_;rw[M.o,decide_eq_false_iff_not];intro e;have:=congrArg List.length e;simp at this;omega
  have R:((n:Int) !=(H:Int))=true:=Jc
  delta qC;go_in
  go_wp2;go_ret;exact⟨aA Q.symm,brf⟩
def yW (a Z n a0 G a1 xs d w)(h:TsS w a n a0 xs)(H:TsS w Z G a1 d):
 qC 310 #[qS a n a0,qS Z G a1,.func (.func 311) #[] #[]] w λe w'=>e=.returned (.bool$ decide$ xs.map (λx=>x.1)=d.map (λx=>x.1))/\qY w w':=by
 have X:=h.1;have U:=H.1;have I:=h.2.1;have E:=H.2.1;unfold maxLen at I E;let⟨r,s⟩:=aN$ decide$ xs.map (λx=>x.1)=d.map (λx=>x.1);rw[<-s];have K:=zh s;clear s;by_cases hn:n=G
 .subst hn;have Q:((n:Int) !=(n:Int))=false:=Jb
  delta qC;go_in
  go_wp2;go_loopw [17] (λi wr=>∃k:Nat,k<=n/\i=qI k/\(xs.map λx=>x.1).take k=(d.map λx=>x.1).take k/\qY w wr) (qf n)
  .exact⟨0,xC _,rfl,Jb,brf⟩
  .obtain⟨k,W,rfl,D,B⟩:=hrel;by_cases t:k<n
   .have R:(k:Int)<(n:Int):=J
    obtain⟨b,a2,rfl,p⟩:=(h.bw B).at k t;obtain⟨b',a3,rfl,g⟩:=(H.bw B).at k t;have M:=(h.bw B).2.2.2.1 k t;have N:=(H.bw B).2.2.2.1 k t;have u:Zh ((xs.getD k zTB).1=(d.getD k zTB).1->(xs.map λx=>x.1).take (k+1)=(d.map λx=>x.1).take (k+1)):=λq=>dW zTB.1 _ _ k D Jc Jc (by rw[bR _ _ _ zTB _,bR _ _ _ zTB _,q])
    have A:=zh (show(xs.getD k zTB).1≠(d.getD k zTB).1->r=false from λq=>by
     rw[K.o,decide_eq_false_iff_not];intro e;have e2:=congrArg (λl=>l.getD k zTB.1) e;try simp only at e2
     rw[bR _ _ _ zTB _,bR _ _ _ zTB _]at e2
     exact q e2)
    clear D;unfold svT at p g;generalize xs.getD k zTB=x at *;generalize d.getD k zTB=y at *;obtain⟨S,xa,xc⟩:=x;obtain⟨Y,ya,yc⟩:=y;dsimp only at p g M N u A;have f:=zh$ aC0 xa ya S.length xc Y.length yc S Y _ M N;have F:=zh B;clear M N B;by_cases q:S=Y
    .rw[xR q]at f;have O:=zh$ u q;clear q u A;go_wp2_with fail
     apply f.mono;rintro e V ⟨rfl,j⟩;have C:=zh$ yT F j;clear p g j f;go_wp2
     go_roundw
     .exact⟨k+1,J,by go_num,O,C⟩
     .simp[qf,intOf];omega
    .rw[xS q]at f;have O:=zh$ A q;clear q u A;go_wp2_with fail
     apply f.mono;rintro e V ⟨rfl,j⟩;have C:=zh$ yT F j;clear p g j f;go_wp2;go_ret;exact⟨aA O.symm,C⟩
   .have P:Zh (r=true):=by
     show _=_;rw[K.o];simp;rw[xG Jc,xG Jc]at D;exact D
    clear D;go_wp2;go_ret;exact⟨aA P.symm,B⟩
 .have P:Zh (r=false):=by
   show _=_;rw[K.o,decide_eq_false_iff_not];intro e;have:=congrArg List.length e;simp at this;omega
  have Q:((n:Int) !=(G:Int))=true:=Jc
  delta qC;go_in
  go_wp2;go_ret;exact⟨aA P.symm,brf⟩
def Blk.ly6 {w:qw}{b:Nat}{t:TypeId}{v0 v4 v5:Value}(h:Blk w b #[v0,v1,v2,v3,v4,v5] t):w.cell? (qR b 0)=some v0/\w.cell? (qR b 1)=some v1/\w.cell? (qR b 2)=some v2/\w.cell? (qR b 3)=some v3/\w.cell? (qR b 4)=some v4/\w.cell? (qR b 5)=some v5:=⟨h.cell 0,h.cell 1,h.cell 2,h.cell 3,h.cell 4,h.cell 5⟩
def vQ (L a0 c0 xs a2 c2 a5 c5 s a a1 a6 S a3 a7 a4 a8 x w)(h:LyT w L a0 c0 xs a2 c2 a5 c5 s)(G:LyT w a a1 a6 S a3 a7 a4 a8 x):
 qC 295 #[.agg$ qJ L a0 xs c0 a2 c2 a5 s c5,.agg$ qL a a1 S.length a6 a3 a.slots.length a7 a4 x.length a8] w (qB w$ .bool$ decide$ L=a):=by
 have I:=h.ps;have F:=G.ps;have Q:=h.tt;have C:=G.tt;have y:=zb w λW E=>pQ a2 a3 L.slots.length c2 a.slots.length a7 L.slots a.slots W (h.s.bw E)$ G.s.bw E;have j:=zb w λW E=>yX a0 a1 xs.length c0 S.length a6 xs S W (h.p.bw E)$ G.p.bw E;have q:=zb w λW E=>yW a5 a4 s.length c5 x.length a8 s x W (h.t.bw E)$ G.t.bw E;rw[I,F]at j;rw[Q,C]at q;clear h G I F Q C;obtain⟨pl,st,sl,d,i,tg⟩:=L;obtain⟨aa,p,a9,g,k,ab⟩:=a;let⟨r,hr⟩:=aN$ decide$ (⟨pl,st,sl,d,i,tg⟩:Lay)=⟨aa,p,a9,g,k,ab⟩;rw[<-hr];have t:=zh hr;clear hr;have B0:qY w ((w.alloc$ .cells #[qS a0 xs.length c0,qI st,qS a2 sl.length c2,qI d,qI i,qS a5 s.length c5] 65).alloc$ .cells #[qS a1 S.length a6,qI p,qS a3 a9.length a7,qI g,qI k,qS a4 x.length a8] 65):=bal.alloc Jb _;have u:=(Blk.new w #[qS a0 xs.length c0,qI st,qS a2 sl.length c2,qI d,qI i,qS a5 s.length c5] 65).alloc$ .cells #[qS a1 S.length a6,qI p,qS a3 a9.length a7,qI g,qI k,qS a4 x.length a8] 65;have v:=Blk.new (w.alloc$ .cells #[qS a0 xs.length c0,qI st,qS a2 sl.length c2,qI d,qI i,qS a5 s.length c5] 65) #[qS a1 S.length a6,qI p,qS a3 a9.length a7,qI g,qI k,qS a4 x.length a8] 65;simp only[xF]at v;have D:=zh$ xA B0$ xA u v;clear u v;by_cases O:st=p
 rotate_left
 .have g1:(st==p)=false:=by simpa using O
  have f:=zh (show r=false by rw[t.o];simp[O]);clear t y j q
  delta qC;go_in
  go_wp2;go_ret;exact⟨aA f.symm,D.1⟩
 have g1:(st==p)=true:=by simpa using O
 have ac:=zh O;clear O;by_cases N:d=g
 rotate_left
 .have g2:(d==g)=false:=by simpa using N
  have f:=zh (show r=false by rw[t.o];simp[N]);clear t y j q
  delta qC;go_in
  go_wp2;go_ret;exact⟨aA f.symm,D.1⟩
 have g2:(d==g)=true:=by simpa using N
 have R:=zh N;clear N;by_cases K:i=k
 rotate_left
 .have g3:(i==k)=false:=by simpa using K
  have f:=zh (show r=false by rw[t.o];simp[K]);clear t y j q
  delta qC;go_in
  go_wp2;go_ret;exact⟨aA f.symm,D.1⟩
 have g3:(i==k)=true:=by simpa using K
 have Z:=zh K;clear K
 delta qC;go_in
 go_wp2_with fail
 apply(y _ D.1).mono;rintro e w1 ⟨rfl,B⟩;have b:=zh$ xA (yT D.1 B)$ xA (D.2.1.bw B)$ D.2.2.bw B;clear B D B0;by_cases M:sl=a9
 rotate_left
 .rw[xS M];have f:=zh (show r=false by rw[t.o];simp[M]);go_wp2;go_ret;exact⟨aA f.symm,b.1⟩
 rw[xR M];have U:=zh M;clear M;have X:=(b.2.1).ly6;have q0:=(b.2.2).ly6;go_wp2_with fail
 apply(j _ b.1).mono;rintro e w2 ⟨rfl,A⟩;have l:=zh$ xA (yT b.1 A)$ xA (b.2.1.bw A)$ b.2.2.bw A;clear A X q0;by_cases H:pl=aa
 rotate_left
 .rw[xS H];have f:=zh (show r=false by rw[t.o];simp[H]);go_wp2;go_ret;exact⟨aA f.symm,l.1⟩
 rw[xR H];have Y:=zh H;clear H;have X:=(l.2.1).ly6;have q0:=(l.2.2).ly6;go_wp2_with fail
 apply(q _ l.1).mono;rintro e w3 ⟨rfl,P⟩;have V:=zh$ yT l.1 P;have f:=zh (show decide (tg=ab)=r by rw[t.o];simp[ac.o,R.o,Z.o,U.o,Y.o]);rw[f.o];clear P X q0 t;cases r
 all_goals
  go_wp2;go_ret;exact⟨rfl,V⟩
def aN0 (d a):(reb d a).map (λB=>B.2.2.2)=a.map (λB=>B.2.2.2):=by
 apply List.ext_getElem
 .simp[pU]
 .intro i b e;simp[reb]at b⊢
  grind
def aSh {W:qw}(h:fX c m m' W):m'.pm=m.pm:=by
 obtain⟨a,b,d,e,f,g,i,rfl,_⟩:=h;simp only[Md.pm,aN0]
def aFf {W:qw}(h:RowM W c n ms ms')(l:ms'.length=n)(b:ms.length=n):aF ms'=aF ms:=by
 apply List.ext_getElem
 .simp[aF,l,b]
 .intro i f j;simp only[aF,xH]at f j;have e:=aSh (h.2.2 i J).2;simpa[aF,xB,f,j]using e
def aCd {W:qw}(h:fX c m m' W)(b:m.bl.length=m.bn):m'.size=m.size:=by
 obtain⟨a,d,e,f,g,i,j,rfl,_⟩:=h;exact aNz _ _ _ _ _ _ _ _ _ _ _ b
def aNv {W w:qw}(h:RowM W c n ms ms')(f:ms'.length=n)(b:MS w a n cap ms)(hs:∀i,i<n->(ms.getD i aL).size<=1048576):MSD W (qP c) n n ms':=
 ⟨h.ms f b,λi hi=>aOz (aKs (b.2.2.2.1 i hi) (h.2.2 i J).2) (by
  have e:=aCd (h.2.2 i J).2 (b.2.2.2.1 i hi).b.1;have:=hs i hi;unfold Md.size at e this;rw[e]
  exact this)⟩
def Sm (W:qw)(c j:Nat):Prop:=c<j/\j<W.heap.size/\¬∃cs,Blk W j cs 25
def bnF (m:Md)(j:Nat):Rw3:=((m.bl.getD j zB).1,(m.bl.getD j zB).2.1,(m.bl.getD j zB).2.2.1)
def SlB.congr {w:qw}{f f':Nat->Rw3}(h:SlB S w a n f)(e:∀i,i<n->f' i=f i):SlB S w a n f':=
 ⟨λk=>by obtain⟨g,o,b,t,d,hs,j,l⟩:=h.head k;exact⟨g,o,b,t,d,hs,j,λi hi=>by grind⟩,λi hi=>by rw[e i hi];exact h.rows i hi⟩
def vJ {f b:Nat->Rw3}:∀n,(∀i,i<n->b i=f i)->cD b n=cD f n
 | 0,_=>rfl
 | n+1,e=>by show cD b n+(b n).2.1=cD f n+(f n).2.1;rw[vJ n λi hi=>e i J,e n J]
def aBm {W:qw}{j:Nat}{t:TypeId}(f:c<j)(e:Blk W j cs t)(b:t≠25):Sm W c j:=⟨f,e.lt,λ⟨c2,a⟩=>b$ aH e a⟩
def zG {w W:qw}(b:m.mt w)(h:fX c m m' W):Rws (Sm W c) W c m' (bnF m')/\cD (bnF m') m'.bn=upS (λj=>(m.bl.getD j zB).2.1) m.bn:=by
 obtain⟨g1,g2,g3,g5,g6,g7,a,rfl,N,O,P,Q,R,S,C,k,d,p,s,t,x⟩:=h;have:m.bl.length=m.bn:=b.b.1;have s1:Sm W c g1:=aBm J (show Blk W g1 _ _ from k) Ja;have s3:Sm W c g3:=aBm J (show Blk W g3 _ _ from p) Ja;have u:Sm W c g5:=aBm J (show Blk W g5 _ _ from s) Ja;have l:Sm W c g6:=aBm J (show Blk W g6 _ _ from t) Ja;have q:Sm W c g7:=by obtain⟨⟨M,hx,_⟩,_⟩:=x;exact aBm J hx Ja
 have s2:¬Sm W c g2:=λe=>by obtain⟨⟨A,B,_⟩,_⟩:=d;exact e.2.2 ⟨A,B⟩
 have f:∀i,i<m.bn->Sm W c (a.getD i 0):=λi hi=>by
  let⟨D,U⟩:=d.2.1 i J;exact aBm J (show Blk W (a.getD i 0) _ _ from D) Ja
 have e:∀i,i<m.bn->bnF ⟨m.nm,qP g1,m.tn,m.tn,m.tz,qP g2,m.bn,m.bn,reb a m.bl,qP g3,m.dn,m.dn,m.dz,m.bss,qP g5,m.rn,m.rn,m.rz,qP g6,m.im,m.im,m.ss,qP g7,m.en,m.en,m.es⟩ i=aG5 a m.bl i:=λi hi=>by
  unfold bnF;rw[jZ _ _ _];rfl
 let⟨E,F,G,H,I,K⟩:=aUh b C k d p s t x s1 s2 f s3 u l q;refine⟨⟨E,F.congr e,G,H,I,K,λg o y=>?_⟩,?_⟩
 .grind
 .rw[vJ _ e,aBl]
def aFg {W w:qw}(h:RowM W c n ms ms')(f:ms'.length=n)(b:MS w a n cap ms):Mrs (Sm W c) W c n ms' (λi=>bnF$ ms'.getD i aL):=by
 obtain⟨⟨j,d,y⟩,_,g⟩:=h;refine⟨λe=>jK e.1,⟨j,d,λi hi=>?_⟩,λi hi=>(zG (b.2.2.2.1 i hi) (g i J).2).1⟩;let⟨k,l,p,q,s,t,u,x⟩:=(g i J).1;exact⟨⟨_,(d.cell _).symm.trans k⟩,(d.cell _).symm.trans l,(d.cell _).symm.trans p,(d.cell _).symm.trans q,⟨_,(d.cell _).symm.trans s⟩,(d.cell _).symm.trans t,(d.cell _).symm.trans u,(d.cell _).symm.trans x⟩
def aNw {W w:qw}(h:RowM W c n ms ms')(A:ms'.length=n)(l:MS w a n cap ms)(hz:n+upS (λj=>(ms.getD j aL).size) n<=1048576):
 upS (jD ms' λi=>bnF$ ms'.getD i aL) n<=3145728/\(∀i,i<n->(ms'.getD i aL).bn<=1048576)/\(∀i,i<n->jD ms' (λi=>bnF$ ms'.getD i aL) i<=4194304/\(ms'.getD i aL).tn<=1048576/\(ms'.getD i aL).dn<=1048576/\(ms'.getD i aL).rn<=1048576/\(ms'.getD i aL).im<=1048576/\(ms'.getD i aL).en<=1048576/\cD (bnF$ ms'.getD i aL) (ms'.getD i aL).bn<=1048576):=by
 have b:∀i,i<n->jD ms' (λi=>bnF$ ms'.getD i aL) i<=2+3*(ms.getD i aL).size/\(ms'.getD i aL).bn<=(ms.getD i aL).size/\(ms'.getD i aL).tn<=(ms.getD i aL).size/\(ms'.getD i aL).dn<=(ms.getD i aL).size/\(ms'.getD i aL).rn<=(ms.getD i aL).size/\(ms'.getD i aL).im<=(ms.getD i aL).size/\(ms'.getD i aL).en<=(ms.getD i aL).size/\cD (bnF$ ms'.getD i aL) (ms'.getD i aL).bn<=(ms.getD i aL).size:=λi hi=>by
  have hc:=(h.2.2 i J).2;have e1:=(zG (l.2.2.2.1 i hi) hc).2
  have e2:(ms'.getD i aL).tn=(ms.getD i aL).tn/\(ms'.getD i aL).bn=(ms.getD i aL).bn/\(ms'.getD i aL).dn=(ms.getD i aL).dn/\(ms'.getD i aL).rn=(ms.getD i aL).rn/\(ms'.getD i aL).im=(ms.getD i aL).im/\(ms'.getD i aL).en=(ms.getD i aL).en:=by
   obtain⟨s,t,u,x,B,C,D,e,_⟩:=hc
   grind
  obtain⟨d,f,g,f4,k,p⟩:=e2;have e3:(ms.getD i aL).size=(ms.getD i aL).nm.size+(ms.getD i aL).tn+((ms.getD i aL).bn+upS (λj=>((ms.getD i aL).bl.getD j zB).2.1) (ms.getD i aL).bn)+(ms.getD i aL).dn+(ms.getD i aL).rn+((ms.getD i aL).im+upS (λj=>((ms.getD i aL).ss.getD j zS).size) (ms.getD i aL).im)+((ms.getD i aL).en+upS (λj=>((ms.getD i aL).es.getD j zE).1.size) (ms.getD i aL).en):=rfl;unfold jD;rw[e1,d,f,g,f4,k,p,e3];omega
 have:∀i,i<n->(ms.getD i aL).size<=1048576:=λi hi=>jK$ aCm (λj=>(ms.getD j aL).size) n i hi;refine⟨?_,λi hi=>by grind,λi hi=>by grind⟩
 have:∀q,q<=n->upS (jD ms' λi=>bnF$ ms'.getD i aL) q<=2*q+3*upS (λj=>(ms.getD j aL).size) q:=by
  intro q
  induction q with
  | zero=>intro _;simp[upS]
  | succ q ih=>
    intro y;have:=(b q J).1;show upS _ q+jD ms' (λi=>bnF$ ms'.getD i aL) q<=2*(q+1)+3*(upS _ q+(ms.getD q aL).size);omega
 grind
def LayO.kept {W e:qw}(h:LayO W base L a0 c0 xs a2 c2 a5 c5 ts)(t:Turn S W e)(hs:∀j,base<=j->j<W.heap.size->¬S j):LayO e base L a0 c0 xs a2 c2 a5 c5 ts where
 p:=h.p.kept t (λk b=>hs k (h.p.lt.1 k b).1 (h.p.lt.1 k b).2) λx hx k b=>hs k (h.p.lt.2 x hx k b).1 (h.p.lt.2 x hx k b).2
 ps:=h.ps
 s:=h.s.kept t λk b=>hs k (h.s.lt k b).1 (h.s.lt k b).2
 t:=h.t.kept t (λk b=>hs k (h.t.lt.1 k b).1 (h.t.lt.1 k b).2) λx hx k b=>hs k (h.t.lt.2 x hx k b).1 (h.t.lt.2 x hx k b).2
 tt:=h.tt
 sp:=h.sp
def LayO.below' {W b:qw}(h:LayO W base L a0 c0 xs a2 c2 a5 c5 ts)(e:qY W b):LayO b base L a0 c0 xs a2 c2 a5 c5 ts:=h.kept (S:=λ_=>False) (aI e) λ_ _ _ s=>s
def acf (n1 n2 n3:Nat)(p s:Int):Int:=if mok n1 n2 n3=true/\wd s=true then if (p.tmod s !=0)=true then 1 else 0 else 2
def aV0 (a1 a2 a3 n1 c1 n2 c2 n3 c3 p s w)(y:0<=p)(C:p<=4294967295):
 qC 272 #[.agg$ qV a1 n1 c1 a2 n2 c2 a3 n3 c3,qI p,qI s] w (qB w$ qI$ acf n1 n2 n3 p s):=by
 have j:qY w (w.alloc$ .cells (qV a1 n1 c1 a2 n2 c2 a3 n3 c3) 39):=bal;let⟨r,a⟩:=aN$ acf n1 n2 n3 p s;rw[<-a];unfold acf at a;have l:=zh a;have u:=zh λw=>yI a1 a2 a3 n1 c1 n2 c2 n3 c3 w;generalize mok n1 n2 n3=A at *;clear a
 delta qC;go_in
 go_wp2_with fail
 apply(u _).mono;rintro e B ⟨rfl,t⟩;have q:=j.trans$ t.mono Jb;clear t j u;cases A
 .obtain rfl:r=2:=l.o.trans$ if_neg Jb;clear l;go_wp2;go_ret;exact⟨rfl,q⟩
 go_wp2_with fail
 apply(jU _ _).mono;rintro e wx ⟨rfl,rfl⟩;let⟨A,f⟩:=aN$ wd s;have b:=l.o;rw[<-f]at b⊢;clear l;cases A
 .obtain rfl:r=2:=b.trans$ if_neg Jb;clear b f;go_wp2;go_ret;exact⟨rfl,q⟩
 rw[if_pos Jb,xL y]at b;obtain⟨s0,d⟩:1<=s/\s<=4:=by rcases eE f.symm with rfl|rfl|rfl<;>decide
 clear f;let⟨A,f⟩:=aN$ p%s !=0;rw[<-f]at b;replace f:=f.symm;cases A
 .obtain rfl:r=0:=b;go_wp2;go_ret;exact⟨rfl,q⟩
 .obtain rfl:r=1:=b;go_wp2;go_ret;exact⟨rfl,q⟩
def aV1 (m:Nat)(f:wd m=true)(b d n a g w)(h:BS w (some$ qR b d) n a g)(hn:m<=n):
 qC 274 #[qS (some$ qR b d) n a,qI m] w (qB w$ qI$ low$ g.take m):=by
 rcases eE f with e|e|e<;>(obtain rfl:m=_:=Int.ofNat.inj e)
 .exact yN b d n a g w h hn
 .exact aIz b d n a g w h hn
 .exact aI0 b d n a g w h hn
def iRd (a1 a2 a3 n1 c1 n2 c2 n3 c3 x1 x2 p s w)(K:BS w a1 n1 c1 x1)(I:BS w a2 n2 c2 x2)(N:0<=p)(W:p<=4294967295):
 qC 201 #[.agg$ qV a1 n1 c1 a2 n2 c2 a3 n3 c3,qI p,qI s] w (qB w$ .tuple #[qI (rd n1 n2 n3 x1 x2 p s).1,qI (rd n1 n2 n3 x1 x2 p s).2]):=by
 have u:qY w (w.alloc$ .cells (qV a1 n1 c1 a2 n2 c2 a3 n3 c3) 39):=bal;have O:=Blk.new w (qV a1 n1 c1 a2 n2 c2 a3 n3 c3) 39;let⟨r,g⟩:=aN$ rd n1 n2 n3 x1 x2 p s;rw[<-g];have P:=zh λw=>aV0 a1 a2 a3 n1 c1 n2 c2 n3 c3 p s w N W
 have l:Zh (if acf n1 n2 n3 p s=0 then (n1<=16384/\n2<=16384)/\wd s=true/\r=if p=131072 then (0,4) else if ins p s 0 n1=true then (low$ (x1.drop p.toNat).take s.toNat,0)
  else if ins p s 65536 n2=true then (low$ (x2.drop (p-65536).toNat).take s.toNat,0) else (0,2) else r=(0,acf n1 n2 n3 p s)):=by
  show ite _ _ _;rw[g];unfold acf rd;by_cases t:mok n1 n2 n3=true/\wd s=true
  .rw[if_pos t,if_pos t];have:=uE t.1;by_cases d:(p.tmod s !=0)=true
   .rw[if_pos d,if_pos d];simp
   .rw[if_neg d,if_neg d];simp[t.2];omega
  .rw[if_neg t,if_neg t];simp
 generalize acf n1 n2 n3 p s=f at *;clear g
 delta qC;go_in
 go_wp2_with fail
 apply(P _).mono;rintro e Y ⟨rfl,G⟩;have q:=u.trans$ G.mono Jb;have:=(O.bw G).three;clear G O u P;by_cases E:f=0
 .subst E;have j:=l.o;rw[if_pos rfl]at j;obtain⟨⟨Q,R⟩,hs,j⟩:=j;clear l;obtain⟨s0,S⟩:1<=s/\s<=4:=by rcases eE hs with rfl|rfl|rfl<;>decide
  obtain⟨m,rfl⟩:=xV$ show 0<=s from J;have M:=zh hs;have B:=K.bw q;have y:=I.bw q;have:=K.2.2.2.2;have:=I.2.2.2.2;have D:=zh$ xA B y;clear K I B y hs;by_cases C:p=131072
  .subst C;obtain rfl:r=(0,4):=j;go_wp2
   go_ret2
   exact⟨rfl,q⟩
  rw[if_neg C]at j;have:(p==131072)=false:=by simpa using C
  clear C;have l:=zh j;clear j;go_wp2_with fail
  apply(nW a1 n1 c1 p m 0 _).mono;rintro e wx ⟨rfl,rfl⟩;have j:=l.o;clear l;let⟨A,a⟩:=aN$ ins p m 0 n1;rw[<-a]at j⊢;cases A
  .clear a;have l:=zh j;clear j;go_wp2_with fail
   apply(nW a2 n2 c2 p m 65536 _).mono;rintro e wx ⟨rfl,rfl⟩;have j:=l.o;clear l;let⟨A,a⟩:=aN$ ins p m 65536 n2;rw[<-a]at j⊢;cases A
   .obtain rfl:r=(0,2):=j;clear a;go_wp2
    go_ret2
    exact⟨rfl,q⟩
   .have H:=a.symm;simp[ins]at H;let⟨k,x⟩:=xV$ show 0<=p-65536 from J;obtain rfl:r=(low$ (x2.drop k).take m,0):=by rw[x]at j;exact j
    obtain⟨b,i,rfl⟩:=D.2.some J;clear a j;go_wp2_with fail
    apply(aV1 m M b (i+k) (n2-k) (c2-k) _ _ (D.2.drop k J) J).mono;rintro e X ⟨rfl,F⟩;go_wp2
    go_ret2
    exact⟨rfl,yT q F⟩
  .have H:=a.symm;simp[ins]at H;obtain⟨k,rfl⟩:=xV N;obtain rfl:r=(low$ (x1.drop k).take m,0):=j;obtain⟨b,i,rfl⟩:=D.1.some J;clear a;go_wp2_with fail
   apply(aV1 m M b (i+k) (n1-k) (c1-k) _ _ (D.1.drop k J) J).mono;rintro e X ⟨rfl,F⟩;go_wp2
   go_ret2
   exact⟨rfl,yT q F⟩
 .have e:=l.o;rw[if_neg E]at e;subst e;have:(f !=0)=true:=by simpa using E
  clear l E;go_wp2
  go_ret2
  exact⟨rfl,q⟩
def wff (n1 n2 n3:Nat)(p s:Int):Int:=
 if acf n1 n2 n3 p s=0 then
  if p=131072 then (if 5000<=n3 then 4 else 0) else if ins p s 0 n1=true then 3 else if ins p s 65536 n2=true then 0 else 2
 else acf n1 n2 n3 p s
def zV (h:acf n1 n2 n3 p s=0):mok n1 n2 n3=true/\wd s=true/\(p.tmod s !=0)=false:=by
 unfold acf at h
 grind
def aK2 (n1 n2 n3 x1 x2 x3 p s v)(h:wff n1 n2 n3 p s≠0):wrm n1 n2 n3 x1 x2 x3 p s v=(x1,x2,x3,wff n1 n2 n3 p s):=by
 unfold wff acf at *;unfold wrm
 repeat' split
 all_goals simp_all
def aMz (h:wff n1 n2 n3 p s=0):mok n1 n2 n3=true/\wd s=true/\(p.tmod s !=0)=false/\((p=131072/\n3<5000)\/(p≠131072/\ins p s 0 n1=false/\ins p s 65536 n2=true)):=by
 unfold wff at h;split at h
 .next h1=>
  let⟨a,b,c⟩:=zV h1;refine⟨a,b,c,?_⟩
  repeat' split at h
  all_goals simp_all
 .contradiction
def vF (a1 a2 a3 n1 c1 n2 c2 n3 c3 p s w)(I:0<=p)(K:p<=4294967295):
 qC 302 #[.agg$ qV a1 n1 c1 a2 n2 c2 a3 n3 c3,qI p,qI s] w (qB w$ qI$ wff n1 n2 n3 p s):=by
 have q:qY w (w.alloc$ .cells (qV a1 n1 c1 a2 n2 c2 a3 n3 c3) 39):=bal;have E:=Blk.new w (qV a1 n1 c1 a2 n2 c2 a3 n3 c3) 39;let⟨r,d⟩:=aN$ wff n1 n2 n3 p s;rw[<-d];unfold wff at d;have j:=zh d;have F:=zh λw=>aV0 a1 a2 a3 n1 c1 n2 c2 n3 c3 p s w I K;have y:Zh (acf n1 n2 n3 p s=0->(n1<=16384/\n2<=16384/\n3<=5000)/\1<=s/\s<=4):=λh=>⟨uE (zV h).1,by rcases eE (zV h).2.1 with rfl|rfl|rfl<;>decide⟩;generalize acf n1 n2 n3 p s=f at *;clear d
 delta qC;go_in
 go_wp2_with fail
 apply(F _).mono;rintro e O ⟨rfl,C⟩;have t:=q.trans$ C.mono Jb;have N:=(E.bw C).three;clear C E q F;by_cases l:f=0
 .subst l;let⟨⟨g,i,k⟩,s0,x⟩:=y rfl;by_cases B:p=131072
  .subst B
   have H:Zh (∀w,qC 316 #[.agg$ qV a1 n1 c1 a2 n2 c2 a3 n3 c3] w$ qB w$ qI r):=λw=>by
    rw[show r=if 5000<=n3 then 4 else 0 from j.o];clear j y N t;have q:qY w (w.alloc$ .cells (qV a1 n1 c1 a2 n2 c2 a3 n3 c3) 39):=bal;by_cases l:5000<=n3
    all_goals
     have u:=l;first|rw[if_pos l]|rw[if_neg l]
     first|(replace l:(5000:Int)<=n3:=by omega)|(replace l:¬(5000:Int)<=n3:=by omega)
     clear u
     delta qC;go_in
     go_wp2;go_ret;exact⟨rfl,q⟩
   clear j y;go_wp2_with fail
   apply(H _).mono;rintro e P ⟨rfl,M⟩;go_wp2;go_ret;exact⟨rfl,yT t M⟩
  have:(p==131072)=false:=by simpa using B
  have D:Zh (r=if ins p s 0 n1=true then 3 else if ins p s 65536 n2=true then 0 else 2):=j.o.trans (by rw[if_pos rfl,if_neg B]);clear j y B;go_wp2_with fail
  apply(nW a1 n1 c1 p s 0 _).mono;rintro e wx ⟨rfl,rfl⟩;have b:=D;clear D;let⟨A,a⟩:=aN$ ins p s 0 n1;rw[<-a]at b⊢;clear a;cases A
  .have j:=zh b;clear b;go_wp2_with fail
   apply(nW a2 n2 c2 p s 65536 _).mono;rintro e wx ⟨rfl,rfl⟩;have b:=j;clear j;let⟨A,a⟩:=aN$ ins p s 65536 n2;rw[<-a]at b⊢;clear a;cases A
   .obtain rfl:r=2:=b;go_wp2;go_ret;exact⟨rfl,t⟩
   .obtain rfl:r=0:=b;go_wp2;go_ret;exact⟨rfl,t⟩
  .obtain rfl:r=3:=b;go_wp2;go_ret;exact⟨rfl,t⟩
 .have e:=j;rw[if_neg l]at e;subst e;have u:(r !=0)=true:=by simpa using l
  clear j l y;go_wp2;go_ret;exact⟨rfl,t⟩
def aFv {w:qw}{b:qi}(h:OB w base (qS a n cap) b)(hn:n≠0:=by omega):∃g,a=some (qR g 0):=by
 obtain⟨i,⟨f,_⟩|⟨g,d,e,j,_⟩⟩:=h.1
 .grind
 .grind
def mT {w:qw}{m:Nat}{e:qi}(h:OB w base (qS (qP g) n cap) e)(b:m<=n:=by omega):Room w g m:=by
 let⟨a,d,f⟩:=nS h;exact⟨a,d,J⟩
def aUx (w:qw)(g o:Nat)(cs:Array Value)(t:TypeId)(base:Nat)(v1 v2 v3:Value)(r:List Int×List Int×List Int×Int)(e:Ending)(w':qw):Prop:=
 ∃a3 m3 d3,e=.returned (qI r.2.2.2)/\Blk w' g (cs.setIfInBounds (o+2)$ qS a3 m3 d3) t/\cB w' base v1 v2 (qS a3 m3 d3) r.1 r.2.1 r.2.2.1/\(qS a3 m3 d3).ownBlock≠some g/\Turn (λj=>j=g\/v2.ownBlock=some j\/v3.ownBlock=some j) w w'
def aE8 {i:Nat}{v:Value}(h:cs[i]?=some v):cs.setIfInBounds i v=cs:=by grind
def aRb {W W':qw}{o:Nat}{t:TypeId}{v':Value}{x1 x2 x3:qi}{z:Int}(l:Blk W g cs t)(R:t≠5)(q:cB W base v1 v2 v3 x1 x2 x3)
 (far:∀v,v=v1\/v=v2\/v=v3->v.ownBlock≠some g) (hz:0<=z/\z<=255)
 (bs) (D:base<=bs) (N:∀k,v1.ownBlock=some k->k<bs) (K:∀k,v2.ownBlock=some k->k<bs)
 (H:W'.ownsRow bs 5 1 v' (x3.length+1) (x3.map (Value.int .u8)++[Value.int .u8 z])) (b:(W.alloc$ .cells #[.int .u8 z] 5).grownBy W' v3.ownBlock):
 Blk (W'.setCell (qR g$ o+2) v') g (cs.setIfInBounds (o+2) v') t/\cB (W'.setCell (qR g$ o+2) v') base v1 v2 v' x1 x2 (x3++[z])/\v'.ownBlock≠some g/\Turn (λj=>j=g\/v2.ownBlock=some j\/v3.ownBlock=some j) W (W'.setCell (qR g$ o+2) v'):=by
 have P:v1.ownBlock=none\/v1.ownBlock≠v3.ownBlock:=by
  cases e:v1.ownBlock with
  | none=>exact Or.inl rfl
  | some k=>right;intro B;exact Nat.lt_irrefl _$ q.2.2.2.2.1 k k e B.symm
 have M:v2.ownBlock=none\/v2.ownBlock≠v3.ownBlock:=by
  cases e:v2.ownBlock with
  | none=>exact Or.inl rfl
  | some k=>right;intro B;exact Nat.lt_irrefl _$ q.2.2.2.2.2 k k e B.symm
 have E:=bG b (l.alloc$ .cells #[.int .u8 z] 5) λe=>far v3 (Or.inr$ Or.inr rfl) e.symm
 have f:v'.ownBlock≠some g:=by
  intro e;obtain⟨_,⟨rfl,_⟩|⟨s,i,p,rfl,w,a,_⟩⟩:=H
  .grind
  .simp[Value.ownBlock]at e;subst e;rw[E]at a
   grind
 have O:=rG b (fN q$ .cells #[.int .u8 z] 5).1 P;have G:=rG b (fN q$ .cells #[.int .u8 z] 5).2.1 M
 have C:OB W' bs v' (x3++[z]):=⟨by grind,λy A=>by
  rcases List.mem_append.1 A with A|A
  .exact q.2.2.1.2 y A
  .grind⟩
 refine⟨E.set (o+2) v',⟨?_,?_,?_,q.2.2.2.1,?_,?_⟩,f,?_⟩
 .exact sI (g:=g) O _ _ (far v1$ Or.inl rfl)
 .exact sI (g:=g) G _ _ (far v2$ Or.inr$ Or.inl rfl)
 .exact(sI (g:=g) C _ _ f).mono D
 .intro k j l u;have:=N k l;have:=C.lt j u;omega
 .intro k j l u;have:=K k l;have:=C.lt j u;omega
 .have Q:Turn (λj=>j=g\/v2.ownBlock=some j\/v3.ownBlock=some j) W (W.alloc$ .cells #[.int .u8 z] 5):=cN W _
  have F:Turn (λj=>j=g\/v2.ownBlock=some j\/v3.ownBlock=some j) (W.alloc$ .cells #[.int .u8 z] 5) W':=
   ⟨b.os,b.tape,b.output,b.size,λk l d=>b.block k l λe=>d$ Or.inr$ Or.inr e.symm⟩
  have I:Turn (λj=>j=g\/v2.ownBlock=some j\/v3.ownBlock=some j) W' (W'.setCell (qR g$ o+2) v'):=
   ⟨rfl,rfl,rfl,by rw[aK];exact aO,λj u hs=>heap_setCell_other _ _ _ _ λe=>hs$ Or.inl e⟩
  exact(Q.trans F).trans I
def aN9 {W:qw}{x1 x2 x3:qi}(h:cB W base v1 v2 v3 x1 x2 x3)(e:base<=W.heap.size):
 ∃bs,base<=bs/\bs<=W.heap.size/\(∀k,v1.ownBlock=some k->k<bs)/\(∀k,v2.ownBlock=some k->k<bs)/\W.ownsRow bs 5 1 v3 x3.length (x3.map$ Value.int .u8):=by
 obtain⟨f,⟨t,u⟩|⟨g,q,s,a,x,d,i,j,l,p⟩⟩:=h.2.2.1.1
 .exact⟨W.heap.size,e,aO,λk b=>(h.1.lt k b).2,λk b=>(h.2.1.lt k b).2,f,.inl ⟨t,u⟩⟩
 .exact⟨g,x,Nat.le_of_lt$ Blk.lt (w:=W) d,λk b=>h.2.2.2.2.1 k g b (by rw[a];rfl),λk b=>h.2.2.2.2.2 k g b (by rw[a];rfl),f,.inr ⟨g,q,s,a,aO,d,i,j,l,p⟩⟩
def aRa {W W':qw}{gg:Nat}{x1 x2 l x3:qi}(b:cB W base v1 (qS (qP g) n cap) v3 x1 x2 x3)
 (f:eW g W W') (q:OB W' base (qS (qP g) n cap) l):cB W' base v1 (qS (qP g) n cap) v3 x1 l x3/\Turn (λj=>j=gg\/(qS (qP g) n cap).ownBlock=some j\/v3.ownBlock=some j) W W':=by
 refine⟨⟨?_,q,?_,b.2.2.2⟩,?_⟩
 .exact nQ f b.1 (λe=>Nat.lt_irrefl _$ b.2.2.2.1 g g e rfl)
 .exact nQ f b.2.2.1 (λe=>Nat.lt_irrefl _$ b.2.2.2.2.2 g g rfl e)
 .obtain⟨e1,e2,e3,e4,e5⟩:=f;refine⟨by grind,by grind,by grind,J,λk t a=>e2 k (λe=>a (Or.inr (Or.inl (by rw[e];rfl))))⟩
def aWh (m:Nat)(b:wd m=true)(base g n d i l k v p w)(h:OB w base (qS (qP g) i l) p)(f:k+m<=i)(hn:m<=n)(j:0<=v/\v<=4294967295):
 qC 296 #[qS (some$ qR g k) n d,qI m,qI v] w λe a=>e=.returned (.tuple #[])/\eW g w a/\OB a base (qS (qP g) i l) (put p k v m):=by
 rcases eE b with e|e|e<;>(obtain rfl:m=_:=Int.ofNat.inj e)
 .exact(oY g n d k v w (mT h) hn J).mono λe a q=>⟨q.1,q.2 ▸ pC g k v w,q.2 ▸ wF h k v J⟩
 .exact(aHo g n d k v w (mT h) hn J).mono λe a q=>⟨q.1,q.2 ▸ aHv g k v w,q.2 ▸ aOi h k v J⟩
 .exact(aHp g n d k v w (mT h) hn J).mono λe a q=>⟨q.1,q.2 ▸ aHw g k v w,q.2 ▸ aOj h k v J⟩
def oJ (a1 a2 a3 n1 c1 n2 c2 n3 c3 g o base cs t x1 x2 x3 p s v w)(D:Blk w g cs t)(ht:t≠5)(P:cs[o]?=some (qS a1 n1 c1))(N:cs[o+1]?=some (qS a2 n2 c2))(M:cs[o+2]?=some (qS a3 n3 c3))(h:cB w base (qS a1 n1 c1) (qS a2 n2 c2) (qS a3 n3 c3) x1 x2 x3)
 (far:∀v,v=qS a1 n1 c1\/v=qS a2 n2 c2\/v=qS a3 n3 c3->v.ownBlock≠some g) (hb:base<=w.heap.size) (hv:0<=v/\v<=4294967295) (p0:0<=p) (p1:p<=4294967295):
 qC 278 #[.pointer$ some$ qR g o,qI p,qI s,qI v] w (aUx w g o cs t base (qS a1 n1 c1) (qS a2 n2 c2) (qS a3 n3 c3)$ wrm n1 n2 n3 x1 x2 x3 p s v):=by
 let⟨i0,hi,a7,a8,a9⟩:=info_parts rC;have HF:=zh λw=>vF a1 a2 a3 n1 c1 n2 c2 n3 c3 p s w p0 p1;let⟨r,i⟩:=aN$ wrm n1 n2 n3 x1 x2 x3 p s v;rw[<-i];have HW:Zh (wff n1 n2 n3 p s≠0->r=(x1,x2,x3,wff n1 n2 n3 p s)):=λh=>i.trans$ aK2 n1 n2 n3 x1 x2 x3 p s v h;have F:=zh i;clear i;have Y:=zh λh=>aMz (n1:=n1) (n2:=n2) (n3:=n3) (p:=p) (s:=s) h;have B:x3.length=n3:=h.2.2.1.bs.1;have U:=(D.cell o).trans P;have R:=(D.cell$ o+1).trans N;have Q:=(D.cell$ o+2).trans M;generalize wff n1 n2 n3 p s=f at *
 delta qC;go_in
 go_wp2_with fail
 apply(HF _).mono;rintro e w1 ⟨rfl,E⟩;have H:=D.bw E;have C:=bD h E;have t1:Turn (λj=>j=g\/(qS a2 n2 c2).ownBlock=some j\/(qS a3 n3 c3).ownBlock=some j) w w1:=aI E;have:=E.size;clear U R Q E HF h D;have U:=(H.cell o).trans P;have R:=(H.cell$ o+1).trans N;have Q:=(H.cell$ o+2).trans M;have O:=zh H;have y:=zh C;have A:=zh t1;have b:=zh far;have H1:=zh P;have H2:=zh N;have X:=zh M;clear H t1 far P N M;by_cases K:f=0
 .have⟨a,hs,d,hc⟩:=Y K;subst K;have:=uE a;obtain⟨s0,s4⟩:1<=s/\s<=4:=by rcases eE hs with rfl|rfl|rfl<;>decide
  clear HW Y;rcases hc with⟨rfl,hn⟩|⟨V,hI,hJ⟩
  .obtain rfl:r=(x1,x2,x3++[v%256],0):=F.o.trans (by rw[wrm,if_pos ⟨a,hs⟩,if_neg (by rw[d];simp),if_pos rfl,if_neg J]);clear F;let⟨bs,a5,aa,f1,f2,a0⟩:=aN9 C J;rw[B]at a0;have I:=zh$ a0.alloc$ .cells #[.int .u8$ v%256] 5;have Z:=zh f1;have a4:=zh f2;have HS:=zh B;clear a0 f1 f2 B C a hs d;go_wp2_with (at_builtin;refine wpList_append_own _ rfl _ _ 28 rfl bs 5 i0 (.int .u8 0) 1 1 Tryz.underlying28 hi a7 a8 a9 rfl Ja _ n3 (x3.map$ Value.int .u8) rfl I.o (qh w1 0) 1 1 [.int .u8$ v%256] rfl rfl (cell_one_new _ _ _) (by intro u hu;simp at hu;subst hu;rfl) Jf J Jc ?_;intro v' w3 l q _;obtain⟨a',d',he⟩:=nO l;subst he;have HX:=zh (aRb (o:=o) O.o ht y.o b.o (z:=v%256) J bs a5 Z.o a4.o (by rw[HS.o];exact l) q);have G:=bG q (O.o.alloc$ .cells #[.int .u8$ v%256] 5) λe=>b.o _ (Or.inr$ Or.inr rfl) e.symm;have U:=(G.cell o).trans H1.o;have R:=(G.cell$ o+1).trans H2.o;have Q:=(G.cell$ o+2).trans X.o;have:=G.frozen$ o+2;clear G l q)
   go_ret;obtain⟨x,S,y3,y4⟩:=HX;exact⟨a',n3+1,d',rfl,x,S,y3,A.trans y4⟩
  .have hj:=hJ;simp[ins]at hj;let⟨k,a6⟩:=xV$ show 0<=p-65536 from J;obtain rfl:r=(x1,put x2 k v s.toNat,x3,0):=F.o.trans (by rw[wrm,if_pos ⟨a,hs⟩,if_neg (by rw[d];simp),if_neg V,if_neg (by rw[hI];simp),if_pos hJ,a6];rfl);clear F;have:(p==131072)=false:=by simpa using V
   obtain⟨m,rfl⟩:=xV$ show 0<=s from J;have HS:=zh hs;obtain⟨g2,rfl⟩:=aFv C.2.1;have:=(C.2.1.bs).2.2.2.2;clear V hI hJ a hs d C;go_wp2_with fail
   apply(aWh m HS base g2 (n2-k) (c2-k) n2 c2 k v x2 _ y.2.1 J J hv).mono;rintro e w3 ⟨rfl,W,hy⟩;let⟨x,S⟩:=aRa (gg:=g) y W hy;have HY:=zh$ xA x S;have KK:=zh (bQ W O.o (λe=>b.o _ (Or.inr$ Or.inl rfl) (by rw[e];rfl)));clear x S U R Q W hy;go_wp2;go_ret;exact⟨a3,n3,c3,rfl,by rw[aE8 X.o];exact KK.o,HY.o.1,b.o _$ Or.inr$ Or.inr rfl,A.o.trans HY.o.2⟩
 .obtain rfl:=HW K;have:(f !=0)=true:=by simpa using K
  clear HW Y K C F;go_wp2;go_ret;exact⟨a3,n3,c3,rfl,by rw[aE8 X.o];exact O.o,y.o,b.o _$ Or.inr$ Or.inr rfl,A.o⟩
def wC {a b c:qw}(h:eW g a b)(k:eW g b c):eW g a c:=⟨k.1.trans h.1,λj e=>(k.2.1 j e).trans$ h.2.1 j e,k.2.2.1.trans h.2.2.1,k.2.2.2.1.trans h.2.2.2.1,k.2.2.2.2.trans h.2.2.2.2⟩
def wB {w w':qw}(h:eW g w w'):Turn (λj=>j=g) w w':=⟨h.2.2.1,h.2.2.2.1,h.2.2.2.2,by rw[h.1];exact aO,λk b a=>h.2.1 k a⟩
def cF (zs:qi)(k:Nat)(ws:qi):Nat->List Int
 | 0=>zs
 | i+1=>put (cF zs k ws i) (k+4*i) (ws.getD i 0) 4
def gH (a:qi)(k:Nat)(b:qi):∀i,(cF a k b i).length=a.length
 | 0=>rfl
 | i+1=>by rw[cF,nN,gH a k b i]
def pG (g n p k a f N d s base x w)(H:IS x a f N d)(G:qY x w)(A:x.heap.size<=g)(C:OB w base (qS (qP g) n p) s)(hn:n<=16384)(K:k+4*f<=n)(B:∀i,i<f->0<=d.getD i 0/\d.getD i 0<=4294967295):
 qC 114 #[qS (qP g) n p,qI k,qS a f N] w λe w'=>e=.returned (.tuple #[])/\OB w' base (qS (qP g) n p) (cF s k d f)/\eW g w w':=by
 have D:=zh C;have F:=zh G
 delta qC;go_in
 go_wp2;go_loopw [6] (λi wr=>∃m:Nat,m<=f/\i=qI m/\OB wr base (qS (qP g) n p) (cF s k d m)/\eW g w wr) (qf f)
 .exact⟨0,xC _,rfl,D,fO _ _⟩
 .obtain⟨m,M,rfl,O,T⟩:=hrel;by_cases l:m<f
  .have y:(m:Int)<(f:Int):=J
   obtain⟨b,Q,rfl,hc⟩:=(H.bw$ dH F T A).2.2.2.1 J;have q:=hc m l;let⟨P,v1⟩:=B m l;have u:=zh$ sT g n p (k+4*m) 4 (d.getD m 0) wr (nS O) hn J J J P v1;have j:=zh$ xA (aDq O (k+4*m) (d.getD m 0) 4 J)$ wC T$ pX g (k+4*m) (d.getD m 0) wr 4;have E:Zh (cF s k d (m+1)=put (cF s k d m) (k+4*m) (d.getD m 0) 4):=rfl;have t:((k+4*m:Nat):Int)=(k:Int)+4*(m:Int):=J
   rw[t]at u;clear O T hc;generalize d.getD m 0=v at *;go_wp2_with fail
   apply u.mono;rintro e I ⟨rfl,rfl⟩;go_wp2
   go_roundw
   .exact⟨m+1,J,by go_num,E.o ▸ j.o.1,j.o.2⟩
   .simp[qf,intOf];omega
  .have e:Zh (m=f):=by show m=f;omega
   have j:=zh$ xA O T;clear O T;go_wp2
   go_end0
   exact⟨rfl,by have:=j.o.1;rw[e.o]at this;exact this,j.o.2⟩
def lO (g n s k m c a f R d p base x w)(u:IS x a f R d)(C:qY x w)(E:x.heap.size<=g)(A:OB w base (qS (qP g) n s) p)(hn:n<=16384)(M:k+4*f<=n)(P:4*f<=m)(hc:m<=c)(G:c<=16384):
 qC 267 #[qS (some$ qR g k) m c,qS a f R] w λe w'=>e=.returned (.tuple #[])/\OB w' base (qS (qP g) n s) (cF p k d f)/\eW g w w':=by
 have F:=zh A;have I:=zh C;clear A C
 delta qC;go_in
 go_wp2;go_loopw [8] (λi wr=>∃j:Nat,j<=f/\i=qI j/\OB wr base (qS (qP g) n s) (cF p k d j)/\eW g w wr) (qf f)
 .exact⟨0,xC _,rfl,F,fO _ _⟩
 .obtain⟨j,N,rfl,O,T⟩:=hrel;by_cases t:j<f
  .have y:(j:Int)<(f:Int):=J
   obtain⟨b,S,rfl,Q⟩:=(u.bw$ dH I T E).2.2.2.1 J;have q:=Q j t;have B:-9223372036854775808<=d.getD j 0/\d.getD j 0<=9223372036854775807:=u.2.2.1 _ (by have:=u.1;simp[xB,show j<d.length from J]);have D:=zh$ oY g (m-4*j) (c-4*j) (k+4*j) (d.getD j 0) wr (mT O) J B;have l:=zh$ xA (wF O (k+4*j)$ d.getD j 0)$ wC T$ pC g (k+4*j) (d.getD j 0) wr;have H:Zh (cF p k d (j+1)=put (cF p k d j) (k+4*j) (d.getD j 0) 4):=rfl;clear O T Q B;generalize d.getD j 0=v at *;go_wp2_with fail
   apply D.mono;rintro e K ⟨rfl,rfl⟩;go_wp2
   go_roundw
   .exact⟨j+1,J,by go_num,H.o ▸ l.o.1,l.o.2⟩
   .simp[qf,intOf];omega
  .have e:Zh (j=f):=by show j=f;omega
   have l:=zh$ xA O T;clear O T;go_wp2
   go_end0
   exact⟨rfl,by have:=l.o.1;rw[e.o]at this;exact this,l.o.2⟩
