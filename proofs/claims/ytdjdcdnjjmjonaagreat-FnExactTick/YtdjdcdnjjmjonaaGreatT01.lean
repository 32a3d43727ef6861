import Derived.OrdersHeld
import Derived.Laws.IdiomStrings
import Derived.Lib.Bytealg
import Derived.WideShapes
import Derived.Laws.BitsLemmas
import Derived.Test.YtdjdcdnjjmjonaaGreatT00
set_option linter.all false
set_option maxHeartbeats 4000000
namespace Go.Proofs.YtdjdcdnjjmjonaaGreat
open Go.RowKit
open Go.Proofs.Tryz
set_option maxRecDepth 100000
variable {B b base base' cap fuel g go i j m n off sz:Nat}{P:Program}{Q:Exit->Act->World->Prop}{S:Nat->Prop}{a:qO}{bx cs:Array Value}{k:Int}{listed:Array Bool}{md:Region.Mode}{oi:Oper}{ops:Array Oper}{row:Option Nat}{rs:List Rg}{v v1 v2 v3:Value}{w:World}
def gok (g:Rg):Bool:=rok g.1 g.2.1 g.2.2.1
def rH (g:Rg)(a:Int):Bool:=hs g.1 g.2.1 g.2.2.1 a
def yM (g:Rg)(k:Int):Bool:=aL9 g.2.2.2.1 g.2.2.2.2.1 g.2.2.2.2.2 k
def cQ (rs:List Rg)(a k:Int):Nat->Bool
 | 0=>false
 | j+1=>if rH (rs.getD j z6) a then yM (rs.getD j z6) k else cQ rs a k j
def aIj (b a1 n a0 rs a k w)(h:RS w (some$ qR b a1) n a0 rs)(C:∀g∈rs,gok g=true)(G:k=1\/k=2\/k=3)(hn:n<=8):
 qC 170 #[qS (some$ qR b a1) n a0,qI a,qI k] w (qB w$ .bool$ cQ rs a k n):=by
 have:=h.1
 delta qC;go_in
 go_wp2;go_loopw [7] (λi wr=>∃(j:Nat) (p:Int),j<=n/\p+1=j/\i=qI p/\cQ rs a k j=cQ rs a k n/\qY w wr) (λi _=>(intOf i+1).toNat)
 .exact⟨n,(n:Int)-1,aO,J,rfl,rfl,brf⟩
 .obtain⟨j,p,X,Y,rfl,q,x⟩:=hrel;by_cases N:j=0
  .have s:p=-1:=J
   subst s N;have W:=zh q;have E:=zh G;go_wp2;go_ret;exact⟨aA (by rw[<-W.o];rfl),x⟩
  .obtain⟨i,rfl⟩:∃i,j=i+1:=⟨j-1,J⟩;have s:p=(i:Int):=J
   subst s;have f:=(h.bw x).at i J;have I:=C (rs.getD i z6) (by simp[xB,show i<rs.length from J]);have l:cQ rs a k (i+1)=if rH (rs.getD i z6) a then yM (rs.getD i z6) k else cQ rs a k i:=rfl
   rw[q]at l;have E:=zh G;generalize rs.getD i z6=g at *;obtain⟨B,P,Q,S,g5,g6⟩:=g;have H:=zh l;have D:rok B P Q=true:=I;have O:=f.1;have M:=f.2.1;have V:=f.2.2.1;have K:=f.2.2.2.1;have R:=f.2.2.2.2.1;have U:=f.2.2.2.2.2;go_wp2_with fail
   apply(aMi B P Q a S g5 g6 _ D).mono;rintro e Z ⟨rfl,u⟩;have t:=yT x u;cases F:hs B P Q a
   .have y:=zh F;go_wp2
    go_roundw
    .exact⟨i,(i:Int)-1,J,J,by go_num,by rw[H.o];rw[show rH (B,P,Q,S,g5,g6) a=false from y.o];rfl,t⟩
    .simp[intOf]
   .have y:=zh F;have d:=f.bw u;have O:=d.1;have M:=d.2.1;have V:=d.2.2.1;have K:=d.2.2.2.1;have R:=d.2.2.2.2.1;have U:=d.2.2.2.2.2;go_wp2_with fail
    apply(aIk B P Q k S g5 g6 _ E).mono;rintro e w2 ⟨rfl,A⟩;go_wp2;go_ret;exact⟨aA (by rw[H.o];rw[show rH (B,P,Q,S,g5,g6) a=true from y.o];rfl),yT t A⟩
def aMg (x b a k w):
 qC 170 #[qS x 0 b,qI a,qI k] w (qB w$ .bool false):=by
 delta qC;go_in
 go_wp2;go_loop [7] (λi=>i=qI (-1)) (λ_=>0)
 .rfl
 .obtain rfl:=hrel;go_wp2;go_ret;exact⟨rfl,brf⟩
def aMh (x n i rs a k w)(h:RS w x n i rs)(d:∀g∈rs,gok g=true)(f:k=1\/k=2\/k=3)(hn:n<=8):
 qC 170 #[qS x n i,qI a,qI k] w (qB w$ .bool$ cQ rs a k n):=by
 by_cases e:n=0
 .subst e;exact aMg x i a k w
 .obtain⟨b,j,rfl⟩:=h.some e;exact aIj b j n i rs a k w h d f hn
def aMv (b a1 n a0 rs a k w)(h:RS w (some$ qR b a1) n a0 rs)(C:∀g∈rs,gok g=true)(G:wfi a)(hn:n<=8):
 qC 271 #[qS (some$ qR b a1) n a0,qI a,qI k] w (qB w$ .bool$ cQ rs a k n):=by
 have:=h.1
 delta qC;go_in
 go_wp2;go_loopw [7] (λi wr=>∃(j:Nat) (p:Int),j<=n/\p+1=j/\i=qI p/\cQ rs a k j=cQ rs a k n/\qY w wr) (λi _=>(intOf i+1).toNat)
 .exact⟨n,(n:Int)-1,aO,J,rfl,rfl,brf⟩
 .obtain⟨j,p,X,Y,rfl,q,x⟩:=hrel;by_cases N:j=0
  .have s:p=-1:=J
   subst s N;have W:=zh q;have E:=zh G;go_wp2;go_ret;exact⟨aA (by rw[<-W.o];rfl),x⟩
  .obtain⟨i,rfl⟩:∃i,j=i+1:=⟨j-1,J⟩;have s:p=(i:Int):=J
   subst s;have f:=(h.bw x).at i J;have I:=C (rs.getD i z6) (by simp[xB,show i<rs.length from J]);have l:cQ rs a k (i+1)=if rH (rs.getD i z6) a then yM (rs.getD i z6) k else cQ rs a k i:=rfl
   rw[q]at l;have E:=zh G;generalize rs.getD i z6=g at *;obtain⟨B,P,Q,S,g5,g6⟩:=g;have H:=zh l;have D:rok B P Q=true:=I;have O:=f.1;have M:=f.2.1;have V:=f.2.2.1;have K:=f.2.2.2.1;have R:=f.2.2.2.2.1;have U:=f.2.2.2.2.2;go_wp2_with fail
   apply(aAr B P Q a S g5 g6 _ D E).mono;rintro e Z ⟨rfl,u⟩;have t:=yT x u;cases F:hs B P Q a
   .have y:=zh F;go_wp2
    go_roundw
    .exact⟨i,(i:Int)-1,J,J,by go_num,by rw[H.o];rw[show rH (B,P,Q,S,g5,g6) a=false from y.o];rfl,t⟩
    .simp[intOf]
   .have y:=zh F;have d:=f.bw u;have O:=d.1;have M:=d.2.1;have V:=d.2.2.1;have K:=d.2.2.2.1;have R:=d.2.2.2.2.1;have U:=d.2.2.2.2.2;go_wp2_with fail
    apply(sE B P Q k S g5 g6 _).mono;rintro e w2 ⟨rfl,A⟩;go_wp2;go_ret;exact⟨aA (by rw[H.o];rw[show rH (B,P,Q,S,g5,g6) a=true from y.o];rfl),yT t A⟩
def aQe (x b a k w):
 qC 271 #[qS x 0 b,qI a,qI k] w (qB w$ .bool false):=by
 delta qC;go_in
 go_wp2;go_loop [7] (λi=>i=qI (-1)) (λ_=>0)
 .rfl
 .obtain rfl:=hrel;go_wp2;go_ret;exact⟨rfl,brf⟩
def aQf (x n i rs a k w)(h:RS w x n i rs)(d:∀g∈rs,gok g=true)(f:wfi a)(hn:n<=8):
 qC 271 #[qS x n i,qI a,qI k] w (qB w$ .bool$ cQ rs a k n):=by
 by_cases e:n=0
 .subst e;exact aQe x i a k w
 .obtain⟨b,j,rfl⟩:=h.some e;exact aMv b j n i rs a k w h d f hn
def wd (s:Int):Bool:=decide$ s=1\/s=2\/s=4
def fS (s w):
 qC 168 #[qI s] w λe w'=>e=.returned (.bool$ wd s)/\w=w':=by
 by_cases d:s=1
 .subst d
  delta qC;go_in
  go_wp2;go_ret;exact⟨rfl,rfl⟩
 .by_cases f:s=2
  .subst f
   delta qC;go_in
   go_wp2;go_ret;exact⟨rfl,rfl⟩
  .have l:Zh (wd s=(s==4)):=by show _=_;unfold wd;rw[xJ];simp;omega
   have:(s==1)=false:=by simpa using d
   have:(s==2)=false:=by simpa using f
   delta qC;go_in
   go_wp2;go_ret;exact⟨aA l.symm,rfl⟩
def jU (s w):
 qC 269 #[qI s] w λe w'=>e=.returned (.bool$ wd s)/\w=w':=by
 by_cases d:s=1
 .subst d
  delta qC;go_in
  go_wp2;go_ret;exact⟨rfl,rfl⟩
 .by_cases f:s=2
  .subst f
   delta qC;go_in
   go_wp2;go_ret;exact⟨rfl,rfl⟩
  .have l:Zh (wd s=(s==4)):=by show _=_;unfold wd;rw[xJ];simp;omega
   have:(s==1)=false:=by simpa using d
   have:(s==2)=false:=by simpa using f
   delta qC;go_in
   go_wp2;go_ret;exact⟨aA l.symm,rfl⟩
def ins (p s f:Int)(n:Nat):Bool:=decide$ f<=p/\p<=f+n-s
def iA (p s f)(n:Nat)(w)(l:1<=s:=by omega)(hs:s<=4:=by omega)(q:0<=f:=by omega)(d:f<=65536:=by omega)(hn:n<=16384:=by omega):
 qC 171 (qW p s f n) w λe w'=>e=.returned (.bool$ ins p s f n)/\w=w':=by
 by_cases t:f<=p
 .have d:Zh (ins p s f n=decide (p<=f+n-s)):=by show _=_;unfold ins;rw[xJ];simp;omega
  delta qC;go_in
  go_wp2;go_ret;exact⟨aA d.symm,rfl⟩
 .have d:Zh (ins p s f n=false):=by show _=_;unfold ins;simp;omega
  delta qC;go_in
  go_wp2;go_ret;exact⟨aA d.symm,rfl⟩
def nW (a n b p s f w)(u:p<=9223372036854775807:=by omega)(l:1<=s:=by omega)(hs:s<=4:=by omega)(q:0<=f:=by omega)(d:f<=65536:=by omega)(hn:n<=16384:=by omega):
 qC 273 #[qS a n b,qI f,qI p,qI s] w λe w'=>e=.returned (.bool$ ins p s f n)/\w=w':=by
 by_cases t:f<=p
 .have d:Zh (ins p s f n=decide (p-f<=n-s)):=by show _=_;unfold ins;rw[xJ];simp;omega
  delta qC;go_in
  go_wp2;go_ret;exact⟨aA d.symm,rfl⟩
 .have d:Zh (ins p s f n=false):=by show _=_;unfold ins;simp;omega
  delta qC;go_in
  go_wp2;go_ret;exact⟨aA d.symm,rfl⟩
def low:List Int->Int
 | []=>0
 | z::zs=>low zs*256+z
def aB1:∀(d:qi),(∀z∈d,0<=z/\z<=255)->0<=low d/\low d+1<=(256:Int)^d.length
 | [],_=>by simp[low]
 | z::d,h=>by
   have:=aB1 d λx hx=>h x (by grind);have:=h z Jb;simp only[low,List.length_cons,Int.pow_succ];omega
def nU (d)(h:∀z∈d,0<=z/\z<=255)(e:d.length<=4):0<=low d/\low d<=4294967295:=by
 have:=aB1 d h;have:(256:Nat)^d.length<=256^4:=Nat.pow_le_pow_right J e
 grind
def aO4 (d:qi)(j)(h:j<d.length):low (d.drop j)=low (d.drop$ j+1)*256+d.getD j 0:=by
 rw[List.drop_eq_getElem_cons h];simp[low,xB,h]
def sV (b g n B a w)(h:BS w (some$ qR b g) n B a)(hn:n<=4:=by omega):
 qC 117 #[qS (some$ qR b g) n B] w λe w'=>e=.returned (qI$ low a)/\w=w':=by
 obtain⟨F,G,C,hc,_⟩:=h
 have hd:∀i,i<n->qN w b (g+i)=some (.int .u8$ a.getD i 0):=by
  intro i hi;let⟨E,H,e,hd⟩:=hc J;simp at e;obtain⟨rfl,rfl⟩:=e;exact hd i hi
 delta qC;go_in
 go_wp2;go_loop [3,4] (λv i=>∃(k:Nat) (p:Int),k<=n/\p+1=k/\i=qI p/\v=qI (low$ a.drop k)) (λ_ i=>(intOf i+1).toNat)
 .exact⟨n,(n:Int)-1,aO,J,rfl,by rw[List.drop_of_length_le J];rfl⟩
 .obtain⟨k,p,A,y,rfl,rfl⟩:=hrel;by_cases q:k=0
  .have d:p=-1:=J
   subst d q;have f:Zh (low (List.drop 0 a)=low a):=by show _=_;rw[List.drop_zero]
   generalize low (List.drop 0 a)=L at *;go_wp2;go_ret;exact⟨aJ f,rfl⟩
  .obtain⟨j,rfl⟩:∃j,k=j+1:=⟨k-1,J⟩;have d:p=(j:Int):=J
   subst d;have l:=aO4 a j J;have x:=nU (a.drop$ j+1) (λz D=>C z$ List.mem_of_mem_drop D) Jc;have s:=hd j J
   have t:0<=a.getD j 0/\a.getD j 0<=255:=by
    have:=C a[j] (List.getElem_mem J);simpa[xB,show j<a.length from J]using this
   have u:=zh l;generalize low (a.drop$ j+1)=L at *;generalize a.getD j 0=z at *;go_wp2
   go_round
   .exact⟨j,(j:Int)-1,J,J,by go_num,by rw[u.o]⟩
   .simp[intOf]
def upB (rs:List Rg)(a k:Int)(n m:Nat):Bool:=(List.range m).all λi=>cQ rs (wrap64$ a+i) k n
def okB (rs:List Rg)(m:Nat):Bool:=(List.range m).all λi=>gok$ rs.getD i z6
def aEx (rs:List Rg)(a k:Int)(n m:Nat):Prop:=∀i,i<m->cQ rs (wrap64$ a+i) k n=true
def aAs (rs:List Rg)(m:Nat):Prop:=∀i,i<m->gok (rs.getD i z6)=true
def nR:okB rs m=true ↔ aAs rs m:=by simp[okB,aAs]
def pM {a:Int}:upB rs a k n m=true ↔ aEx rs a k n m:=by simp[upB,aEx]
def aBx (d:j<n)(h:gok (rs.getD j z6)=false):okB rs n=false:=by
 cases e:okB rs n
 .rfl
 .have:=nR.1 e j d;rw[h]at this;simp at this
def rZ {a:Int}(d:j<m)(h:cQ rs (wrap64$ a+j) k n=false):upB rs a k n m=false:=by
 cases e:upB rs a k n m
 .rfl
 .have:=pM.1 e j d;rw[h]at this;simp at this
def aFt (e:rs.length=n)(h:aAs rs n):∀g∈rs,gok g=true:=by
 intro g d;obtain⟨i,hi,rfl⟩:=List.getElem_of_mem d;have:=h i J
 grind
def aBw (h:aAs rs j)(d:gok (rs.getD j z6)=true):aAs rs (j+1):=by
 intro i hi;by_cases e:i=j
 .grind
 .exact h i J
def aBh {a:Int}(h:aEx rs a k n j)(d:cQ rs (wrap64$ a+j) k n=true):aEx rs a k n (j+1):=by
 intro i hi;by_cases e:i=j
 .grind
 .exact h i J
def wfl {z:Int}(h:wfi z):(Lit.int .i64 z).wf=true:=by
 obtain⟨a,b⟩:=h;simp[Lit.wf,IntKind.min,IntKind.max,IntKind.signed,IntKind.bits];omega
def aMw (z):wfi (wrap64 z):=by
 unfold wfi wrap64;omega
def aFr (rs a k)(h:k<1\/3<k):∀n,cQ rs a k n=false
 | 0=>rfl
 | n+1=>by
   have d:∀g:Rg,yM g k=false:=by
    intro g;unfold yM aL9
    grind
   rw[cQ,d,aFr rs a k h n];simp
def alw (rs:List Rg)(n:Nat)(a s k:Int):Bool:=decide (n<=8)&&(wd s&&(okB rs n&&upB rs a k n s.toNat))
def aC6 (x n b a s k w)(h:8<n\/wd s=false\/k<1\/3<k)(p:n<=maxLen):
 qC 125 #[qS x n b,qI a,qI s,qI k] w (qB w$ .bool false):=by
 by_cases l:8<(n:Int)
 .clear h
  delta qC;go_in
  go_wp2;go_ret;exact⟨rfl,brf⟩
 .cases hs:wd s
  .clear h
   delta qC;go_in
   go_wp2_with fail
   apply(fS s _).mono;rw[hs];rintro e d ⟨rfl,rfl⟩;go_wp2;go_ret;exact⟨rfl,brf⟩
  .by_cases q:k<1
   .clear h
    delta qC;go_in
    go_wp2_with fail
    apply(fS s _).mono;rw[hs];rintro e d ⟨rfl,rfl⟩;go_wp2;go_ret;exact⟨rfl,brf⟩
   .have f:3<k:=by
     rcases h with h|h|h|h
     .omega
     .rw[hs]at h;simp at h
     .omega
     .exact h
    delta qC;go_in
    go_wp2_with fail
    apply(fS s _).mono;rw[hs];rintro e d ⟨rfl,rfl⟩;go_wp2;go_ret;exact⟨rfl,brf⟩
def aAp (x n B rs a s k w)(h:RS w x n B rs)(hn:n<=8)(hs:wd s=true)(Y:1<=k)(a0:k<=3)(ha:wfi a)(F)(W:F=(okB rs n&&upB rs a k n s.toNat)):
 qC 125 #[qS x n B,qI a,qI s,qI k] w (qB w$ .bool F):=by
 have hl:=h.1;have E:1<=s/\s<=4:=by have:=hs;simp[wd]at this;omega
 obtain⟨a1,E⟩:=E;have HS:=zh hs;have K:=zh W;clear hs W
 delta qC;go_in
 go_wp2_with fail
 apply(fS s _).mono;rw[HS.o];rintro e w2 ⟨rfl,rfl⟩;go_wp2;go_loopw [9] (λi wr=>∃j:Nat,j<=n/\i=qI j/\aAs rs j/\qY w wr) (qf n)
 .exact⟨0,xC _,rfl,λi hi=>absurd hi J,brf⟩
 .obtain⟨j,hj,rfl,G,A⟩:=hrel;by_cases C:j<n
  .obtain⟨b,a2,rfl⟩:=h.some J;have t:=(h.bw A).at j C;have y:=zh G;have N:=h.2.2.1 (rs.getD j z6) (by simp[xB,show j<rs.length from J]);have p:gok (rs.getD j z6)=false->okB rs n=false:=aBx C;have f:gok (rs.getD j z6)=true->aAs rs (j+1):=aBw y;have l:=zh p;have d:=zh f;generalize rs.getD j z6=g at *;obtain⟨P,Q,S,g4,g5,g6⟩:=g;have X:=wfl N.1;have q1:=t.1;have q2:=t.2.1;have q3:=t.2.2.1;have q4:=t.2.2.2.1;have q5:=t.2.2.2.2.1;have q6:=t.2.2.2.2.2;go_wp2_with fail
   apply(jY P Q S g4 g5 g6 _ X).mono;rintro e Z ⟨rfl,D⟩;have u:=yT A D;cases I:rok P Q S
   .have M:=zh I;clear I;go_wp2;go_ret;exact⟨aA (by rw[K.o,l.o M.o];rfl),u⟩
   .have M:=zh I;clear I;go_wp2
    go_roundw
    .exact⟨j+1,J,by go_num,d M,u⟩
    .simp[qf,intOf];omega
  .have U:j=n:=J
   subst U;have y:=zh G;go_wp2;go_loopw [10] (λi wr=>∃m:Nat,(m:Int)<=s/\i=qI m/\aEx rs a k j m/\qY w wr) (qf s.toNat)
   .exact⟨0,J,rfl,λi hi=>absurd hi J,A⟩
   .obtain⟨m,hm,rfl,q,A⟩:=hrel;by_cases C:(m:Int)<s
    .have p:cQ rs (wrap64$ a+m) k j=false->upB rs a k j s.toNat=false:=rZ J;have f:cQ rs (wrap64$ a+m) k j=true->aEx rs a k j (m+1):=aBh q;have l:=zh p;have d:=zh f;have O:=zh q;clear p f q;go_wp2_with fail
     apply(aMh x j B rs _ k _ (h.bw A) (aFt hl y) J hn).mono;generalize cQ rs (wrap64$ a+m) k j=r at *;rintro e Z ⟨rfl,D⟩;have u:=yT A D;cases r
     .have R:=zh$ l rfl;clear l d;go_wp2;go_ret;exact⟨aA (by rw[K.o,R.o];simp),u⟩
     .have R:=zh$ d rfl;clear l d;go_wp2
      go_roundw
      .exact⟨m+1,J,by go_num,R,u⟩
      .simp[qf,intOf];omega
    .have H:s.toNat=m:=J
     have V:=zh$ pM.2 q;rw[<-H]at V;have O:=zh q;clear q H;go_wp2;go_ret;exact⟨aA (by rw[K.o,V.o];rw[nR.2 y.o];rfl),A⟩
def pS (x n b rs a s k w)(h:RS w x n b rs)(ha:wfi a):
 qC 125 #[qS x n b,qI a,qI s,qI k] w (qB w$ .bool$ alw rs n a s k):=by
 by_cases d:8<n\/wd s=false\/k<1\/3<k
 .have e:alw rs n a s k=false:=by
   unfold alw;rcases d with d|d|d
   .grind
   .grind
   .cases hs:wd s
    .simp
    .have f:0<s.toNat:=by simp[wd]at hs;omega
     rw[rZ f$ aFr rs _ k d n];simp
  rw[e];exact aC6 x n b a s k w d h.2.1
 .have hs:wd s=true:=by
   grind
  exact aAp x n b rs a s k w h J hs J J ha _ (by simp[alw,hs,show n<=8 from J])
structure Cov (g:Rg)(a c:Int):Prop where
 ok:gok g=true
 bits:g.2.2.2=(false,false,false)
 pos:32<=c
 c32:c%32=0
 a32:a%32=0
 has:∀x,rH g x=decide (a<=x/\x<a+c)
def aK0:List Rg->Int->Int->Prop
 | [],a,e=>a=e
 | g::r,a,e=>∃c,Cov g a c/\aK0 r (a+c) e
def aJ0:∀d,d<8->∀j,j<9->d+j<=8->∀p,p<8->((255-bS d j)/2^p%2=0 ↔ (d<=p/\p<d+j)):=by decide +kernel
def aR9 (a y b l q)(ha:0<=a)(Z:a<y)(X:y<=262144)(A:a%32=0)(R:5<=l)(D:l<=14)(hq:q<256)(hc:32<=cnt l q)(u:cnt l q%32=0)(hb:b=bH a l)(d:q=qOf a y l):
 Cov (b,l,255-(q:Int),false,false,false) a (cnt l q):=by
 obtain⟨P,i⟩:∃P,(2:Int)^(l-3).toNat=P:=⟨_,rfl⟩;obtain⟨N,g⟩:∃N,(2:Int)^l.toNat=N:=⟨_,rfl⟩;let⟨g1,g2,g3,g4,k,g6,g7⟩:=pV a l P N R D i g ha J;let⟨Q,S,b2,b3,b4⟩:=mK a l N R D g ha J;have F:b=a-a%N:=by rw[hb];unfold bH;rw[g]
 rw[<-F]at Q S b2;by_cases M:l<8
 .have C:a%N=0/\a+N<=y/\q=255:=by
   unfold qOf at d;rw[if_pos M,g]at d;split at d
   .next h=>exact⟨h.1,h.2,d⟩
   .subst d;rw[nE]at hc;omega
  obtain⟨V,W,rfl⟩:=C;have e2:cnt l 255=N:=by unfold cnt;rw[i,show uD 255=8 from rfl,g1];rfl
  have H:b=a:=J
  refine⟨?_,rfl,hc,u,A,?_⟩
  .show rok b l (255-((255:Nat):Int))=true;unfold rok
   grind
  .intro x;show hs b l (255-((255:Nat):Int)) x=_;unfold hs;rw[g,e2,H];simp
 .have I:a%P=0/\q=bS (cT a l) (jOf a y l):=by
   unfold qOf at d;rw[if_neg M,i]at d;split at d
   .next h=>exact⟨h,d⟩
   .subst d;rw[nE]at hc;omega
  obtain⟨hm,B⟩:=I;have E:cT a l+jOf a y l<=8:=by unfold jOf;omega
  have e2:cnt l q=(jOf a y l:Int)*P:=by rw[B];exact nZ l P i _ _ k E
  refine⟨?_,rfl,hc,u,A,?_⟩
  .show rok b l (255-(q:Int))=true;unfold rok
   grind
  .intro x;show hs b l (255-(q:Int)) x=_;unfold hs;rw[g];rw[e2];generalize cT a l=f at *;generalize jOf a y l=j at *;rw[Bool.eq_iff_iff];simp only[decide_eq_true_eq];have G:N/8=P:=J
   rw[G];have t:0<P:=J
   constructor
   .rintro⟨x1,x2,x3⟩;have p0:0<=(x-b)/P:=Int.ediv_nonneg J J;have p8:(x-b)/P<8:=Int.ediv_lt_of_lt_mul t J;let⟨p,w⟩:=Int.eq_ofNat_of_zero_le p0;rw[w]at x3 p8
    have s:(255-q)/2^p%2=0:=by
     grind
    rw[B]at s;let⟨Y,y2⟩:=(aJ0 f k j J E p J).1 s;have O:(f:Int)*P<=x-b:=Int.le_trans (Int.mul_le_mul_of_nonneg_right (show(f:Int)<=(x-b)/P from J) J)$ Int.ediv_mul_le _ J
    have K:x-b<((f:Int)+j)*P:=by
     have V:(x-b)<((x-b)/P+1)*P:=Int.lt_ediv_add_one_mul_self _ t;have W:((x-b)/P+1)*P<=((f:Int)+j)*P:=Int.mul_le_mul_of_nonneg_right J J;omega
    rw[Int.add_mul]at K;omega
   .rintro⟨x1,x2⟩;have O:(f:Int)*P<=x-b:=J
    have K:x-b<((f:Int)+j)*P:=by rw[Int.add_mul];omega
    have Y:(f:Int)<=(x-b)/P:=Int.le_ediv_of_mul_le t O;have y2:(x-b)/P<(f:Int)+j:=Int.ediv_lt_of_lt_mul t K;let⟨p,w⟩:=Int.eq_ofNat_of_zero_le$ show 0<=(x-b)/P from J;have z3:((f:Int)+j)*P<=8*P:=Int.mul_le_mul_of_nonneg_right J J;have U:0<=(f:Int)*P:=Int.mul_nonneg J J;refine⟨J,J,?_⟩;rw[w];have s:=(aJ0 f k j J E p J).2 ⟨J,J⟩;rw[<-B]at s;have e:(255-(q:Int))=((255-q:Nat):Int):=J
    rw[e];have:(((255-q)/2^p%2:Nat):Int)=0:=J
    rw[<-this];simp
def rQ (g)(f:g<=262144)(e:g%32=0):∀(n:Nat)(a:Int),0<=a->a<=g->a%32=0->g-a<=32*(n:Int)->aK0 (fT g n a) a g
 | 0,a,h0,h1,h2,h3=>by
   show a=g;omega
 | n+1,a,h0,h1,h2,h3=>by
   by_cases d:a<g
   .have⟨b,l,q,i,t,u,w,k,p,s,j,x⟩:=aJg a g h0 d f h2 e;rw[nD g n a b l q d i];refine⟨cnt l q,aR9 a g b l q h0 d f h2 t u w k s j x,?_⟩;exact rQ g f e n (a+cnt l q) J p J J
   .rw[pI g (n+1) a d];show a=g;omega
def aG0:∀(L:List Rg)(a e:Int),aK0 L a e->a<=e
 | [],a,e,h=>by rw[show a=e from h];exact Int.le_refl _
 | g::r,a,e,h=>by
   obtain⟨c,hc,b⟩:=h;have:=aG0 r _ _ b;have:=hc.pos;omega
def aCe:∀(L:List Rg)(a e:Int),aK0 L a e->∀x,((∃g∈L,rH g x=true) ↔ (a<=x/\x<e))
 | [],a,e,h,x=>by
   have:a=e:=h
   grind
 | g::r,a,e,h,x=>by
   obtain⟨c,hc,b⟩:=h;have:=aCe r _ _ b x;have:=aG0 r _ _ b;have:=hc.pos;have:=hc.has x;constructor
   .grind
   .grind
def tkv {S:World->Prop}{a:Act}(hi:ops[i]?=some oi)(hc:(Region.noSelect ops&&Region.free md ops listed i&&(Region.ready md ops listed).contains i)=true)(e:∀c a w,Q (.panic c) (a.put oi.dst v) w->Q (.panic c) a w)(f:Region.wanted oi (yielded ops a.tmps)=true)(d:∀w,S w->(execOp a.eval oi).run P w=.ok (.value v) w)(hS:S w)(h:wpAnyH P md ops Q S fuel (listed.setIfInBounds i true) (a.put oi.dst v) w):wpAnyH P md ops Q S (fuel+1) listed a w:=by
 simp only[Bool.and_eq_true]at hc;exact wpAnyH_take hi hc.1.1 hc.1.2 hc.2 e (Or.inl ⟨f,d⟩) hS h
def tks {S:World->Prop}{a:Act}(hi:ops[i]?=some oi)(hc:(Region.noSelect ops&&Region.free md ops listed i&&(Region.ready md ops listed).contains i)=true)(d:∀c a w,Q (.panic c) (a.put oi.dst undef) w->Q (.panic c) a w)(e:Region.wanted oi (yielded ops a.tmps)=false)(hS:S w)(h:wpAnyH P md ops Q S fuel (listed.setIfInBounds i true) (a.put oi.dst undef) w):wpAnyH P md ops Q S (fuel+1) listed a w:=by
 simp only[Bool.and_eq_true]at hc;exact wpAnyH_take hi hc.1.1 hc.1.2 hc.2 d (Or.inr ⟨e,rfl⟩) hS h
def tkV {S:World->Prop}(i)(v){a:Act}(hi:ops[i]?=some oi)(d:∀w,S w->(execOp a.eval oi).run P w=.ok (.value v) w)(h:wpAnyH P md ops Q S fuel (listed.setIfInBounds i true) (a.put oi.dst v) w)(hc:(Region.noSelect ops&&Region.free md ops listed i&&(Region.ready md ops listed).contains i)=true:=by kernel_rfl)(e:∀c a w,Q (.panic c) (a.put oi.dst v) w->Q (.panic c) a w:=by exact λ_ _ _ h=>h)(f:Region.wanted oi (yielded ops a.tmps)=true:=by rfl)(hS:S w:=by assumption):wpAnyH P md ops Q S (fuel+1) listed a w:=tkv hi hc e f d hS h
def tkS {S:World->Prop}(i){a:Act}(hi:ops[i]?=some oi)(h:wpAnyH P md ops Q S fuel (listed.setIfInBounds i true) (a.put oi.dst undef) w)(hc:(Region.noSelect ops&&Region.free md ops listed i&&(Region.ready md ops listed).contains i)=true:=by kernel_rfl)(d:∀c a w,Q (.panic c) (a.put oi.dst undef) w->Q (.panic c) a w:=by exact λ_ _ _ h=>h)(e:Region.wanted oi (yielded ops a.tmps)=false:=by rfl)(hS:S w:=by assumption):wpAnyH P md ops Q S (fuel+1) listed a w:=tks hi hc d e hS h
def tkW {S:World->Prop}(i){a:Act}(hi:ops[i]?=some oi)(h:wpAnyH P md ops Q S fuel (listed.setIfInBounds i true) (a.put oi.dst v) w)(d:∀w,S w->(execOp a.eval oi).run P w=.ok (.value v) w:=by(intro w hSw;(try dsimp only at hSw);go_simp;try with_reducible rfl))(hc:(Region.noSelect ops&&Region.free md ops listed i&&(Region.ready md ops listed).contains i)=true:=by kernel_rfl)(e:∀c a w,Q (.panic c) (a.put oi.dst v) w->Q (.panic c) a w:=by exact λ_ _ _ h=>h)(f:Region.wanted oi (yielded ops a.tmps)=true:=by rfl)(hS:S w:=by assumption):wpAnyH P md ops Q S (fuel+1) listed a w:=tkv hi hc e f d hS h
def IS (w:qw)(a:qO)(n cap:Nat)(zs:qi):Prop:=
 zs.length=n/\n<=maxLen/\(∀z∈zs,wfi z)/\(n≠0->∃b off,a=some (qR b off)/\∀i,i<n->w.cell? (qR b$ off+i)=some (qI$ zs.getD i 0))/\n<=cap
def IS.bw {w w':qw}{zs:qi}(h:IS w a n cap zs)(d:qY w w'):IS w' a n cap zs:=by
 obtain⟨f,g,j,k,l⟩:=h;refine⟨f,g,j,λs=>?_,l⟩;let⟨b,e,q,hc⟩:=k s;refine⟨b,e,q,λi hi=>?_⟩;have:=hc i hi;rw[d.cell (p:=(qR b$ e+i))$ xD w _ this]
 grind
def IS.range {w:qw}{d:qi}(h:IS w a n cap d)(i):wfi (d.getD i 0):=by
 by_cases hi:i<d.length
 .have:=h.2.2.1 d[i] (List.getElem_mem hi)
  grind
 .simp[xB,Nat.le_of_not_lt hi,wfi]
def RowI (w:qw)(g:Nat)(zs:qi):Prop:=w.heap[g]?=some (.cells (zs.map$ Value.int .i64).toArray 3 (0,0))
def RowI.cell {w:qw}{d:qi}(h:RowI w g d)(i)(hi:i<d.length):w.cell? (qR g i)=some (qI$ d.getD i 0):=by
 rw[cell_of_row w g i _ _ _ h];simp[xB,hi]
def RowI.frozen {w:qw}{d:qi}(h:RowI w g d)(i):w.frozen? (qR g i)=false:=frozen_of_row w g i _ _ h
def RowI.set {w:qw}{d:qi}(h:RowI w g d)(i z):RowI (w.setCell (qR g i)$ qI z) g (d.set i z):=by
 unfold RowI at *;rw[heap_setCell_same w g i _ _ _ h];simp[List.map_set]
def RowI.lt {w:qw}{d:qi}(h:RowI w g d):g<w.heap.size:=by
 unfold RowI at h
 grind
def RowI.bw {w w':qw}{zs:qi}(h:RowI w g zs)(d:qY w w'):RowI w' g zs:=by
 have:=d.block g h.lt;unfold RowI at *
 grind
def RowI.is {w:qw}{zs:qi}(h:RowI w g zs)(d:zs.length<=maxLen)(hz:∀z∈zs,wfi z)(n cap)(hn:zs.length=n)(hc:n<=cap:=by exact aO):IS w (qP g) n cap zs:=by
 subst hn;exact⟨rfl,d,hz,λ_=>⟨g,0,rfl,λi hi=>by rw[Nat.zero_add];exact h.cell i hi⟩,hc⟩
def nC:(prog.info? 3).map (λi=>(i.zero,i.size,i.bytes))=some (some$ qI 0,1,8):=Je
def aVs (n):(madeCells (Value.cells$ qI 0)$ n*1)=((List.replicate n (0:Int)).map$ Value.int .i64).toArray:=by
 apply Array.ext
 .simp[size_madeCells]
 .intro i e d;simp[madeCells,Value.cells,Nat.mod_one]
def lM {w:qw}(h:w.ownsRow base 3 1 (qS (qP g) n n) n (madeCells (Value.cells$ qI 0)$ n*1).toList):RowI w g (List.replicate n 0):=by
 obtain⟨s,h|⟨i,f,a,b,q,d,j,k,l,p⟩⟩:=h
 .grind
 .simp at b;obtain⟨rfl,rfl⟩:=b;unfold RowI;rw[d]
  have e:a.toList=(madeCells (Value.cells$ qI 0)$ n*1).toList:=by
   grind
  have e2:a=madeCells (Value.cells$ qI 0) (n*1):=Array.toList_inj.1 e;rw[e2,aVs]
def iO (a n b l w)(d:0<=l)(f:l<=1048576)(hn:n<=maxLen):
 qC 59 #[qS a n b,qI l] w λe g=>e=.returned (qI$ if l<n then -1 else l-n)/\g=w:=by
 unfold maxLen at hn;by_cases h:l<n
 .delta qC;go_in
  go_wp2;go_ret;exact⟨rfl,rfl⟩
 .delta qC;go_in
  go_wp2;go_ret;exact⟨rfl,rfl⟩
def lH (a n E g w)(h:IS w a n E g)(hn:n<=1048576):
 qC 78 #[qS a n E] w λe w'=>e=.returned (qS (qP w.heap.size) n n)/\RowI w' w.heap.size g/\qY w w':=by
 let⟨M,hi,A,B,H⟩:=info_parts nC;obtain⟨j,O,P,hc,_⟩:=h;by_cases s:n=0
 .subst s;obtain rfl:g=[]:=xE j;clear hc
  delta qC;go_in
  go_wp2_with (at_make;refine wpList_make_full _ rfl _ _ 25 rfl (qs w) 3 M (qI 0) 1 underlying25 hi A B .i64 .i64 _ _ 0 rfl rfl rfl rfl J Jf aO ?_;intro F d p)
  have f:=lM d;have l:=bI p;clear d p;go_loop [4] (λi=>i=qI 0) (λ_=>0)
  .rfl
  .obtain rfl:=hrel;go_wp2;go_ret;exact⟨rfl,f,l⟩
 .obtain⟨b,N,rfl,hd⟩:=hc s;clear hc
  delta qC;go_in
  go_wp2_with (at_make;refine wpList_make_full _ rfl _ _ 25 rfl w.heap.size 3 M (qI 0) 1 underlying25 hi A B .i64 .i64 _ _ n rfl rfl rfl rfl (by rw[H];omega) Jf aO ?_;intro F d p)
  have f:=lM d;have l:=bI p;clear d p hi A B H;go_loopw [4] (λi wr=>∃k:Nat,k<=n/\i=qI k/\RowI wr (qs w) (aP g k)/\qY w wr) (qf n)
  .exact⟨0,xC _,rfl,by rw[lB,j];exact f,l⟩
  .obtain⟨k,K,rfl,q,u⟩:=hrel;clear f l;by_cases t:k<n
   .have y:(k:Int)<(n:Int):=J
    have:qN wr b (N+k)=qj (g.getD k 0):=(u.cell$ xD w _$ hd k t).trans$ hd k t;have:qn wr w k=qj ((aP g k).getD k 0):=q.cell k (by rw[qF];omega);have:wr.frozen? (qh w k)=false:=q.frozen k;have x:=q.set k$ g.getD k 0;rw[qE g k J]at x;have D:qY w (wr.setCell (qh w k)$ qI$ g.getD k 0):=u.setCell aO _;have C:=x;have G:=D;generalize g.getD k 0=z at *;generalize (aP g k).getD k 0=I at *;clear hd q u;go_wp2
    go_roundw
    .exact⟨k+1,J,by go_num,C,G⟩
    .simp[qf,intOf];omega
   .have e:Zh (k=n):=by show k=n;omega
    go_wp2;go_ret;exact⟨rfl,by rw[e.o,<-j,qG]at q;exact q,u⟩
def jX (xs d:qi)(k)(h:xs.take k=d.take k)(hx:k<xs.length)(e:k<d.length)(f:xs.getD k 0=d.getD k 0):xs.take (k+1)=d.take (k+1):=by
 rw[List.take_succ_eq_append_getElem hx,List.take_succ_eq_append_getElem e,h]
 grind
def mC (a j n y q B xs g w)(h:IS w a n y xs)(D:IS w j q B g):
 qC 94 #[qS a n y,qS j q B] w (qB w$ .bool$ decide$ xs=g):=by
 obtain⟨H,N,U,hc,_⟩:=h;obtain⟨M,O,V,K,_⟩:=D;unfold maxLen at N O;by_cases P:n=q
 .subst P;have u:((n:Int) !=(n:Int))=false:=Jb
  by_cases f:n=0
  .subst f;obtain rfl:xs=[]:=xE H;obtain rfl:g=[]:=xE M
   delta qC;go_in
   go_wp2;go_loop [5] (λi=>i=qI 0) (λ_=>0)
   .rfl
   .obtain rfl:=hrel;go_wp2;go_ret;exact⟨rfl,brf⟩
  .obtain⟨b,R,rfl,hd⟩:=hc f;obtain⟨I,S,rfl,G⟩:=K f
   delta qC;go_in
   go_wp2;go_loopw [5] (λi wr=>∃k:Nat,k<=n/\i=qI k/\xs.take k=g.take k/\qY w wr) (qf n)
   .exact⟨0,xC _,rfl,Jb,brf⟩
   .obtain⟨k,E,rfl,x,p⟩:=hrel;by_cases d:k<n
    .have A:(k:Int)<(n:Int):=J
     have t:qN wr b (R+k)=qj (xs.getD k 0):=(p.cell$ xD w _$ hd k d).trans$ hd k d;have:qN wr I (S+k)=qj (g.getD k 0):=(p.cell$ xD w _$ G k d).trans$ G k d;by_cases s:xs.getD k 0=g.getD k 0
     .have hS:=jX xs g k x J J s;have C:Zh (xs.take (k+1)=g.take (k+1)):=hS;rw[s]at t;generalize g.getD k 0=z at *;have Q:(z !=z)=false:=Jb
      go_wp2
      go_quiet (fail)
      go_wp2
      go_roundw
      .exact⟨k+1,J,by go_num,C,below_drewN p _⟩
      .simp[qf,intOf];omega
     .have l:Zh (decide (xs=g)=false):=by
       show _=_;simp;intro e;exact s (by rw[e])
      have Q:(xs.getD k 0 !=g.getD k 0)=true:=by simpa using s
      generalize g.getD k 0=z at *;generalize xs.getD k 0=F at *;go_wp2
      go_quiet (fail)
      go_wp2;go_ret;exact⟨aA l.symm,below_drewN p _⟩
    .have l:Zh (decide (xs=g)=true):=by
      show _=_;simp;rw[xG J,xG J]at x;exact x
     go_wp2;go_ret;exact⟨aA l.symm,p⟩
 .have l:Zh (decide (xs=g)=false):=by
   show _=_;simp;intro e;rw[e]at H;omega
  have u:((n:Int) !=(q:Int))=true:=Jc
  delta qC;go_in
  go_wp2;go_ret;exact⟨aA l.symm,brf⟩
def aBq (w:qw)(d)(p:0<=d)(l:d<=255):(convert 28 9$ qS (qP w.heap.size) 1 1).run prog (w.alloc$ .cells #[.int .u8 d] 5)=.ok (.string ⟨#[UInt8.ofNat d.toNat]⟩) (w.alloc$ .cells #[.int .u8 d] 5):=by
 have:((UInt8.ofNat d.toNat).toNat:Int)=d:=by
  have:(UInt8.ofNat d.toNat).toNat=d.toNat%256:=UInt8.toNat_ofNat';omega
 refine run_convert_bytes_back (P:=prog) (w.alloc$ .cells #[.int .u8 d] 5) 28 9 5 (qh w 0) 1 [UInt8.ofNat d.toNat] underlying28 underlying5 underlying9 ?_;intro j f;obtain rfl:j=0:=by grind
 rw[cI,Blk.cell$ Blk.new w _ _]
 grind
def lS (k:Nat)(w)(y:k<=8388608):qC 97 #[qI k] w λe w'=>∃s,e=.returned (.string s)/\s.size<=8388610/\qY w w':=by
 by_cases p:k=0
 .subst p
  delta qC;go_in
  go_wp2;go_ret;exact⟨_,rfl,Ja,brf⟩
 delta qC;go_in
 go_wp2_with fail
 go_loopw [0,3] (λx o wr=>∃(m:Nat) (s:ByteArray),x=qI m/\o=.string s/\s.size+m<=8388608/\qY w wr) (λx _ _=>(intOf x).toNat)
 .exact⟨k,⟨#[]⟩,rfl,rfl,by show 0+k<=_;omega,brf⟩
 .obtain⟨m,s,rfl,rfl,A,d⟩:=hrel;by_cases q:0<m
  .have l:0<(m:Int):=J
   have:=λ(W:qw)=>aBq W (48+(m:Int)%10) J J;have u:=zh d;have f:=d.size;go_wp2
   go_roundw
   .refine⟨m/10,_,by go_num,rfl,?_,u.alloc f _⟩;simp[ByteArray.size_append];have e1:(⟨#[48+UInt8.ofNat (m%10)]⟩:ByteArray).size=1:=rfl;omega
   .simp[intOf];omega
  .obtain rfl:m=0:=J
   go_wp2;go_ret;exact⟨_,rfl,by have e1:(⟨#[109]⟩:ByteArray).size=1:=rfl;simp only[ByteArray.size_append];omega,d⟩
def mtf:Nat->Nat->ByteArray->ByteArray
 | 0,_,s=>s
 | f+1,k,s=>if k=0 then s else mtf f (k/10) (⟨#[UInt8.ofNat$ (48+(k:Int)%10).toNat]⟩++s)
def aFx:∀(f d k:Nat)(s:ByteArray),k<=f->k<=d->mtf f k s=mtf d k s
 | 0,0,_,_,_,_=>rfl
 | 0,d+1,k,s,h,_=>by rw[show k=0 from J];rfl
 | f+1,0,k,s,_,h=>by rw[show k=0 from J];rfl
 | f+1,d+1,k,s,h,h'=>by
   unfold mtf;split
   .rfl
   .exact aFx f d _ _ J J
def mtd (k:Nat)(s:ByteArray):ByteArray:=mtf k k s
def aOo (s):mtd 0 s=s:=rfl
def aOp (k s)(h:0<k):mtd k s=mtd (k/10) (⟨#[UInt8.ofNat$ (48+(k:Int)%10).toNat]⟩++s):=by
 obtain⟨j,rfl⟩:∃j,k=j+1:=⟨k-1,J⟩;show mtf (j+1) (j+1) s=_;unfold mtf;rw[if_neg J];exact aFx _ _ _ _ J J
def mtx (k:Nat):ByteArray:=⟨#[109]⟩++mtd k ⟨#[]⟩
def eO (k:Nat)(w)(y:0<k:=by omega)(u:k<=67108864:=by omega):qC 97 #[qI k] w (qB w$ .string$ mtx k):=by
 go_enter func97,ntmps97
 go_wp2;go_loopw [0,3] (λx o wr=>∃(m:Nat) (s:ByteArray),x=qI m/\o=.string s/\s.size+m<=67108864/\Hid (mtd m s=mtd k ⟨#[]⟩)/\qY w wr) (λx _ _=>(intOf x).toNat)
 .exact⟨k,⟨#[]⟩,rfl,rfl,by show 0+k<=_;omega,zh rfl,brf⟩
 .obtain⟨m,s,rfl,rfl,E,q,e⟩:=hrel;clear u y;by_cases f:0<m
  .have t:0<(m:Int):=J
   have:=λ(W:qw)=>aBq W (48+(m:Int)%10) J J;have C:=zh e;have p:=e.size;have D:=zh$ aOp m s f;generalize hd:UInt8.ofNat ((48+(m:Int)%10).toNat)=d at *;clear e hd;go_wp2
   go_roundw
   .refine⟨m/10,⟨#[d]⟩++s,by go_num,rfl,?_,zh (by rw[<-q.out,D.o]),C.o.alloc p _⟩;rw[ByteArray.size_append];have:(⟨#[d]⟩:ByteArray).size=1:=rfl;omega
   .simp[intOf];omega
  .obtain rfl:m=0:=J
   have l:=zh (show mtx k=⟨#[109]⟩++s by unfold mtx;rw[<-q.out,aOo]);go_wp2;go_ret;exact⟨by rw[l.o];rfl,e⟩
def Shp (w w':qw):Prop:=∀g cs t,Blk w g cs t->∃cs':Array Value,Blk w' g cs' t/\cs'.size=cs.size
def Shp.refl (w):Shp w w:=λg a t h=>⟨a,h,rfl⟩
def Shp.trans {a b c:qw}(h:Shp a b)(k:Shp b c):Shp a c:=λg f t d=>by
 let⟨e,i,e1⟩:=h g f t d;let⟨c2,j,e2⟩:=k g e t i
 grind
def Shp.bw {w w':qw}(h:qY w w'):Shp w w':=λg a t d=>⟨a,d.bw h,rfl⟩
def Shp.set (w k i v):Shp w (w.setCell (qR k i) v):=λg a t d=>by
 by_cases e:g=k
 .subst e;exact⟨_,d.set i v,Jb⟩
 .exact⟨a,d.other _ _ e,rfl⟩
structure Mkd (S:Nat->Prop)(w w':qw):Prop where
 turn:Turn S w w'
 shp:Shp w w'
def Mkd.refl (S:Nat->Prop)(w):Mkd S w w:=⟨Turn.refl _ _,Shp.refl _⟩
def Mkd.trans {a b c:qw}(h:Mkd S a b)(k:Mkd S b c):Mkd S a c:=⟨h.turn.trans k.turn,h.shp.trans k.shp⟩
def Mkd.bw {w w':qw}(h:qY w w'):Mkd S w w':=⟨aI h,Shp.bw h⟩
def Mkd.set {w w':qw}(h:Mkd S w w')(k i v)(d:S k):Mkd S w (w'.setCell (qR k i) v):=
 h.trans ⟨⟨rfl,rfl,rfl,by rw[aK];exact aO,λj _ f=>heap_setCell_other _ _ _ _ (λe=>f (by rw[e];exact d))⟩,Shp.set _ _ _ _⟩
def Mkd.mono {S':Nat->Prop}{w w':qw}(h:Mkd S w w')(hs:∀k,S k->S' k):Mkd S' w w':=⟨h.turn.mono hs,h.shp⟩
def Sl (S:Nat->Prop)(w:qw)(a:qO)(n sz:Nat):Prop:=n≠0->∃g o cs t,a=some (qR g o)/\S g/\Blk w g cs t/\o+n*sz<=cs.size
def Sl.shp {w w':qw}(h:Sl S w a n sz)(m:Shp w w'):Sl S w' a n sz:=λk=>by
 let⟨g,o,b,t,f,hs,i,l⟩:=h k;let⟨d,j,e⟩:=m g b t i;exact⟨g,o,d,t,f,hs,j,J⟩
def Sl.ofBlk {w:qw}{c:Nat}{t:TypeId}(d:Blk w g cs t)(hS:S g)(hs:n*sz<=cs.size):Sl S w (qP g) n sz:=λ_=>⟨g,0,cs,t,rfl,hS,d,J⟩
def Sl.cell {w:qw}{o:Nat}(h:Sl S w (some$ qR g o) n sz)(hn:n≠0)(i)(hi:i<n*sz):(∃u,w.cell? (qR g$ o+i)=some u)/\w.frozen? (qR g$ o+i)=false/\S g:=by
 let⟨e,j,a,t,b,hs,d,f⟩:=h hn;simp at b;obtain⟨rfl,rfl⟩:=b;exact⟨⟨a[o+i]'J,by rw[d.cell];simp[show o+i<a.size from J]⟩,d.frozen _,hs⟩
def Sl.addr {w:qw}(h:Sl S w a n sz)(hn:n≠0):∃g o,a=some (qR g o):=by
 let⟨g,o,_,_,b,_⟩:=h hn
 grind
def mV (S:Nat->Prop)(a)(n b k:Nat)(w)(h:Sl S w a n 1)(hn:n<=1048576)(q:k<=6291456):
 qC 98 #[qS a n b,qI k] w λe w'=>e=.returned (qI ((k+n:Nat):Int))/\Mkd S w w':=by
 delta qC;go_in
 go_wp2;go_loopw [1,5] (λx i wr=>∃m:Nat,m<=n/\i=qI m/\x=qI ((k+m:Nat):Int)/\Mkd S w wr) (λ_ i _=>n-(intOf i).toNat)
 .exact⟨0,xC _,rfl,rfl,Mkd.refl _ _⟩
 .obtain⟨m,p,rfl,rfl,M⟩:=hrel;by_cases l:m<n
  .have d:(m:Int)<(n:Int):=J
   obtain⟨g,o,rfl⟩:=h.addr J;let⟨⟨u,j⟩,s,hS⟩:=(h.shp M.shp).cell J m J;have f:=zh λv=>M.set g (o+m) v hS;go_wp2
   go_roundw
   .exact⟨m+1,J,by go_num,by go_num,f _⟩
   .simp[intOf];omega
  .obtain rfl:m=n:=J
   go_wp2;go_ret;exact⟨by go_num,M⟩
def aDw (S:Nat->Prop)(a)(n b k:Nat)(w)(h:Sl S w a n 1)(hn:n<=1048576)(q:k<=6291456):
 qC 56 #[qS a n b,qI k] w λe w'=>e=.returned (qI ((k+n:Nat):Int))/\Mkd S w w':=by
 delta qC;go_in
 go_wp2;go_loopw [1,5] (λx i wr=>∃m:Nat,m<=n/\i=qI m/\x=qI ((k+m:Nat):Int)/\Mkd S w wr) (λ_ i _=>n-(intOf i).toNat)
 .exact⟨0,xC _,rfl,rfl,Mkd.refl _ _⟩
 .obtain⟨m,p,rfl,rfl,M⟩:=hrel;by_cases l:m<n
  .have d:(m:Int)<(n:Int):=J
   obtain⟨g,o,rfl⟩:=h.addr J;let⟨⟨u,j⟩,s,hS⟩:=(h.shp M.shp).cell J m J;have f:=zh λv=>M.set g (o+m) v hS;go_wp2
   go_roundw
   .exact⟨m+1,J,by go_num,by go_num,f _⟩
   .simp[intOf];omega
  .obtain rfl:m=n:=J
   go_wp2;go_ret;exact⟨by go_num,M⟩
def wL (S:Nat->Prop)(a)(n b k:Nat)(w)(h:Sl S w a n 1)(hn:n<=1048576)(y:k<=6291456):
 qC 100 #[qS a n b,qI k] w λe w'=>e=.returned (qI ((k+n:Nat):Int))/\Mkd S w w':=by
 delta qC;go_in
 go_wp2;go_loopw [1,5] (λx i wr=>∃m:Nat,m<=n/\i=qI m/\x=qI ((k+m:Nat):Int)/\Mkd S w wr) (λ_ i _=>n-(intOf i).toNat)
 .exact⟨0,xC _,rfl,rfl,Mkd.refl _ _⟩
 .obtain⟨m,A,rfl,rfl,M⟩:=hrel;by_cases p:m<n
  .have f:(m:Int)<(n:Int):=J
   obtain⟨g,o,rfl⟩:=h.addr J;have t:=zh$ lS (k+m) wr J;go_wp2_with fail
   apply t.mono;rintro e w1 ⟨s,rfl,hs,q⟩;have d:Mkd S w w1:=M.trans$ Mkd.bw q;let⟨⟨u,j⟩,B,hS⟩:=(h.shp d.shp).cell J m J;have l:=zh λv=>d.set g (o+m) v hS;go_wp2
   go_roundw
   .exact⟨m+1,J,by go_num,by go_num,l _⟩
   .simp[intOf];omega
  .obtain rfl:m=n:=J
   go_wp2;go_ret;exact⟨by go_num,M⟩
def wP (S:Nat->Prop)(a)(n j k:Nat)(w)(h:Sl S w a n 3)(hn:n<=1048576)(y:k<=4194304):
 qC 101 #[qS a n j,qI k] w λe w'=>e=.returned (qI ((k+3*n:Nat):Int))/\Mkd S w w':=by
 delta qC;go_in
 go_wp2;go_loopw [1,5] (λx i wr=>∃m:Nat,m<=n/\i=qI m/\x=qI ((k+3*m:Nat):Int)/\Mkd S w wr) (λ_ i _=>n-(intOf i).toNat)
 .exact⟨0,xC _,rfl,rfl,Mkd.refl _ _⟩
 .obtain⟨m,A,rfl,rfl,M⟩:=hrel;by_cases p:m<n
  .have f:(m:Int)<(n:Int):=J
   obtain⟨g,o,rfl⟩:=h.addr J;have t:=zh$ lS (k+3*m) wr J;go_wp2_with fail
   apply t.mono;rintro e w1 ⟨s,rfl,hs,q⟩;have d:Mkd S w w1:=M.trans$ Mkd.bw q;let⟨⟨u,D⟩,E,hS⟩:=(h.shp d.shp).cell J (m*3) J;let⟨⟨F,b⟩,B,_⟩:=(h.shp d.shp).cell J (m*3+1) J;let⟨⟨G,c2⟩,C,_⟩:=(h.shp d.shp).cell J (m*3+2) J;rw[<-Nat.add_assoc]at b B c2 C;have l:=zh λv v1 v2=>((d.set g (o+m*3) v hS).set g (o+m*3+1) v1 hS).set g (o+m*3+2) v2 hS;go_wp2
   go_roundw
   .exact⟨m+1,J,by go_num,by go_num,l _ _ _⟩
   .simp[intOf];omega
  .obtain rfl:m=n:=J
   go_wp2;go_ret;exact⟨by go_num,M⟩
structure SlB (S:Nat->Prop)(w:qw)(a:qO)(n:Nat)(f:Nat->qO×Nat×Nat):Prop where
 head:n≠0->∃g o cs t,a=some (qR g o)/\¬S g/\Blk w g cs t/\∀i,i<n->cs[o+i]?=some (.slice (f i).1 (f i).2.1 (f i).2.2)
 rows:∀i,i<n->Sl S w (f i).1 (f i).2.1 1
def SlB.kept {w w':qw}{f:Nat->qO×Nat×Nat}(h:SlB S w a n f)(m:Mkd S w w'):SlB S w' a n f:=
 ⟨λk=>by obtain⟨g,o,b,t,d,hs,e,j⟩:=h.head k;exact⟨g,o,b,t,d,hs,aD m.turn e hs,j⟩,λi hi=>(h.rows i hi).shp m.shp⟩
def cD (f:Nat->qO×Nat×Nat):Nat->Nat
 | 0=>0
 | n+1=>cD f n+(f n).2.1
def uU (f:Nat->qO×Nat×Nat):∀n i,i<n->(f i).2.1+cD f i<=cD f n
 | 0,i,h=>J
 | n+1,i,h=>by
   show _<=cD f n+(f n).2.1;by_cases e:i=n
   .grind
   .have:=uU f n i J;omega
def aDv (S:Nat->Prop)(a)(n b k:Nat)(f:Nat->qO×Nat×Nat)(w)(h:SlB S w a n f)(hn:n<=1048576)(hs:cD f n<=1048576)(p:k<=4194304):
 qC 99 #[qS a n b,qI k] w λe w'=>e=.returned (qI ((k+cD f n:Nat):Int))/\Mkd S w w':=by
 delta qC;go_in
 go_wp2;go_loopw [1,5] (λx i wr=>∃m:Nat,m<=n/\i=qI m/\x=qI ((k+cD f m:Nat):Int)/\Mkd S w wr) (λ_ i _=>n-(intOf i).toNat)
 .exact⟨0,xC _,rfl,rfl,Mkd.refl _ _⟩
 .obtain⟨m,F,rfl,rfl,M⟩:=hrel;by_cases d:m<n
  .have s:(m:Int)<(n:Int):=J
   have q:=h.kept M;obtain⟨g,o,y,t,rfl,_,j,hc⟩:=q.head J;have:=(j.cell$ o+m).trans$ hc m d;have:=uU f n m d;have l:Zh (cD f (m+1)=cD f m+(f m).2.1):=rfl;have D:=zh λk p=>mV S (f m).1 (f m).2.1 (f m).2.2 k wr (q.rows m d) J p;generalize cD f m=C at *;generalize f m=E at *;go_wp2_with fail
   apply(D (k+C) J).mono;rintro e G ⟨rfl,A⟩;have u:=zh$ M.trans A;go_wp2
   go_roundw
   .exact⟨m+1,J,by go_num,by rw[l.o];go_num,u.o⟩
   .simp[intOf];omega
  .obtain rfl:m=n:=J
   go_wp2;go_ret;exact⟨by go_num,M⟩
def byt (s:ByteArray)(k:Nat):Int:=((s.get! k).toNat:Int)
def aMu (s k):0<=byt s k/\byt s k<=255:=by
 unfold byt;have:=(s.get! k).toNat_lt;omega
def aGm (s:ByteArray)(k)(h:k<s.size):s.get! k=s[k]'h:=by
 simp only[ByteArray.get!,getElem!_def];have:s.data[k]?=some (s.data[k]'h):=Array.getElem?_eq_getElem h;rw[this];rfl
def sB (s:ByteArray)(k)(h:k<s.size)(w):(Instr.index 9 (.string s)$ qI (k:Int)).run prog w=.ok (.int .u8$ byt s k) w:=by
 rw[run_index_string w 9 s .i64 (k:Int) underlying9,dif_pos J];simp only[byt,xY,aGm s k h]
def nmo (s:ByteArray):Bool:=decide (1<=s.size/\s.size<=12)&&(List.range s.size).all λk=>decide$ 97<=byt s k/\byt s k<=122
def aKc (s k)(d:k<s.size)(h:¬(97<=byt s k/\byt s k<=122)):nmo s=false:=by
 unfold nmo
 grind
def aFw (s)(h:∀j,j<s.size->97<=byt s j/\byt s j<=122):nmo s=decide (1<=s.size/\s.size<=12):=by
 unfold nmo
 grind
def gZ (s w)(hs:s.size<=1048576):
 qC 241 #[.string s] w λe w'=>e=.returned (.bool$ nmo s)/\w=w':=by
 delta qC;go_in
 go_wp2;go_loop [3] (λi=>∃k:Nat,k<=s.size/\i=qI k/\Hid (∀j,j<k->97<=byt s j/\byt s j<=122)) (λi=>s.size-(intOf i).toNat)
 .exact⟨0,xC _,rfl,zh λj f=>J⟩
 .obtain⟨k,C,rfl,q⟩:=hrel;by_cases d:k<s.size
  .have t:(k:Int)<(s.size:Int):=J
   have:=sB s k d;have:=aMu s k;have p:=zh$ aKc s k d
   have y:=zh (show 97<=byt s k/\byt s k<=122->∀j,j<k+1->97<=byt s j/\byt s j<=122 from λh j f=>by
    by_cases e:j=k
    .subst e;exact h
    .exact q.out j J)
   generalize byt s k=z at *;by_cases a:z<97
   .have x:(z<97)=True:=by simp[a]
    go_wp2;go_ret;exact⟨aA (p J).symm,rfl⟩
   .by_cases c2:122<z
    .go_wp2;go_ret;exact⟨aA (p J).symm,rfl⟩
    .go_wp2
     go_round
     .exact⟨k+1,J,by go_num,zh$ y J⟩
     .simp[intOf];omega
  .have e:Zh (k=s.size):=by show k=s.size;omega
   have l:=zh$ aFw s λj f=>q.out j$ e.o ▸ f;by_cases a:1<=s.size
   .by_cases c2:s.size<=12
    .go_wp2;go_ret;exact⟨aA (by have:=e.o;rw[l.o,xJ];simp;omega),rfl⟩
    .go_wp2;go_ret;exact⟨aA (by have:=e.o;rw[l.o,xJ];simp;omega),rfl⟩
   .go_wp2;go_ret;exact⟨aA (by have:=e.o;rw[l.o,xJ];simp;omega),rfl⟩
def lX (s w)(hs:s.size<=1048576):
 qC 285 #[.string s] w λe w'=>e=.returned (.bool$ nmo s)/\w=w':=by
 by_cases a:s.size<1
 .have q:Zh (nmo s=false):=by show _=_;unfold nmo;rw[Bool.and_eq_false_iff];left;simp;omega
  have f:(s.size:Int)<1:=J
  delta qC;go_in
  go_wp2;go_ret;exact⟨aA q.symm,rfl⟩
 .by_cases c2:12<s.size
  .have q:Zh (nmo s=false):=by show _=_;unfold nmo;rw[Bool.and_eq_false_iff];left;simp;omega
   have f:¬(s.size:Int)<1:=J
   have l:(12:Int)<(s.size:Int):=J
   delta qC;go_in
   go_wp2;go_ret;exact⟨aA q.symm,rfl⟩
  .have f:¬(s.size:Int)<1:=J
   have l:¬(12:Int)<(s.size:Int):=J
   delta qC;go_in
   go_wp2;go_loop [14] (λi=>∃k:Nat,k<=s.size/\i=qI k/\Hid (∀j,j<k->97<=byt s j/\byt s j<=122)) (λi=>s.size-(intOf i).toNat)
   .exact⟨0,xC _,rfl,zh λj p=>J⟩
   .obtain⟨k,D,rfl,u⟩:=hrel;by_cases d:k<s.size
    .have x:(k:Int)<(s.size:Int):=J
     have:=sB s k d;have t:=zh$ aKc s k d
     have C:=zh (show 97<=byt s k/\byt s k<=122->∀j,j<k+1->97<=byt s j/\byt s j<=122 from λh j p=>by
      by_cases e:j=k
      .subst e;exact h
      .exact u.out j J)
     generalize byt s k=z at *;by_cases E:z<97
     .go_wp2;go_ret;exact⟨aA (t J).symm,rfl⟩
     .by_cases F:122<z
      .go_wp2;go_ret;exact⟨aA (t J).symm,rfl⟩
      .go_wp2
       go_round
       .exact⟨k+1,J,by go_num,zh$ C J⟩
       .simp[intOf];omega
    .have e:Zh (k=s.size):=by show k=s.size;omega
     have A:=zh$ aFw s λj p=>u.out j$ e.o ▸ p;go_wp2;go_ret;exact⟨aA (by have:=e.o;rw[A.o,xJ];simp;omega),rfl⟩
def eJ (s:ByteArray):Nat->Nat->Int
 | 0,_=>-1
 | f+1,k=>if byt s k=46 then (k:Int) else eJ s f (k+1)
def dot (s:ByteArray):Int:=eJ s s.size 0
def aB3 (s w)(hs:s.size<=1048576):
 qC 246 #[.string s] w λe w'=>e=.returned (qI$ dot s)/\w=w':=by
 delta qC;go_in
 go_wp2_with fail
 go_loop [3] (λi=>∃k:Nat,k<=s.size/\i=qI k/\Hid (dot s=eJ s (s.size-k) k)) (λi=>s.size-(intOf i).toNat)
 .exact⟨0,xC _,rfl,zh rfl⟩
 .obtain⟨k,u,rfl,q⟩:=hrel;by_cases d:k<s.size
  .have p:(k:Int)<(s.size:Int):=J
   have:=sB s k d
   have l:=zh (show dot s=if byt s k=46 then (k:Int) else eJ s (s.size-(k+1)) (k+1)by
    rw[q.out,show s.size-k=(s.size-(k+1))+1 from J];rfl)
   generalize byt s k=z at *;by_cases a:z=46
   .have f:=zh (show dot s=(k:Int)by rw[l.o,if_pos a]);subst a;go_wp2;go_ret;exact⟨aJ f.symm,rfl⟩
   .have f:=zh (show dot s=eJ s (s.size-(k+1)) (k+1)by rw[l.o,if_neg a]);go_wp2
    go_round
    .exact⟨k+1,J,by go_num,f⟩
    .simp[intOf];omega
  .have e:Zh (dot s=-1):=by
    show dot s=-1;rw[q.out,show s.size-k=0 from J];rfl
   go_wp2;go_ret;exact⟨aJ e.symm,rfl⟩
def kK (s:ByteArray):∀(f k:Nat),eJ s f k=-1\/((k:Int)<=eJ s f k/\eJ s f k<k+f)
 | 0,k=>Or.inl rfl
 | f+1,k=>by
   unfold eJ;split
   .grind
   .rcases kK s f (k+1)with h|h
    .grind
    .grind
def tH (s):dot s=-1\/(0<=dot s/\dot s<s.size):=by
 have:=kK s s.size 0;unfold dot;omega
def eH (s:ByteArray):ByteArray:=s.extract 0 (dot s).toNat
def fU (s:ByteArray):ByteArray:=s.extract (dot s+1).toNat s.size
def tK (s)(hs:s.size<=1048576):(eH s).size<=1048576:=by
 unfold eH;rw[ByteArray.size_extract];omega
def tJ (s)(hs:s.size<=1048576):(fU s).size<=1048576:=by
 unfold fU;rw[ByteArray.size_extract];omega
def gJ (s:ByteArray):Bool:=decide (0<=dot s)&&(nmo (eH s)&&nmo (fU s))
def rA (s w)(hs:s.size<=1048576):
 qC 244 #[.string s] w λe w'=>e=.returned (.bool$ gJ s)/\w=w':=by
 have f:=zh λw=>aB3 s w hs;have q:=zh λw=>gZ (eH s) w$ tK s hs;have t:=zh λw=>gZ (fU s) w$ tJ s hs;let⟨r,a⟩:=aN$ gJ s;rw[<-a];unfold gJ at a;unfold eH fU at *;rcases tH s with h|⟨u,x⟩
 .rw[h]at f a;have l:=zh (show r=false by rw[a];rfl);clear q t a h
  delta qC;go_in
  go_wp2_with (go_at_call 246;refine(f.o _).mono ?_;rintro e d ⟨rfl,rfl⟩)
  go_ret;exact⟨aA l.symm,rfl⟩
 .generalize dot s=p at *;generalize nmo (s.extract 0 p.toNat)=A at *;generalize nmo (s.extract (p+1).toNat s.size)=B at *;have l:=zh (show r=(A&&B)by rw[a];simp[u]);clear a;cases A
  .delta qC;go_in
   go_wp2_with (first
    | (go_at_call 246;refine(f _).mono ?_;rintro e d ⟨rfl,rfl⟩)
    | (go_at_call 241;refine(q _).mono ?_;rintro e d ⟨rfl,rfl⟩))
   go_ret;exact⟨aA l.symm,rfl⟩
  .delta qC;go_in
   go_wp2_with fail
   apply(f _).mono;rintro e d ⟨rfl,rfl⟩;go_wp2_with fail
   apply(q _).mono;rintro e d ⟨rfl,rfl⟩;go_wp2_with fail
   apply(t _).mono;rintro e d ⟨rfl,rfl⟩;go_wp2;go_ret;exact⟨aA l.symm,rfl⟩
def aR8 (l):∀(s:ByteArray)(k:Nat),s.data.toList.drop k=l->Lib.indexByte l (46:Int).toNat.toUInt8=(let d:=eJ s l.length k;if d=-1 then -1 else d-k):=by
 induction l with
 | nil=>intro s k h;rfl
 | cons b l ih=>
   intro s k h
   have x:k<s.data.toList.length:=by
    by_cases e:k<s.data.toList.length
    .exact e
    .rw[List.drop_eq_nil_of_le J]at h;cases h
   have q:k<s.size:=by simpa using x
   have y:s.data.toList[k]'x=b:=by
    have A:s.data.toList[k]?=some b:=by
     have:=congrArg (λt=>t[0]?) h
     grind
    grind
   have hd:s.data.toList.drop (k+1)=l:=by
    have:=congrArg List.tail h;simpa using this
   have f:byt s k=(b.toNat:Int):=by
    unfold byt;rw[aGm s k q,<-y];rfl
   have u:=ih s (k+1) hd;simp only[Lib.indexByte,List.length_cons,eJ,f];rw[u];have p:(46:Int).toNat.toUInt8=46:=rfl;rw[p];by_cases c:b=46
   .subst c;simp
   .have a:(b==46)=false:=by simpa using c
    have c2:¬((b.toNat:Int)=46):=λe=>c (UInt8.toNat_inj.1 (by simpa using(by omega:b.toNat=46)));rw[a,if_neg c2];rcases kK s l.length (k+1)with e|e
    .simp[e]
    .have g:¬eJ s l.length (k+1)=-1:=J
     simp only[g,if_false,Bool.false_eq_true];split
     .next h=>simp at h;omega
     .omega
def aPk (s):Lib.indexByte s.data.toList (46:Int).toNat.toUInt8=dot s:=by
 have:=aR8 s.data.toList s 0 Jb;rw[this];have e:s.data.toList.length=s.size:=Array.length_toList;unfold dot
 grind
def aA2 (s w):
 qC 325 #[.string s,.int .u8 46] w λe w'=>e=.returned (qI$ dot s)/\w=w':=by
 have d:=zh$ aPk s
 delta qC;go_in
 go_wp2;rw[run_callFunc_extern func329 Je Je Je (e:=Extern.BytealgIndexByte.indexByte) Je,Lib.run_indexByteString];simp only[Result.andThen];rw[Oper.upon_value];go_wp2;go_ret;exact⟨aJ d,rfl⟩
def aMk (s w)(hs:s.size<=1048576):
 qC 322 #[.string s,.string ⟨#[46]⟩] w λe w'=>e=.returned (qI$ dot s)/\w=w':=by
 have p:=zh λw=>aA2 s w;by_cases f:(⟨#[46]⟩:ByteArray)=s
 .subst f;have l:Zh (dot ⟨#[46]⟩=0):=by show _=_;rfl
  delta qC;go_in
  go_wp2;go_ret;exact⟨aJ l.symm,rfl⟩
 .have d:¬([46]:List UInt8)=s.toList:=λe=>f (Go.WideShapes.bytes_inj (by rw[ByteArray.toList_eq]at e;exact e));have:(([46]:List UInt8)==s.toList)=false:=by simpa using d
  delta qC;go_in
  go_wp2_with (go_at_call 325;refine(p.o _).mono ?_;rintro e t ⟨rfl,rfl⟩)
  go_ret;exact⟨rfl,rfl⟩
def aLb (s w)(hs:s.size<=1048576):
 qC 318 #[.string s,.string ⟨#[46]⟩] w (qB w$ .tuple #[.string$ if 0<=dot s then eH s else s,.string$ if 0<=dot s then fU s else ⟨#[]⟩,.bool$ decide$ 0<=dot s]):=by
 have l:=zh λw=>aMk s w hs;have d:=zh$ Below.refl (qs w) w;rcases tH s with h|⟨f,t⟩
 .have a:¬(0<=dot s):=J
  rw[if_neg a,if_neg a,xS a];rw[h]at l
  delta qC;go_in
  go_wp2_with (go_at_call 322;refine(l.o _).mono ?_;rintro e q ⟨rfl,rfl⟩)
  all_goals(try go_region)
  all_goals(try go_wp2)
  all_goals go_ret3
  all_goals exact⟨rfl,by first|exact d|exact d.drew⟩
 .rw[if_pos f,if_pos f,xR f];unfold eH fU;generalize dot s=p at *
  delta qC;go_in
  go_wp2_with (go_at_call 322;refine(l.o _).mono ?_;rintro e q ⟨rfl,rfl⟩)
  all_goals(try go_region)
  all_goals(try go_wp2)
  all_goals go_ret3
  all_goals exact⟨rfl,by first|exact d|exact d.drew⟩
def aSf (s w)(hs:s.size<=1048576):
 qC 306 #[.string s,.string ⟨#[46]⟩] w (qB w$ .tuple #[.string$ if 0<=dot s then eH s else s,.string$ if 0<=dot s then fU s else ⟨#[]⟩,.bool$ decide$ 0<=dot s]):=by
 have f:=zh λw=>aLb s w hs;generalize (if 0<=dot s then eH s else s)=A at *;generalize (if 0<=dot s then fU s else ⟨#[]⟩)=B at *;generalize decide (0<=dot s)=C at *
 delta qC;go_in
 go_wp2_with (go_at_call 318;refine(f.o _).mono ?_;rintro e l ⟨rfl,d⟩)
 go_ret3
 exact⟨rfl,d⟩
def aOl:nmo ⟨#[]⟩=false:=rfl
def aI5 (s:ByteArray):Value:=if gJ s then .tuple #[.string$ eH s,.string$ fU s,.bool true] else .tuple #[.string ⟨#[]⟩,.string ⟨#[]⟩,.bool false]
def oS (s w)(hs:s.size<=1048576):
 qC 290 #[.string s] w (qB w$ aI5 s):=by
 have p:=zh λw=>aSf s w hs;let⟨V,g⟩:=aN$ aI5 s;rw[<-g];unfold aI5 gJ at g;have u:(if 0<=dot s then eH s else s).size<=1048576:=by split;exact tK s hs;exact hs
 have x:(if 0<=dot s then fU s else ⟨#[]⟩).size<=1048576:=by split;exact tJ s hs;exact Ja
 have t:=zh λw=>lX _ w u;have D:=zh λw=>lX _ w x
 have f:V=if nmo (if 0<=dot s then eH s else s)&&nmo (if 0<=dot s then fU s else ⟨#[]⟩) then .tuple #[.string$ if 0<=dot s then eH s else s,.string$ if 0<=dot s then fU s else ⟨#[]⟩,.bool true] else .tuple #[.string ⟨#[]⟩,.string ⟨#[]⟩,.bool false]:=by
  by_cases h:0<=dot s
  .simp only[h,if_true,decide_true,Bool.true_and]at g⊢;exact g
  .simp only[h,if_false,decide_false,Bool.false_and,aOl,Bool.and_false]at g⊢;exact g
 clear g u x;generalize (if 0<=dot s then eH s else s)=A at *;generalize (if 0<=dot s then fU s else ⟨#[]⟩)=B at *;generalize decide (0<=dot s)=C at *;generalize nmo A=a at *;generalize nmo B=b at *;have q:=zh f;clear f;cases a
 .obtain rfl:V=.tuple #[.string ⟨#[]⟩,.string ⟨#[]⟩,.bool false]:=q
  delta qC;go_in
  go_wp2_with fail
  apply(p _).mono;rintro e y ⟨rfl,d⟩;go_wp2_with fail
  apply(t _).mono;rintro e l ⟨rfl,rfl⟩;go_wp2
  go_ret3
  exact⟨rfl,d⟩
 .cases b
  .obtain rfl:V=.tuple #[.string ⟨#[]⟩,.string ⟨#[]⟩,.bool false]:=q
   delta qC;go_in
   go_wp2_with fail
   apply(p _).mono;rintro e y ⟨rfl,d⟩;go_wp2_with fail
   apply(t _).mono;rintro e l ⟨rfl,rfl⟩;go_wp2_with fail
   apply(D _).mono;rintro e l ⟨rfl,rfl⟩;go_wp2
   go_ret3
   exact⟨rfl,d⟩
  .obtain rfl:V=.tuple #[.string A,.string B,.bool true]:=q
   delta qC;go_in
   go_wp2_with fail
   apply(p _).mono;rintro e y ⟨rfl,d⟩;go_wp2_with fail
   apply(t _).mono;rintro e l ⟨rfl,rfl⟩;go_wp2_with fail
   apply(D _).mono;rintro e l ⟨rfl,rfl⟩;go_wp2
   go_ret3
   exact⟨rfl,d⟩
def aK4 (n)(d:0<=n)(e:n<2^62):IntKind.i64.wrap n=n:=by
 have:(2:Int)^62=4611686018427387904:=rfl;simp only[IntKind.wrap,IntKind.bits,IntKind.signed]
 grind
def lQ (i x y)(l:0<=x:=by omega)(hx:x%2^i=0:=by omega)(d:x<2^62:=by omega)(f:0<=y:=by omega)(p:y<2^i:=by omega)(e:y<2^62:=by omega):bits .or .i64 x y=x+y:=
 bits_join .i64 62 Ja aK4 i x y l hx d f p e
def BS.at {w:qw}{b a n f:Nat}{d:qi}(h:BS w (some$ qR b a) n f d)(i:Nat)(hi:i<n):w.cell? (qR b$ a+i)=some (.int .u8$ d.getD i 0):=by
 obtain⟨g,j,e,hd⟩:=h.2.2.2.1 J;simp at e;obtain⟨rfl,rfl⟩:=e;exact hd i hi
def or4 (i g a b)(t:0<=i)(d:i<=255)(s:0<=g)(f:g<=255)(p:0<=a)(l:a<=255)(q:0<=b)(e:b<=255):
 bits BinOp.or IntKind.i64 (bits BinOp.or IntKind.i64 (bits BinOp.or IntKind.i64 0$ bits BinOp.or IntKind.i64 (b*16777216)$ a*65536)$ g*256) i=low [i,g,a,b]:=by
 rw[lQ 24 (b*16777216)$ a*65536];rw[lQ 40 0$ b*16777216+a*65536];rw[lQ 16 (0+(b*16777216+a*65536))$ g*256];rw[lQ 8 (0+(b*16777216+a*65536)+g*256) i];simp only[low];omega
def or2 (b a)(f:0<=b)(d:b<=255)(l:0<=a)(e:a<=255):
 bits BinOp.or IntKind.i64 (bits BinOp.or IntKind.i64 0$ a*256) b=low [b,a]:=by
 rw[lQ 16 0$ a*256];rw[lQ 8 (0+a*256) b];simp only[low];omega
def or1 (a)(e:0<=a)(d:a<=255):bits BinOp.or IntKind.i64 0 a=low [a]:=by
 rw[lQ 8 0 a];simp only[low];omega
def aVc (e:qi)(h:4<=e.length):e.take 4=[e.getD 0 0,e.getD 1 0,e.getD 2 0,e.getD 3 0]:=by
 match e,h with
 | a::b::c::d::_,_=>rfl
def aVd (d:qi)(h:2<=d.length):d.take 2=[d.getD 0 0,d.getD 1 0]:=by
 match d,h with
 | a::b::_,_=>rfl
def aVe (d:qi)(h:1<=d.length):d.take 1=[d.getD 0 0]:=by
 match d,h with
 | a::_,_=>rfl
def yN (b i n g a w)(h:BS w (some$ qR b i) n g a)(hn:4<=n):
 qC 274 #[qS (some$ qR b i) n g,qI 4] w (qB w$ qI$ low$ a.take 4):=by
 have x:=h.range 0;have t:=h.range 1;have p:=h.range 2;have s:=h.range 3;have q:=h.at 0 J;have:=h.at 1 J;have:=h.at 2 J;have:=h.at 3 J;simp only[Nat.add_zero]at q;rw[aVc a (by rw[h.1];omega)];generalize a.getD 0 0=d at *;generalize a.getD 1 0=f at *;generalize a.getD 2 0=l at *;generalize a.getD 3 0=e at *;obtain⟨j,k⟩:=x;obtain⟨y,A⟩:=t;obtain⟨B,C⟩:=p;obtain⟨D,E⟩:=s;have u:=zh$ or4 d f l e j k y A B C D E;generalize low [d,f,l,e]=L at *
 delta qC;go_in
 go_wp2
 go_quiet (fail)
 go_wp2;go_ret;exact⟨aJ u,below_drewN brf _⟩
def aIz (b i n g a w)(h:BS w (some$ qR b i) n g a)(hn:2<=n):
 qC 274 #[qS (some$ qR b i) n g,qI 2] w (qB w$ qI$ low$ a.take 2):=by
 have q:=h.range 0;have f:=h.range 1;have l:=h.at 0 J;have:=h.at 1 J;simp only[Nat.add_zero]at l;rw[aVd a (by rw[h.1];omega)];generalize a.getD 0 0=d at *;generalize a.getD 1 0=e at *;obtain⟨j,k⟩:=q;obtain⟨s,t⟩:=f;have p:=zh$ or2 d e j k s t;generalize low [d,e]=L at *
 delta qC;go_in
 go_wp2;go_ret;exact⟨aJ p,brf⟩
def aI0 (b i n g a w)(h:BS w (some$ qR b i) n g a)(hn:1<=n):
 qC 274 #[qS (some$ qR b i) n g,qI 1] w (qB w$ qI$ low$ a.take 1):=by
 have l:=h.range 0;have e:=h.at 0 J;simp only[Nat.add_zero]at e;rw[aVe a (by rw[h.1];omega)];generalize a.getD 0 0=d at *;obtain⟨j,k⟩:=l;have f:=zh$ or1 d j k;generalize low [d]=L at *
 delta qC;go_in
 go_wp2;go_ret;exact⟨aJ f,brf⟩
def BS.drop {w:qw}{d:qi}(h:BS w (some$ qR b off) n cap d)(k:Nat)(e:k<=n):BS w (some$ qR b$ off+k) (n-k) (cap-k) (d.drop k):=by
 have f:=h.1;refine⟨Jc,jK h.2.1,λz a=>h.2.2.1 z$ List.mem_of_mem_drop a,λg=>⟨b,off+k,rfl,λi hi=>?_⟩,jK h.2.2.2.2⟩;have:=h.at (k+i) J;rw[Nat.add_assoc,this];simp[xB]
def BS.take {w:qw}{d:qi}(h:BS w (some$ qR b off) n cap d)(s:Nat)(hs:s<=n):BS w (some$ qR b off) s cap (d.take s):=by
 have e:=h.1;refine⟨Jc,jK h.2.1,λz a=>h.2.2.1 z$ List.mem_of_mem_take a,λf=>⟨b,off,rfl,λi hi=>?_⟩,jK h.2.2.2.2⟩;have:=h.at i J;rw[this];simp[xB,hi]
def wd4:wd 4=true:=Ja
def uE {n1 n2 n3:Nat}(h:mok n1 n2 n3=true):n1<=16384/\n2<=16384/\n3<=5000:=by simpa[mok]using h
def rd (n1 n2 n3:Nat)(x1 x2:qi)(p s:Int):Int×Int:=
 if mok n1 n2 n3=true/\wd s=true then
  if (p.tmod s !=0)=true then (0,1)
  else if p=131072 then (0,4)
   else if ins p s 0 n1=true then (low$ (x1.drop p.toNat).take s.toNat,0)
   else if ins p s 65536 n2=true then (low$ (x2.drop (p-65536).toNat).take s.toNat,0) else (0,2)
 else (0,2)
def eE {s:Int}(h:wd s=true):s=4\/s=2\/s=1:=by simp[wd]at h;omega
def BS.some {w:qw}{d:qi}(h:BS w a n cap d)(hn:n≠0):∃b off,a=Option.some (qR b off):=by
 let⟨b,off,e,_⟩:=h.2.2.2.1 hn
 grind
def sRd (a1 a2 a3 n1 c1 n2 c2 n3 c3 x1 x2 p s w)(D:BS w a1 n1 c1 x1)(F:BS w a2 n2 c2 x2)(M:0<=p)(V:p<=4294967295):
 qC 126 #[.agg$ qV a1 n1 c1 a2 n2 c2 a3 n3 c3,qI p,qI s] w (qB w$ .tuple #[qI (rd n1 n2 n3 x1 x2 p s).1,qI (rd n1 n2 n3 x1 x2 p s).2]):=by
 have u:qY w (w.alloc$ .cells (qV a1 n1 c1 a2 n2 c2 a3 n3 c3) 39):=bal;have K:=Blk.new w (qV a1 n1 c1 a2 n2 c2 a3 n3 c3) 39;let⟨r,g⟩:=aN$ rd n1 n2 n3 x1 x2 p s;rw[<-g];unfold rd at g;have l:=zh g;have H:=zh λw=>lL a1 a2 a3 n1 c1 n2 c2 n3 c3 w;have I:Zh (mok n1 n2 n3=true->n1<=16384/\n2<=16384/\n3<=5000):=uE;generalize mok n1 n2 n3=A at *;clear g
 delta qC;go_in
 go_wp2_with fail
 apply(H _).mono;rintro e Y ⟨rfl,G⟩;have q:=u.trans$ G.mono Jb;have:=(K.bw G).three;clear G K u H;cases A
 .obtain rfl:r=(0,2):=l.o.trans$ if_neg Jb;clear l;go_wp2
  go_ret2
  exact⟨rfl,q⟩
 have:=I rfl;go_wp2_with fail
 apply(fS _ _).mono;rintro e wx ⟨rfl,rfl⟩;let⟨A,f⟩:=aN$ wd s;have d:=l;rw[<-f]at d⊢;clear l I;cases A
 .obtain rfl:r=(0,2):=d.trans$ if_neg Jb;clear d f;go_wp2
  go_ret2
  exact⟨rfl,q⟩
 rw[if_pos Jb,xL M]at d;have t:=D.bw q;have x:=F.bw q;have:=D.2.2.2.2;have:=F.2.2.2.2;have C:=zh$ xA t x;clear D F t x;obtain⟨s0,B⟩:1<=s/\s<=4:=by rcases eE f.symm with rfl|rfl|rfl<;>decide
 obtain⟨m,rfl⟩:=xV$ show 0<=s from J;have:((m:Int)==0)=false:=Jc
 clear f;by_cases a:(p%(m:Int) !=0)=true
 .rw[if_pos a]at d;subst d;go_wp2
  go_ret2
  exact⟨rfl,q⟩
 rw[if_neg a]at d;replace a:(p%(m:Int) !=0)=false:=by simpa using a
 by_cases y:p=131072
 .subst y;obtain rfl:r=(0,4):=d;go_wp2
  go_ret2
  exact⟨rfl,q⟩
 rw[if_neg y]at d;have:(p==131072)=false:=by simpa using y
 clear y;have l:=zh d;clear d;go_wp2_with fail
 apply(iA p m 0 n1 _).mono;rintro e wx ⟨rfl,rfl⟩;have d:=l;clear l;let⟨A,f⟩:=aN$ ins p m 0 n1;rw[<-f]at d⊢;cases A
 .clear f;have l:=zh d;clear d;go_wp2_with fail
  apply(iA p m 65536 n2 _).mono;rintro e wx ⟨rfl,rfl⟩;have d:=l;clear l;let⟨A,f⟩:=aN$ ins p m 65536 n2;rw[<-f]at d⊢;cases A
  .obtain rfl:r=(0,2):=d;clear f;go_wp2
   go_ret2
   exact⟨rfl,q⟩
  .have E:=f.symm;simp[ins]at E;let⟨k,j⟩:=xV$ show 0<=p-65536 from J;obtain rfl:r=(low$ (x2.drop k).take m,0):=by rw[j]at d;exact d
   obtain⟨b,i,rfl⟩:=C.2.some J;clear f d;go_wp2_with fail
   apply(sV b (i+k) m (c2-k) _ _$ (C.2.drop k J).take m J).mono;rintro e U ⟨rfl,rfl⟩;go_wp2
   go_ret2
   exact⟨rfl,q⟩
 .have E:=f.symm;simp[ins]at E;obtain⟨k,rfl⟩:=xV M;obtain rfl:r=(low$ (x1.drop k).take m,0):=d;obtain⟨b,i,rfl⟩:=C.1.some J;clear f;go_wp2_with fail
  apply(sV b (i+k) m (c1-k) _ _$ (C.1.drop k J).take m J).mono;rintro e U ⟨rfl,rfl⟩;go_wp2
  go_ret2
  exact⟨rfl,q⟩
def OB (w:qw)(base:Nat)(v:Value)(zs:qi):Prop:=w.ownsRow base 5 1 v zs.length (zs.map$ Value.int .u8)/\∀z∈zs,0<=z/\z<=255
def aEl {w:qw}{e:qi}(h:BS w (some$ qR b off) n cap e):∀j u,(e.map$ Value.int .u8)[j]?=some u->w.cell? (((qR b off):Addr).add j)=some u:=by
 intro j u l;have:=h.1
 have d:j<n:=by
  grind
 rw[cI,h.at j d]
 grind
def sG (w:qw):(w.alloc$ .cells #[] 5).ownsRow w.heap.size 5 1 (qS (qP w.heap.size) 0 0) 0 []:=
 ⟨rfl,.inr ⟨w.heap.size,0,#[],rfl,aO,heap_alloc_new w _,aO,xC _,rfl,rfl⟩⟩
def nO {w:qw}{t:TypeId}{xs:List Value}(h:w.ownsRow base t 1 v n xs):∃a cap,v=qS a n cap:=by
 obtain⟨_,⟨rfl,rfl⟩|⟨g,cap,b,rfl,_⟩⟩:=h
 .grind
 .grind
def rW {a w w':qw}{k:Nat}(h:Below B a w)(e:w.grownBy w' (some k))(d:B<=w.heap.size)(f:B<=k):Below B a w':=h.grown e d (λj l=>by grind)
def aGe (b j n i g w)(h:BS w (some$ qR b j) n i g)(hn:n<=1048576):
 qC 51 #[qS (some$ qR b j) n i] w λe w'=>∃a f,e=.returned (qS a n f)/\OB w' w.heap.size (qS a n f) g/\qY w w':=by
 let⟨F,hi,C,D,E⟩:=info_parts rC;have x:=h.1;have y:=h.bw$ (Below.refl w.heap.size w).alloc aO$ .cells #[] 5;have l:=zh$ aEl y;have q:=zh$ ints_oneCell .u8 g;have t:=zh$ sG w;have s:=zh$ show(g.map$ Value.int .u8).length=n*1 from Jc
 delta qC;go_in
 go_wp2_with (at_builtin;refine wpList_append_own _ rfl _ _ 28 rfl w.heap.size 5 F (.int .u8 0) 1 1 underlying28 hi C D E rfl Ja _ 0 [] rfl t.o (qR b j) n i (g.map$ Value.int .u8) rfl s.o l.o q.o Jf J Jb ?_;intro G A d p _)
 simp only[Nat.zero_add,List.nil_append]at d;have u:=nO d;go_ret;obtain⟨B,f,k⟩:=u;refine⟨B,f,by rw[<-k];rfl,⟨?_,h.2.2.1⟩,?_⟩
 .rw[x,<-k];exact d
 .exact rW ((Below.refl w.heap.size w).alloc aO _) p Jb aO
def aMt (b j n i g w)(h:BS w (some$ qR b j) n i g)(hn:n<=1048576):
 qC 54 #[qS (some$ qR b j) n i] w λe w'=>∃a f,e=.returned (qS a n f)/\OB w' w.heap.size (qS a n f) g/\qY w w':=by
 let⟨F,hi,B,D,E⟩:=info_parts rC;have y:=h.1;have A:=h.bw$ (Below.refl w.heap.size w).alloc aO$ .cells #[] 5;have l:=zh$ aEl A;have p:=zh$ ints_oneCell .u8 g;have t:=zh$ sG w;have q:=zh$ show(g.map$ Value.int .u8).length=n*1 from Jc;have:=λ(w:qw)=>Lib.run_eql_slice_nil (P:=prog) w 28 5 (qe b j) n i 0 0 underlying28
 delta qC;go_in
 go_wp2_with (at_builtin;refine wpList_append_own _ rfl _ _ 28 rfl w.heap.size 5 F (.int .u8 0) 1 1 underlying28 hi B D E rfl Ja _ 0 [] rfl t.o (qR b j) n i (g.map$ Value.int .u8) rfl q.o l.o p.o Jf J Jb ?_;intro G C d s _)
 simp only[Nat.zero_add,List.nil_append]at d;have u:=nO d;go_ret;obtain⟨x,f,k⟩:=u;refine⟨x,f,by rw[<-k];rfl,⟨?_,h.2.2.1⟩,?_⟩
 .rw[y,<-k];exact d
 .exact rW ((Below.refl w.heap.size w).alloc aO _) s Jb aO
def cB (w:qw)(base:Nat)(v1 v2 v3:Value)(x1 x2 x3:qi):Prop:=
 OB w base v1 x1/\OB w base v2 x2/\OB w base v3 x3/\(∀k j,v1.ownBlock=some k->v2.ownBlock=some j->k<j)/\(∀k j,v1.ownBlock=some k->v3.ownBlock=some j->k<j)/\∀k j,v2.ownBlock=some k->v3.ownBlock=some j->k<j
def OB.bw {w w':qw}{zs:qi}(h:OB w base v zs)(d:qY w w'):OB w' base v zs:=by
 refine⟨?_,h.2⟩;obtain⟨a,f|⟨g,b,e,s,p,q,i,j,k,l⟩⟩:=h.1
 .exact⟨a,.inl f⟩
 .refine⟨a,.inr ⟨g,b,e,s,p,?_,i,j,k,l⟩⟩;exact Blk.bw (w:=w) q d
def OB.mono {w:qw}{zs:qi}(h:OB w base v zs)(d:base'<=base):OB w base' v zs:=by
 refine⟨?_,h.2⟩;obtain⟨a,f|⟨g,b,e,q,s,p,i,j,k,l⟩⟩:=h.1
 .exact⟨a,.inl f⟩
 .exact⟨a,.inr ⟨g,b,e,q,J,p,i,j,k,l⟩⟩
def OB.other {w:qw}{zs:qi}(h:OB w base v zs)(a u)(ha:a.block<base):OB (w.setCell a u) base v zs:=by
 refine⟨?_,h.2⟩;obtain⟨b,f|⟨g,d,e,s,p,q,i,j,k,l⟩⟩:=h.1
 .exact⟨b,.inl f⟩
 .exact⟨b,.inr ⟨g,d,e,s,p,Blk.other (w:=w) q a u J,i,j,k,l⟩⟩
def OB.lt {w:qw}{d:qi}(h:OB w base v d):∀k,v.ownBlock=some k->base<=k/\k<w.heap.size:=h.1.lt
def OB.bs {w:qw}{zs:qi}(h:OB w base (qS a n cap) zs):BS w a n cap zs:=by
 obtain⟨x,⟨b,j⟩|⟨g,p,f,e,u,l,k,q,s,t⟩⟩:=h.1
 .simp at b;obtain⟨rfl,rfl,rfl⟩:=b;exact⟨j,xC _,h.2,λd=>absurd rfl d,aO⟩
 .simp at e;obtain⟨rfl,rfl,rfl⟩:=e;refine⟨rfl,J,h.2,λd=>⟨g,0,rfl,λi hi=>?_⟩,k⟩;rw[Nat.zero_add,Blk.cell (w:=w) l]
  have:f.toList[i]?=(zs.map$ Value.int .u8)[i]?:=by
   grind
  grind
def aOs (v:Int):((v.tmod 4294967296)+4294967296).tmod 4294967296=v%4294967296:=by grind
def aIm (v w)(p:-9223372036854775808<=v/\v<=9223372036854775807):
 qC 166 #[qI v,qI 4294967296] w λe w'=>e=.returned (qI$ v%4294967296)/\w=w':=by
 have d:-4294967296<v.tmod 4294967296:=Int.lt_tmod_of_pos v J;have f:v.tmod 4294967296<4294967296:=Int.tmod_lt_of_pos v J;have l:=zh$ aOs v
 delta qC;go_in
 go_wp2;go_ret;exact⟨aJ (by have:=l.o;rwa[xL J]at this),rfl⟩
def dR (v w)(d:-9223372036854775808<=v/\v<=9223372036854775807):
 qC 116 #[qI v] w λe w'=>e=.returned (qI$ v%4294967296)/\w=w':=by
 delta qC;go_in
 go_wp2_with fail
 apply(aIm v _ d).mono;rintro e f ⟨rfl,rfl⟩;go_wp2;go_ret;exact⟨rfl,rfl⟩
def bt (v:Int)(j:Nat):Int:=v/(256:Int)^j%256
def aDe (w:qw)(g k:Nat)(v:Int):Nat->World
 | 0=>w
 | j+1=>(aDe w g k v j).setCell (qR g$ k+j)$ .int .u8$ bt v j
def put (zs:qi)(k:Nat)(v:Int):Nat->List Int
 | 0=>zs
 | j+1=>(put zs k v j).set (k+j)$ bt v j
def gM (v j):0<=bt v j/\bt v j<=255:=by unfold bt;omega
def aSl (v j):v/(256:Int)^j/256=v/(256:Int)^(j+1):=by
 rw[Int.pow_succ,Int.ediv_ediv_of_nonneg$ Int.le_of_lt$ Int.pow_pos J]
def nN (d:qi)(k:Nat)(v:Int):∀j,(put d k v j).length=d.length
 | 0=>rfl
 | j+1=>by rw[put,List.length_set,nN d k v j]
def Room (w:qw)(g n:Nat):Prop:=∃cur,Blk w g cur 5/\n<=cur.size
def Room.cell {w:qw}(h:Room w g n)(i)(hi:i<n):∃u,w.cell? (qR g i)=some u:=by
 obtain⟨a,b,d⟩:=h;rw[b.cell];exact⟨a[i],Jb⟩
def Room.frozen {w:qw}(h:Room w g n)(i):w.frozen? (qR g i)=false:=by
 obtain⟨b,a,d⟩:=h;exact a.frozen i
def Room.set {w:qw}(h:Room w g n)(i u):Room (w.setCell (qR g i) u) g n:=by
 obtain⟨b,a,d⟩:=h;exact⟨_,a.set i u,by grind⟩
def Room.put {w:qw}{g n:Nat}(h:Room w g n)(k:Nat)(v:Int):∀j,Room (aDe w g k v j) g n
 | 0=>h
 | j+1=>(Room.put h k v j).set (k+j) _
def sT (g n a k:Nat)(s v w)(h:Room w g n)(hn:n<=16384)(F:1<=s)(hs:s<=4)(M:(k:Int)+s<=n)(d:0<=v)(A:v<=4294967295):
 qC 115 #[qS (qP g) n a,qI k,qI s,qI v] w λe b=>e=.returned (.tuple #[])/\b=aDe w g k v s.toNat:=by
 delta qC;go_in
 go_wp2;go_loopw [3,8] (λx i wr=>∃j:Nat,(j:Int)<=s/\i=qI j/\x=qI (v/(256:Int)^j)/\wr=aDe w g k v j) (λ_ i _=>s.toNat-(intOf i).toNat)
 .exact⟨0,J,rfl,Jb,rfl⟩
 .obtain⟨j,K,rfl,rfl,rfl⟩:=hrel;by_cases C:(j:Int)<s
  .have l:=h.put k v j;let⟨u,hu⟩:=l.cell (k+j) J;have:=l.frozen$ k+j;have D:0<(256:Int)^j:=Int.pow_pos J;have:0<=v/(256:Int)^j:=Int.ediv_nonneg d J;have:v/(256:Int)^j<=v:=Int.ediv_le_self _ d;have E:=zh$ aSl v j;have p:aDe w g k v (j+1)=(aDe w g k v j).setCell (qR g$ k+j) (.int .u8$ v/(256:Int)^j%256):=rfl;have H:=zh p;clear p l D;generalize aDe w g k v j=W at *;generalize v/(256:Int)^j=q at *;go_wp2
   go_roundw
   .exact⟨j+1,J,by go_num,by rw[E.o],H.o.symm⟩
   .simp[intOf];omega
  .have f:s.toNat=j:=J
   have G:=zh f;clear f;generalize v/(256:Int)^j=q at *;go_wp2
   go_end0
   exact⟨rfl,by rw[G.o]⟩
def aJ3 (w:qw)(g k:Nat)(v:Int):World:=
 (((w.setCell (qR g$ k+3)$ .int .u8$ bt v 3).setCell (qR g$ k+2)$ .int .u8$ bt v 2).setCell (qR g$ k+1)$ .int .u8$ bt v 1).setCell (qR g k) (.int .u8$ bt v 0)
def aJ4 (w:qw)(g k:Nat)(v:Int):World:=(w.setCell (qR g$ k+1)$ .int .u8$ bt v 1).setCell (qR g k)$ .int .u8$ bt v 0
def aJ5 (w:qw)(g k:Nat)(v:Int):World:=w.setCell (qR g k)$ .int .u8$ bt v 0
def bt0 (v):bt v 0=v%256:=by unfold bt;simp
def bt1 (v):bt v 1=v/256%256:=by unfold bt;simp
def bt2 (v):bt v 2=v/65536%256:=by unfold bt;rw[show(256:Int)^2=65536 from rfl]
def bt3 (v):bt v 3=v/16777216%256:=by unfold bt;rw[show(256:Int)^3=16777216 from rfl]
def oY (g n a k v w)(h:Room w g (k+4))(hn:4<=n)(f:-9223372036854775808<=v/\v<=9223372036854775807):
 qC 296 #[qS (some$ qR g k) n a,qI 4,qI v] w λe b=>e=.returned (.tuple #[])/\b=aJ3 w g k v:=by
 let⟨p,d⟩:=h.cell k J;let⟨q,j⟩:=h.cell (k+1) J;let⟨s,c2⟩:=h.cell (k+2) J;let⟨t,l⟩:=h.cell (k+3) J;have:∀i,w.frozen? (qR g i)=false:=h.frozen;unfold aJ3;rw[bt3,bt2,bt1,bt0]
 delta qC;go_in
 go_wp2
 go_end0
 exact⟨rfl,rfl⟩
def aHo (g n a k v w)(h:Room w g (k+2))(hn:2<=n)(f:-9223372036854775808<=v/\v<=9223372036854775807):
 qC 296 #[qS (some$ qR g k) n a,qI 2,qI v] w λe b=>e=.returned (.tuple #[])/\b=aJ4 w g k v:=by
 let⟨l,d⟩:=h.cell k J;let⟨p,j⟩:=h.cell (k+1) J;have:∀i,w.frozen? (qR g i)=false:=h.frozen;unfold aJ4;rw[bt1,bt0]
 delta qC;go_in
 go_wp2
 go_end0
 exact⟨rfl,rfl⟩
def aHp (g n a k v w)(h:Room w g (k+1))(hn:1<=n)(f:-9223372036854775808<=v/\v<=9223372036854775807):
 qC 296 #[qS (some$ qR g k) n a,qI 1,qI v] w λe b=>e=.returned (.tuple #[])/\b=aJ5 w g k v:=by
 let⟨j,d⟩:=h.cell k J;have:∀i,w.frozen? (qR g i)=false:=h.frozen;unfold aJ5;rw[bt0]
 delta qC;go_in
 go_wp2
 go_end0
 exact⟨rfl,rfl⟩
def aSk (v):bt (v%4294967296) 0=bt v 0/\bt (v%4294967296) 1=bt v 1/\bt (v%4294967296) 2=bt v 2/\bt (v%4294967296) 3=bt v 3:=by
 rw[bt0,bt1,bt2,bt3,bt0,bt1,bt2,bt3];omega
def aLo (a k v):put a k v 4=(((a.set (k+3)$ bt v 3).set (k+2)$ bt v 2).set (k+1)$ bt v 1).set k (bt v 0):=by
 simp only[put,Nat.add_zero];rw[List.set_comm _ _$ show k≠k+1 from J,List.set_comm _ _$ show k≠k+2 from J,List.set_comm _ _$ show k≠k+3 from J];congr 1;rw[List.set_comm _ _$ show k+1≠k+2 from J,List.set_comm _ _$ show k+1≠k+3 from J];congr 1;rw[List.set_comm _ _$ show k+2≠k+3 from J]
def aLp (a k v):put a k v 2=(a.set (k+1)$ bt v 1).set k (bt v 0):=by
 simp only[put,Nat.add_zero];rw[List.set_comm _ _$ show k≠k+1 from J]
def lR {w:qw}{d:qi}(h:OB w base (qS (qP g) n cap) d)(i)(hi:i<n)(z)(hz:0<=z/\z<=255):OB (w.setCell (qR g i)$ .int .u8 z) base (qS (qP g) n cap) (d.set i z):=by
 obtain⟨⟨u,q|⟨p,l,b,a,j,k,s,e,t,f⟩⟩,x⟩:=h
 .grind
 .simp at a;obtain⟨rfl,rfl,rfl⟩:=a;refine⟨⟨Jb,.inr ⟨g,cap,b.setIfInBounds i$ .int .u8 z,Jb,j,Blk.set (w:=w) k i _,by grind,e,by grind,?_⟩⟩,?_⟩
  .rw[List.length_set,xW,List.take_set,f,List.map_set]
  .grind
def aDq {w:qw}{base g n a:Nat}{d:qi}(h:OB w base (qS (qP g) n a) d)(k:Nat)(v:Int):∀j,k+j<=n->OB (aDe w g k v j) base (qS (qP g) n a) (put d k v j)
 | 0,_=>h
 | j+1,hj=>lR (aDq h k v j J) (k+j) J _$ gM v j
def wF {w:qw}{d:qi}(h:OB w base (qS (qP g) n cap) d)(k v)(e:k+4<=n:=by omega):OB (aJ3 w g k v) base (qS (qP g) n cap) (put d k v 4):=by
 rw[aLo];exact lR (lR (lR (lR h (k+3) J _$ gM v 3) (k+2) J _$ gM v 2) (k+1) J _$ gM v 1) k J _$ gM v 0
def aOi {w:qw}{d:qi}(h:OB w base (qS (qP g) n cap) d)(k v)(e:k+2<=n):OB (aJ4 w g k v) base (qS (qP g) n cap) (put d k v 2):=by
 rw[aLp];exact lR (lR h (k+1) J _$ gM v 1) k J _$ gM v 0
def aOj {w:qw}{d:qi}(h:OB w base (qS (qP g) n cap) d)(k v)(e:k+1<=n):OB (aJ5 w g k v) base (qS (qP g) n cap) (put d k v 1):=
 lR h k J _ (gM v 0)
def nS {w:qw}{d:qi}(h:OB w base (qS (qP g) n cap) d):Room w g n:=by
 obtain⟨⟨t,j|⟨i,f,b,a,s,e,k,l,p,q⟩⟩,u⟩:=h
 .grind
 .simp at a;obtain⟨rfl,rfl,rfl⟩:=a;exact⟨b,e,J⟩
def eW (g:Nat)(w w':qw):Prop:=w'.heap.size=w.heap.size/\(∀k,k≠g->w'.heap[k]?=w.heap[k]?)/\w'.os=w.os/\w'.tape=w.tape/\w'.output=w.output
def fO (g w):eW g w w:=⟨rfl,λ_ _=>rfl,rfl,rfl,rfl⟩
def gI {w w':qw}(h:eW g w w')(i u):eW g w (w'.setCell (qR g i) u):=
 ⟨by rw[aK];exact h.1,λk d=>by rw[heap_setCell_other _ _ _ _ d];exact h.2.1 k d,h.2.2.1,h.2.2.2.1,h.2.2.2.2⟩
def pX (g k:Nat)(v:Int)(w:qw):∀j,eW g w$ aDe w g k v j
 | 0=>fO g w
 | j+1=>gI (pX g k v w j) (k+j) _
def pC (g k v w):eW g w (aJ3 w g k v):=gI (gI (gI (gI (fO g w) _ _) _ _) _ _) _ _
def aHv (g k v w):eW g w (aJ4 w g k v):=gI (gI (fO g w) _ _) _ _
def aHw (g k v w):eW g w (aJ5 w g k v):=gI (fO g w) _ _
def dH {a w w':qw}(h:Below B a w)(d:eW g w w')(f:B<=g):Below B a w':=
 ⟨d.2.2.1.trans h.os,d.2.2.2.1.trans h.tape,d.2.2.2.2.trans h.output,d.1 ▸ h.size,λk e=>(d.2.1 k J).trans$ h.block k e⟩
def bQ {k:Nat}{w w':qw}{t:TypeId}(d:eW g w w')(h:Blk w k cs t)(e:k≠g):Blk w' k cs t:=by
 unfold Blk at *;rw[d.2.1 k e];exact h
def nQ {w w':qw}{zs:qi}(d:eW g w w')(h:OB w base v zs)(f:v.ownBlock≠some g):OB w' base v zs:=by
 refine⟨?_,h.2⟩;obtain⟨a,k|⟨j,b,i,rfl,t,u,l,p,q,s⟩⟩:=h.1
 .exact⟨a,.inl k⟩
 .refine⟨a,.inr ⟨j,b,i,rfl,t,?_,l,p,q,s⟩⟩;exact bQ d u (by intro e;subst e;exact f rfl)
def aN3 (a k v):put a k (v%4294967296) 4=put a k v 4/\put a k (v%4294967296) 2=put a k v 2/\put a k (v%4294967296) 1=put a k v 1:=by
 let⟨e0,e1,e2,e3⟩:=aSk v;simp only[put,e0,e1,e2,e3,and_self]
def bD {w w':qw}{x1 x2 x3:qi}(h:cB w base v1 v2 v3 x1 x2 x3)(d:qY w w'):cB w' base v1 v2 v3 x1 x2 x3:=
 ⟨h.1.bw d,h.2.1.bw d,h.2.2.1.bw d,h.2.2.2⟩
def fN {w:qw}{x1 x2 x3:qi}(h:cB w base v1 v2 v3 x1 x2 x3)(o):cB (w.alloc o) base v1 v2 v3 x1 x2 x3:=
 bD h (brf.alloc aO o)
def fL {w:qw}{x1 x2 x3:qi}(h:cB w base v1 v2 v3 x1 x2 x3)(a u)(ha:a.block<base):cB (w.setCell a u) base v1 v2 v3 x1 x2 x3:=
 ⟨h.1.other a u ha,h.2.1.other a u ha,h.2.2.1.other a u ha,h.2.2.2⟩
def fM {w:qw}{x1 x2 x3:qi}(h:cB w base v1 v2 v3 x1 x2 x3)(d:base'<=base):cB w base' v1 v2 v3 x1 x2 x3:=
 ⟨h.1.mono d,h.2.1.mono d,h.2.2.1.mono d,h.2.2.2⟩
def sI {w:qw}{g:Nat}{zs:qi}(h:OB w base v zs)(a u)(ha:v.ownBlock≠some a.block):OB (w.setCell a u) base v zs:=by
 refine⟨?_,h.2⟩;obtain⟨b,j|⟨i,d,f,rfl,s,t,k,l,p,q⟩⟩:=h.1
 .exact⟨b,.inl j⟩
 .exact⟨b,.inr ⟨i,d,f,rfl,s,Blk.other (w:=w) t a u (by intro e;apply ha;rw[<-e];rfl),k,l,p,q⟩⟩
def bG {w w':qw}{k:Nat}{t:TypeId}(e:w.grownBy w' row)(h:Blk w k cs t)(d:some k≠row):Blk w' k cs t:=by
 have:=e.block k h.lt d;unfold Blk at *;rw[this];exact h
def rG {w w':qw}{zs:qi}(e:w.grownBy w' row)(h:OB w base v zs)(d:v.ownBlock=none\/v.ownBlock≠row):OB w' base v zs:=
 ⟨h.1.kept e d,h.2⟩
def wrm (n1 n2 n3:Nat)(x1 x2 x3:qi)(p s v:Int):List Int×List Int×List Int×Int:=
 if mok n1 n2 n3=true/\wd s=true then
  if (p.tmod s !=0)=true then (x1,x2,x3,1)
  else if p=131072 then (if 5000<=n3 then (x1,x2,x3,4) else (x1,x2,x3++[v%256],0))
   else if ins p s 0 n1=true then (x1,x2,x3,3)
   else if ins p s 65536 n2=true then (x1,put x2 (p-65536).toNat v s.toNat,x3,0) else (x1,x2,x3,2)
 else (x1,x2,x3,2)
def aUw (w:qw)(r:List Int×List Int×List Int×Int)(e:Ending)(w':qw):Prop:=
 ∃a1 m1 d1 a2 m2 d2 a3 m3 d3,e=.returned (.tuple #[.agg$ qV a1 m1 d1 a2 m2 d2 a3 m3 d3,qI r.2.2.2])/\cB w' w.heap.size (qS a1 m1 d1) (qS a2 m2 d2) (qS a3 m3 d3) r.1 r.2.1 r.2.2.1/\qY w w'
structure Hold (w W:qw)(base go:Nat)(bx:Array Value)(v1 v2 v3:Value)(x1 x2 x3:qi):Prop where
 bw:qY w W
 big:w.heap.size+2<=base
 gobig:base<=go
 box:Blk W w.heap.size bx 39
 res:Blk W (w.heap.size+1) (qV none 0 0 none 0 0 none 0 0) 39
 out:Blk W go #[v1,v2,v3] 39
 own:cB W base v1 v2 v3 x1 x2 x3
 far:∀v,v=v1\/v=v2\/v=v3->v.ownBlock≠some go
def Hold.step {w W e:qw}{x1 x2 x3:qi}(h:Hold w W base go bx v1 v2 v3 x1 x2 x3)(d:qY W e):Hold w e base go bx v1 v2 v3 x1 x2 x3:=
 ⟨yT h.bw d,h.big,h.gobig,h.box.bw d,h.res.bw d,h.out.bw d,bD h.own d,h.far⟩
def aVh (W:qw)(g:Nat)(v1 v2 v3:Value):World:=((W.setCell (qR g 0) v1).setCell (qR g 1) v2).setCell (qR g 2) v3
def Hold.done {w W:qw}{x1 x2 x3:qi}(h:Hold w W base go bx v1 v2 v3 x1 x2 x3):
 cB (aVh W (w.heap.size+1) v1 v2 v3) w.heap.size v1 v2 v3 x1 x2 x3/\qY w (aVh W (w.heap.size+1) v1 v2 v3):=by
 have:=h.big
 exact⟨fM (fL (fL (fL h.own _ _ (by grind)) _ _ (by grind)) _ _ (by grind)) J,
  ((h.bw.setCell (by grind) _).setCell (by grind) _).setCell (by grind) _⟩
def aT {w w':qw}{zs:qi}(d:Turn S w w')(h:OB w base v zs)(e:∀k,v.ownBlock=some k->¬S k):OB w' base v zs:=by
 refine⟨?_,h.2⟩;obtain⟨b,i|⟨a,f,g,rfl,s,t,j,l,p,q⟩⟩:=h.1
 .exact⟨b,.inl i⟩
 .exact⟨b,.inr ⟨a,f,g,rfl,s,aD d t$ e a rfl,j,l,p,q⟩⟩
def IS.at {w:qw}{d:qi}(h:IS w (Option.some$ qR b off) n cap d)(i)(hi:i<n):w.cell? (qR b$ off+i)=Option.some (qI$ d.getD i 0):=by
 let⟨a,f,e,hd⟩:=h.2.2.2.1 J
 grind
def IS.addr {w:qw}{d:qi}(h:IS w a n cap d)(hn:n≠0):∃b off,a=some (qR b off):=by
 let⟨b,off,e,_⟩:=h.2.2.2.1 hn
 grind
def OI (w:qw)(base:Nat)(v:Value)(zs:qi):Prop:=w.ownsRow base 3 1 v zs.length (zs.map$ Value.int .i64)/\∀z∈zs,wfi z
def aD2 {w:qw}{e:qi}(h:IS w (some$ qR b off) n cap e):∀j u,(e.map$ Value.int .i64)[j]?=some u->w.cell? (((qR b off):Addr).add j)=some u:=by
 intro j u l;have:=h.1
 have d:j<n:=by
  grind
 rw[cI,h.at j d]
 grind
def aHt (w:qw):(w.alloc$ .cells #[] 3).ownsRow w.heap.size 3 1 (qS (qP w.heap.size) 0 0) 0 []:=
 ⟨rfl,.inr ⟨w.heap.size,0,#[],rfl,aO,heap_alloc_new w _,aO,xC _,rfl,rfl⟩⟩
def OI.bw {w w':qw}{zs:qi}(h:OI w base v zs)(d:qY w w'):OI w' base v zs:=by
 refine⟨?_,h.2⟩;obtain⟨a,f|⟨g,b,e,s,p,q,i,j,k,l⟩⟩:=h.1
 .exact⟨a,.inl f⟩
 .refine⟨a,.inr ⟨g,b,e,s,p,?_,i,j,k,l⟩⟩;exact Blk.bw (w:=w) q d
def OI.mono {w:qw}{zs:qi}(h:OI w base v zs)(d:base'<=base):OI w base' v zs:=by
 refine⟨?_,h.2⟩;obtain⟨a,f|⟨g,b,e,q,s,p,i,j,k,l⟩⟩:=h.1
 .exact⟨a,.inl f⟩
 .exact⟨a,.inr ⟨g,b,e,q,J,p,i,j,k,l⟩⟩
def OI.other {w:qw}{zs:qi}(h:OI w base v zs)(a u)(ha:a.block<base):OI (w.setCell a u) base v zs:=by
 refine⟨?_,h.2⟩;obtain⟨b,f|⟨g,d,e,s,p,q,i,j,k,l⟩⟩:=h.1
 .exact⟨b,.inl f⟩
 .exact⟨b,.inr ⟨g,d,e,s,p,Blk.other (w:=w) q a u J,i,j,k,l⟩⟩
def OI.lt {w:qw}{d:qi}(h:OI w base v d):∀k,v.ownBlock=some k->base<=k/\k<w.heap.size:=h.1.lt
def OI.is {w:qw}{zs:qi}(h:OI w base (qS a n cap) zs):IS w a n cap zs:=by
 obtain⟨x,⟨b,j⟩|⟨g,p,f,e,u,l,k,q,s,t⟩⟩:=h.1
 .simp at b;obtain⟨rfl,rfl,rfl⟩:=b;exact⟨j,xC _,h.2,λd=>absurd rfl d,aO⟩
 .simp at e;obtain⟨rfl,rfl,rfl⟩:=e;refine⟨rfl,J,h.2,λd=>⟨g,0,rfl,λi hi=>?_⟩,k⟩;rw[Nat.zero_add,Blk.cell (w:=w) l]
  have:f.toList[i]?=(zs.map$ Value.int .i64)[i]?:=by
   grind
  grind
def RoomI (w:qw)(g n:Nat):Prop:=∃cur,Blk w g cur 3/\n<=cur.size
def RoomI.cell {w:qw}(h:RoomI w g n)(i)(hi:i<n):∃u,w.cell? (qR g i)=some u:=by
 obtain⟨a,b,d⟩:=h;rw[b.cell];exact⟨a[i],Jb⟩
def RoomI.frozen {w:qw}(h:RoomI w g n)(i):w.frozen? (qR g i)=false:=by
 obtain⟨b,a,d⟩:=h;exact a.frozen i
def aOf {w:qw}{d:qi}(h:OI w base (qS (qP g) n cap) d)(i)(hi:i<n)(z)(hz:wfi z):OI (w.setCell (qR g i)$ qI z) base (qS (qP g) n cap) (d.set i z):=by
 obtain⟨⟨u,q|⟨p,l,b,a,j,k,s,e,t,f⟩⟩,x⟩:=h
 .grind
 .simp at a;obtain⟨rfl,rfl,rfl⟩:=a;refine⟨⟨Jb,.inr ⟨g,cap,b.setIfInBounds i$ qI z,Jb,j,Blk.set (w:=w) k i _,by grind,e,by grind,?_⟩⟩,?_⟩
  .rw[List.length_set,xW,List.take_set,f,List.map_set]
  .grind
def aKa {w:qw}{d:qi}(h:OI w base (qS (qP g) n cap) d):RoomI w g n:=by
 obtain⟨⟨t,j|⟨i,f,b,a,s,e,k,l,p,q⟩⟩,u⟩:=h
 .grind
 .simp at a;obtain⟨rfl,rfl,rfl⟩:=a;exact⟨b,e,J⟩
def aX {w w':qw}{zs:qi}(d:Turn S w w')(h:OI w base v zs)(e:∀k,v.ownBlock=some k->¬S k):OI w' base v zs:=by
 refine⟨?_,h.2⟩;obtain⟨b,i|⟨a,f,g,rfl,s,t,j,l,p,q⟩⟩:=h.1
 .exact⟨b,.inl i⟩
 .exact⟨b,.inr ⟨a,f,g,rfl,s,aD d t$ e a rfl,j,l,p,q⟩⟩
def bT (k n:Nat):List Int:=(List.range n).map λi=>((k+i:Nat):Int)
def iV (zs:qi)(k m:Nat):List Int:=(List.range zs.length).map λi=>if i<m then ((k+i:Nat):Int) else zs.getD i 0
def aF0 (zs k):iV zs k 0=zs:=by
 apply List.ext_getElem
 .simp[iV]
 .intro i e d;simp[iV,d]
def aH9 (a k):iV a k a.length=bT k a.length:=by
 apply List.ext_getElem
 .simp[iV,bT]
 .intro i e d;simp[bT]at d;simp[iV,bT,d]
def aH8 (a k m)(h:m<a.length):(iV a k m).set m (((k+m:Nat):Int))=iV a k (m+1):=by
 apply List.ext_getElem
 .simp[iV]
 .intro i e d;simp only[iV,List.getElem_set,List.getElem_map,List.getElem_range]
  grind
def aAv (g n a base b)(k:Nat)(w)(h:OI w base (qS (qP g) n a) b)(hn:n<=5000000)(I:k<=20000000):
 qC 98 #[qS (qP g) n a,qI k] w λe w'=>e=.returned (qI ((k+n:Nat):Int))/\OI w' base (qS (qP g) n a) (bT k n)/\Turn (λj=>j=g) w w':=by
 have q:=h.is.1
 delta qC;go_in
 go_wp2;go_loopw [1,5] (λx i wr=>∃m:Nat,m<=n/\i=qI m/\x=qI ((k+m:Nat):Int)/\OI wr base (qS (qP g) n a) (iV b k m)/\Turn (λj=>j=g) w wr) (λ_ i _=>n-(intOf i).toNat)
 .exact⟨0,xC _,rfl,rfl,by rw[aF0];exact h,Turn.refl _ _⟩
 .obtain⟨m,H,rfl,rfl,f,y⟩:=hrel;by_cases l:m<n
  .have s:(m:Int)<(n:Int):=J
   let⟨u,hu⟩:=(aKa f).cell m l;have:=(aKa f).frozen m;have d:=aOf f m l (((k+m:Nat):Int)) Jh;rw[aH8 b k m J]at d
   have p:Turn (λj=>j=g) w (wr.setCell (qR g m)$ qI$ ((k+m:Nat):Int)):=
    y.trans ⟨rfl,rfl,rfl,by rw[aK];exact aO,λj G hs=>heap_setCell_other _ _ _ _ hs⟩
   have t:=zh d;have A:=zh p;obtain⟨K,B⟩:∃K:Int,K=((k+m:Nat):Int):=⟨_,rfl⟩;have:0<=K:=J
   have:K<=67108864:=J
   have E:=zh$ show K+1=((k+(m+1):Nat):Int)from J;rw[<-B]at t A⊢;clear B;go_wp2
   go_roundw
   .exact⟨m+1,J,by go_num,by rw[E.o],t.o,A.o⟩
   .simp[intOf];omega
  .have e:Zh (m=n):=by show m=n;omega
   go_wp2;go_ret;exact⟨aJ (by rw[e.o]),by rw[e.o,<-q,aH9]at f;rw[q]at f;exact f,y⟩
def aAu (a)(b k:Nat)(w):
 qC 98 #[qS a 0 b,qI k] w λe w'=>e=.returned (qI k)/\w=w':=by
 delta qC;go_in
 go_wp2;go_loop [1,5] (λx i=>i=qI 0/\x=qI k) (λ_ _=>0)
 .exact⟨rfl,rfl⟩
 .obtain⟨rfl,rfl⟩:=hrel;go_wp2;go_ret;exact⟨rfl,rfl⟩
def gY (a n b base i)(k:Nat)(w)(h:OI w base (qS a n b) i)(hn:n<=5000000:=by omega)(f:k<=20000000:=by omega):
 qC 98 #[qS a n b,qI k] w λe w'=>e=.returned (qI ((k+n:Nat):Int))/\OI w' base (qS a n b) (bT k n)/\Turn (λj=>(qS a n b).ownBlock=some j) w w':=by
 by_cases p:n=0
 .subst p;refine(aAu a b k w).mono λe w' d=>?_;obtain⟨rfl,rfl⟩:=d;have q:i=[]:=xE h.is.1;subst q;exact⟨rfl,h,Turn.refl _ _⟩
 .obtain⟨g,rfl⟩:∃g,a=some ⟨g,0,none⟩:=by
   obtain⟨x,⟨u,_⟩|⟨g,s,t,y,_⟩⟩:=h.1
   .grind
   .grind
  refine(aAv g n b base i k w h hn f).mono λe w' d=>⟨d.1,d.2.1,d.2.2.mono ?_⟩;intro j l;subst l;rfl
def aF4 (k n m)(h:m<n):(bT k n).getD m 0=((k+m:Nat):Int):=by simp[bT,xB,h]
def iE (a n g k w)(h:IS w a n g (bT k n))(hn:n<=5000000:=by omega)(s:k<=20000000:=by omega):
 qC 102 #[qS a n g,qI k] w λe w'=>e=.returned (qI ((k+n:Nat):Int))/\w=w':=by
 delta qC;go_in
 go_wp2;go_loop [1,5] (λx i=>∃m:Nat,m<=n/\i=qI m/\x=qI ((k+m:Nat):Int)) (λ_ i=>n-(intOf i).toNat)
 .exact⟨0,xC _,rfl,rfl⟩
 .obtain⟨m,t,rfl,rfl⟩:=hrel;by_cases d:m<n
  .have f:(m:Int)<(n:Int):=J
   obtain⟨b,l,rfl⟩:=h.addr J;have hc:=h.at m d;rw[aF4 k n m d]at hc;obtain⟨K,j⟩:∃K:Int,K=((k+m:Nat):Int):=⟨_,rfl⟩;have:0<=K:=J
   have:K<=67108864:=J
   have q:=zh$ show K+1=((k+(m+1):Nat):Int)from J;rw[<-j]at hc⊢;clear j;go_wp2
   go_round
   .exact⟨m+1,J,by go_num,by rw[q.o]⟩
   .simp[intOf];omega
  .have e:Zh (m=n):=by show m=n;omega
   go_wp2;go_ret;exact⟨aJ (by rw[e.o]),rfl⟩
def us (op:Int):Int:=
 if op=1\/op=25 then 0 else if op=2\/op=3\/op=21\/op=22 then 5 else if op=6\/(14<=op/\op<=19) then 7
 else if op=20\/op=23\/op=24 then 4 else if 4<=op/\op<=13 then 3 else -1
def aCi (op)(h:op<=0\/26<=op):us op=-1:=by
 unfold us;rw[if_neg J,if_neg J,if_neg J,if_neg J,if_neg J]
def aU5 (op):us op=-1\/us op=0\/us op=3\/us op=4\/us op=5\/us op=7:=by
 unfold us;split
 .simp
 .split
  .simp
  .grind
def wA (op:Int):op<=0\/26<=op\/op=1\/op=2\/op=3\/op=4\/op=5\/op=6\/op=7\/op=8\/op=9\/op=10\/op=11\/op=12\/op=13\/op=14\/op=15\/op=16\/op=17\/op=18\/op=19\/op=20\/op=21\/op=22\/op=23\/op=24\/op=25:=J
def mD (u:Int):Int:=if u%2=1 then 7 else 0
def mA (u:Int):Int:=if u/2%2=1 then 7 else 0
def mI (u:Int):Int:=if u/4=1 then 65535 else 0
def okU (u d a i:Int):Bool:=decide$ 0<=u/\0<=d/\d<=mD u/\0<=a/\a<=mA u/\0<=i/\i<=mI u
def okI (op d a i:Int):Bool:=okU (us op) d a i
def aIi (op w):
 qC 252 #[qI op] w λe w'=>e=.returned (qI$ us op)/\w=w':=by
 rcases wA op with h|h|rfl|rfl|rfl|rfl|rfl|rfl|rfl|rfl|rfl|rfl|rfl|rfl|rfl|rfl|rfl|rfl|rfl|rfl|rfl|rfl|rfl|rfl|rfl|rfl|rfl
 .have q:=zh$ aCi op$ Or.inl h;have e1:(op==1)=false:=Jc
  have l:(op==25)=false:=Jc
  have e2:(op==2)=false:=Jc
  have e3:(op==3)=false:=Jc
  have d:(op==21)=false:=Jc
  have t:(op==22)=false:=Jc
  have e6:(op==6)=false:=Jc
  have s:(op==20)=false:=Jc
  have f:(op==23)=false:=Jc
  have p:(op==24)=false:=Jc
  go_enter func252,ntmps252
  go_wp2;go_ret;exact⟨aJ q.o.symm,rfl⟩
 .have q:=zh$ aCi op$ Or.inr h;have e1:(op==1)=false:=Jc
  have l:(op==25)=false:=Jc
  have e2:(op==2)=false:=Jc
  have e3:(op==3)=false:=Jc
  have d:(op==21)=false:=Jc
  have t:(op==22)=false:=Jc
  have e6:(op==6)=false:=Jc
  have s:(op==20)=false:=Jc
  have f:(op==23)=false:=Jc
  have p:(op==24)=false:=Jc
  go_enter func252,ntmps252
  go_wp2;go_ret;exact⟨aJ q.o.symm,rfl⟩
 all_goals
  go_enter func252,ntmps252
  go_wp2;go_ret;exact⟨aJ Ja,rfl⟩
def aF8 (op d a i w):
 qC 172 #[.agg$ qW op d a i] w (qB w$ .bool$ okI op d a i):=by
 have f:=zh$ aIi op;unfold okI;have hu:=aU5 op;generalize us op=u at *;rcases hu with rfl|rfl|rfl|rfl|rfl|rfl
 all_goals
  go_enter func172,ntmps172
  go_wp2_with (go_at_call 252;refine(f.o _).mono ?_;rintro e b ⟨rfl,rfl⟩)
  all_goals
   go_ret;refine⟨aA ?_,bal⟩;rw[xJ];simp[okU,mD,mA,mI];try omega
