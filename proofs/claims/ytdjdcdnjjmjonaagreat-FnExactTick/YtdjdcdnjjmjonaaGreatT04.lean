import Derived.Deep.RegionLaw
import Derived.Deep.AppendLies
import Derived.Test.YtdjdcdnjjmjonaaGreatT03
set_option linter.all false
set_option maxHeartbeats 4000000
namespace Go.Proofs.YtdjdcdnjjmjonaaGreat
open Go.RowKit Go.Maps
open Go.Proofs.Tryz
set_option maxRecDepth 100000
variable {G:Prop}{P:PMod}{S:Nat->Prop}{V bss d k s w:Int}{a a0 a5:qO}{base bn c c0 c5 cap dn en g i im j lo lo' n rn tn:Nat}{bl:List Bk}{cs:Array Value}{m:Md}{ms':List Md}{nm:ByteArray}{ps:List PMod}{row:Option Nat}{ss:List ByteArray}{u v:Value}{xs:List Value}{β:Nat->Nat}
def tbf (n:Nat)(ms:List Md):Bool:=decide (n<=4)&&(List.range n).all λi=>decide$ (ms.getD i aL).en<=16
def aAf (a n u ms w)(h:MS w a n u ms):
 qC 291 #[qS a n u] w (qB w$ .bool$ tbf n ms):=by
 have:=h.2.1;let⟨r,g⟩:=aN$ tbf n ms;rw[<-g];unfold tbf at g;by_cases c1:4<n
 .have l:=zh (show r=false by rw[g,xS J];rfl);clear g;have q:(4:Int)<(n:Int):=J
  delta qC;go_in
  go_wp2;go_ret;exact⟨aA l.symm,brf⟩
 .have q:¬(4:Int)<(n:Int):=J
  have l:=zh (show r=(List.range n).all (λi=>decide$ (ms.getD i aL).en<=16)by rw[g,xR J];rfl);clear g
  delta qC;go_in
  go_wp2_with fail
  go_loopw [10] (λi wr=>∃k:Nat,k<=n/\i=qI k/\Hid (∀j,j<k->decide ((ms.getD j aL).en<=16)=true)/\qY w wr) (qf n)
  .exact⟨0,xC _,rfl,zh λj B=>J,brf⟩
  .obtain⟨k,F,rfl,A,p⟩:=hrel;by_cases b:k<n
   .have t:(k:Int)<(n:Int):=J
    obtain⟨bb,a0,rfl,V,W,X,Y,Z,q5,q6,q7⟩:=(h.bw p).at k b;have y:=zh$ jP (λi=>decide$ (ms.getD i aL).en<=16) n k b
    have x:=zh (show decide ((ms.getD k aL).en<=16)=true->∀j,j<k+1->decide ((ms.getD j aL).en<=16)=true from λh j B=>by
     by_cases e:j=k
     .subst e;exact h
     .exact A.out j J)
    generalize ms.getD k aL=m at *;obtain⟨U,ta,tn,tc,tz,E,H,G,bl,K,N,M,dz,I,ra,rn,rc,rz,Q,S,R,ss,O,s,P,es⟩:=m;dsimp only at V W X Y Z q5 q6 q7 y x;have f:=zh$ p.alloc p.size$ .cells (qM U ta tn tc E H G K N M I ra rn rc Q S R O s P) 128;by_cases d:16<s
    .have C:(16:Int)<(s:Int):=J
     go_wp2;go_ret;exact⟨aA (by rw[l.o];exact(y.o$ xS J).symm),f.o⟩
    .have C:¬(16:Int)<(s:Int):=J
     go_wp2
     go_roundw
     .exact⟨k+1,J,by go_num,zh$ x$ xR J,f⟩
     .simp[qf,intOf];omega
   .have D:=zh$ iQ (λi=>decide$ (ms.getD i aL).en<=16) n λj B=>A.out j J;go_wp2;go_ret;exact⟨aA (by rw[l.o];exact D.o.symm),p⟩
def rsT (n:Nat)(ms:List Md)(s:ByteArray):Option (Nat×Nat):=
 if gJ s=true/\tbf n ms=true then (fst? (dM ms) (eH s).data.toList n).bind λi=>(fst? (gT (ms.getD i aL).es) (fU s).data.toList (ms.getD i aL).en).map λk=>(i,k) else none
def rsv (n:Nat)(ms:List Md)(s:ByteArray):Value:=
 match rsT n ms s with
 | some (i,k)=>.tuple #[.agg #[qI i,qI ((ms.getD i aL).es.getD k zE).2.1,qI ((ms.getD i aL).es.getD k zE).2.2],.bool true]
 | none=>.tuple #[.agg$ qT 0 0 0,.bool false]
def fF {ms:List Md}{s:ByteArray}(h:rsT n ms s=none):rsv n ms s=.tuple #[.agg$ qT 0 0 0,.bool false]:=by unfold rsv;rw[h]
def aFe {ms:List Md}{s:ByteArray}{k:Nat}(h:rsT n ms s=some (i,k)):rsv n ms s=.tuple #[.agg #[.int .i64 i,.int .i64 ((ms.getD i aL).es.getD k zE).2.1,.int .i64 ((ms.getD i aL).es.getD k zE).2.2],.bool true]:=by unfold rsv;rw[h]
def yO (f:Nat->List UInt8)(s i):∀k,fst? f s k=some i->i<k
 | 0,h=>by cases h
 | k+1,h=>by
   rw[gK]at h;cases b:fst? f s k with
   | some j=>rw[b]at h;simp at h;subst h;have:=yO f s j k b;omega
   | none=>rw[b]at h;simp at h;omega
def aKh {H:Type}{a b:Int}(h:(DataW.lit (.int .i64 a):DataW H)=.lit (.int .i64 b)):b=a:=by grind
def aD3 (a n P ms s w)(h:MS w a n P ms)(hn:n<=1048576)(hs:s.size<=1048576)(hE:∀i,i<n->ES w (ms.getD i aL).ea (ms.getD i aL).en (ms.getD i aL).ec (ms.getD i aL).es/\(ms.getD i aL).en<=1048576):
 qC 258 #[.slice a n P,.string s] w (qB w$ rsv n ms s):=by
 let⟨W,hW,a0,kb⟩:=nwb w (qT 0 0 0) 121;have HW:=zh hW;clear hW;have j:=zh λw=>oS s w hs;let⟨V,hV⟩:=aN$ rsv n ms s;rw[<-hV];have u:=zh hV;clear hV;have a6:=zh λw h=>aAf a n P ms w h
 have a5:∀(X:qw)(x y z:Int),qY w X->Blk X w.heap.size (qT 0 0 0) 121 ->
  Blk (((X.setCell (qh w 0)$ .int .i64 x).setCell (qh w 1)$ .int .i64 y).setCell (qh w 2)$ .int .i64 z) w.heap.size (qT x y z) 121/\qY w (((X.setCell (qh w 0)$ .int .i64 x).setCell (qh w 1)$ .int .i64 y).setCell (qh w 2)$ .int .i64 z):=λX x y z hB k=>by
  refine⟨?_,((hB.setCell (p:=(qh w 0)) aO _).setCell (p:=(qh w 1)) aO _).setCell (p:=(qh w 2)) aO _⟩;have:=((k.set 0$ .int .i64 x).set 1$ .int .i64 y).set 2$ .int .i64 z;simpa using this
 have K:=zh a5;clear a5;cases hf:gJ s
 .have N:=zh (fF (n:=n) (ms:=ms) (s:=s) (by unfold rsT;rw[hf];simp));unfold aI5 at j;rw[hf]at j
  delta qC;go_in
  go_wp2_with (rw[<-HW.o])
  apply(j _).mono;rintro e w1 ⟨rfl,B⟩;have g:=kb.bw B;have q:=yT a0 B;let⟨R,f⟩:=K w1 0 0 0 q g;clear B kb a0;have q1:=g.three;let⟨s1,s2,s3,s4⟩:=R.three;clear g R;have Q:=zh f;clear f q;go_wp2;exact bodyPost_ret (v:=.tuple #[.agg$ qT 0 0 0,.bool false]) (by simp[results,results258,go_sem,s1,s2,s3]) rfl ⟨by rw[u.o,N.o],Q.o⟩
 .unfold aI5 at j;rw[hf]at j
  delta qC;go_in
  go_wp2_with (rw[<-HW.o])
  apply(j _).mono;rintro e w1 ⟨rfl,B⟩;have g:=kb.bw B;have q:=yT a0 B;clear B kb a0;have S:=h.bw q;generalize U:tbf n ms=tb at *;cases tb
  .have N:=zh (fF (n:=n) (ms:=ms) (s:=s) (by unfold rsT;rw[U];simp));clear U;go_wp2_with fail
   apply(a6 _ S).mono;rintro e w2 ⟨rfl,A⟩;have R:=g.bw A;have f:=yT q A;let⟨Z,l⟩:=K w2 0 0 0 f R;clear A g q S;have q1:=R.three;let⟨s1,s2,s3,s4⟩:=Z.three;have Q:=zh l;clear l f R Z;go_wp2;exact bodyPost_ret (v:=.tuple #[.agg$ qT 0 0 0,.bool false]) (by simp[results,results258,go_sem,s1,s2,s3]) rfl ⟨by rw[u.o,N.o],Q.o⟩
  .have HT:=zh (show rsT n ms s=(fst? (dM ms) (eH s).data.toList n).bind λi=>(fst? (gT (ms.getD i aL).es) (fU s).data.toList (ms.getD i aL).en).map λk=>(i,k)by unfold rsT;rw[hf,U];simp);clear U;have aa:Zh (keyOf prog 9 (.string$ eH s)=some (.string (eH s).data.toList)):=Go.WideMaps.keyOf_string_mk underlying9 (by have:=tK s hs;unfold maxLen;omega);have a7:Zh (keyOf prog 9 (.string$ fU s)=some (.string (fU s).data.toList)):=Go.WideMaps.keyOf_string_mk underlying9 (by have:=tJ s hs;unfold maxLen;omega);have ad:=zh λw h=>rK a n P ms w h hn;have a2:=zh$ rJ (dM ms) (eH s).data.toList n;have a4:=zh$ aPv (dM ms) (eH s).data.toList (.lit$ .int .i64 0) n;have a9:=zh λi=>yO (dM ms) (eH s).data.toList i n;go_wp2_with fail
   apply(a6 _ S).mono;rintro e w2 ⟨rfl,A⟩;have R:=g.bw A;have f:=yT q A;have h2:=h.bw f;clear A g q S;go_wp2_with fail
   apply(ad _ h2).mono;rintro e w3 ⟨rfl,H,a1⟩;have Z:=R.bw a1;have l:=yT f a1;have h3:=h.bw l;clear a1 R f h2;cases hi:fst? (dM ms) (eH s).data.toList n with
   | none=>
     have N:=zh (fF (n:=n) (ms:=ms) (s:=s) (by rw[HT.o,hi];rfl));have d:has (fd (dM ms) n) (.string (eH s).data.toList)=false:=by rw[<-a2.o,hi];rfl
     let⟨M,t⟩:=K w3 0 0 0 l Z;have q1:=Z.three;let⟨s1,s2,s3,s4⟩:=M.three;have Q:=zh t;clear t l Z M h3 hi;go_wp2_with (at_lookup;refine wpList_lookup_own_ok_int _ rfl _ _ 273 rfl 9 3 .i64 aAy underlying273 underlying3 (tP _) w2.heap.size n _ rfl H _ _ rfl aa.o ?_;intro c b I;clear b;rw[d])
     exact bodyPost_ret (v:=.tuple #[.agg$ qT 0 0 0,.bool false]) (by simp[results,results258,go_sem,s1,s2,s3]) rfl ⟨by rw[u.o,N.o],Q.o⟩
   | some i=>
     have a8:=a9 i hi;have d:has (fd (dM ms) n) (.string (eH s).data.toList)=true:=by rw[<-a2.o,hi];rfl
     have O:=zh (λ(c:Int)(b:(fd (dM ms) n).atKey (.string (eH s).data.toList) (.lit$ .int .i64 0)=.lit (.int .i64 c))=>show c=(i:Int)by rw[a4.o,hi]at b;exact aKh b);have ab:=zh (show rsT n ms s=(fst? (gT (ms.getD i aL).es) (fU s).data.toList (ms.getD i aL).en).map (λk=>(i,k))by rw[HT.o,hi];rfl);have ag:=zh λk(h:rsT n ms s=some (i,k))=>aFe h;obtain⟨bb,ah,rfl,y0,y1,y2,y3,y4,y5,y6,y7⟩:=h3.at i a8;let⟨e1,e2⟩:=hE i a8;have e3:=e1.bw l;clear e1 hi HT a2 a4 a9 h3;generalize ms.getD i aL=m at *;obtain⟨nm,ta,tn,tc,tz,ba,bn,bc,bl,da,dn,dc,dz,ak,ra,rn,rc,rz,ia,im,ic,ss,ea,en,ec,es⟩:=m;have af:=zh λw h=>rM ea en ec es w h e2;go_wp2_with (at_lookup;refine wpList_lookup_own_ok_int _ rfl _ _ 273 rfl 9 3 .i64 aAy underlying273 underlying3 (tP _) w2.heap.size n _ rfl H _ _ rfl aa.o ?_;intro c b I;have hc:=O.o c b;clear b I;subst hc;rw[d])
     apply(af _ e3).mono;rintro e w4 ⟨rfl,D,F⟩;have M:=Z.bw F;have t:=yT l F;have e4:=e3.bw F;have aj:qN w4 bb (ah+i*8+7)=some (.slice ea en ec):=(F.cell$ xD w3 _ y7).trans y7;clear F l Z e3 H y0 y1 y2 y3 y4 y5 y6 y7 O d;cases Y:fst? (gT es) (fU s).data.toList en with
     | none=>
       have N:=zh (fF (n:=n) (ms:=ms) (s:=s) (by rw[ab.o,Y];rfl));have d:has (fd (gT es) en) (.string (fU s).data.toList)=false:=by rw[<-rJ,Y];rfl
       let⟨G,C⟩:=K w4 0 0 0 t M;have q1:=M.three;let⟨s1,s2,s3,s4⟩:=G.three;have Q:=zh C;clear t C M G Y;go_wp2_with (at_lookup;refine wpList_lookup_own_ok_int _ rfl _ _ 273 rfl 9 3 .i64 aAy underlying273 underlying3 (tP _) w3.heap.size en _ rfl D _ _ rfl a7.o ?_;intro c b I;clear b;rw[d])
       exact bodyPost_ret (v:=.tuple #[.agg$ qT 0 0 0,.bool false]) (by simp[results,results258,go_sem,s1,s2,s3]) rfl ⟨by rw[u.o,N.o],Q.o⟩
     | some k=>
       have ae:=yO (gT es) (fU s).data.toList k en Y;have ai:(k:Int)<(en:Int):=J
       have N:=zh (ag.o k (by rw[ab.o,Y];rfl));have d:has (fd (gT es) en) (.string (fU s).data.toList)=true:=by rw[<-rJ,Y];rfl
       have O:=zh (λ(c:Int)(b:(fd (gT es) en).atKey (.string (fU s).data.toList) (.lit$ .int .i64 0)=.lit (.int .i64 c))=>show c=(k:Int)by rw[aPv,Y]at b;exact aKh b);obtain⟨eb,eo,rfl⟩:=e4.addr J;let⟨x0,x1,x2⟩:=e4.at k ae;generalize es.getD k zE=E at *;obtain⟨xn,xb,xa⟩:=E;dsimp only at x0 x1 x2 N;let⟨ac,a3⟩:=K w4 i xb xa t M;have G:=ac.alloc$ .cells #[.string xn,.int .i64 xb,.int .i64 xa] 209;have C:=a3.alloc a3.size$ .cells #[.string xn,.int .i64 xb,.int .i64 xa] 209;clear ac a3;have kl:=M.lt;have q1:=M.three;let⟨s1,s2,s3,s4⟩:=G.three;have Q:=zh C;clear t C M G Y e4;go_wp2_with (at_lookup;refine wpList_lookup_own_ok_int _ rfl _ _ 273 rfl 9 3 .i64 aAy underlying273 underlying3 (tP _) w3.heap.size en _ rfl D _ _ rfl a7.o ?_;intro c b I;have hc:=O.o c b;clear b I;subst hc;rw[d])
       exact bodyPost_ret (v:=.tuple #[.agg$ qT i xb xa,.bool true]) (by simp[results,results258,go_sem,s1,s2,s3]) rfl ⟨by rw[u.o,N.o],Q.o⟩
def aGp (f:Nat->List UInt8)(s){k j:Nat}(h:fst? f s k=some j):∀n,k<=n->fst? f s n=some j
 | 0,hn=>by
   grind
 | n+1,hn=>by
   by_cases e:k=n+1
   .grind
   .rw[gK,aGp f s h n J]
def aKl (f:Nat->List UInt8)(s){k:Nat}(h:fst? f s k=none)(e:f k=s)(b:k<n):fst? f s n=some k:=
 aGp f s (k:=k+1) (by rw[gK,h];simp[e]) n b
def aGo (f:Nat->List UInt8)(s){k:Nat}(h:fst? f s k=none)(e:f k≠s):fst? f s (k+1)=none:=by
 rw[gK,h];simp[e]
def aQm (n ms k)(b:k<n)(h:16<(ms.getD k aL).en):tbf n ms=false:=by
 unfold tbf
 grind
def aM5 (n ms)(b:n<=4)(h:∀j,j<n->(ms.getD j aL).en<=16):tbf n ms=true:=by
 unfold tbf
 grind
def aC5 (a n ac ms s w)(h:MS w a n ac ms)(hn:n<=1048576)(hs:s.size<=1048576)(hE:∀i,i<n->ES w (ms.getD i aL).ea (ms.getD i aL).en (ms.getD i aL).ec (ms.getD i aL).es/\(ms.getD i aL).en<=1048576):
 qC 164 #[qS a n ac,.string s] w (qB w$ rsv n ms s):=by
 let⟨W,hW,a1,kb⟩:=nwb w (qT 0 0 0) 121;have HW:=zh hW;clear hW;have HF:=zh λw=>rA s w hs;have HD:=zh λw=>aB3 s w hs;let⟨V,hV⟩:=aN$ rsv n ms s;rw[<-hV];have HV:=zh hV;clear hV
 have a7:∀(X:qw)(x y z:Int),qY w X->Blk X w.heap.size (qT 0 0 0) 121 ->
  Blk (((X.setCell (qh w 0)$ qI x).setCell (qh w 1)$ qI y).setCell (qh w 2)$ qI z) w.heap.size (qT x y z) 121/\qY w (((X.setCell (qh w 0)$ qI x).setCell (qh w 1)$ qI y).setCell (qh w 2)$ qI z):=λX x y z R k=>by
  refine⟨?_,((R.setCell (p:=(qh w 0)) aO _).setCell (p:=(qh w 1)) aO _).setCell (p:=(qh w 2)) aO _⟩;have:=((k.set 0$ qI x).set 1$ qI y).set 2$ qI z;simpa using this
 have t:=zh a7;clear a7;by_cases c1:4<n
 .have am:(4:Int)<(n:Int):=J
  have C:=zh (fF (n:=n) (ms:=ms) (s:=s) (by unfold rsT tbf;rw[xS$ show ¬n<=4 from J];simp));let⟨k2,S⟩:=t W 0 0 0 a1 kb;let⟨g,u,G,P⟩:=kb.three;let⟨s1,s2,s3,s4⟩:=k2.three;have A:=zh S;clear S a1 kb k2
  delta qC;go_in
  go_wp2_with (rw[<-HW.o])
  exact bodyPost_ret (v:=.tuple #[.agg$ qT 0 0 0,.bool false]) (by simp[results,results164,go_sem,s1,s2,s3]) rfl ⟨by rw[HV.o,C.o],A.o⟩
 .have am:¬(4:Int)<(n:Int):=J
  cases U:gJ s
  .rw[U]at HF;have C:=zh (fF (n:=n) (ms:=ms) (s:=s) (by unfold rsT;rw[U];simp));let⟨k2,S⟩:=t W 0 0 0 a1 kb;let⟨g,u,G,P⟩:=kb.three;let⟨s1,s2,s3,s4⟩:=k2.three;have A:=zh S;clear S a1 kb k2
   delta qC;go_in
   go_wp2_with (first|(rw[<-HW.o])|(go_at_call 244;refine(HF.o _).mono ?_;rintro e w1 ⟨rfl,rfl⟩))
   exact bodyPost_ret (v:=.tuple #[.agg$ qT 0 0 0,.bool false]) (by simp[results,results164,go_sem,s1,s2,s3]) rfl ⟨by rw[HV.o,C.o],A.o⟩
  .rw[U]at HF
   have ag:0<=dot s/\dot s<s.size:=by
    rcases tH s with h0|h0
    .exfalso;unfold gJ at U;rw[h0]at U;simp at U
    .exact h0
   have HT:Zh (tbf n ms=true->rsT n ms s=(fst? (dM ms) (eH s).data.toList n).bind λi=>(fst? (gT (ms.getD i aL).es) (fU s).data.toList (ms.getD i aL).en).map λk=>(i,k)):=λZ=>by unfold rsT;rw[U,Z];simp
   have a5:Zh (tbf n ms=false->rsT n ms s=none):=λZ=>by unfold rsT;rw[Z];simp
   clear U
   delta qC;go_in
   go_wp2_with (first|(rw[<-HW.o])|(go_at_call 244;refine(HF.o _).mono ?_;rintro e w1 ⟨rfl,rfl⟩))
   go_loopw [6] (λi wr=>∃k:Nat,k<=n/\i=qI k/\Hid (∀j,j<k->(ms.getD j aL).en<=16)/\qY w wr/\Blk wr w.heap.size (qT 0 0 0) 121) (qf n)
   .exact⟨0,xC _,rfl,zh λj hj=>J,a1,kb⟩
   .obtain⟨k,hk,rfl,O,R,kw⟩:=hrel;clear a1 kb;by_cases q:k<n
    .have af:(k:Int)<(n:Int):=J
     obtain⟨bb,a3,rfl,q0,g,u,G,P,q5,q6,N⟩:=(h.bw R).at k q
     have HG:=zh (show(ms.getD k aL).en<=16->∀j,j<k+1->(ms.getD j aL).en<=16 from λh j hj=>by
      by_cases e:j=k
      .subst e;exact h
      .exact O.out j J)
     have HB:=zh$ aQm n ms k q;generalize ms.getD k aL=m at *;obtain⟨nm,ta,tn,tc,tz,ba,bn,bc,bl,da,dn,dc,dz,an,ra,rn,rc,rz,ia,im,ic,ss,ea,en,ec,es⟩:=m;dsimp only at q0 g u G P q5 q6 N HB HG;by_cases d:16<en
     .have d':(16:Int)<(en:Int):=J
      have C:=zh$ fF$ a5$ HB d;let⟨k2,S⟩:=t wr 0 0 0 R kw;let⟨p1,p2,p3,p4⟩:=kw.three;let⟨s1,s2,s3,s4⟩:=k2.three;have A:=zh S;clear S R kw k2 q0 g u G P q5 q6;go_wp2;exact bodyPost_ret (v:=.tuple #[.agg$ qT 0 0 0,.bool false]) (by simp[results,results164,go_sem,s1,s2,s3]) rfl ⟨by rw[HV.o,C.o],A.o⟩
     .have d':¬(16:Int)<(en:Int):=J
      clear q0 g u G P q5 q6;go_wp2
      go_roundw
      .exact⟨k+1,J,by go_num,zh$ HG J,R,kw⟩
      .simp[qf,intOf];omega
    .have ai:k=n:=J
     subst ai;have M:=zh$ HT$ aM5 k ms J O.out;clear HT a5 O hk q;unfold eH fU at M;generalize dot s=p at *;obtain⟨p0,p1⟩:=ag;go_wp2_with (go_at_call 246;refine(HD.o _).mono ?_;rintro e w1 ⟨rfl,rfl⟩)
     go_loopw [8] (λi wx=>∃j:Nat,j<=k/\i=qI j/\Hid (fst? (dM ms) (s.extract 0 p.toNat).data.toList j=none)/\qY w wx/\Blk wx w.heap.size (qT 0 0 0) 121) (qf k)
     .exact⟨0,xC _,rfl,zh rfl,R,kw⟩
     .obtain⟨j,hj,rfl,O,f,kx⟩:=hrel;clear R kw;by_cases q:j<k
      .have af:(j:Int)<(k:Int):=J
       obtain⟨bb,a3,rfl,q0,g,u,G,P,q5,q6,N⟩:=(h.bw f).at j q;have H:=zh λe=>aGo (dM ms) (s.extract 0 p.toNat).data.toList O.out e;have D:=zh λe=>aKl (dM ms) (s.extract 0 p.toNat).data.toList O.out e q;let⟨e1,e2⟩:=hE j q;have e3:=e1.bw f;clear e1;have ae:=zh λi(h:rsT k ms s=some (j,i))=>aFe h;have Y:Zh (dM ms j=(s.extract 0 p.toNat).data.toList->rsT k ms s=(fst? (gT (ms.getD j aL).es) (s.extract (p+1).toNat s.size).data.toList (ms.getD j aL).en).map (λi=>(j,i))):=λe=>by rw[M.o,D.o e];rfl
       have b:Zh (dM ms j=(ms.getD j aL).nm.data.toList):=rfl;clear D O;generalize dM ms j=mj at *;generalize ms.getD j aL=m at *;obtain⟨nm,ta,tn,tc,tz,ba,bn,bc,bl,da,dn,dc,dz,an,ra,rn,rc,rz,ia,im,ic,ss,ea,en,ec,es⟩:=m;dsimp only at q0 g u G P q5 q6 N e2 e3 ae Y b;cases hq:(nm.toList==(s.extract 0 p.toNat).toList)
       .have a2:=zh (show mj≠(s.extract 0 p.toNat).data.toList from λe=>by
         rw[b.o]at e;rw[ByteArray.toList_eq,ByteArray.toList_eq,e]at hq
         simp at hq)
        clear g u G P q5 q6 N;go_wp2_with fail
        go_quiet (fail)
        go_wp2
        go_roundw
        .exact⟨j+1,J,by go_num,zh$ H a2,below_drewN f nq,kx.bw$ below_drewN brf nq⟩
        .simp[qf,intOf];omega
       .have ad:=zh (Y (by
         rw[b.o];rw[ByteArray.toList_eq,ByteArray.toList_eq]at hq
         simpa using hq))
        clear Y M H b;clear g u G P q5 q6;go_wp2_with fail
        go_quiet (fail)
        have a8:(wr.drewN nq).cell? (qR bb$ a3+j*8+7)=qk ea en ec:=((below_drewN (Below.refl wr.heap.size wr) nq).cell$ xD wr _ N).trans N;have e4:=e3.bw$ below_drewN (Below.refl wr.heap.size wr) nq;have aj:=below_drewN f nq;have k4:=kx.bw$ below_drewN (Below.refl wr.heap.size wr) nq;clear q0 N e3 f kx;generalize wr.drewN nq=w4 at *;go_wp2;go_loopw [9] (λi wy=>∃l:Nat,l<=en/\i=qI l/\Hid (fst? (gT es) (s.extract (p+1).toNat s.size).data.toList l=none)/\qY w4 wy) (qf en)
        .exact⟨0,xC _,rfl,zh rfl,brf⟩
        .obtain⟨l,hl,rfl,HL,B⟩:=hrel;have N:qN wr bb (a3+j*8+7)=qk ea en ec:=(B.cell$ xD w4 _ a8).trans a8;have I:=yT aj B;have k5:=k4.bw B;by_cases a4:l<en
         .have ao:(l:Int)<(en:Int):=J
          have e5:=e4.bw B;obtain⟨eb,eo,rfl⟩:=e5.addr J;let⟨x0,x1,x2⟩:=e5.at l a4;have H:=zh λe=>aGo (gT es) (s.extract (p+1).toNat s.size).data.toList HL.out e;have D:=zh λe=>aKl (gT es) (s.extract (p+1).toNat s.size).data.toList HL.out e a4;have b:Zh (gT es l=(es.getD l zE).1.data.toList):=rfl;have aa:=zh$ ae l;generalize gT es l=xl at *;generalize es.getD l zE=E at *;obtain⟨xn,xb,xa⟩:=E;dsimp only at x0 x1 x2 b aa;have F:qY wr (wr.alloc$ .cells #[.string xn,qI xb,qI xa] 209):=bal;have kE:=Blk.new wr #[.string xn,qI xb,qI xa] 209;have k6:=k5.bw F;have ab:=yT I F;have Q:=yT B F;clear I k5;have z1:=kE.three;cases K:(xn.toList==(s.extract (p+1).toNat s.size).toList)
          .have a2:=zh (show xl≠(s.extract (p+1).toNat s.size).data.toList from λe=>by
            rw[b.o]at e;rw[ByteArray.toList_eq,ByteArray.toList_eq,e]at K
            simp at K)
           go_wp2_with fail
           go_quiet (fail)
           go_wp2
           go_roundw
           .exact⟨l+1,J,by go_num,zh$ H a2,below_drewN Q nq⟩
           .simp[qf,intOf];omega
          .have C:=zh (aa (by
            rw[ad.o,D.o (by
             rw[b.o];rw[ByteArray.toList_eq,ByteArray.toList_eq]at K
             simpa using K)]
            rfl))
           go_wp2_with fail
           go_quiet (fail)
           have k7:=k6.bw$ below_drewN brf nq;have a6:=kE.bw$ below_drewN brf nq;have a9:=below_drewN ab nq;generalize (wr.alloc$ .cells #[.string xn,qI xb,qI xa] 209).drewN nq=w7 at *;clear z1 k6 kE ab Q F;have z1:=a6.three;let⟨k8,a0⟩:=t w7 j xb xa a9 k7;have g1:=k7.three;let⟨s1,s2,s3,s4⟩:=k8.three;have A:=zh a0;clear a0 a9 k7 k8 a6;go_wp2;exact bodyPost_ret (v:=.tuple #[.agg$ qT j xb xa,.bool true]) (by simp[results,results164,go_sem,s1,s2,s3]) rfl ⟨by rw[HV.o,C.o],A.o⟩
         .have ak:l=en:=J
          subst ak;have C:=zh (fF (n:=k) (ms:=ms) (s:=s) (by rw[ad.o,HL.out];rfl));let⟨k8,a0⟩:=t wr 0 0 0 I k5;have g1:=k5.three;let⟨s1,s2,s3,s4⟩:=k8.three;have A:=zh a0;clear a0 I k5 k8;go_wp2;exact bodyPost_ret (v:=.tuple #[.agg$ qT 0 0 0,.bool false]) (by simp[results,results164,go_sem,s1,s2,s3]) rfl ⟨by rw[HV.o,C.o],A.o⟩
      .have ah:j=k:=J
       subst ah;have C:=zh (fF (n:=j) (ms:=ms) (s:=s) (by rw[M.o,O.out];rfl));let⟨k8,a0⟩:=t wr 0 0 0 f kx;have g1:=kx.three;let⟨s1,s2,s3,s4⟩:=k8.three;have A:=zh a0;clear a0 f kx k8;go_wp2;exact bodyPost_ret (v:=.tuple #[.agg$ qT 0 0 0,.bool false]) (by simp[results,results164,go_sem,s1,s2,s3]) rfl ⟨by rw[HV.o,C.o],A.o⟩
def aCa {f g:Nat->List UInt8}{s:List UInt8}:∀k,(∀i,i<k->f i=g i)->fst? f s k=fst? g s k
 | 0,_=>rfl
 | k+1,h=>by rw[gK,gK,aCa k λi hi=>h i J,h k J]
def uS {f g:Nat->Bool}:∀n,(∀i,i<n->f i=g i)->(List.range n).all f=(List.range n).all g
 | 0,_=>rfl
 | n+1,h=>by grind
def aV9 (n:Nat)(ms ms':List Md):Prop:=∀i,i<n->(ms'.getD i aL).nm=(ms.getD i aL).nm/\(ms'.getD i aL).en=(ms.getD i aL).en/\(ms'.getD i aL).es=(ms.getD i aL).es
def aT4 {ms:List Md}{s:ByteArray}{k:Nat}(h:rsT n ms s=some (i,k)):i<n:=by
 unfold rsT at h;split at h
 .cases b:fst? (dM ms) (eH s).data.toList n with
  | none=>rw[b]at h;cases h
  | some j=>
    rw[b]at h;simp at h;obtain⟨d,a,rfl,rfl⟩:=h;exact yO _ _ _ _ b
 .cases h
def aLj {ms:List Md}{s:ByteArray}(h:aV9 n ms ms'):rsT n ms' s=rsT n ms s:=by
 unfold rsT
 have e1:tbf n ms'=tbf n ms:=by
  unfold tbf;rw[uS n (λi hi=>by rw[(h i hi).2.1])]
 have e2:fst? (dM ms') (eH s).data.toList n=fst? (dM ms) (eH s).data.toList n:=aCa n (λi hi=>by unfold dM;rw[(h i hi).1]);rw[e1,e2];cases b:fst? (dM ms) (eH s).data.toList n with
 | none=>rfl
 | some j=>
   let⟨_,a,d⟩:=h j$ yO _ _ _ _ b
   grind
def RowM.ms {W w:qw}{ms:List Md}(h:RowM W c n ms ms')(e:ms'.length=n)(b:MS w a n cap ms):MS W (qP c) n n ms':=by
 obtain⟨_,_,d⟩:=h;refine⟨e,b.2.1,λ_=>⟨c,0,rfl,λi hi=>?_⟩,λi hi=>aKs (b.2.2.2.1 i hi) (d i J).2,aO⟩
 grind
def RowM.same {W l:qw}{c':Nat}{ms x y:List Md}{w:qw}(b:MS w a n cap ms)(h:RowM W c n ms x)(p:x.length=n)(f:RowM l c' n ms y)(e:y.length=n):∀i,i<n->aQh (x.getD i aL) (y.getD i aL):=λi hi=>
 aFa (b.2.2.2.1 i hi).b.1 (h.2.2 i J).2 (f.2.2 i J).2
def cfo (s w k d:Int):Bool:=decide$ 0<=s/\s<=4/\1<=w/\w<=64/\0<=k/\k<=1024/\k%32=0/\0<=d/\d<=100
def aGl (x w):
 qC 284 #[qI x] w λe w'=>e=.returned (.bool$ decide$ 0<=x/\x%32=0)/\w=w':=by
 go_enter func284,ntmps284
 go_wp2
 all_goals
  go_ret;refine⟨aA ?_,rfl⟩;rw[xJ];simp;try omega
def aM2 (v m w):
 qC 141 #[qI v,qI m] w λe w'=>e=.returned (.bool$ decide$ 0<=v/\v<=m)/\w=w':=by
 go_enter func141,ntmps141
 go_wp2
 all_goals
  go_ret;refine⟨aA ?_,rfl⟩;rw[xJ];simp;try omega
def aAo (s c k d w):
 qC 162 #[.agg$ qW s c k d] w (qB w$ .bool$ cfo s c k d):=by
 have b:=zh$ (Below.refl w.heap.size w).alloc aO$ .cells (qW s c k d) 37;go_enter func162,ntmps162
 go_wp2
 all_goals
  go_ret;refine⟨aA ?_,b.o⟩;unfold cfo;rw[xJ];simp;try omega
def aA5 (s c k d w):
 qC 254 #[.agg$ qW s c k d] w (qB w$ .bool$ cfo s c k d):=by
 have p:=zh$ (Below.refl w.heap.size w).alloc aO$ .cells (qW s c k d) 37;have f:∀b:Bool,b=cfo s c k d ↔ (b=true ↔ (0<=s/\s<=4/\1<=c/\c<=64/\0<=k/\k<=1024/\k%32=0/\0<=d/\d<=100)):=λb=>by unfold cfo;rw[xJ];simp
 have f:=zh f;go_enter func254,ntmps254
 go_wp2_with (first
  | (go_at_call 284;refine(aGl _ _).mono ?_;rintro e l ⟨rfl,rfl⟩)
  | (go_at_call 141;refine(aM2 _ _ _).mono ?_;rintro e l ⟨rfl,rfl⟩))
 all_goals
  go_ret;refine⟨aA ?_,p.o⟩;rw[f.o];simp_all;try omega
def aCr (s c k d w):
 qC 26 #[.agg$ qW s c k d] w (qB w$ .agg$ qW s c k d):=by
 go_enter func26,ntmps26
 go_wp2;refine bodyPost_ret (v:=.agg$ qW s c k d) (by simp[results,results26,go_sem]) rfl ⟨rfl,?_⟩;exact((bal.alloc Jb _).alloc Jc _)
def Md.pm (m:Md):PMod:=⟨m.nm,m.tz,m.bl.map λB=>B.2.2.2,m.dz,m.bss,m.rz,m.ss,m.es⟩
def zP:PMod:=⟨⟨#[]⟩,[],[],[],0,[],[],[]⟩
def dm (P:PMod):Md:=⟨P.nm,none,P.tz.length,P.tz.length,P.tz,none,P.bl.length,P.bl.length,oI P.bl,none,P.dz.length,P.dz.length,P.dz,P.bss,none,P.rz.length,P.rz.length,P.rz,none,P.ss.length,P.ss.length,P.ss,none,P.es.length,P.es.length,P.es⟩
def Md.md (m:Md)(w:qw):Prop:=MD w m.nm m.ta m.tn m.tc m.tz m.ba m.bn m.bc m.bl m.da m.dn m.dc m.dz m.bss m.ra m.rn m.rc m.rz m.ia m.im m.ic m.ss m.ea m.en m.ec m.es
def aO0 {w:qw}(h:m.md w):mdo m.nm m.tn m.tz m.bn m.bl m.dn m.bss m.rn m.rz m.im m.ss m.en m.es=gX m.pm:=by
 have b:=h.b.1;have e:m.pm.bl.length=m.bn:=by simp[Md.pm,b]
 unfold gX;rw[show m.pm.tz.length=m.tn from h.t.1,show m.pm.dz.length=m.dn from h.d.1,show m.pm.rz.length=m.rn from h.r.1,show m.pm.ss.length=m.im from h.i.1,show m.pm.es.length=m.en from h.e.1,e,<-b];refine aRv (by rw[b];simp[oI,e]) λi hi=>?_;have:=(h.b.2.2.2.1 i J).1
 have:(oI m.pm.bl).getD i zB=(none,(m.bl.getD i zB).2.2.2.length,(m.bl.getD i zB).2.2.2.length,(m.bl.getD i zB).2.2.2):=by
  simp[oI,Md.pm,xB,hi]
 grind
abbrev Tg:=Int×Int×Int
def kQ (ps:List PMod)(s:ByteArray):Option Tg:=(rsT ps.length (ps.map dm) s).map λx=>((x.1:Int),((ps.getD x.1 zP).es.getD x.2 zE).2.1,((ps.getD x.1 zP).es.getD x.2 zE).2.2)
def tgV:Option Tg->Value
 | some t=>.tuple #[.agg$ qT t.1 t.2.1 t.2.2,.bool true]
 | none=>.tuple #[.agg$ qT 0 0 0,.bool false]
def iZ {α d:Type}(f:α->d)(l:List α)(i a b)(h:i<l.length:=by omega):(l.map f).getD i b=f (l.getD i a):=by
 simp[xB,h]
def aNu {ms:List Md}{s:ByteArray}(f:ms.length=n)(b:∀i,i<n->(ms.getD i aL).es.length=(ms.getD i aL).en):rsv n ms s=tgV (kQ (ms.map Md.pm) s):=by
 have p:rsT (ms.map Md.pm).length ((ms.map Md.pm).map dm) s=rsT n ms s:=by
  rw[xH,f];refine aLj λi hi=>?_;rw[List.map_map,iZ _ _ _ aL _];exact⟨rfl,by rw[<-b i hi];rfl,rfl⟩
 unfold kQ rsv;rw[p];cases e:rsT n ms s with
 | none=>rfl
 | some x=>
   obtain⟨i,k⟩:=x;have hi:=aT4 e;have l:(ms.map Md.pm).getD i zP=(ms.getD i aL).pm:=iZ _ _ _ aL _;simp only[Option.map_some,tgV,l];rfl
def zT:Tg:=(0,0,0)
abbrev aAc (ps:List PMod)(P:PMod):Prop:=∀i,i<P.ss.length->(kQ ps (P.ss.getD i zS)).isSome=true
def tgs (ps:List PMod)(P:PMod):List Tg:=(List.range P.ss.length).map λi=>(kQ ps$ P.ss.getD i zS).getD zT
def rnd (x:Int):Int:=(x+31)/32*32
def cU (P:PMod):Nat->Int
 | 0=>0
 | k+1=>cU P k+rnd (4*((P.bl.getD k []).length:Int))
def tsz (P:PMod):Int:=rnd$ 4*(P.tz.length:Int)
def msz (P:PMod):Int:=tsz P+cU P P.bl.length
def dsz (P:PMod):Int:=rnd$ (P.dz.length:Int)+P.bss
def Fl (ps:List PMod):Nat->Int
 | 0=>0
 | i+1=>Fl ps i+msz (ps.getD i zP)
def Ra (ps:List PMod):Nat->Int
 | 0=>0
 | i+1=>Ra ps i+dsz (ps.getD i zP)
structure Pl where
 text:Int
 banks:List Int
 data:Int
 size:Int
def plc (ps:List PMod)(i:Nat):Pl:=⟨Fl ps i,(List.range (ps.getD i zP).bl.length).map λk=>Fl ps i+tsz (ps.getD i zP)+cU (ps.getD i zP) k,65536+Ra ps i,dsz$ ps.getD i zP⟩
structure Lay where
 places:List Pl
 stack:Int
 slots:List Int
 flash:Int
 ram:Int
 targets:List (List Tg)
abbrev qL (L:Lay)(a:Option Addr)(b c:Nat)(d:Option Addr)(e f:Nat)(g:Option Addr)(h i:Nat):Array Value:=#[.slice a b c,.int .i64 L.stack,.slice d e f,.int .i64 L.flash,.int .i64 L.ram,.slice g h i]
abbrev qJ {α β:Type}(L:Lay)(a:qO)(xs:List α)(c:Nat)(d:qO)(f:Nat)(g:qO)(ts:List β)(i:Nat):Array Value:=qL L a xs.length c d L.slots.length f g ts.length i
def slt (ps:List PMod)(w k:Int)(i:Nat):Int:=65536+Ra ps ps.length+k+(i:Int)*rnd (4*w)
def lay (ps:List PMod)(s w k:Int):Lay:=⟨(List.range ps.length).map$ plc ps,65536+Ra ps ps.length,(List.range s.toNat).map$ slt ps w k,Fl ps ps.length,Ra ps ps.length+k+(s.toNat:Int)*rnd (4*w),(List.range ps.length).map λi=>tgs ps$ ps.getD i zP⟩
abbrev jH (ps:List PMod):Prop:=∀i,i<ps.length->gX (ps.getD i zP)=0
abbrev nms (ps:List PMod):Prop:=∀i,i<ps.length->∀k,k<i->(ps.getD k zP).nm≠(ps.getD i zP).nm
abbrev oH (ps:List PMod):Prop:=∀i,i<ps.length->aAc ps (ps.getD i zP)
abbrev oV (ps:List PMod)(w:Int):Prop:=∀i,i<ps.length->∀k,k<(ps.getD i zP).bl.length->(((ps.getD i zP).bl.getD k []).length:Int)<=w
def fE (ps:List PMod)(s w k d:Int):Int:=
 if cfo s w k d=false then 1 else if ps.length<1\/4<ps.length then 2 else if ¬jH ps then 3 else if ¬nms ps then 4 else 0
def lkc (ps:List PMod)(s w k d:Int):Int:=
 if fE ps s w k d≠0 then fE ps s w k d else if ¬oH ps then 5 else if 0<s/\¬oV ps w then 6 else if 16384<(lay ps s w k).flash then 7 else if 16384<(lay ps s w k).ram then 8 else 0
structure MSD (w:qw)(a:qO)(n cap:Nat)(ms:List Md):Prop where
 s:MS w a n cap ms
 d:∀i,i<n->(ms.getD i aL).md w
def MSD.bw {w w':qw}{ms:List Md}(h:MSD w a n cap ms)(b:qY w w'):MSD w' a n cap ms:=⟨h.s.bw b,λi hi=>MD.bw (h.d i hi) b⟩
def aF (ms:List Md):List PMod:=ms.map Md.pm
def cK (ms):(aF ms).length=ms.length:=by simp[aF]
def dB {ms:List Md}(h:i<ms.length:=by omega):(aF ms).getD i zP=(ms.getD i aL).pm:=iZ _ _ _ aL _ h
def L0:Lay:=⟨[],0,[],0,0,[]⟩
def lkL (ps:List PMod)(s w k d:Int):Lay:=if lkc ps s w k d=0 then lay ps s w k else L0
def aNj (h:cfo s w k d=false):fE ps s w k d=1:=if_pos h
def aNi (h:cfo s w k d=true)(b:ps.length<1\/4<ps.length):fE ps s w k d=2:=by
 unfold fE;rw[if_neg (by grind),if_pos b]
def aNh (h:cfo s w k d=true)(e:¬(ps.length<1\/4<ps.length))(i)(hi:i<ps.length)(b:gX (ps.getD i zP)≠0):fE ps s w k d=3:=by
 unfold fE;rw[if_neg (by grind),if_neg e,if_pos (λv=>b$ v i hi)]
def aTx (h:cfo s w k d=true)(f:¬(ps.length<1\/4<ps.length))(b:jH ps)(i j)(hi:i<ps.length)(e:j<i)(l:(ps.getD j zP).nm=(ps.getD i zP).nm):fE ps s w k d=4:=by
 unfold fE;rw[if_neg (by grind),if_neg f,if_neg (λv=>v b),if_pos (λv=>v i hi j e l)]
def aNk (h:cfo s w k d=true)(e:¬(ps.length<1\/4<ps.length))(b:jH ps)(f:nms ps):fE ps s w k d=0:=by
 unfold fE;rw[if_neg (by grind),if_neg e,if_neg (λv=>v b),if_neg (λv=>v f)]
def lE {B:Nat}{a W:qw}(h:Below B a W)(n):Below B a (W.drewN n):=⟨h.os,h.tape,h.output,h.size,h.block⟩
def aTu {a b:ByteArray}(h:a≠b):(a.toList==b.toList)=false:=by
 rw[beq_eq_false_iff_ne];intro e;apply h;rw[ByteArray.toList_eq,ByteArray.toList_eq]at e;cases a
 cases b
 simp at e;rw[e]
def eQ (x w)(b:0<=x:=by omega)(f:x<=4294967295:=by omega):qC 124 #[qI x] w λe a=>e=.returned (qI$ rnd x)/\a=w:=by
 go_enter func124,ntmps124
 go_wp2;go_ret;exact⟨aJ (by unfold rnd;rw[show x+31=x+32-1 from J]),rfl⟩
def Md.okS {w:qw}(h:m.md w):qC 163 #[.agg$ qM m.nm m.ta m.tn m.tc m.ba m.bn m.bc m.da m.dn m.dc m.bss m.ra m.rn m.rc m.ia m.im m.ic m.ea m.en m.ec] w (qB w$ qI$ gX m.pm):=by
 have:=aAn _ _ _ _ _ _ _ _ _ _ _ _ _ _ _ _ _ _ _ _ _ _ _ _ _ _ w h;rw[aO0 h]at this
 grind
def aF6 (a n a0 ms s c k d w)(h:MSD w a n a0 ms):
 qC 109 #[qS a n a0,.agg$ qW s c k d] w (qB w$ qI$ fE (aF ms) s c k d):=by
 have hA:qY w (w.alloc$ .cells (qW s c k d) 37):=bal;have hl:=h.s.1;have:=h.s.2.1;have a4:=cK ms;have HH:=zh h;have HC:=zh λW=>aAo s c k d W
 delta qC;go_in
 go_wp2_with fail
 apply(HC _).mono;rintro e w1 ⟨rfl,a7⟩;have y:=zh$ hA.trans$ a7.mono Jb;cases t:cfo s c k d with
 | false=>
   have x:=zh$ aNj (ps:=aF ms) t;go_wp2;go_ret;exact⟨aJ x.symm,y⟩
 | true=>
   by_cases U:n<1\/4<n
   .have x:=zh$ aNi (ps:=aF ms) t J;by_cases ab:n<1
    .have D:(n:Int)<1:=J
     go_wp2;go_ret;exact⟨aJ x.symm,y⟩
    .have D:¬(n:Int)<1:=J
     have a2:(4:Int)<(n:Int):=J
     go_wp2;go_ret;exact⟨aJ x.symm,y⟩
   have D:¬(n:Int)<1:=J
   have a2:¬(4:Int)<(n:Int):=J
   have N:=zh (show ¬((aF ms).length<1\/4<(aF ms).length)by rw[a4,hl];exact U);clear U;go_wp2;go_loopw [5] (λi wr=>∃m:Nat,m<=n/\i=qI m/\(∀j,j<m->gX ((aF ms).getD j zP)=0)/\qY w wr) (qf n)
   .exact⟨0,xC _,rfl,λj O=>absurd O J,y⟩
   .obtain⟨m,hm,rfl,f,B⟩:=hrel;by_cases a3:m<n
    .have Q:(m:Int)<(n:Int):=J
     have H:=HH.bw B;obtain⟨b,a5,rfl,q0,q1,q2,q3,q4,q5,q6,q7⟩:=H.s.at m a3;have A:=zh$ Md.okS$ H.d m a3;rw[<-dB]at A;have u:=zh f;have g:=zh B;let⟨V,P⟩:=aN$ gX$ (aF ms).getD m zP;rw[<-P]at A;have a1:=zh P;generalize ms.getD m aL=M at *;clear f B H P;go_wp2_with fail
     apply A.mono;rintro e w2 ⟨rfl,Y⟩;have X:=zh$ yT g Y;clear Y A g q0 q1 q2 q3 q4 q5 q6 q7;by_cases S:V=0
     .subst S
      have a6:=zh (show ∀j,j<m+1->gX ((aF ms).getD j zP)=0 from λj O=>by
       by_cases e:j=m
       .subst e;exact a1.symm
       .exact u j J)
      go_wp2
      go_roundw
      .exact⟨m+1,J,by go_num,a6,X⟩
      .simp[qf,intOf];omega
     .have a8:(V !=0)=true:=by simp[S]
      have x:=zh (aNh (ps:=aF ms) t N.o m J (by rw[<-a1.o];exact S));go_wp2;go_ret;exact⟨aJ x.symm,X⟩
    .have Q:¬(m:Int)<(n:Int):=J
     have u:Zh (jH$ aF ms):=λi hi=>f i J;have g:=zh B;clear f B;go_wp2;go_loopw [6] (λi wr=>∃m:Nat,m<=n/\i=qI m/\(∀i,i<m->∀k,k<i->((aF ms).getD k zP).nm≠((aF ms).getD i zP).nm)/\qY w wr) (qf n)
     .exact⟨0,xC _,rfl,λj O=>absurd O J,g⟩
     .obtain⟨p,hp,rfl,f,B⟩:=hrel;by_cases Z:p<n
      .have E:(p:Int)<(n:Int):=J
       have HP:=zh f;have K:=zh B;clear f B;go_wp2;go_loopw [7] (λi wr=>∃q:Nat,q<=p/\i=qI q/\(∀k,k<q->((aF ms).getD k zP).nm≠((aF ms).getD p zP).nm)/\qY w wr) (qf p)
       .exact⟨0,xC _,rfl,λj O=>absurd O J,K⟩
       .obtain⟨q,hq,rfl,f,B⟩:=hrel;by_cases R:q<p
        .have F:(q:Int)<(p:Int):=J
         have H:=HH.bw B;obtain⟨b,a5,rfl,q0,_⟩:=H.s.at q J;let⟨b',a9,e',r0,_⟩:=H.s.at p Z;simp at e';obtain⟨rfl,rfl⟩:=e';have e1:((aF ms).getD q zP).nm=(ms.getD q aL).nm:=by rw[dB];rfl
         have e2:((aF ms).getD p zP).nm=(ms.getD p aL).nm:=by rw[dB];rfl
         have HQ:=zh f;have C:=zh B;by_cases l:(ms.getD q aL).nm=(ms.getD p aL).nm
         .have x:=zh (aTx (ps:=aF ms) t N.o u.o p q J R (by rw[e1,e2];exact l));rw[l]at q0;generalize ms.getD p aL=M at *;clear f B H e1 e2 l;go_wp2_with fail
          go_quiet (fail)
          go_wp2;go_ret;exact⟨aJ x.symm,lE C nq⟩
         .have aa:=aTu l
          have I:=zh (show ∀k,k<q+1->((aF ms).getD k zP).nm≠((aF ms).getD p zP).nm from λk G=>by
           by_cases e:k=q
           .subst e;rw[e1,e2];exact l
           .exact HQ k J)
          generalize (ms.getD p aL).nm=N1 at *;generalize (ms.getD q aL).nm=N2 at *;clear f B H e1 e2 l;go_wp2_with fail
          go_quiet (fail)
          go_wp2
          go_roundw
          .exact⟨q+1,J,by go_num,I,lE C nq⟩
          .simp[qf,intOf];omega
        .have F:¬(q:Int)<(p:Int):=J
         have I:=zh (show ∀i,i<p+1->∀k,k<i->((aF ms).getD k zP).nm≠((aF ms).getD i zP).nm from λi hi k G=>by
          by_cases e:i=p
          .subst e;exact f k J
          .exact HP i J k G)
         have C:=zh B;clear f B;go_wp2
         go_roundw
         .exact⟨p+1,J,by go_num,I,C⟩
         .simp[qf,intOf];omega
      .have E:¬(p:Int)<(n:Int):=J
       have x:=zh$ aNk (ps:=aF ms) t N u λi hi k G=>f i J k G;have K:=zh B;clear f B;go_wp2;go_ret;exact⟨aJ x.symm,K⟩
structure Vm (nm:ByteArray)(tn:Nat)(tz:qi)(bn:Nat)(bl:List Bk)(dn:Nat)(bss:Int)(rn:Nat)(rz:qi)(im:Nat)(ss:List ByteArray)(en:Nat)(es:List Ex):Prop where
 n:nm.size<=12
 t:tn<=200
 tw:∀z∈tz,0<=z/\z<=4294967295
 b:bn<=4
 bw:∀i,i<bl.length->(bl.getD i zB).2.1<=64/\∀z∈(bl.getD i zB).2.2.2,0<=z/\z<=4294967295
 d:dn<=512
 s:0<=bss/\bss<=512
 r:rn<=16
 rw:∀i,i<rn->0<=rz.getD i 0/\rz.getD i 0<=512
 i:im<=16
 iw:∀i,i<im->(ss.getD i zS).size<=25
 e:en<=16
 ew:∀i,i<en->(es.getD i zE).1.size<=12/\-1<=(es.getD i zE).2.1/\(es.getD i zE).2.1<=4/\0<=(es.getD i zE).2.2/\(es.getD i zE).2.2<=200
def aJr {b:qi}(h:wds b=true):∀z∈b,0<=z/\z<=4294967295:=λz a=>by
 unfold wds at h
 grind
def qD {s:ByteArray}(h:nmo s=true):s.size<=12:=by
 unfold nmo at h
 grind
def aMo {s:ByteArray}(h:gJ s=true):s.size<=25:=by
 unfold gJ at h;simp only[Bool.and_eq_true,decide_eq_true_eq]at h;obtain⟨f,d,e⟩:=h;have a:=qD d;have b:=qD e;unfold eH at a;unfold fU at b;simp only[ByteArray.size_extract]at a b;omega
def aDa {f:Nat->Bool}(h:(List.range n).all f=true)(i)(hi:i<n):f i=true:=by grind
def nI {e:qi}{rz:qi}{es:List Ex}(p:bl.length=bn)(h:mdo nm tn e bn bl dn bss rn rz im ss en es=0):Vm nm tn e bn bl dn bss rn rz im ss en es:=by
 unfold mdo at h;by_cases g:nmo nm=false
 .grind
 rw[if_neg g]at h;by_cases c2:cdo tn e bn bl=false
 .grind
 rw[if_neg c2]at h;by_cases k:512<dn\/bss<0\/512<bss
 .grind
 rw[if_neg k]at h;by_cases a:rlo rn rz dn=false
 .grind
 rw[if_neg a]at h;by_cases d:imo im ss=false
 .grind
 rw[if_neg d]at h;by_cases b:exo tn bn bl en es=false
 .grind
 simp only[Bool.not_eq_false]at g c2 a d b;unfold cdo at c2;unfold rlo at a;unfold imo at d;unfold exo at b;simp only[Bool.and_eq_true,decide_eq_true_eq]at c2 a d b;obtain⟨⟨t,u⟩,w,j⟩:=c2
 have l:∀i,i<bl.length->(bl.getD i zB).2.1<=64/\∀z∈(bl.getD i zB).2.2.2,0<=z/\z<=4294967295:=λi hi=>by
  rw[List.all_eq_true]at j;have f:bl.getD i zB∈bl:=by grind
  have:=j _ f;unfold bko at this;simp only[Bool.and_eq_true,decide_eq_true_eq]at this;exact⟨this.1.2,aJr this.2⟩
 refine⟨qD g,t,aJr w,u,l,J,J,a.1,λi hi=>?_,d.1,λi hi=>aMo$ aDa d.2 i hi,b.1,λi hi=>?_⟩
 .have:=aDa a.2 i hi;unfold rlk at this
  grind
 .have:=aDa b.2 i hi;unfold ex1 at this;simp only[Bool.and_eq_true,decide_eq_true_eq]at this;obtain⟨⟨s,x,y⟩,_⟩:=this;have A:=qD s
  have q:pcn tn bn bl (es.getD i zE).2.1<=200/\(0<pcn tn bn bl (es.getD i zE).2.1->-1<=(es.getD i zE).2.1/\(es.getD i zE).2.1<=4):=by
   unfold pcn;split
   .omega
   .split
    .next h1 h2=>
     grind
    .omega
  grind
def clG (t:Tg):List Value:=[qI t.1,qI t.2.1,qI t.2.2]
def aTf:(prog.info? 121).map (λi=>(i.zero,i.size,i.bytes))=some (some$ .agg$ qT 0 0 0,3,24):=Je
def cC {α:Type}(t sz)(f:α->List Value)(w:qw)(base)(b:base<=w.heap.size):OG t sz f (w.alloc$ .cells #[] t) base (qS (qP w.heap.size) 0 0) []:=
 ⟨Jb,.inr ⟨w.heap.size,0,#[],rfl,b,heap_alloc_new w _,aO,Jf,Jb,Jb⟩⟩
def zR {a W W':qw}(h:qY a W)(b:W.grownBy W' row)(f:∀k,row=some k->a.heap.size<=k):qY a W':=
 aG h ⟨b.os,b.tape,b.output,b.size,λj hj(hs:¬row=some j)=>b.block j hj λe=>hs e.symm⟩ f h.size
def dD {W f:qw}{k:Nat}{t:TypeId}(h:Blk W k cs t)(b:W.grownBy f row)(p:some k≠row):Blk f k cs t:=
 aD (S:=λj=>row=some j) ⟨b.os,b.tape,b.output,b.size,λj l hs=>b.block j l λe=>hs e.symm⟩ h (λe=>p e.symm)
def tgN (ps:List PMod)(P:PMod)(m:Nat):List Tg:=(List.range m).map λi=>(kQ ps$ P.ss.getD i zS).getD zT
def jJ (ps P m):(tgN ps P m).length=m:=by simp[tgN]
def aE2 (ps P m){t:Tg}(h:kQ ps (P.ss.getD m zS)=some t):tgN ps P (m+1)=tgN ps P m++[t]:=by
 simp only[tgN,List.range_succ,List.map_append,List.map_cons,List.map_nil,h,Option.getD_some]
def aQl (ps P):tgN ps P P.ss.length=tgs ps P:=rfl
def cR (h:gX P=0):P.es.length<=16/\P.ss.length<=16/\P.tz.length<=200/\P.bl.length<=4/\P.dz.length<=512/\0<=P.bss/\P.bss<=512/\∀k,k<P.bl.length->(P.bl.getD k []).length<=64:=by
 have V:=nI (by simp[oI]) h;refine⟨V.e,V.i,V.t,V.b,V.d,V.s.1,V.s.2,λk b=>?_⟩;have:=(V.bw k (by simp[oI];exact b)).1;simpa[oI,xB,b]using this
def MSD.es {w:qw}{ms:List Md}(h:MSD w a n cap ms)(f:jH (aF ms)):∀i,i<n->ES w (ms.getD i aL).ea (ms.getD i aL).en (ms.getD i aL).ec (ms.getD i aL).es/\(ms.getD i aL).en<=1048576:=λi hi=>by
 have:=h.s.1;have e:=(h.d i hi).e;refine⟨e,?_⟩;have b:=(cR (f i (by rw[cK];omega))).1;rw[dB]at b;have:(ms.getD i aL).pm.es.length=(ms.getD i aL).en:=e.1;omega
def MSD.resS {w:qw}{ms:List Md}(h:MSD w a n cap ms)(b:jH (aF ms))(hn:n<=4)(s)(hs:s.size<=1048576):qC 164 #[qS a n cap,.string s] w (qB w$ tgV$ kQ (aF ms) s):=by
 have:=aC5 a n cap ms s w h.s J hs$ h.es b;rw[aNu h.s.1 λi hi=>(h.d i hi).e.1]at this;exact this
def MSD.resI {w:qw}{ms:List Md}(h:MSD w a n cap ms)(b:jH (aF ms))(hn:n<=4)(s)(hs:s.size<=1048576):qC 258 #[qS a n cap,.string s] w (qB w$ tgV$ kQ (aF ms) s):=by
 have:=aD3 a n cap ms s w h.s J hs$ h.es b;rw[aNu h.s.1 λi hi=>(h.d i hi).e.1]at this;exact this
def oP (a n a0 ms)(M:Md)(w)(h:MSD w a n a0 ms)(hv:jH (aF ms))(hn:n<=4)(hM:M.md w)(a4:gX M.pm=0):
 qC 110 #[qS a n a0,.agg$ qM M.nm M.ta M.tn M.tc M.ba M.bn M.bc M.da M.dn M.dc M.bss M.ra M.rn M.rc M.ia M.im M.ic M.ea M.en M.ec] w λe w'=>qY w w'/\((¬aAc (aF ms) M.pm/\∃v,e=.returned (.tuple #[v,.bool false]))\/(aAc (aF ms) M.pm/\∃a c,e=.returned (.tuple #[.slice a (tgs (aF ms) M.pm).length c,.bool true])/\OG 121 3 clG w' w.heap.size (.slice a (tgs (aF ms) M.pm).length c) (tgs (aF ms) M.pm))):=by
 let⟨iG,hi,af,ag,ah⟩:=info_parts aTf;have hA:qY w (w.alloc$ .cells (qM M.nm M.ta M.tn M.tc M.ba M.bn M.bc M.da M.dn M.dc M.bss M.ra M.rn M.rc M.ia M.im M.ic M.ea M.en M.ec) 128):=bal;have k0:=Blk.new w (qM M.nm M.ta M.tn M.tc M.ba M.bn M.bc M.da M.dn M.dc M.bss M.ra M.rn M.rc M.ia M.im M.ic M.ea M.en M.ec) 128;have aj:M.im<=16:=by have h1:=(cR a4).2.1;have h2:M.pm.ss.length=M.im:=hM.i.1;omega
 have a6:M.pm.ss.length=M.im:=hM.i.1;have HS:=zh λ(W:qw)(hb:qY w W)(s:ByteArray)(hs:s.size<=1048576)=>(h.bw hb).resS hv hn s hs;have HI:=zh hM.i;have O0:=cC 121 3 clG (w.alloc$ .cells (qM M.nm M.ta M.tn M.tc M.ba M.bn M.bc M.da M.dn M.dc M.bss M.ra M.rn M.rc M.ia M.im M.ic M.ea M.en M.ec) 128) w.heap.size hA.size;have U:=hA.trans$ ((Below.refl _$ w.alloc$ .cells (qM M.nm M.ta M.tn M.tc M.ba M.bn M.bc M.da M.dn M.dc M.bss M.ra M.rn M.rc M.ia M.im M.ic M.ea M.en M.ec) 128).alloc aO$ .cells #[] 121).mono hA.size;have k1:=k0.alloc$ .cells #[] 121;simp only[xF]at O0;have HP:=zh$ xA O0$ xA U k1;clear O0 hA U k0 k1 h hM a4
 delta qC;go_in
 go_wp2_with fail
 go_loopw [6,7] (λx i wr=>∃m:Nat,m<=M.im/\i=qI m/\(∀j,j<m->(kQ (aF ms)$ M.pm.ss.getD j zS).isSome=true)/\OG 121 3 clG wr w.heap.size x (tgN (aF ms) M.pm m)/\qY w wr/\Blk wr w.heap.size (qM M.nm M.ta M.tn M.tc M.ba M.bn M.bc M.da M.dn M.dc M.bss M.ra M.rn M.rc M.ia M.im M.ic M.ea M.en M.ec) 128) (λ_ i _=>M.im-(intOf i).toNat)
 .exact⟨0,xC _,rfl,λj V=>absurd V J,HP.1,HP.2.1,HP.2.2⟩
 .clear HP;obtain⟨m,hm,rfl,hs,O,B,k⟩:=hrel;have q6:=k.e6;obtain⟨a',c',rfl⟩:=aZ O;rw[jJ]at *;by_cases K:m<M.im
  .have Y:(m:Int)<(M.im:Int):=J
   let⟨_,_,a8,a5,_⟩:=HI.o;let⟨b,ak,a7,hc⟩:=a5 J;have c0:=((B.cell$ xD w _$ hc m K).trans$ hc m K);have ac:(M.ss.getD m zS).size<=1048576:=a8 _ (by have:=HI.o.1;simp[xB,show m<M.ss.length from J]);have HR:=zh$ HS wr B (M.ss.getD m zS) ac;rw[a7]at q6;clear a7;have HQ:=zh$ xA O$ xA B k;have Z:=zh hs;have D:=zh λt(h:kQ (aF ms) (M.ss.getD m zS)=some t)=>aE2 (ps:=aF ms) (P:=M.pm) m h;have l:=zh (λ(h:kQ (aF ms) (M.ss.getD m zS)=none)=>(show ¬aAc (aF ms) M.pm from λhk=>by have:=hk m (by rw[a6];exact K);rw[show M.pm.ss.getD m zS=M.ss.getD m zS from rfl,h]at this;cases this))
   have Q:=zh (λt(h:kQ (aF ms) (M.ss.getD m zS)=some t)=>(show ∀j,j<m+1->(kQ (aF ms)$ M.pm.ss.getD j zS).isSome=true from λj V=>by
    by_cases e:j=m
    .subst e;rw[show M.pm.ss.getD j zS=M.ss.getD j zS from rfl,h];rfl
    .exact Z j J))
   generalize M.ss.getD m zS=aa at *;clear O B k hs hc a8 a5 HI Z;go_wp2_with fail
   apply HR.mono;rintro e y ⟨rfl,p⟩;let⟨O,B,k⟩:=HQ.o;have S:=yT B p;cases ho:kQ (aF ms) aa with
   | none=>
     have E:=zh$ xA (S.trans$ ((Below.refl _ y).alloc aO$ .cells (qT 0 0 0) 121).mono S.size)$ l ho;clear O B k p S HQ HR D l Q q6 c0;unfold tgV;go_wp2
     go_ret2
     exact⟨E.1,.inl ⟨E.2,_,rfl⟩⟩
   | some t=>
     obtain⟨d,g,G⟩:=t;have q:qY y (y.alloc$ .cells (qT d g G) 121):=bal;have a9:(y.alloc$ .cells (qT d g G) 121).heap.size=y.heap.size+1:=Jb
     have k1:=Blk.new y (qT d g G) 121;have N:=(O.bw p).bw q;have R:=yT S q;have f:=(k.bw p).bw q;have ae:=zh$ D _ ho;have ad:=zh$ Q _ ho;let⟨x0,x1,x2,_⟩:=k1.three;clear O B k p S HQ HR D l Q q6 c0 q;generalize I:y.alloc (.cells (qT d g G) 121)=W1 at *;have a2:=zh (show(W1.alloc$ .cells (qT d g G) 121).ownsRow w.heap.size 121 3 (qS a' m c') m ((tgN (aF ms) M.pm m).flatMap clG)by have:=N.bw$ brf.alloc aO$ .cells (qT d g G) 121;unfold OG at this;rw[jJ]at this;exact this);have X:=zh$ xA N$ xA R f;have ai:=R.size;rw[<-I]at x0 x1 x2;have ab:=zh I;clear N R f k1 I;unfold tgV;go_wp2_with (at_builtin;rw[ab.o];refine wpList_append_own _ rfl _ _ 164 rfl w.heap.size 121 iG (.agg$ qT 0 0 0) 3 24 underlying164 hi af ag ah rfl Ja (qS a' m c') m ((tgN (aF ms) M.pm m).flatMap clG) rfl a2.o (qR (y.heap.size+1) 0) 1 1 (clG (d,g,G)) rfl rfl (by rw[<-a9];exact cA W1 _ _ (clG (d,g,G)) rfl) (by intro u hu;simp[clG]at hu;rcases hu with rfl|rfl|rfl<;>rfl) Jf J Jc ?_;intro v' w4 A F _)
     let⟨N,R,f⟩:=X.o;have H:qY W1 (W1.alloc$ .cells (qT d g G) 121):=bal;have C:∀j,(qS a' m c').ownBlock=some j->w.heap.size<=j:=λj V=>(N.lt j V).1
     have O4:OG 121 3 clG w4 (qs w) v' (tgN (aF ms) M.pm$ m+1):=by
      unfold OG;rw[jJ,ae.o,xU,xX];exact A
     have B4:=zR (yT R H) F C
     have k4:=dD (f.bw H) F (λe=>by
      let⟨cs,hk⟩:=aE N e.symm
      exact absurd (aH f hk) Ja)
     have E:=zh$ xA ad$ xA O4$ xA B4 k4;clear N R f H C O4 B4 k4 A F X a2 x0 x1 x2
     go_roundw
     .exact⟨m+1,J,by go_num,E.1,E.2.1,E.2.2.1,E.2.2.2⟩
     .simp[intOf];omega
  .have Y:¬(m:Int)<(M.im:Int):=J
   have HK:Zh (aAc (aF ms) M.pm):=λj V=>hs j J;have X:=zh$ xA B O;have a1:=zh (show tgN (aF ms) M.pm m=tgs (aF ms) M.pm by rw[<-aQl,a6,show m=M.im from J]);have a3:=zh (show m=(tgs (aF ms) M.pm).length by rw[<-a1.o,jJ]);clear B O k hs;go_wp2
   go_ret2
   refine⟨X.o.1,.inr ⟨HK.o,a',c',by rw[<-a3.o];rfl,?_⟩⟩;have:=X.2;rw[a1.o]at this;rw[<-a3.o];exact this
def OG.kept' {α:Type}{t:TypeId}{sz:Nat}{f:α->List Value}{w w':qw}{xs:List α}(h:OG t sz f w base v xs)(b:w.grownBy w' row)(p:∀k,v.ownBlock=some k->row≠some k):OG t sz f w' base v xs:=
 h.kept (S:=λj=>row=some j) ⟨b.os,b.tape,b.output,b.size,λj q hs=>b.block j q λe=>hs e.symm⟩ (λk l e=>p k l e)
structure OR {α β:Type}(th:TypeId)(hs:Nat)(hc:α->List Value)(tr:TypeId)(rs:Nat)(rc:β->List Value)(sv:α->Value)(ct:α->List β)(w:qw)(base lo:Nat)(v:Value)(xs:List α):Prop where
 head:OG th hs hc w base v xs
 rows:∀x∈xs,OG tr rs rc w lo (sv x) (ct x)
 apart:xs.Pairwise fun A B=>∀k,(sv A).ownBlock=some k->(sv B).ownBlock≠some k
section
variable {α β:Type}{th:TypeId}{hs:Nat}{hc:α->List Value}{tr:TypeId}{rs:Nat}{rc:β->List Value}{sv:α->Value}{ct:α->List β}{w w':qw}{base lo:Nat}{v:Value}{xs:List α}
def OR.bw (h:OR th hs hc tr rs rc sv ct w base lo v xs)(b:qY w w'):OR th hs hc tr rs rc sv ct w' base lo v xs:=⟨h.head.bw b,λx hx=>(h.rows x hx).bw b,h.apart⟩
def OR.mono {base':Nat}(h:OR th hs hc tr rs rc sv ct w base lo v xs)(e:base'<=base)(b:lo'<=lo):OR th hs hc tr rs rc sv ct w base' lo' v xs:=⟨h.head.mono e,λx hx=>(h.rows x hx).mono b,h.apart⟩
def OR.kept (h:OR th hs hc tr rs rc sv ct w base lo v xs)(t:Turn S w w')(b:∀k,v.ownBlock=some k->¬S k)(e:∀x∈xs,∀k,(sv x).ownBlock=some k->¬S k):OR th hs hc tr rs rc sv ct w' base lo v xs:=⟨h.head.kept t b,λx hx=>(h.rows x hx).kept t$ e x hx,h.apart⟩
def OR.lt (h:OR th hs hc tr rs rc sv ct w base lo v xs):(∀k,v.ownBlock=some k->base<=k/\k<w.heap.size)/\∀x∈xs,∀k,(sv x).ownBlock=some k->lo<=k/\k<w.heap.size:=⟨h.head.lt,λx hx=>(h.rows x hx).lt⟩
def aDl:OR th hs hc tr rs rc sv ct w base lo (qS none 0 0) []:=⟨gQ _ _ _ _ _,Jb,Jb⟩
def aOd (b:base<=w.heap.size):OR th hs hc tr rs rc sv ct (w.alloc$ .cells #[] th) base lo (qS (qP w.heap.size) 0 0) []:=⟨cC _ _ _ _ _ b,Jb,Jb⟩
def OR.push {k:Nat}{v':Value}{x:α}(h:OR th hs hc tr rs rc sv ct w base lo (qS a k c) xs)(M:xs.length=k)(hx:OG tr rs rc w lo' (sv x) (ct x))(F:lo<=lo')(p:∀A∈xs,∀j,(sv A).ownBlock=some j->j<lo')(D:w'.ownsRow base th hs v' (k+1) (xs.flatMap hc++hc x))(C:w.grownBy w' (qS a k c).ownBlock)(t:th≠tr):OR th hs hc tr rs rc sv ct w' base lo v' (xs++[x]):=by
 have f:∀(u:Value)(y:List β)(l:Nat),OG tr rs rc w l u y->∀j,u.ownBlock=some j->(qS a k c).ownBlock≠some j:=λu y l H j q e=>by
  let⟨i,d⟩:=aE H q;let⟨c2,g⟩:=aE h.head e;exact t$ aH g d
 refine⟨?_,?_,?_⟩
 .unfold OG
  grind
 .intro B b;rcases List.mem_append.1 b with b|b
  .exact(h.rows B b).kept' C (f _ _ _$ h.rows B b)
  .simp at b;subst b;exact(hx.kept' C$ f _ _ _ hx).mono F
 .rw[List.pairwise_append];refine⟨h.apart,Jb,λB b X E j q e=>?_⟩;simp at E;subst E;have:=p B b j q;have:=(hx.lt j e).1;omega
end
abbrev PB:=Pl×qO×Nat
def svP (x:PB):Value:=qS x.2.1 x.1.banks.length x.2.2
def clP (x:PB):List Value:=[qI x.1.text,svP x,qI x.1.data,qI x.1.size]
def ctP (x:PB):List Int:=x.1.banks
abbrev OPl:=OR 170 4 clP 3 1 clI svP ctP
abbrev TB:=List Tg×qO×Nat
def svT (x:TB):Value:=qS x.2.1 x.1.length x.2.2
def aEk (x:TB):List Value:=[svT x]
def ctT (x:TB):List Tg:=x.1
abbrev OTg:=OR 164 1 aEk 121 3 clG svT ctT
structure LayO (W:qw)(base:Nat)(L:Lay)(a0:qO)(c0:Nat)(xs:List PB)(a2:qO)(c2:Nat)(a5:qO)(c5:Nat)(ts:List TB):Prop where
 p:OPl W base base (qS a0 xs.length c0) xs
 ps:xs.map (fun x=>x.1)=L.places
 s:OG 3 1 clI W base (qS a2 L.slots.length c2) L.slots
 t:OTg W base base (qS a5 ts.length c5) ts
 tt:ts.map (fun x=>x.1)=L.targets
 sp:∀k,(qS a2 L.slots.length c2).ownBlock=some k->∀x∈xs,(svP x).ownBlock≠some k
def oG (L:Lay)(a0:qO)(c0:Nat)(xs:List PB)(a2:qO)(c2:Nat)(a5:qO)(c5:Nat)(ts:List TB):Array Value:=(qL L a0 xs.length c0 a2 L.slots.length c2 a5 ts.length c5)
def aTe:(prog.info? 170).map (λi=>(i.zero,i.size,i.bytes))=some (some$ .agg #[qI 0,qS none 0 0,qI 0,qI 0],4,48):=Je
def aPg:(prog.info? 164).map (λi=>(i.zero,i.size,i.bytes))=some (some$ qS none 0 0,1,24):=Je
def uV {w:qw}(h:m.md w)(k)(b:k<m.bn):(m.bl.getD k zB).2.1=(m.pm.bl.getD k []).length/\m.pm.bl.length=m.bn:=by
 have f:=h.b.1;refine⟨?_,by simp[Md.pm,f]⟩;have e:m.pm.bl.getD k []=(m.bl.getD k zB).2.2.2:=iZ _ _ _ zB _;rw[e];exact(h.b.2.2.2.1 k b).1.symm
def aA0 (a n V ms s c k d w)(h:MSD w a n V ms):
 qC 111 #[qS a n V,.agg$ qW s c k d] w λe w'=>e=.returned (.bool$ decide$ 0<s/\¬oV (aF ms) c)/\qY w w':=by
 have hA:qY w (w.alloc$ .cells (qW s c k d) 37):=bal;have k0:=Blk.new w (qW s c k d) 37;have hl:=h.s.1;have W:=h.s.2.1;unfold maxLen at W;have a7:=cK ms;have HH:=zh h;let⟨R,u⟩:=aN$ decide$ 0<s/\¬oV (aF ms) c;rw[<-u];have G:=zh u;clear u;have y:=zh$ xA hA k0;clear h hA k0
 delta qC;go_in
 go_wp2;go_loopw [5] (λi wr=>∃m:Nat,m<=n/\i=qI m/\(0<s->∀j,j<m->∀k,k<((aF ms).getD j zP).bl.length->((((aF ms).getD j zP).bl.getD k []).length:Int)<=c)/\qY w wr/\Blk wr w.heap.size (qW s c k d) 37) (qf n)
 .exact⟨0,xC _,rfl,λ_ j Q=>absurd Q J,y.1,y.2⟩
 .obtain⟨m,hm,rfl,U,B,x⟩:=hrel;by_cases N:m<n
  .have K:(m:Int)<(n:Int):=J
   have HV:=zh U;have A:=zh$ xA B x;clear U B x y;go_wp2;go_loopw [6] (λi wr=>∃q:Nat,q<=(ms.getD m aL).bn/\i=qI q/\(0<s->∀k,k<q->((((aF ms).getD m zP).bl.getD k []).length:Int)<=c)/\qY w wr/\Blk wr w.heap.size (qW s c k d) 37) (λi _=>(ms.getD m aL).bn-(intOf i).toNat)
   .exact⟨0,xC _,rfl,λ_ j Q=>absurd Q J,A.1,A.2⟩
   .obtain⟨q,hq,rfl,X,B,x⟩:=hrel;have H:=HH.bw B;obtain⟨b,ad,rfl,q0,q1,q2,_⟩:=H.s.at m N;have p:=H.d m N;have I:((aF ms).getD m zP).bl.length=(ms.getD m aL).bn:=by rw[dB];show(List.map _ _).length=_;rw[xH];exact p.b.1
    have P:=zh X;have a8:(ms.getD m aL).bn<=9223372036854775807:=by have:=p.b.2.1;unfold maxLen at this;omega
    by_cases t:q<(ms.getD m aL).bn
    .have C:(q:Int)<((ms.getD m aL).bn:Int):=J
     let⟨_,_,a1,a2,_⟩:=p.b;let⟨b2,ae,a0,hc⟩:=a1 J;have S:=hc q t;have f:=(uV p q t).1;rw[<-dB]at f;rw[a0]at q2;have y0:=x.e0;have y1:=x.e1;have l:=zh$ xA B x;obtain⟨L,g⟩:∃L:Nat,L=(((aF ms).getD m zP).bl.getD q []).length:=⟨_,rfl⟩;rw[<-g]at f;rw[f]at S;have a6:L<=9223372036854775807:=by have:=(a2 q t).2.1;rw[f]at this;unfold maxLen at this;omega
     have M:=zh (show(0<s->(L:Int)<=c)->0<s->∀k,k<q+1->((((aF ms).getD m zP).bl.getD k []).length:Int)<=c from λF Z k O=>by
      by_cases e:k=q
      .subst e;rw[<-g];exact F Z
      .exact P Z k J)
     have Y:Zh (0<s->c<(L:Int)->0<s/\¬oV (aF ms) c):=λF Z=>⟨F,λhs=>by have:=hs m J q J;rw[<-g]at this;omega⟩;generalize (ms.getD m aL).bl.getD q zB=bq at *;generalize (ms.getD m aL).bn=bn at *;obtain⟨a9,aa,ab,ac⟩:=bq;dsimp only at S f;clear X B H p I a0 hc a1 a2 g f q0 q1 x;by_cases E:0<s
     .by_cases a3:c<(L:Int)
      .have D:=zh$ Y E a3;go_wp2_with fail
       go_quiet (fail)
       go_wp2;go_ret;exact⟨aA (by rw[G.o,xR D.o]),lE l.o.1 nq⟩
      .have D:=zh$ M λ_=>J;go_wp2_with fail
       go_quiet (fail)
       go_wp2
       go_roundw
       .exact⟨q+1,J,by go_num,D,lE l.1 nq,l.2⟩
       .simp[qf,intOf];omega
     .have D:=zh$ M λe=>absurd e E;have a5:decide (0<s)=false:=xS E;go_wp2_with fail
      go_quiet (fail)
      go_wp2
      go_roundw
      .exact⟨q+1,J,by go_num,D,lE l.1 nq,l.2⟩
      .simp[qf,intOf];omega
    .have C:¬(q:Int)<((ms.getD m aL).bn:Int):=J
     have a4:=zh (show 0<s->∀j,j<m+1->∀k,k<((aF ms).getD j zP).bl.length->((((aF ms).getD j zP).bl.getD k []).length:Int)<=c from λF j Q k O=>by
      by_cases e:j=m
      .subst e;exact P F k J
      .exact HV F j J k O)
     have l:=zh$ xA B x;generalize (ms.getD m aL).bn=bn at *;clear X B H p I q0 q1 x;go_wp2
     go_roundw
     .exact⟨m+1,J,by go_num,a4,l.1,l.2⟩
     .simp[qf,intOf];omega
  .have K:¬(m:Int)<(n:Int):=J
   have D:Zh (¬(0<s/\¬oV (aF ms) c)):=λh=>h.2 λi hi k O=>U h.1 i J k O;have A:=zh B;clear U B x y;go_wp2;go_ret;exact⟨aA (by rw[G.o,xS D.o]),A.o⟩
def bC {x:Int}(h:0<=x:=by omega):x<=rnd x/\rnd x<=x+31:=by unfold rnd;omega
def iJ (h:gX P=0):0<=tsz P/\tsz P<=831:=by
 have:=(cR h).2.2.1;have:=bC (x:=4*(P.tz.length:Int));unfold tsz;omega
def cV {P:PMod}(h:gX P=0):∀k,k<=P.bl.length->0<=cU P k/\cU P k<=(k:Int)*287
 | 0,_=>by simp[cU]
 | k+1,hk=>by
   have:=cV h k J;have:=(cR h).2.2.2.2.2.2.2 k J;have:=bC (x:=4*((P.bl.getD k []).length:Int));show 0<=cU P k+rnd (4*((P.bl.getD k []).length:Int))/\cU P k+rnd (4*((P.bl.getD k []).length:Int))<=_;push_cast;omega
def iL (h:gX P=0):0<=dsz P/\dsz P<=1055:=by
 have:=cR h;have:=bC (x:=(P.dz.length:Int)+P.bss);unfold dsz;omega
def dE {ps:List PMod}(h:jH ps):∀i,i<=ps.length->0<=Fl ps i/\Fl ps i<=(i:Int)*1979
 | 0,_=>by simp[Fl]
 | i+1,hi=>by
   have:=dE h i J;have b:=h i J;have:=iJ b;have:=cV b _ aO;have:=(cR b).2.2.2.1;show 0<=Fl ps i+(tsz (ps.getD i zP)+cU (ps.getD i zP) (ps.getD i zP).bl.length)/\Fl ps i+(tsz (ps.getD i zP)+cU (ps.getD i zP) (ps.getD i zP).bl.length)<=_;push_cast;omega
def bL {ps:List PMod}(h:jH ps):∀i,i<=ps.length->0<=Ra ps i/\Ra ps i<=(i:Int)*1055
 | 0,_=>by simp[Ra]
 | i+1,hi=>by
   have:=bL h i J;have:=iL$ h i J;show 0<=Ra ps i+dsz (ps.getD i zP)/\Ra ps i+dsz (ps.getD i zP)<=_;push_cast;omega
def aQ {w:qw}{sz:Nat}{t e:TypeId}{k:Nat}(h:w.ownsRow base t sz v n xs)(f:v.ownBlock=some k)(l:Blk w k cs e)(b:t≠e):False:=by
 let⟨d,a⟩:=aE h f;exact b$ aH a l
def zL:Array Value:=qz
structure Lst (w W:qw)(s c k d:Int)(cs:Array Value):Prop where
 be:qY w W
 k0:Blk W w.heap.size (qW s c k d) 37
 k1:Blk W (w.heap.size+1) zL 65
 k5:Blk W (w.heap.size+5) cs 65
def Lst.bw {w W e:qw}{c:Int}(h:Lst w W s c k d cs)(b:qY W e):Lst w e s c k d cs:=⟨h.be.trans$ b.mono h.be.size,h.k0.bw b,h.k1.bw b,h.k5.bw b⟩
def Lst.set {w W:qw}{c:Int}(h:Lst w W s c k d cs)(i v):Lst w (W.setCell (qR (w.heap.size+5) i) v) s c k d (cs.setIfInBounds i v):=
 ⟨aG h.be (aC W (w.heap.size+5) i v) (λk b=>J) h.be.size,aD (aC W (w.heap.size+5) i v) h.k0 J,aD (aC W (w.heap.size+5) i v) h.k1 J,h.k5.set i v⟩
def Lst.other {w W:qw}{c:Int}(h:Lst w W s c k d cs)(e:w.heap.size+6<=g)(i v):Lst w (W.setCell (qR g i) v) s c k d cs:=
 ⟨aG h.be (aC W g i v) (λk b=>J) h.be.size,aD (aC W g i v) h.k0 J,aD (aC W g i v) h.k1 J,aD (aC W g i v) h.k5 J⟩
def Lst.grown {w W W':qw}{c:Int}(h:Lst w W s c k d cs)(b:W.grownBy W' row)(l:∀j,row=some j->w.heap.size+2<=j/\j≠w.heap.size+5):Lst w W' s c k d cs:=by
 have t:Turn (λj=>row=some j) W W':=⟨b.os,b.tape,b.output,b.size,λj f hs=>b.block j f λe=>hs e.symm⟩;exact⟨aG h.be t (λj f=>by grind) h.be.size,aD t h.k0 (λe=>by grind),aD t h.k1 (λe=>by grind),aD t h.k5 (λe=>by grind)⟩
def Lst.sz {w W:qw}{c:Int}(h:Lst w W s c k d cs):w.heap.size+6<=W.heap.size:=h.k5.lt
def Lst.drew {w W:qw}{c:Int}(h:Lst w W s c k d cs):Lst w W.drew s c k d cs:=⟨h.be.drew,h.k0,h.k1,h.k5⟩
structure Lrw (w W:qw)(ps:List PMod)(m:Nat)(a0:qO)(c0:Nat)(xs:List PB)(a5:qO)(c5:Nat)(ts:List TB):Prop where
 P:OPl W (w.heap.size+2) (w.heap.size+6) (qS a0 m c0) xs
 T:OTg W (w.heap.size+2) (w.heap.size+6) (qS a5 m c5) ts
 S:OG 3 1 clI W (w.heap.size+2) (qS (some (qR (w.heap.size+3) 0)) 0 0) []
 pl:xs.length=m
 tl:ts.length=m
 px:xs.map (fun x=>x.1)=(List.range m).map (plc ps)
 tx:ts.map (fun x=>x.1)=(List.range m).map fun i=>tgs ps (ps.getD i zP)
def Lg (w:qw)(j:Nat):Prop:=j=w.heap.size+5
def Lrw.kept {w W l:qw}{c:Int}{m:Nat}{xs:List PB}{ts:List TB}(h:Lrw w W ps m a0 c0 xs a5 c5 ts)(L:Lst w W s c k d cs)(t:Turn (Lg w) W l):Lrw w l ps m a0 c0 xs a5 c5 ts:=by
 have f:=L.k5;refine⟨h.P.kept t (λk b e=>?_) λx hx k b e=>?_,h.T.kept t (λk b e=>?_) λx hx k b e=>?_,h.S.kept t λk b e=>?_,h.pl,h.tl,h.px,h.tx⟩
 .rw[show k=w.heap.size+5 from e]at b;exact aQ h.P.head b f Ja
 .rw[show k=w.heap.size+5 from e]at b;exact aQ (h.P.rows x hx) b f Ja
 .rw[show k=w.heap.size+5 from e]at b;exact aQ h.T.head b f Ja
 .rw[show k=w.heap.size+5 from e]at b;exact aQ (h.T.rows x hx) b f Ja
 .rw[show k=w.heap.size+5 from e]at b;exact aQ h.S b f Ja
def Lrw.bw {w W e:qw}{m:Nat}{xs:List PB}{ts:List TB}(h:Lrw w W ps m a0 c0 xs a5 c5 ts)(b:qY W e):Lrw w e ps m a0 c0 xs a5 c5 ts:=⟨h.P.bw b,h.T.bw b,h.S.bw b,h.pl,h.tl,h.px,h.tx⟩
def bks (ps:List PMod)(i k:Nat):List Int:=(List.range k).map λj=>Fl ps i+tsz (ps.getD i zP)+cU (ps.getD i zP) j
def rU (ps i k):(bks ps i k).length=k:=by simp[bks]
def aP8 (ps i k):bks ps i (k+1)=bks ps i k++[Fl ps i+tsz (ps.getD i zP)+cU (ps.getD i zP) k]:=by simp[bks,List.range_succ]
def LkM (w:qw)(ps:List PMod)(s c k d:Int)(e:Ending)(w':qw):Prop:=qY w w'/\∃a0 c0 xs a2 c2 a5 c5 ts,e=.returned (.tuple #[.agg$ oG (lkL ps s c k d) a0 c0 xs a2 c2 a5 c5 ts,qI$ lkc ps s c k d])/\LayO w' w.heap.size (lkL ps s c k d) a0 c0 xs a2 c2 a5 c5 ts
def aRy (W base):LayO W base L0 none 0 [] none 0 none 0 []:=⟨aDl,rfl,gQ _ _ _ _ _,aDl,rfl,λk b=>by grind⟩
def aKf {w w':qw}{c:Int}(e:qY w w')(b:lkc ps s c k d=V)(f:V≠0):LkM w ps s c k d (.returned$ .tuple #[.agg zL,qI V]) w':=by
 refine⟨e,none,0,[],none,0,none,0,[],?_,?_⟩
 .unfold lkL;rw[if_neg (by grind),b];rfl
 .unfold lkL;rw[if_neg (by grind)];exact aRy _ _
def aTa (h:fE ps s w k d=V)(b:V≠0):lkc ps s w k d=V:=by unfold lkc;rw[if_pos (by grind),h]
def aS9 (h:fE ps s w k d=0)(b:¬oH ps):lkc ps s w k d=5:=by unfold lkc;rw[if_neg (by grind),if_pos b]
def aS8 (h:fE ps s w k d=0)(f:oH ps)(b:0<s/\¬oV ps w):lkc ps s w k d=6:=by unfold lkc;rw[if_neg (by grind),if_neg (λe=>e f),if_pos b]
def aS7 (h:fE ps s w k d=0)(l:oH ps)(f:¬(0<s/\¬oV ps w))(b:16384<(lay ps s w k).flash):lkc ps s w k d=7:=by unfold lkc;rw[if_neg (by grind),if_neg (λe=>e l),if_neg f,if_pos b]
def aS6 (h:fE ps s w k d=0)(p:oH ps)(l:¬(0<s/\¬oV ps w))(b:¬16384<(lay ps s w k).flash)(f:16384<(lay ps s w k).ram):lkc ps s w k d=8:=by unfold lkc;rw[if_neg (by grind),if_neg (λe=>e p),if_neg l,if_neg b,if_pos f]
def aTb (h:fE ps s w k d=0)(p:oH ps)(l:¬(0<s/\¬oV ps w))(b:¬16384<(lay ps s w k).flash)(f:¬16384<(lay ps s w k).ram):lkc ps s w k d=0:=by unfold lkc;rw[if_neg (by grind),if_neg (λe=>e p),if_neg l,if_neg b,if_neg f]
def vM (h:fE ps s w k d=0):cfo s w k d=true/\ps.length<=4/\jH ps:=by
 unfold fE at h;split at h
 .grind
 grind
def pO {a W:qw}(h:Turn S a W):Turn S a W.drew:=⟨h.os,h.tape,h.output,h.size,h.block⟩
def aV5 {S:Prop}(main:S->G)(pf:S):G:=main pf
def aV4 {S F:Nat->Nat->World->Prop}(main:(∀b e W,F b e W->S b e W)->G)(pf:∀b e W,F b e W->S b e W):G:=main pf
def aR1 (w s c k d ps):
 Lst w ((((((w.alloc$ .cells (qW s c k d) 37).alloc$ .cells qz 65).alloc$ .cells #[] 170).alloc$ .cells #[] 3).alloc$ .cells #[] 164).alloc$ .cells #[qS (some$ qR (w.heap.size+2) 0) 0 0,qI 0,qS (some$ qR (w.heap.size+3) 0) 0 0,qI 0,qI 0,qS (some$ qR (w.heap.size+4) 0) 0 0] 65) s c k d #[qS (some$ qR (w.heap.size+2) 0) 0 0,qI 0,qS (some$ qR (w.heap.size+3) 0) 0 0,qI 0,qI 0,qS (some$ qR (w.heap.size+4) 0) 0 0] /\
 Lrw w ((((((w.alloc$ .cells (qW s c k d) 37).alloc$ .cells qz 65).alloc$ .cells #[] 170).alloc$ .cells #[] 3).alloc$ .cells #[] 164).alloc$ .cells #[qS (some$ qR (w.heap.size+2) 0) 0 0,qI 0,qS (some$ qR (w.heap.size+3) 0) 0 0,qI 0,qI 0,qS (some$ qR (w.heap.size+4) 0) 0 0] 65) ps 0 (some$ qR (w.heap.size+2) 0) 0 [] (some$ qR (w.heap.size+4) 0) 0 []:=by
 have O:=Blk.new w (qW s c k d) 37;have K:qY w (w.alloc$ .cells (qW s c k d) 37):=bal;have s0:(w.alloc$ .cells (qW s c k d) 37).heap.size=w.heap.size+1:=Jb
 generalize w.alloc (.cells (qW s c k d) 37)=q at *;have F:=Blk.new q qz 65;have M:qY q (q.alloc$ .cells qz 65):=bal;have s1:(q.alloc$ .cells qz 65).heap.size=w.heap.size+2:=by simp[s0]
 rw[s0]at F;generalize q.alloc (.cells qz 65)=b at *;have C:OPl (b.alloc$ .cells #[] 170) (w.heap.size+2) (w.heap.size+6) (qS (qP b.heap.size) 0 0) []:=aOd J;have Q:qY b (b.alloc$ .cells #[] 170):=bal;have s2:(b.alloc$ .cells #[] 170).heap.size=w.heap.size+3:=by simp[s1]
 rw[s1]at C;generalize b.alloc (.cells #[] 170)=p at *;have E:=cC 3 1 clI p (w.heap.size+2) J;have I:qY p (p.alloc$ .cells #[] 3):=bal;have s3:(p.alloc$ .cells #[] 3).heap.size=w.heap.size+4:=by simp[s2]
 rw[s2]at E;generalize p.alloc (.cells #[] 3)=e at *;have D:OTg (e.alloc$ .cells #[] 164) (w.heap.size+2) (w.heap.size+6) (qS (qP e.heap.size) 0 0) []:=aOd J;have H:qY e (e.alloc$ .cells #[] 164):=bal;have R:(e.alloc$ .cells #[] 164).heap.size=w.heap.size+5:=by simp[s3]
 rw[s3]at D;generalize e.alloc (.cells #[] 164)=A at *;have B:=Blk.new A #[qS (some$ qR (w.heap.size+2) 0) 0 0,qI 0,qS (some$ qR (w.heap.size+3) 0) 0 0,qI 0,qI 0,qS (some$ qR (w.heap.size+4) 0) 0 0] 65;have N:qY A (A.alloc$ .cells #[qS (some$ qR (w.heap.size+2) 0) 0 0,qI 0,qS (some$ qR (w.heap.size+3) 0) 0 0,qI 0,qI 0,qS (some$ qR (w.heap.size+4) 0) 0 0] 65):=bal;rw[R]at B;have f:=N;have l:=H.trans$ f.mono J;have y:=I.trans$ l.mono J;have t:=Q.trans$ y.mono J;have x:=M.trans$ t.mono J;exact⟨⟨K.trans$ x.mono J,O.bw x,F.bw t,B⟩,⟨C.bw y,D.bw f,E.bw l,rfl,rfl,rfl,rfl⟩⟩
def st6 (W:qw)(k:Nat)(v0 v1 v2 v3 v4 v5:Value):World:=(((((W.setCell (qR k 0) v0).setCell (qR k 1) v1).setCell (qR k 2) v2).setCell (qR k 3) v3).setCell (qR k 4) v4).setCell (qR k 5) v5
def cZ (W k v0 v1 v2 v3 v4 a):Turn (λj=>j=k) W (st6 W k v0 v1 v2 v3 v4 a):=
 (((((aC W k 0 v0).trans$ aC _ k 1 v1).trans$ aC _ k 2 v2).trans$ aC _ k 3 v3).trans$ aC _ k 4 v4).trans (aC _ k 5 a)
def mH {W:qw}{k:Nat}{t:TypeId}(h:Blk W k zL t)(v0 v1 v2 v3 v4 a):Blk (st6 W k v0 v1 v2 v3 v4 a) k #[v0,v1,v2,v3,v4,a] t:=
 (((((h.set 0 v0).set 1 v1).set 2 v2).set 3 v3).set 4 v4).set 5 a
def aR2 {w W:qw}(e:Blk W (w.heap.size+1) zL 65)(v0 v1 v2 v3 v4 a)(Q:Ending->World->Prop)(tmps)(f:tmps[4]?=some (.pointer$ some$ qR (w.heap.size+1) 0))(b:Q (.returned$ .agg #[v0,v1,v2,v3,v4,a]) (st6 W (w.heap.size+1) v0 v1 v2 v3 v4 a)):
 bodyPost prog f112 Q Exit.ret ⟨tmps,[]⟩ (st6 W (w.heap.size+1) v0 v1 v2 v3 v4 a):=by
 have k:=mH e v0 v1 v2 v3 v4 a;let⟨d,g,i,j,l,p⟩:=k.z6;refine bodyPost_ret_by (v:=.agg #[v0,v1,v2,v3,v4,a]) ?_ rfl b;simp[results,results112,go_sem,f,d,g,i,j,l,p]
def aGs:∀(xs:List Tg)(i:Nat),i<xs.length->(xs.flatMap clG)[i*3]?=some (qI (xs.getD i zT).1)/\(xs.flatMap clG)[i*3+1]?=some (qI (xs.getD i zT).2.1)/\(xs.flatMap clG)[i*3+2]?=some (qI (xs.getD i zT).2.2)
 | [],i,h=>by grind
 | x::xs,0,h=>by simp[clG]
 | x::xs,i+1,h=>by
   obtain⟨a,b,d⟩:=aGs xs i (by grind);rw[show(i+1)*3=i*3+1+1+1 from J];simp only[xT,clG,List.cons_append,List.nil_append,List.getElem?_cons_succ]
   grind
def aUd {w:qw}{xs:List Tg}(h:OG 121 3 clG w base (qS a n c) xs)(m)(b:m<n):∃g,a=some (qR g 0)/\w.cell? (qR g$ m*3)=some (qI (xs.getD m zT).1)/\w.cell? (qR g$ m*3+1)=some (qI (xs.getD m zT).2.1)/\w.cell? (qR g$ m*3+2)=some (qI (xs.getD m zT).2.2):=by
 let⟨f,_,_,d⟩:=aY h;let⟨g,e,hc⟩:=d J;let⟨e0,e1,e2⟩:=aGs xs m J
 grind
def zTB:TB:=([],none,0)
def aOb {w:qw}{b:List TB}(h:OTg w base lo (qS a n c) b)(i)(hi:i<n):∃g,a=some (qR g 0)/\w.cell? (qR g i)=some (svT$ b.getD i zTB)/\OG 121 3 clG w lo (svT$ b.getD i zTB) (b.getD i zTB).1:=by
 let⟨f,_,_,d⟩:=aY h.head;let⟨g,e,hc⟩:=d J;refine⟨g,e,hc i _ ?_,h.rows _ (by grind)⟩;rw[show b.flatMap aEk=b.map svT from dS _ _]
 grind
def zPB:PB:=(⟨0,[],0,0⟩,none,0)
def aGq:∀(xs:List PB)(i:Nat),i<xs.length->(xs.flatMap clP)[i*4]?=some (qI (xs.getD i zPB).1.text)/\(xs.flatMap clP)[i*4+1]?=some (svP$ xs.getD i zPB)/\(xs.flatMap clP)[i*4+2]?=some (qI (xs.getD i zPB).1.data)/\(xs.flatMap clP)[i*4+3]?=some (qI (xs.getD i zPB).1.size)
 | [],i,h=>by grind
 | x::xs,0,h=>by simp[clP]
 | x::xs,i+1,h=>by
   have:=aGq xs i (by grind);rw[show(i+1)*4=i*4+1+1+1+1 from J];simp only[xT,clP,List.cons_append,List.nil_append,List.getElem?_cons_succ]
   grind
def aOe {w:qw}{xs:List PB}(h:OPl w base lo (qS a n c) xs)(i)(hi:i<n):∃g,a=some (qR g 0)/\w.cell? (qR g$ i*4)=some (qI (xs.getD i zPB).1.text)/\w.cell? (qR g$ i*4+1)=some (svP$ xs.getD i zPB)/\w.cell? (qR g$ i*4+2)=some (qI (xs.getD i zPB).1.data)/\w.cell? (qR g$ i*4+3)=some (qI (xs.getD i zPB).1.size)/\OG 3 1 clI w lo (svP$ xs.getD i zPB) (xs.getD i zPB).1.banks:=by
 let⟨e,_,_,b⟩:=aY h.head;let⟨g,d,hc⟩:=b J;let⟨e0,e1,e2,e3⟩:=aGq xs i J;exact⟨g,d,hc _ _ e0,hc _ _ e1,hc _ _ e2,hc _ _ e3,h.rows _ (by grind)⟩
structure LayR (L:Lay):Prop where
 p:∀x∈L.places,∀z∈x.banks,wfi z
 s:∀z∈L.slots,wfi z
 n:L.places.length<=1048576/\L.targets.length<=1048576/\∀x∈L.targets,x.length<=1048576
abbrev Rw3:=qO×Nat×Nat
def aWl (h:cs[i]?=some u):i<cs.size:=by grind
def dK {v:Value}(h:cs[j]?=some u)(hn:i≠j:=by omega):(cs.setIfInBounds i v)[j]?=some u:=by grind
def aWa (h:cs[i]?=some u):(cs.setIfInBounds i v)[i]?=some v:=by grind
def aG5 (xs:List Nat)(bl:List Bk)(i:Nat):qO×Nat×Nat:=(some$ qR (xs.getD i 0) 0,(bl.getD i zB).2.1,(bl.getD i zB).2.1)
def aBl (xs:List Nat)(a:List Bk):∀n,cD (aG5 xs a) n=upS (λj=>(a.getD j zB).2.1) n
 | 0=>rfl
 | n+1=>by show cD (aG5 xs a) n+_=upS _ n+_;rw[aBl xs a n];rfl
def aUh {K:qO}{b:Nat}{y:qi}{Q:qO}{R:Nat}{d:qO}{F:Nat}{A:qi}{ra:qO}{rc:Nat}{rz:qi}{Y:qO}{s:Nat}{U:qO}{O:Nat}{es:List Ex}{w W:qw}{t f l x q p:Nat}{e:List Nat}(h:MT w nm K tn b y Q bn R bl d dn F A bss ra rn rc rz Y im s ss U en O es)(G:e.length=bn)
 (H:RowI W t y) (Z:RowB W f bn e bl) (N:Row8 W l A) (I:RowI W x rz) (E:RowT W q ss) (X:RowX W p es) {S:Nat->Prop} (s1:S t) (s2:¬S f) (B:∀i,i<bn->S (e.getD i 0)) (s3:S l) (M:S x) (C:S q) (D:S p):
 Sl S W (qP t) tn 1/\SlB S W (qP f) bn (aG5 e bl)/\Sl S W (qP l) dn 1/\Sl S W (qP x) rn 1/\Sl S W (qP q) im 1/\Sl S W (qP p) en 3:=by
 obtain⟨⟨a,g,P,hc⟩,j,_⟩:=Z;obtain⟨⟨u,hx,k⟩,_⟩:=X;refine⟨Sl.ofBlk (c:=b) H s1 (by simp[h.t.1]),⟨λ_=>⟨f,0,a,_,rfl,s2,g,λi hi=>by rw[Nat.zero_add];exact hc i J⟩,λi hi=>?_⟩,Sl.ofBlk (c:=b) N s3 (by simp[h.d.1]),Sl.ofBlk (c:=b) I M (by simp[h.r.1]),Sl.ofBlk (c:=b) E C (by simp[h.i.1]),Sl.ofBlk (c:=b) hx D (by rw[k,h.e.1];exact aO)⟩;exact Sl.ofBlk (c:=b) (j i J).1 (B i hi) (by have e1:(aG5 e bl i).2.1=(bl.getD i zB).2.1:=rfl;have e2:=(h.b.2.2.2.1 i hi).1;rw[e1,List.size_toArray,xH,e2];omega)
def Ar8 (cs:Array Value)(o:Nat)(m:Md):Prop:=(∃u,cs[o]?=some u)/\cs[o+1]?=some (qS m.ta m.tn m.tc)/\cs[o+2]?=some (qS m.ba m.bn m.bc)/\cs[o+3]?=some (qS m.da m.dn m.dc)/\(∃u,cs[o+4]?=some u)/\cs[o+5]?=some (qS m.ra m.rn m.rc)/\cs[o+6]?=some (qS m.ia m.im m.ic)/\cs[o+7]?=some (qS m.ea m.en m.ec)
def aTi (h:∃u,cs[j]?=some u):∃u,(cs.setIfInBounds i v)[j]?=some u:=by grind
def aSq {o:Nat}(h:Ar8 cs (o*8) m)(b:j=0\/j=4):Ar8 (cs.setIfInBounds (i*8+j) v) (o*8) m:=
 ⟨aTi h.1,dK h.2.1,dK h.2.2.1,dK h.2.2.2.1,aTi h.2.2.2.2.1,dK h.2.2.2.2.2.1,dK h.2.2.2.2.2.2.1,dK h.2.2.2.2.2.2.2⟩
structure Rws (S:Nat->Prop)(W:qw)(c:Nat)(m:Md)(f:Nat->Rw3):Prop where
 t:Sl S W m.ta m.tn 1
 b:SlB S W m.ba m.bn f
 d:Sl S W m.da m.dn 1
 r:Sl S W m.ra m.rn 1
 i:Sl S W m.ia m.im 1
 e:Sl S W m.ea m.en 3
 g:∀g o,m.ba=some (qR g o)->g≠c
def Rws.kept {W b:qw}{f:Nat->Rw3}(h:Rws S W c m f)(k:Mkd S W b):Rws S b c m f:=
 ⟨h.t.shp k.shp,h.b.kept k,h.d.shp k.shp,h.r.shp k.shp,h.i.shp k.shp,h.e.shp k.shp,h.g⟩
def Rws.set {W:qw}{f:Nat->Rw3}(h:Rws S W c m f)(i v):Rws S (W.setCell (qR c i) v) c m f:=
 have sh:=Shp.set W c i v
 ⟨h.t.shp sh,⟨λj=>by obtain⟨g,o,b,t,a,hs,d,e⟩:=h.b.head j;exact⟨g,o,b,t,a,hs,d.other _ _$ h.g g o a,e⟩,λi hi=>(h.b.rows i hi).shp sh⟩,h.d.shp sh,h.r.shp sh,h.i.shp sh,h.e.shp sh,h.g⟩
structure Mrs (S:Nat->Prop)(W:qw)(c n:Nat)(ms:List Md)(F:Nat->Nat->Rw3):Prop where
 nc:¬S c
 head:∃cs,Blk W c cs 128/\∀i,i<n->Ar8 cs (i*8) (ms.getD i aL)
 rows:∀i,i<n->Rws S W c (ms.getD i aL) (F i)
def Mrs.kept {W b:qw}{ms:List Md}{F:Nat->Nat->Rw3}(h:Mrs S W c n ms F)(k:Mkd S W b):Mrs S b c n ms F:=
 ⟨h.nc,by obtain⟨a,d,hc⟩:=h.head;exact⟨a,aD k.turn d h.nc,hc⟩,λi hi=>(h.rows i hi).kept k⟩
def Mrs.set {W:qw}{ms:List Md}{F:Nat->Nat->Rw3}(h:Mrs S W c n ms F)(i j)(e:j=0\/j=4)(v):Mrs S (W.setCell (qR c$ i*8+j) v) c n ms F:=
 ⟨h.nc,by obtain⟨d,a,hc⟩:=h.head;exact⟨_,a.set _ _,λo b=>aSq (hc o b) e⟩,λo b=>(h.rows o b).set _ _⟩
def Mrs.at {W:qw}{ms:List Md}{F:Nat->Nat->Rw3}(h:Mrs S W c n ms F)(i)(hi:i<n):(∃u,W.cell? (qR c$ i*8)=some u)/\W.cell? (qR c$ i*8+1)=some (.slice (ms.getD i aL).ta (ms.getD i aL).tn (ms.getD i aL).tc)/\W.cell? (qR c$ i*8+2)=some (.slice (ms.getD i aL).ba (ms.getD i aL).bn (ms.getD i aL).bc)/\W.cell? (qR c$ i*8+3)=some (.slice (ms.getD i aL).da (ms.getD i aL).dn (ms.getD i aL).dc)/\(∃u,W.cell? (qR c$ i*8+4)=some u)/\W.cell? (qR c$ i*8+5)=some (.slice (ms.getD i aL).ra (ms.getD i aL).rn (ms.getD i aL).rc)/\W.cell? (qR c$ i*8+6)=some (.slice (ms.getD i aL).ia (ms.getD i aL).im (ms.getD i aL).ic)/\W.cell? (qR c$ i*8+7)=some (.slice (ms.getD i aL).ea (ms.getD i aL).en (ms.getD i aL).ec)/\∀j,W.frozen? (qR c j)=false:=by
 let⟨s,a,hc⟩:=h.head;let⟨⟨u,b⟩,d,e,f,⟨q,g⟩,k,l,p⟩:=hc i hi;exact⟨⟨u,(a.cell _).trans b⟩,(a.cell _).trans d,(a.cell _).trans e,(a.cell _).trans f,⟨q,(a.cell _).trans g⟩,(a.cell _).trans k,(a.cell _).trans l,(a.cell _).trans p,λj=>a.frozen j⟩
def jD (ms:List Md)(F:Nat->Nat->Rw3)(i:Nat):Nat:=2+(ms.getD i aL).tn+cD (F i) (ms.getD i aL).bn+(ms.getD i aL).dn+(ms.getD i aL).rn+(ms.getD i aL).im+3*(ms.getD i aL).en
def aCk (f:Nat->Nat):∀n i,i<n->f i+upS f i<=upS f n
 | 0,i,h=>J
 | n+1,i,h=>by
   show _<=upS f n+f n;by_cases e:i=n
   .grind
   .have:=aCk f n i J;omega
def wO (S:Nat->Prop)(c n a0 k ms)(F:Nat->Nat->Rw3)(w)(h:Mrs S w c n ms F)(hz:k+upS (jD ms F) n<=4194304)(hb:∀i,i<n->(ms.getD i aL).bn<=1048576)(hy:∀i,i<n->jD ms F i<=4194304/\(ms.getD i aL).tn<=1048576/\(ms.getD i aL).dn<=1048576/\(ms.getD i aL).rn<=1048576/\(ms.getD i aL).im<=1048576/\(ms.getD i aL).en<=1048576/\cD (F i) (ms.getD i aL).bn<=1048576)(hn:n<=1048576):
 qC 41 #[qS (qP c) n a0,qI k] w λe w'=>e=.returned (qI ((k+upS (jD ms F) n:Nat):Int))/\Mkd (λj=>S j\/j=c) w w':=by
 have HH:=zh h;clear h
 delta qC;go_in
 go_wp2;go_loopw [1,5] (λx i wr=>∃m:Nat,m<=n/\i=qI m/\x=qI ((k+upS (jD ms F) m:Nat):Int)/\Mrs S wr c n ms F/\Mkd (λj=>S j\/j=c) w wr) (λ_ i _=>n-(intOf i).toNat)
 .exact⟨0,xC _,rfl,rfl,HH,Mkd.refl _ _⟩
 .obtain⟨m,hm,rfl,rfl,R,M⟩:=hrel;by_cases b:m<n
  .have a4:(m:Int)<(n:Int):=J
   let⟨y0,y1,y2,y3,y4,y5,y6⟩:=hy m b;have y7:=hb m b;have:=aCk (jD ms F) n m b;have O:Zh (upS (jD ms F) (m+1)=upS (jD ms F) m+jD ms F m):=rfl;have a:Zh (jD ms F m=2+(ms.getD m aL).tn+cD (F m) (ms.getD m aL).bn+(ms.getD m aL).dn+(ms.getD m aL).rn+(ms.getD m aL).im+3*(ms.getD m aL).en):=rfl;have:=a.o;have Z:=zh λ(W:qw)(K:Nat)(t:K<=4194304)(r:Mrs S W c n ms F)=>mV S _ _ (ms.getD m aL).tc K W (r.rows m b).t y1 J;have U:=zh λ(W:qw)(K:Nat)(t:K<=4194304)(r:Mrs S W c n ms F)=>aDv S _ _ (ms.getD m aL).bc K (F m) W (r.rows m b).b y7 y6 t;have a2:=zh λ(W:qw)(K:Nat)(t:K<=4194304)(r:Mrs S W c n ms F)=>aDw S _ _ (ms.getD m aL).dc K W (r.rows m b).d y2 J;have a1:=zh λ(W:qw)(K:Nat)(t:K<=4194304)(r:Mrs S W c n ms F)=>mV S _ _ (ms.getD m aL).rc K W (r.rows m b).r y3 J;have a3:=zh λ(W:qw)(K:Nat)(t:K<=4194304)(r:Mrs S W c n ms F)=>wL S _ _ (ms.getD m aL).ic K W (r.rows m b).i y4 J;have Y:=zh λ(W:qw)(K:Nat)(t:K<=4194304)(r:Mrs S W c n ms F)=>wP S _ _ (ms.getD m aL).ec K W (r.rows m b).e y5 t;have f:=zh λ(W:qw)(r:Mrs S W c n ms F)=>r.at m b;clear a;generalize upS (jD ms F) m=p at *;generalize cD (F m) (ms.getD m aL).bn=A at *;generalize jD ms F m=cm at *;generalize ms.getD m aL=q at *;obtain⟨nm,ta,tn,tc,tz,ba,bn,bc,bl,da,dn,dc,dz,a5,ra,rn,rc,rz,ia,im,ic,ss,ea,en,ec,es⟩:=q;dsimp only at *;have g:=zh R;clear R;have d:=zh M;clear M;go_wp2_with fail
   apply(lS (k+p) wr J).mono;rintro e w1 ⟨s,rfl,hs,y⟩;have X:=g.kept$ Mkd.bw y;have u:=d.trans$ Mkd.bw y;clear g d y;let⟨⟨u0,p0⟩,p1,p2,p3,⟨u4,p4⟩,p5,p6,p7,pf⟩:=f _ X;have f0:=pf$ m*8;have B:=X.set m 0 (.inl rfl)$ .string s;simp only[Nat.add_zero]at B;have G:=u.set c (m*8) (.string s)$ .inr rfl;clear X u p1 p2 p3 p4 p5 p6 p7 pf;have q1:=f _ B;go_wp2_with fail
   apply(Z _ (k+p+1) J B).mono;rintro e w2 ⟨rfl,N⟩;have H:=B.kept N;have P:=G.trans$ N.mono λj l=>.inl l;clear B G N q1 p0 f0;have q2:=f _ H;go_wp2_with fail
   apply(U _ (k+p+1+tn) J H).mono;rintro e w3 ⟨rfl,N⟩;have I:=H.kept N;have V:=P.trans$ N.mono λj l=>.inl l;clear H P N q2;have q3:=f _ I;go_wp2_with fail
   apply(a2 _ (k+p+1+tn+A) J I).mono;rintro e w4 ⟨rfl,N⟩;have Q:=I.kept N;have M5:=V.trans$ N.mono λj l=>.inl l;clear I V N q3;let⟨_,_,_,_,⟨u4,q4⟩,_,_,_,qf⟩:=f _ Q;have f4:=qf$ m*8+4;have D:=Q.set m 4 (.inr rfl)$ qI ((k+p+1+tn+A+dn:Nat):Int);have M6:=M5.set c (m*8+4) (qI ((k+p+1+tn+A+dn:Nat):Int))$ .inr rfl;clear Q M5 qf;have q5:=f _ D;go_wp2_with fail
   apply(a1 _ (k+p+1+tn+A+dn+1) J D).mono;rintro e w5 ⟨rfl,N⟩;have E:=D.kept N;have M7:=M6.trans$ N.mono λj l=>.inl l;clear D M6 N q5 q4 f4;have q6:=f _ E;go_wp2_with fail
   apply(a3 _ (k+p+1+tn+A+dn+1+rn) J E).mono;rintro e w6 ⟨rfl,N⟩;have C:=E.kept N;have M8:=M7.trans$ N.mono λj l=>.inl l;clear E M7 N q6;have q7:=f _ C;go_wp2_with fail
   apply(Y _ (k+p+1+tn+A+dn+1+rn+im) J C).mono;rintro e w7 ⟨rfl,N⟩;have R9:=zh$ C.kept N;have M9:=zh$ M8.trans$ N.mono λj l=>.inl l;clear C M8 N q7;go_wp2
   go_roundw
   .exact⟨m+1,J,by go_num,by rw[O.o];go_num,R9.o,M9.o⟩
   .simp[intOf];omega
  .have e:Zh (m=n):=by show m=n;omega
   have HX:=zh M;clear R M;go_wp2;go_ret;exact⟨aJ (by rw[e.o]),HX.o⟩
structure Hd where
 a1:qO
 tn:Nat
 c1:Nat
 a2:qO
 bn:Nat
 c2:Nat
 f:Nat->qO×Nat×Nat
 a3:qO
 dn:Nat
 c3:Nat
 a5:qO
 rn:Nat
 c5:Nat
 a6:qO
 im:Nat
 c6:Nat
 a7:qO
 en:Nat
 c7:Nat
structure Ct where
 nm:ByteArray
 T:List Int
 X:Nat->List Int
 D:List Int
 s:Int
 R:List Int
 I:List ByteArray
 E:List Ex
def zHd:Hd:=⟨none,0,0,none,0,0,λ_=>(none,0,0),none,0,0,none,0,0,none,0,0,none,0,0⟩
def clH (x:Hd×Ct):List Value:=[.string x.2.nm,qS x.1.a1 x.1.tn x.1.c1,qS x.1.a2 x.1.bn x.1.c2,qS x.1.a3 x.1.dn x.1.c3,qI x.2.s,qS x.1.a5 x.1.rn x.1.c5,qS x.1.a6 x.1.im x.1.c6,qS x.1.a7 x.1.en x.1.c7]
abbrev M6h (W:qw)(base:Nat)(x:Hd×Ct):Prop:=M6 W base (qS x.1.a1 x.1.tn x.1.c1) (qS x.1.a3 x.1.dn x.1.c3) (qS x.1.a5 x.1.rn x.1.c5) (qS x.1.a6 x.1.im x.1.c6) (qS x.1.a7 x.1.en x.1.c7) x.1.a2 x.1.bn x.1.f x.2.T x.2.X x.2.D x.2.R x.2.I x.2.E
def Sh (h:Hd)(j:Nat):Prop:=(qS h.a1 h.tn h.c1).ownBlock=some j\/Sr h.f h.bn j\/(qS h.a3 h.dn h.c3).ownBlock=some j\/(qS h.a5 h.rn h.c5).ownBlock=some j\/(qS h.a6 h.im h.c6).ownBlock=some j\/(qS h.a7 h.en h.c7).ownBlock=some j
def M6h.sh {W:qw}{x:Hd×Ct}(h:M6h W base x)(b:Sh x.1 j):(base<=j/\j<W.heap.size)/\∃cs t,Blk W j cs t/\(t=3\/t=5\/t=9\/t=209):=by
 rcases b with e|e|e|e|e|e
 .have⟨cs,k⟩:=aE h.t.1 e;exact⟨h.t.lt j e,cs,_,k,.inl rfl⟩
 .have⟨cs,k⟩:=h.b.kind e;exact⟨h.lt.2.1 j e,cs,_,k,.inl rfl⟩
 .have⟨cs,k⟩:=aE h.d.1 e;exact⟨h.d.lt j e,cs,_,k,.inr$ .inl rfl⟩
 .have⟨cs,k⟩:=aE h.r.1 e;exact⟨h.r.lt j e,cs,_,k,.inl rfl⟩
 .have⟨cs,k⟩:=aE h.i e;exact⟨h.i.lt j e,cs,_,k,.inr$ .inr$ .inl rfl⟩
 .have⟨cs,k⟩:=aE h.e e;exact⟨h.e.lt j e,cs,_,k,.inr$ .inr$ .inr rfl⟩
def M6h.no {W:qw}{x:Hd×Ct}(h:M6h W base x)(b:Sh x.1 j){t:TypeId}(e:Blk W j cs t)(f:t≠3/\t≠5/\t≠9/\t≠209):False:=by
 obtain⟨_,a,d,kb,h|h|h|h⟩:=h.sh b
 all_goals
  subst h;have:=aH e kb;simp_all
def M6h.kept {W f:qw}{x:Hd×Ct}(h:M6h W base x)(t:Turn S W f)(e:∀j,Sh x.1 j->¬S j)(p:∀j cs,Blk W j cs 25->¬S j):M6h f base x:=
 ⟨aX t h.t λk b=>e k$ .inl b,h.b.kept t (λi hi k b=>e k$ .inr$ .inl ⟨i,hi,b⟩) λ_ g cs _ l=>p g cs l,aT t h.d λk b=>e k$ .inr$ .inr$ .inl b,aX t h.r λk b=>e k$ .inr$ .inr$ .inr$ .inl b,h.i.kept t λk b=>e k$ .inr$ .inr$ .inr$ .inr$ .inl b,h.e.kept t λk b=>e k$ .inr$ .inr$ .inr$ .inr$ .inr b,h.tr,h.tb,h.rb⟩
structure OMs (W:qw)(base:Nat)(v:Value)(L:List (Hd×Ct))(β:Nat->Nat):Prop where
 o:OG 128 8 clH W base v L
 m:∀(i:Nat)(x:Hd×Ct),L[i]?=some x->M6h W (β i) x/\∀j,Sh x.1 j->j<β (i+1)
 mono:∀i k,i<=k->k<=L.length->β i<=β k
def lT {α:Type}{L:List α}{x:α}(h:L[i]?=some x):i<L.length:=by grind
def aPn {α:Type}{L:List α}{b x:α}(h:(L.set i b)[j]?=some x):(j=i/\x=b)\/(j≠i/\L[j]?=some x):=by grind
def OMs.apart {W:qw}{L:List (Hd×Ct)}(H:OMs W base v L β){k:Nat}{x y:Hd×Ct}(hx:L[i]?=some x)(b:L[k]?=some y)(e:k≠i):∀j,Sh y.1 j->¬Sh x.1 j:=λj l f=>by
 have:=lT hx;have:=lT b;have:=(H.m i x hx).2 j f;have:=((H.m i x hx).1.sh f).1.1;have:=(H.m k y b).2 j l;have:=((H.m k y b).1.sh l).1.1;rcases Nat.lt_or_gt_of_ne e with h|h
 .have:=H.mono (k+1) i h J;omega
 .have:=H.mono (i+1) k h J;omega
def OMs.bw {W b:qw}{L:List (Hd×Ct)}(H:OMs W base v L β)(e:qY W b):OMs b base v L β:=⟨H.o.bw e,λi x hx=>⟨(H.m i x hx).1.bw e,(H.m i x hx).2⟩,H.mono⟩
def OMs.kept {W b:qw}{L:List (Hd×Ct)}(H:OMs W base v L β)(t:Turn S W b)(f:∀j,v.ownBlock=some j->¬S j)(l:∀(i:Nat)(x:Hd×Ct),L[i]?=some x->∀j,Sh x.1 j->¬S j)(e:∀j cs,Blk W j cs 25->¬S j):OMs b base v L β:=
 ⟨H.o.kept t f,λi x hx=>⟨(H.m i x hx).1.kept t (l i x hx) e,(H.m i x hx).2⟩,H.mono⟩
def aKn {α:Type}{f:α->List Value}(p:∀x,(f x).length=8)(v:Value)(b:α)(j:Nat)(l:j<8):∀(L:List α)(i:Nat)(x:α),L[i]?=some x->f b=(f x).set j v->(L.flatMap f).set (i*8+j) v=(L.set i b).flatMap f
 | [],i,x,h,e=>by grind
 | y::L,0,x,h,e=>by
   grind
 | y::L,i+1,x,h,e=>by
   rw[List.set_cons_succ,xT,xT,<-aKn p v b j l L i x (by grind) e,List.set_append_right _ _ (by grind)]
   grind
def aKo {α:Type}{f:α->List Value}(b:α):∀(L:List α)(i:Nat)(x:α),L[i]?=some x->f b=f x->(L.set i b).flatMap f=L.flatMap f
 | [],i,x,h,e=>by grind
 | y::L,0,x,h,e=>by
   grind
 | y::L,i+1,x,h,e=>by
   rw[List.set_cons_succ,xT,xT,aKo b L i x (by grind) e]
def aD7 {α:Type}{f:α->List Value}(b:∀x,(f x).length=8):∀(L:List α)(i:Nat)(x:α),L[i]?=some x->∀j,j<8->(L.flatMap f)[i*8+j]?=(f x)[j]?
 | [],i,x,h,j,hj=>by grind
 | y::L,0,x,h,j,hj=>by
   grind
 | y::L,i+1,x,h,j,hj=>by
   rw[xT,List.getElem?_append_right (by grind),b,show(i+1)*8+j-8=i*8+j from J];exact aD7 b L i x (by grind) j hj
def aN8 {W:qw}{t:TypeId}{sz:Nat}(h:W.ownsRow base t sz (qS (qP g) n cap) n xs)(k v):(W.setCell (qR g k) v).ownsRow base t sz (qS (qP g) n cap) n (xs.set k v):=by
 obtain⟨u,⟨q,_⟩|⟨p,l,b,a,i,j,d,e,s,f⟩⟩:=h
 .grind
 .simp at a;obtain⟨rfl,rfl⟩:=a;refine⟨by grind,.inr ⟨g,cap,b.setIfInBounds k v,rfl,i,Blk.set (w:=W) j k v,d,e,by grind,?_⟩⟩;rw[xW,List.take_set,f]
def OMs.mod {W l:qw}{L:List (Hd×Ct)}{h:Hd}{c c':Ct}(H:OMs W base v L β)(hx:L[i]?=some (h,c))(A:M6h l (β i) (h,c'))(e:clH (h,c')=clH (h,c))(hS:∀j,S j->Sh h j)(T:Turn S W l):OMs l base v (L.set i (h,c')) β:=by
 have q:=H.m i _ hx;refine⟨?_,λk y b=>?_,by rw[List.length_set];exact H.mono⟩
 .have p:=H.o.kept T (λk f s=>by
   let⟨d,a⟩:=aE H.o f
   exact q.1.no (hS k s) a Ja)
  unfold OG at p ⊢;rw[aKo (h,c') L i (h,c) hx e,List.length_set];exact p
 .rcases aPn b with⟨rfl,rfl⟩|⟨f,b⟩
  .grind
  .exact⟨(H.m k y b).1.kept T (λj x s=>H.apart hx b f j x$ hS j s) λj g t s=>q.1.no (hS j s) t Ja,(H.m k y b).2⟩
def OMs.cell {W:qw}{L:List (Hd×Ct)}{h:Hd}{c c':Ct}(H:OMs W base (qS (qP g) n cap) L β)(hn:L.length=n)(hx:L[i]?=some (h,c))(j)(t:j<8)(u)(e:clH (h,c')=(clH (h,c)).set j u)(A:M6h W (β i) (h,c')):OMs (W.setCell (qR g$ i*8+j) u) base (qS (qP g) n cap) (L.set i (h,c')) β:=by
 have T:=aC W g (i*8+j) u;let⟨d,a⟩:=aE H.o (k:=g) rfl
 have l:∀(y:Hd×Ct)(b:Nat),M6h W b y->M6h (W.setCell (qR g$ i*8+j) u) b y:=λy b f=>f.kept T (λq x s=>by
  subst s
  exact f.no x a Ja) (λq w p s=>by subst s;exact absurd (aH a p) Ja)
 refine⟨?_,λk y f=>?_,by rw[List.length_set];exact H.mono⟩
 .have o:=H.o;unfold OG at o⊢;rw[<-aKn (λ_=>rfl) u (h,c') j t L i (h,c) hx e,List.length_set];rw[hn]at o⊢;exact aN8 o (i*8+j) u
 .rcases aPn f with⟨rfl,rfl⟩|⟨B,f⟩
  .exact⟨l _ _ A,(H.m k _ hx).2⟩
  .exact⟨l _ _ (H.m k y f).1,(H.m k y f).2⟩
def OMs.at {W:qw}{base g n a:Nat}{L:List (Hd×Ct)}{d:Nat->Nat}{i:Nat}{x:Hd×Ct}(H:OMs W base (qS (qP g) n a) L d)(hx:L[i]?=some x):(W.cell? (qR g$ i*8)=some (.string x.2.nm)/\W.cell? (qR g$ i*8+1)=some (qS x.1.a1 x.1.tn x.1.c1)/\W.cell? (qR g$ i*8+2)=some (qS x.1.a2 x.1.bn x.1.c2)/\W.cell? (qR g$ i*8+3)=some (qS x.1.a3 x.1.dn x.1.c3)/\W.cell? (qR g$ i*8+4)=some (qI x.2.s)/\W.cell? (qR g$ i*8+5)=some (qS x.1.a5 x.1.rn x.1.c5)/\W.cell? (qR g$ i*8+6)=some (qS x.1.a6 x.1.im x.1.c6)/\W.cell? (qR g$ i*8+7)=some (qS x.1.a7 x.1.en x.1.c7))/\∀j,W.frozen? (qR g j)=false:=by
 have k:∀j,j<8->∀u,(clH x)[j]?=some u->qN W g (i*8+j)=some u:=λj b u hu=>by
  have q:=World.ownsRow.cells H.o (g:=g) rfl _ _$ (aD7 (λ_=>rfl) L i x hx j b).trans hu
  rwa[cI,Nat.zero_add]at q
 let⟨e,kb⟩:=aE H.o (k:=g) rfl;exact⟨⟨k 0 J _ rfl,k 1 J _ rfl,k 2 J _ rfl,k 3 J _ rfl,k 4 J _ rfl,k 5 J _ rfl,k 6 J _ rfl,k 7 J _ rfl⟩,λj=>kb.frozen j⟩
def bK (h:Hd):Nat:=2+h.tn+cD h.f h.bn+h.dn+h.rn+h.im+3*h.en
def mkC (h:Hd)(k:Nat):Ct:=⟨mtx k,bT (k+1) h.tn,mrk (k+1+h.tn) h.f,dC (k+1+h.tn+cD h.f h.bn) h.dn,((k+1+h.tn+cD h.f h.bn+h.dn:Nat):Int),bT (k+1+h.tn+cD h.f h.bn+h.dn+1) h.rn,gR (k+1+h.tn+cD h.f h.bn+h.dn+1+h.rn) h.im,iW (k+1+h.tn+cD h.f h.bn+h.dn+1+h.rn+h.im) h.en⟩
