import Derived.Laws.CopyOwn
import Derived.Maps.AppendAt
import Derived.Test.YtcimaholejajpaaGreatF05
import Derived.Test.YtcimaholejajpaaGreatF06
set_option linter.all false
set_option maxHeartbeats 8000000
namespace Go.Proofs.YtcimaholejajpaaGreat
open Go.RowKit
set_option maxRecDepth 100000
variable {P:PMod}{base cap g k m n:Nat}{bl:List Bk}{cs:Array Value}{nm:ByteArray}{row:Option Nat}{s0 s1 s2 s3 st st':Option (List Int)}{v:Value}{x:Int}
def oB (m:Nat):Option (List Int)->List Int×Option (List Int)
 | none=>([],none)
 | some zs=>match pB m zs with
   | none=>([],none)
   | some x=>(x.1,some x.2)
theorem wV {zs r x:qi}(h:pB m zs=some (x,r)):oB m (some zs)=(x,some r):=by show (match pB m zs with|none=>_|some x=>_)=_;rw [h]
theorem wW {zs:qi}(h:pB m zs=none):oB m (some zs)=([],none):=by show (match pB m zs with|none=>_|some x=>_)=_;rw [h]
theorem aGu (w:qw)(base:Nat)(hb:base<=w.heap.size):OB (w.alloc (.cells #[] 5)) base (qS (qP w.heap.size) 0 0) []:=
 ⟨⟨by simp,.inr ⟨w.heap.size,0,#[],rfl,hb,heap_alloc_new w _,aL,by unfold maxLen;omega,rfl,rfl⟩⟩,by simp⟩
def aKw (w:qw)(g b n cap:Nat)(zs:qi)(p:List Int×Option (List Int))(e:Ending)(w':qw):Prop:=∃ a c,e=.returned (qS a p.1.length c)/\OB w' w.heap.size (qS a p.1.length c) p.1/\RdS w' g b n cap zs p.2/\Turn (fun j=>j=g) w w'
theorem tI (g b n cap:Nat)(zs:qi)(st:Option (List Int))(s:Nat)(w:qw)(h:RdS w g b n cap zs st)(hs:s<=65535):
 qC 35 #[.pointer (qP g),qI s] w (aKw w g b n cap zs (oB s st)):=by
 obtain ⟨k,hk,hb,hr⟩:=h.pos;have hl:=h.bs.1;have hsm:=h.small;cases st with
 | none=>
   obtain ⟨q0,q1,q2,_⟩:=hb.three;simp at q2;have HH:=zh h;clear h hb hr;go_enter Tryz.func35,Tryz.ntmps35
   go_wp2_with fail
   go_quiet (fail)
   have R1:=HH.o.drewN nq;have T1:=aC4 (Turn.refl (fun j=>j=g) w) nq;have hz:w.heap.size<=(w.drewN nq).heap.size:=aL;generalize w.drewN nq=W1 at *;obtain ⟨k1,_,hb1,_⟩:=R1.pos;have u2:=hb1.cell 2;have f2:=hb1.frozen 2;simp at u2;have HF:=zh (xA (RdS.short R1) (T1.trans (aC W1 g 2 (.bool true))));have hs2:w.heap.size<=(W1.setCell (qR g 2) (.bool true)).heap.size:=by rw [aG];exact hz
   have HO:=zh (aGu (W1.setCell (qR g 2) (.bool true)) w.heap.size hs2);clear R1 T1 hb1 q0 q1 q2 hs2;go_wp2;go_ret;refine ⟨_,_,rfl,?_,HF.o.1.bw bal,HF.o.2.trans (aD _ _)⟩;have:=HO.o;try unfold qY at *
   simp only [aG] at this ⊢;exact this
 | some r=>
   have hr':=hr r rfl;have hrl:r.length=n-k:=by rw [hr',List.length_drop,hl]
   obtain ⟨q0,q1,q2,_⟩:=hb.three;simp at q2;by_cases c:s<=r.length
   .rw [wV (lS c)];obtain ⟨m,hm⟩:=eqx (k+s);have hwr:IntKind.i64.wrap ((k:Int)+(s:Int))=(m:Int):=by rw [hm];push_cast;exact bC _ (by omega) (by omega)
    have hcc:¬ ((n:Int)<(m:Int)):=by omega
    have hks:k+s<=n:=by omega
    have hcap:=h.bs.2.2.2.2;have HH:=zh (xA h (xA hb hr'));have HLO:=zh (show r.take s=(zs.drop k).take s/\(r.take s).length=s by refine ⟨by rw [hr'],?_⟩;rw [List.length_take];omega);have hw1:IntKind.i64.wrap ((m:Int)-(s:Int))=(k:Int):=by rw [hm];push_cast;rw [show (k:Int)+s-s=k by omega];exact bC _ (by omega) (by omega)
    have hi1:(k:Int)<=(m:Int):=by omega
    have hi2:(m:Int)<=(cap:Int):=by omega
    have hz4:m-k=s:=by omega
    have HMK:=zh hm;by_cases hz1:cap=k
    .have hs0:s=0:=by omega
     subst hs0;obtain rfl:m=k:=by omega
     subst hz1;have hw2:IntKind.i64.wrap (cap:Int)=(cap:Int):=bC _ (by omega) (by omega);have hi0:(0:Int)<=(cap:Int):=by omega
     clear hwr hw1 hi1 hi2 hz4;have HLOW:=zh (fun (W:qw) (hB:BS W (qP b) n cap zs)=>oF b 0 0 0 [] W ⟨rfl,by unfold maxLen;omega,by simp,fun h=>absurd rfl h,aL⟩ (by omega));clear h hb hr hr' hrl c hm;go_enter Tryz.func35,Tryz.ntmps35
     go_wp2_with fail
     go_region_held3 (fun w'=>w'.cell? (qR g 0)=some (qS (qP b) n cap)/\w'.cell? (qR g 1)=some (qI (cap:Int))/\w'.cell? (qR g 2)=some (.bool false)) (go_keep) (first|fail)
     obtain ⟨h,hb,hr'⟩:=HH.o;have hb0:Blk w.drew g #[qS (qP b) n cap,qI (cap:Int),.bool false] 85:=hb;have R1:=h.drew;have T1:=jQ (Turn.refl (fun j=>j=g) w);have hz:w.heap.size<=w.drew.heap.size:=aL;generalize w.drew=W1 at *;clear q0 q1 q2;obtain ⟨q0,q1,q2,_⟩:=hb0.three;have f1:=hb0.frozen 1;have R2:=R1.go hb0 hr' hks (qI (cap:Int)) (by simp);have k2:=hb0.set 1 (qI (cap:Int));have T2:=T1.trans (aC W1 g 1 (qI (cap:Int)));simp at k2;obtain ⟨u0,u1,u2,_⟩:=k2.three;have hB:=R2.bs;have HF:=zh (xA R2 (xA T2 k2));clear h hb hr' hb0 R1 T1 k2 R2 T2;go_wp2_with fail
     go_region_held3 (fun w'=>w'.cell? (qR g 0)=some (qS (qP b) n cap)/\w'.cell? (qR g 1)=some (qI (cap:Int))) (go_keep) (first
      | (go_at_call 68;refine (HLOW.o _ (by first|exact hB|exact hB.bw brf.drew)).mono ?_;rintro e w9 ⟨a9,c9,rfl,o9,hb9⟩;replace hb9:=fE hb9;obtain ⟨u0,u1,u2,_⟩:=(HF.o.2.2.bw hb9).three))
     have HF2:=zh (xA (o9.mono (show w.heap.size<=_ by simpa [aG] using hz)) (xA (HF.o.1.bw hb9) (HF.o.2.1.trans (aJ hb9))));have HL2:=zh HLO.o;clear HF HLO hB HLOW q0 q1 q2 u0 u1 u2 f1 o9 hb9;go_wp2;go_ret;refine ⟨a9,c9,?_,?_,HF2.o.2.1,HF2.o.2.2⟩
     .rw [HL2.o.2];rfl
     .dsimp only;rw [HL2.o.2,show List.take 0 r=[] from rfl];exact HF2.o.1
    .have HLOW:=zh (fun (W:qw) (hB:BS W (qP b) n cap zs)=>oF b k s (cap-k) ((zs.drop k).take s) W (by have:=(hB.drop k hk).take s (by omega);rw [Nat.zero_add] at this;exact this) (by omega));clear h hb hr hr' hrl c hm;go_enter Tryz.func35,Tryz.ntmps35
     go_wp2_with fail
     go_region_held3 (fun w'=>w'.cell? (qR g 0)=some (qS (qP b) n cap)/\w'.cell? (qR g 1)=some (qI k)/\w'.cell? (qR g 2)=some (.bool false)) (go_keep) (first|fail)
     obtain ⟨h,hb,hr'⟩:=HH.o;have hb0:Blk w.drew g #[qS (qP b) n cap,qI k,.bool false] 85:=hb;have R1:=h.drew;have T1:=jQ (Turn.refl (fun j=>j=g) w);have hz:w.heap.size<=w.drew.heap.size:=aL;generalize w.drew=W1 at *;clear q0 q1 q2;obtain ⟨q0,q1,q2,_⟩:=hb0.three;have f1:=hb0.frozen 1;have R2:=R1.go hb0 hr' hks (qI (m:Int)) (by rw [HMK.o]);have k2:=hb0.set 1 (qI (m:Int));have T2:=T1.trans (aC W1 g 1 (qI (m:Int)));simp at k2;obtain ⟨u0,u1,u2,_⟩:=k2.three;have hB:=R2.bs;have HF:=zh (xA R2 (xA T2 k2));clear h hb hr' hb0 R1 T1 k2 R2 T2;go_wp2_with fail
     go_region_held3 (fun w'=>w'.cell? (qR g 0)=some (qS (qP b) n cap)/\w'.cell? (qR g 1)=some (qI (m:Int))) (go_keep) (first
      | (go_at_call 68;refine (HLOW.o _ (by first|exact hB|exact hB.bw brf.drew)).mono ?_;rintro e w9 ⟨a9,c9,rfl,o9,hb9⟩;replace hb9:=fE hb9;obtain ⟨u0,u1,u2,_⟩:=(HF.o.2.2.bw hb9).three))
     have HF2:=zh (xA (o9.mono (show w.heap.size<=_ by simpa [aG] using hz)) (xA (HF.o.1.bw hb9) (HF.o.2.1.trans (aJ hb9))));have HL2:=zh HLO.o;clear HF HLO hB HLOW q0 q1 q2 u0 u1 u2 f1 o9 hb9;go_wp2;go_ret;refine ⟨a9,c9,?_,?_,HF2.o.2.1,HF2.o.2.2⟩
     .rw [HL2.o.2];rfl
     .dsimp only;rw [HL2.o.2,HL2.o.1];exact HF2.o.1
   .rw [wW (wL c)];have hwr:IntKind.i64.wrap ((k:Int)+(s:Int))=(k:Int)+s:=bC _ (by omega) (by omega);have hcc:(n:Int)<(k:Int)+(s:Int):=by omega
    have HH:=zh h;clear h hb hr hr' hrl c;go_enter Tryz.func35,Tryz.ntmps35
    go_wp2_with fail
    go_region_held3 (fun w'=>w'.cell? (qR g 0)=some (qS (qP b) n cap)/\w'.cell? (qR g 1)=some (qI k)/\w'.cell? (qR g 2)=some (.bool false)) (go_keep) (first|fail)
    have R1:=HH.o.drew;have T1:=jQ (Turn.refl (fun j=>j=g) w);have hz:w.heap.size<=w.drew.heap.size:=aL;generalize w.drew=W1 at *;obtain ⟨k1,_,hb1,_⟩:=R1.pos;have v2:=hb1.cell 2;have f2:=hb1.frozen 2;simp at v2;have HF:=zh (xA (RdS.short R1) (T1.trans (aC W1 g 2 (.bool true))));have hs2:w.heap.size<=(W1.setCell (qR g 2) (.bool true)).heap.size:=by rw [aG];exact hz
    have HO:=zh (aGu (W1.setCell (qR g 2) (.bool true)) w.heap.size hs2);clear R1 T1 hb1 q0 q1 q2 hs2;go_wp2;go_ret;refine ⟨_,_,rfl,?_,HF.o.1.bw bal,HF.o.2.trans (aD _ _)⟩;have:=HO.o;try unfold qY at *
    simp only [aG] at this ⊢;exact this
structure Lf {α:Type}(p:List Int->Option (α×List Int))(st:Option (List Int))(x:α)(st':Option (List Int)):Prop where
 n:st=none->st'=none
 f:∀ zs,st=some zs->p zs=none->st'=none
 s:∀ zs y r,st=some zs->p zs=some (y,r)->x=y/\st'=some r
theorem aJ8 (s:Nat)(st:Option (List Int)):Lf (pN s) st (oN s st).1 (oN s st).2:=
 ⟨fun h=>by subst h;rfl,fun zs h hp=>by subst h;rw [wU hp],fun zs y r h hp=>by subst h;rw [wT hp];exact ⟨rfl,rfl⟩⟩
theorem aNp (s:Nat)(st:Option (List Int)):Lf (pB s) st (oB s st).1 (oB s st).2:=
 ⟨fun h=>by subst h;rfl,fun zs h hp=>by subst h;rw [wW hp],fun zs y r h hp=>by subst h;rw [wV hp];exact ⟨rfl,rfl⟩⟩
theorem lW {W:qw}{b:Nat}{zs:qi}(h:RdS W g b n cap zs st)(s:Nat)(hs:s<=4:=by omega):0<=(oN s st).1/\(oN s st).1<=4294967295/\(s<=2->(oN s st).1<=65535)/\(s=1->(oN s st).1<=255):=by
 cases st with
 | none=>exact ⟨by show (0:Int)<=0;omega,by show (0:Int)<=_;omega,fun _=>by show (0:Int)<=_;omega,fun _=>by show (0:Int)<=_;omega⟩
 | some r=>
   cases e:pN s r with
   | none=>rw [wU e];exact ⟨by show (0:Int)<=0;omega,by show (0:Int)<=_;omega,fun _=>by show (0:Int)<=_;omega,fun _=>by show (0:Int)<=_;omega⟩
   | some x=>
     obtain ⟨x,r'⟩:=x;rw [wT e];have h1:=(dM s hs r x r' h.range e).1;exact ⟨h1.1,h1.2.1,h1.2.2,fun h2=>by subst h2;exact (cG r x r' h.range e).1.2⟩
theorem Lf.text {y:qi}(h1:Lf (pN 1) st x s1)(h2:Lf (pB x.toNat) s1 y s2):Lf pT st (eQ y) s2:=by
 refine ⟨fun h=>h2.n (h1.n h),fun zs h hp=>?_,fun zs z r h hp=>?_⟩
 .unfold pT at hp;cases e:pN 1 zs with
  | none=>exact h2.n (h1.f zs h e)
  | some v=>
    obtain ⟨v,r1⟩:=v;obtain ⟨rfl,rfl⟩:=h1.s zs v r1 h e;rw [e] at hp;simp at hp;exact h2.f r1 rfl hp
 .unfold pT at hp;cases e:pN 1 zs with
  | none=>rw [e] at hp;simp at hp
  | some v=>
    obtain ⟨v,r1⟩:=v;obtain ⟨rfl,rfl⟩:=h1.s zs v r1 h e;rw [e] at hp;simp at hp;obtain ⟨u,hu,rfl⟩:=hp;obtain ⟨rfl,rfl⟩:=h2.s r1 u r rfl hu;exact ⟨rfl,rfl⟩
theorem aMh {W:qw}{b:Nat}{zs:qi}(h:RdS W g b n cap zs st)(m:Nat):(oB m st).1.length<=m:=by
 cases st with
 | none=>show 0<=m;omega
 | some r=>
   cases e:pB m r with
   | none=>rw [wW e];show 0<=m;omega
   | some x=>
     obtain ⟨x,r'⟩:=x;rw [wV e];have:=(mH m r x r' h.range e).1.1;show x.length<=m;omega
def RSP {α:Type}(w:qw)(g b n cap:Nat)(zs:qi)(R:α->Value->World->Prop)(p:List Int->Option (α×List Int))(st:Option (List Int))(e:Ending)(w':qw):Prop:=
 ∃ x v st',e=.returned v/\R x v w'/\RdS w' g b n cap zs st'/\Turn (fun j=>j=g) w w'/\Lf p st x st'
theorem aEt (w:qw)(a:qO)(c:Nat):(convert 22 9 (qS a 0 c)).run Tryz.prog w=.ok (.string (eQ [])) w:=by
 rw [run_convert_bytes_string w 22 9 5 a 0 c Tryz.underlying22 Tryz.underlying5 Tryz.underlying9];cases a<;>simp [Conv.bytesToString,eQ]<;>rfl
theorem aIo (g b n cap:Nat)(zs:qi)(st:Option (List Int))(w:qw)(h:RdS w g b n cap zs st):
 qC 32 #[.pointer (qP g)] w (RSP w g b n cap zs (fun x v w=>v=.string x/\x.size<=255) pT st):=by
 have HN:=zh (rO g b n cap zs st 1 w h (Or.inl rfl));have hx:=lW h 1;have HL1:=zh (aJ8 1 st);generalize oN 1 st=X at *;obtain ⟨x,s1⟩:=X;dsimp only at *;obtain ⟨m,rfl⟩:∃ m:Nat,x=(m:Int):=⟨x.toNat,by omega⟩;have hm:m<=255:=by have:=hx.2.2.2 rfl;omega
 clear hx h;go_enter Tryz.func32,Tryz.ntmps32
 go_wp2_with fail
 refine HN.o.mono ?_;rintro e w1 ⟨rfl,R1,T1⟩;have HB:=zh (tI g b n cap zs s1 m w1 R1 (by omega));have hlen:=aMh R1 m;have HL2:=zh (aNp m s1);generalize oB m s1=Y at *;obtain ⟨y,s2⟩:=Y;dsimp only at *;clear R1 HN;go_wp2_with fail
 refine HB.o.mono ?_;rintro e w2 ⟨a,c,rfl,O2,R2,T2⟩;dsimp only at O2 R2;have HF:=zh (xA R2 (T1.trans (T2.mono (fun j hj=>hj))));have hsz:(eQ y).size<=255:=by rw [pR];omega
 have HLT:=zh (HL1.o.text (x:=(m:Int)) (by rw [xY];exact HL2.o));have HBB:=zh O2.bs;clear R2 T2 T1 HB HL1 HL2 O2
 have hcv:(convert 22 9 (qS a y.length c)).run Tryz.prog w2=.ok (.string (eQ y)) w2:=by
  by_cases hy:y.length=0
  .obtain rfl:y=[]:=xE hy;exact aEt w2 a c
  .obtain ⟨b',off,rfl,_⟩:=HBB.o.2.2.2.1 hy;exact qD w2 b' off c y HBB.o
 go_wp2;go_ret;exact ⟨_,_,s2,rfl,⟨rfl,hsz⟩,HF.o.1,HF.o.2,HLT.o⟩
theorem RdS.lts {W:qw}{b:Nat}{zs:qi}(h:RdS W g b n cap zs st):g<W.heap.size/\(n≠0->b<W.heap.size):=by
 refine ⟨by obtain ⟨_,_,hb,_⟩:=h.pos;exact hb.lt,fun hn=>?_⟩;obtain ⟨_,_,_,h4,_⟩:=h.bs;obtain ⟨b',off,e,hc⟩:=h4 hn;simp at e;have:=xD W _ (hc 0 (by omega));simpa [e.1] using this
theorem RdS.grown {W W':qw}{b:Nat}{zs:qi}(h:RdS W g b n cap zs st)(hg:W.grownBy W' row)(hr:∀ k,row=some k->base<=k)(h1:g<base)(h2:n≠0->b<base):RdS W' g b n cap zs st:=by
 obtain ⟨k,p1,p3,p4⟩:=h.pos;have t:Turn (fun j=>row=some j) W W':=⟨hg.os,hg.tape,hg.output,hg.size,fun j hj hs=>hg.block j hj (fun e=>hs e.symm)⟩;refine ⟨⟨k,p1,aA t p3 (fun e=>by have:=hr g e;omega),p4⟩,?_,h.ne,h.small⟩;by_cases hn:n=0
 .subst hn;obtain ⟨b1,b2,b3,b4,b5⟩:=h.bs;exact ⟨b1,b2,b3,fun e=>absurd rfl e,b5⟩
 .exact dK t h.bs (fun j hj b' off e=>by simp at e;have:=hr j hj;have:=h2 hn;omega)
structure Lm {α:Type}(p:List Int->Option (α×List Int))(m k:Nat)(s1:Option (List Int))(xs:List α)(st:Option (List Int)):Prop where
 n:s1=none->st=none
 f:∀ r1,s1=some r1->st=none->∃ j,j<=m/\pM p j r1=none
 s:∀ r1 r,s1=some r1->st=some r->pM p k r1=some (xs,r)
theorem lZ {α:Type}(p:List Int->Option (α×List Int))(m:Nat)(s1:Option (List Int)):Lm p m 0 s1 [] s1:=
 ⟨fun h=>h,fun r1 h h'=>(by rw [h] at h';cases h'),fun r1 r h h'=>(by rw [h] at h';cases h';rfl)⟩
theorem Lm.step {α:Type}{p:List Int->Option (α×List Int)}{xs:List α}{r:qi}{x:α}(h:Lm p m k s1 xs (some r))(hk:k<m)(l:Lf p (some r) x st'):Lm p m (k+1) s1 (xs++[x]) st':=by
 refine ⟨fun e=>(by have:=h.n e;cases this),fun r1 e e'=>⟨k+1,by omega,?_⟩,fun r1 r2 e e'=>?_⟩
 .have hs:=gD (h.s r1 r e rfl);cases hp:p r with
  | none=>rw [hs,hp];rfl
  | some y=>
    obtain ⟨y,r3⟩:=y;have:=(l.s r y r3 rfl hp).2;rw [e'] at this;cases this
 .have hs:=gD (h.s r1 r e rfl);cases hp:p r with
  | none=>
    have:=l.f r rfl hp;rw [e'] at this;cases this
  | some y=>
    obtain ⟨y,r3⟩:=y;obtain ⟨e1,e2⟩:=l.s r y r3 rfl hp;rw [e'] at e2;cases e2
    rw [hs,hp,e1];rfl
theorem Lm.done {α:Type}{p:List Int->Option (α×List Int)}{xs:List α}(h:Lm p m k s1 xs st')(he:k=m\/st'=none)(hkm:k<=m):Lf (pM p m) s1 xs st':=by
 refine ⟨h.n,fun r1 e hp=>?_,fun r1 y r e hp=>?_⟩
 .cases st' with
  | none=>rfl
  | some r=>
    rcases he with rfl|he
    .have:=h.s r1 r e rfl;rw [hp] at this;cases this
    .cases he
 .cases st' with
  | none=>
    obtain ⟨j,hj,hn⟩:=h.f r1 e rfl;have:=iJ hn (m-j);rw [show j+(m-j)=m by omega,hp] at this;cases this
  | some r'=>
    rcases he with rfl|he
    .have:=h.s r1 r' e rfl;rw [hp] at this;cases this
     exact ⟨rfl,rfl⟩
    .cases he
theorem Lf.bindM {α β:Type}{p:List Int->Option (α×List Int)}{x:α}{y:β}{q:α->List Int->Option (β×List Int)}(h1:Lf p st x s1)(h2:Lf (q x) s1 y s2):Lf (fun zs=>(p zs).bind fun u=>q u.1 u.2) st y s2:=by
 refine ⟨fun h=>h2.n (h1.n h),fun zs h hp=>?_,fun zs z r h hp=>?_⟩
 .cases e:p zs with
  | none=>exact h2.n (h1.f zs h e)
  | some v=>
    obtain ⟨v,r1⟩:=v;obtain ⟨rfl,rfl⟩:=h1.s zs v r1 h e;simp only [e] at hp;exact h2.f r1 rfl hp
 .cases e:p zs with
  | none=>simp only [e] at hp;simp at hp
  | some v=>
    obtain ⟨v,r1⟩:=v;obtain ⟨rfl,rfl⟩:=h1.s zs v r1 h e;simp only [e] at hp;exact h2.s r1 z r rfl hp
theorem aMc {α:Type}(t:TypeId)(sz:Nat)(f:α->List Value)(w:qw)(base:Nat)(hb:base<=w.heap.size):OG t sz f (w.alloc (.cells #[] t)) base (qS (qP w.heap.size) 0 0) []:=
 ⟨by simp,.inr ⟨w.heap.size,0,#[],rfl,hb,heap_alloc_new w _,aL,by unfold maxLen;omega,by simp,by simp⟩⟩
theorem aFq (g b n cap:Nat)(zs:qi)(st:Option (List Int))(w:qw)(h:RdS w g b n cap zs st):
 qC 33 #[.pointer (qP g)] w (RSP w g b n cap zs (fun x v w'=>(∃ a c,v=qS a x.length c)/\OG 3 1 clI w' w.heap.size v x/\(∀ z∈x,Wd z)/\x.length<=65535) pL st):=by
 obtain ⟨i0,hi,hz0,hz1,hz2⟩:=info_parts gG;obtain ⟨hgl,hbl⟩:=h.lts;have HBL:=zh hbl;have al:qY w (w.alloc (.cells #[] 3)):=bal;have h0:=h.bw al;have O0:=aMc 3 1 clI w w.heap.size aL;have HN:=zh (rO g b n cap zs st 2 _ h0 (Or.inr (Or.inl rfl)));have hx:=lW h0 2;have HL1:=zh (aJ8 2 st);generalize oN 2 st=X at *;obtain ⟨x,s1⟩:=X;dsimp only at *;obtain ⟨m,rfl⟩:∃ m:Nat,x=(m:Int):=⟨x.toNat,by omega⟩;have hm:m<=65535:=by have:=hx.2.2.1 (by omega);omega
 clear hx h h0 hbl;go_enter Tryz.func33,Tryz.ntmps33
 go_wp2_with fail
 refine HN.o.mono ?_;rintro e w1 ⟨rfl,R1,T1⟩;have O1:=O0.turn T1 (fun k hk=>by omega);have T1':Turn (fun j=>j=g) w w1:=(aJ al).trans T1;clear O0 T1 al HN;go_wp2_with fail
 go_loopw [3,4] (fun x i wr=>∃ (k:Nat) (xs:qi) (s':Option (List Int)),k<=m/\i=qI ((m-k:Nat):Int)/\OG 3 1 clI wr w.heap.size x xs/\xs.length=k/\(∀ z∈xs,Wd z)/\RdS wr g b n cap zs s'/\Turn (fun j=>j=g) w wr/\Lm (pN 4) m k s1 xs s') (fun _ i _=>(intOf i).toNat)
 .exact ⟨0,[],s1,xC _,rfl,O1,rfl,by simp,R1,T1',lZ _ _ _⟩
 .obtain ⟨k,xs,s',hk,rfl,O,hxl,hwd,R,T,L⟩:=hrel;clear O1 R1 T1';obtain ⟨a,c,rfl⟩:=aO O;obtain ⟨kk,_,hb,_⟩:=R.pos;have q2:=hb.cell 2;simp at q2;by_cases hlt:k<m
  .have hlt':(0:Int)<((m-k:Nat):Int):=by omega
   cases s' with
   | none=>
     have HX:=zh (xA O (xA hwd (xA R (xA T ((HL1.o.bindM (q:=fun x r=>pM (pN 4) x.toNat r) (x:=(m:Int)) (L.done (.inr rfl) hk)))))));have hl2:xs.length<=65535:=by omega
     have HL2:=zh hl2;simp at q2;rw [hxl];have HXL:=zh hxl;clear O R T L hb hxl hl2;go_wp2;go_ret;have hl2:=HL2.o;refine ⟨xs,_,none,rfl,⟨⟨a,c,by rw [HXL.o];rfl⟩,?_,HX.o.2.1,hl2⟩,HX.o.2.2.1,HX.o.2.2.2.1,HX.o.2.2.2.2⟩;have:=HX.o.1;rw [HXL.o] at this;exact this
   | some r=>
     simp at q2;have HN:=zh (rO g b n cap zs (some r) 4 wr R (Or.inr (Or.inr rfl)));have hx:=lW R 4;have HL2:=zh (L.step hlt (aJ8 4 (some r)));generalize oN 4 (some r)=X at *;obtain ⟨x,s2⟩:=X;dsimp only at *;have hO:=O;rw [hxl] at hO ⊢;have HXL:=zh hxl;clear hxl L hb O R;go_wp2_with fail
     refine HN.o.mono ?_;rintro e w1 ⟨rfl,R1,T1⟩;have O1:=hO.turn T1 (fun j hj=>by omega);have T2:=T.trans (T1.mono (fun j hj=>hj));have HO1:=zh (show (w1.alloc (.cells #[qI x] 3)).ownsRow w.heap.size 3 1 (qS a k c) k (xs.flatMap clI) by have:=O1.bw (brf.alloc aL (.cells #[qI x] 3));unfold OG at this;rw [HXL.o] at this;exact this);have HR1:=zh (xA R1 (xA T2 hO));have hsz:=T2.size;clear R1 T1 T2 T O1 hO HN;go_wp2_with (at_builtin;refine wpList_append_own _ rfl _ _ 29 rfl w.heap.size 3 i0 (qI 0) 1 8 Tryz.underlying29 hi hz0 hz1 hz2 rfl (by decide) (qS a k c) k (xs.flatMap clI) rfl HO1.o (qR w1.heap.size 0) 1 1 (clI x) rfl rfl (aN w1 _ _ (clI x) rfl) (by intro u hu;simp [clI] at hu;subst hu;rfl) (by unfold maxLen;omega) (by omega) (by simp;omega) ?_;intro v' w3 hown3 hgr3 _)
     obtain ⟨R1,T2,hO⟩:=HR1.o;have T3:Turn (fun j=>j=g) w (w1.alloc (.cells #[qI x] 3)):=T2.trans (aD _ _);have hrow:∀ j,(qS a k c).ownBlock=some j->w.heap.size<=j:=fun j hj=>(hO.lt j hj).1;have T4:=bO T3 hgr3 hrow;have R4:=(R1.bw (brf.alloc aL (.cells #[qI x] 3))).grown hgr3 hrow hgl HBL.o
     have O4:OG 3 1 clI w3 w.heap.size v' (xs++[x]):=by
      unfold OG;rw [xI,HXL.o,xU,xX];exact hown3
     have hwd2:∀ z∈xs++[x],Wd z:=fun z hz=>by
      rcases List.mem_append.1 hz with h'|h'
      .exact hwd z h'
      .simp at h';rw [h'];exact ⟨hx.1,hx.2.1⟩
     have hl4:(xs++[x]).length=k+1:=by rw [xI,HXL.o];rfl
     have HX:=zh (xA O4 (xA R4 (xA T4 (xA hwd2 hl4))));clear O4 R4 T4 T3 R1 T2 hO hown3 hgr3 hrow HR1 HO1 hwd2 hl4;have hdec:((m-k:Nat):Int)-1=((m-(k+1):Nat):Int):=by omega
     have HDEC:=zh hdec;clear hdec;go_wp2
     go_roundw
     .exact ⟨k+1,xs++[x],s2,by omega,by rw [<- HDEC.o],HX.o.1,HX.o.2.2.2.2,HX.o.2.2.2.1,HX.o.2.1,HX.o.2.2.1,HL2.o⟩
     .simp [intOf];omega
  .obtain rfl:k=m:=by omega
   have hn0:((k-k:Nat):Int)=0:=by omega
   rw [hn0];have HX:=zh (xA O (xA hwd (xA R (xA T ((HL1.o.bindM (q:=fun x r=>pM (pN 4) x.toNat r) (x:=(k:Int)) (L.done (.inl rfl) hk)))))));have hl2:xs.length<=65535:=by omega
   have HL2:=zh hl2;rw [hxl];have HXL:=zh hxl;clear O R T L hb q2 hxl hl2;go_wp2;go_ret;have hl2:=HL2.o;refine ⟨xs,_,s',rfl,⟨⟨a,c,by rw [HXL.o];rfl⟩,?_,HX.o.2.1,hl2⟩,HX.o.2.2.1,HX.o.2.2.2.1,HX.o.2.2.2.2⟩;have:=HX.o.1;rw [HXL.o] at this;exact this
structure Ss (w W:qw)(b n cap:Nat)(zs:qi)(st:Option (List Int))(cs:Array Value):Prop where
 rd:RdS W (w.heap.size+2) b n cap zs st
 be:qY w W
 k0:Blk W w.heap.size z8 53
 k1:Blk W (w.heap.size+1) z8 53
 k2:Blk W (w.heap.size+3) cs 53
 lo:b<w.heap.size
def Sg (w:qw)(j:Nat):Prop:=j=w.heap.size+2\/j=w.heap.size+3
theorem Ss.call {w W W':qw}{b:Nat}{zs:qi}(h:Ss w W b n cap zs st cs)(T:Turn (fun j=>j=w.heap.size+2) W W')(R:RdS W' (w.heap.size+2) b n cap zs st'):Ss w W' b n cap zs st' cs:=
 ⟨R,aI h.be T (fun k hk=>by omega) h.be.size,aA T h.k0 (by omega),aA T h.k1 (by omega),aA T h.k2 (by omega),h.lo⟩
theorem Ss.set {w W:qw}{b:Nat}{zs:qi}(h:Ss w W b n cap zs st cs)(i:Nat)(v:Value):Ss w (W.setCell (qR (w.heap.size+3) i) v) b n cap zs st (cs.setIfInBounds i v):=
 ⟨h.rd.turn (aC W (w.heap.size+3) i v) (by omega) (by have:=h.lo;omega),aI h.be (aC W (w.heap.size+3) i v) (fun k hk=>by omega) h.be.size,h.k0.other _ _ (by show w.heap.size≠w.heap.size+3;omega),h.k1.other _ _ (by show w.heap.size+1≠w.heap.size+3;omega),h.k2.set i v,h.lo⟩
theorem Ss.bw {w W W':qw}{b:Nat}{zs:qi}(h:Ss w W b n cap zs st cs)(hb:qY W W'):Ss w W' b n cap zs st cs:=
 ⟨h.rd.bw hb,h.be.trans (hb.mono h.be.size),h.k0.bw hb,h.k1.bw hb,h.k2.bw hb,h.lo⟩
theorem Ss.sz {w W:qw}{b:Nat}{zs:qi}(h:Ss w W b n cap zs st cs):w.heap.size+4<=W.heap.size:=h.k2.lt
theorem Ss.grown {w W W':qw}{b:Nat}{zs:qi}(h:Ss w W b n cap zs st cs)(hg:W.grownBy W' row)(hr:∀ k,row=some k->base<=k)(hb:w.heap.size+4<=base):Ss w W' b n cap zs st cs:=by
 have t:Turn (fun j=>row=some j) W W':=⟨hg.os,hg.tape,hg.output,hg.size,fun j hj hs=>hg.block j hj (fun e=>hs e.symm)⟩;have hlo:=h.lo;have hsz:=h.sz;exact ⟨h.rd.grown hg hr (by omega) (fun _=>by omega),aI h.be t (fun k hk=>by have:=hr k hk;omega) h.be.size,aA t h.k0 (fun e=>by have:=hr _ e;omega),aA t h.k1 (fun e=>by have:=hr _ e;omega),aA t h.k2 (fun e=>by have:=hr _ e;omega),h.lo⟩
theorem wZ {zs:qi}(hz:Byt zs):lY zs=true ↔ 2<=zs.length/\zs.getD 0 0=88/\zs.getD 1 0=77:=by
 unfold lY;by_cases h2:2<=zs.length
 .rw [xR h2,Bool.true_and,decide_eq_true_iff,aK1 zs h2];have z0:0<=zs.getD 0 0/\zs.getD 0 0<=255:=hz _ (by simp [xB,show 0<zs.length by omega]);have z1:0<=zs.getD 1 0/\zs.getD 1 0<=255:=hz _ (by simp [xB,show 1<zs.length by omega]);generalize zs.getD 0 0=x at *;generalize zs.getD 1 0=y at *
  have key:∀ (x:Int) (c:Nat),0<=x/\x<=255->c<=255->(UInt8.ofNat x.toNat=UInt8.ofNat c ↔ x=(c:Int)):=fun x c hx hc=>by
   constructor
   .intro e;have e1:(UInt8.ofNat x.toNat).toNat=x.toNat%256:=UInt8.toNat_ofNat';have e2:(UInt8.ofNat c).toNat=c%256:=UInt8.toNat_ofNat';rw [e] at e1;omega
   .intro e;rw [e,xY]
  constructor
  .intro e;have e':#[UInt8.ofNat x.toNat,UInt8.ofNat y.toNat]=#[88,77]:=congrArg ByteArray.data e;simp at e';exact ⟨h2,(key x 88 z0 (by omega)).1 e'.1,(key y 77 z1 (by omega)).1 e'.2⟩
  .rintro ⟨_,rfl,rfl⟩;rfl
 .rw [xS h2];simp [h2]
theorem aJm {w w':qw}{p:Int×Option PMod}{c:Int}(hp:p=(c,none))(hb:qY w w'):dP w p (.returned (.tuple #[.agg z8,qI c])) w':=by
 subst hp;exact ⟨hb,rfl⟩
theorem cO {W:qw}(h:Blk W k z8 53):W.frozen? (qR k 0)=false/\W.frozen? (qR k 1)=false/\W.frozen? (qR k 2)=false/\W.frozen? (qR k 3)=false/\W.frozen? (qR k 4)=false/\W.frozen? (qR k 5)=false/\W.frozen? (qR k 6)=false/\W.frozen? (qR k 7)=false:=h.froz
theorem gU {w V:qw}(b':qY w V)(k:Blk V w.heap.size z8 53)(c:Int)(p:Int×Option PMod)(hp:p=(c,none))(tmps:Array Value)(h2:tmps[2]?=some (.pointer (qP w.heap.size)))(h3:tmps[3]?=some (qI c)):
 bodyPost Tryz.prog Tryz.f14 (dP w p) Exit.ret ⟨tmps,[]⟩ V:=by
 obtain ⟨t0,t1,t2,t3,t4,t5,t6,t7⟩:=aY k;refine bodyPost_ret_by (v:=.tuple #[.agg z8,qI c]) ?_ rfl (aJm hp b');simp [results,Tryz.results14,go_sem,h2,h3,t0,t1,t2,t3,t4,t5,t6,t7,z8]
theorem fK {w W:qw}(be:qY w W)(k0:Blk W w.heap.size z8 53)(c:Int)(p:Int×Option PMod)(hp:p=(c,none))(tmps:Array Value)(h2:tmps[2]?=some (.pointer (qP w.heap.size)))(h3:tmps[3]?=some (qI c)):
 bodyPost Tryz.prog Tryz.f14 (dP w p) Exit.ret ⟨tmps,[]⟩ (st8 W w.heap.size (.string ⟨#[]⟩) (qS none 0 0) (qS none 0 0) (qS none 0 0) (qI 0) (qS none 0 0) (qS none 0 0) (qS none 0 0)):=by
 have t:=cS W w.heap.size (.string ⟨#[]⟩) (qS none 0 0) (qS none 0 0) (qS none 0 0) (qI 0) (qS none 0 0) (qS none 0 0) (qS none 0 0);have k:=kD k0 rfl (.string ⟨#[]⟩) (qS none 0 0) (qS none 0 0) (qS none 0 0) (qI 0) (qS none 0 0) (qS none 0 0) (qS none 0 0);exact gU (aI be t (fun k hk=>by omega) be.size) k c p hp tmps h2 h3
theorem aBv (b n cap:Nat)(zs:qi)(w:qw)(h:BS w (qP b) n cap zs)(hn:n<=1048576)(hb:b<w.heap.size)(hbad:¬ (n<=20000/\2<=n/\zs.getD 0 0=88/\zs.getD 1 0=77)):
 qC 14 #[qS (qP b) n cap] w (dP w (prs zs)):=by
 have HBAD:=zh hbad;clear hbad;have hl:=h.1;have hby:Byt zs:=h.2.2.1;have HMK:=zh (wZ hby)
 have HPR:Zh (prs zs=if 20000<zs.length then (3,none) else if lY zs=false then (1,none) else match cZ (zs.drop 2) with
  | none=>(2,none)
  | some x=>if x.2≠[] then (3,none) else if bI x.1≠0 then (10+bI x.1,none) else (0,some x.1)):=rfl
 obtain ⟨W0,hW0⟩:=eqx ((w.alloc (.cells #[.string ⟨#[]⟩,qS none 0 0,qS none 0 0,qS none 0 0,qI 0,qS none 0 0,qS none 0 0,qS none 0 0] 53)).alloc (.cells #[.string ⟨#[]⟩,qS none 0 0,qS none 0 0,qS none 0 0,qI 0,qS none 0 0,qS none 0 0,qS none 0 0] 53))
 have F0:qY w W0/\Blk W0 w.heap.size z8 53/\Blk W0 (w.heap.size+1) z8 53:=by
  subst hW0;have b1:qY w (w.alloc (.cells #[.string ⟨#[]⟩,qS none 0 0,qS none 0 0,qS none 0 0,qI 0,qS none 0 0,qS none 0 0,qS none 0 0] 53)):=bal;have k1:=Blk.new w #[.string ⟨#[]⟩,qS none 0 0,qS none 0 0,qS none 0 0,qI 0,qS none 0 0,qS none 0 0,qS none 0 0] 53;have hs1:(w.alloc (.cells #[.string ⟨#[]⟩,qS none 0 0,qS none 0 0,qS none 0 0,qI 0,qS none 0 0,qS none 0 0,qS none 0 0] 53)).heap.size=w.heap.size+1:=by simp
  generalize w.alloc (.cells #[.string ⟨#[]⟩,qS none 0 0,qS none 0 0,qS none 0 0,qI 0,qS none 0 0,qS none 0 0,qS none 0 0] 53)=W1 at *;have b2:qY W1 (W1.alloc (.cells #[.string ⟨#[]⟩,qS none 0 0,qS none 0 0,qS none 0 0,qI 0,qS none 0 0,qS none 0 0,qS none 0 0] 53)):=bal;have k2:=Blk.new W1 #[.string ⟨#[]⟩,qS none 0 0,qS none 0 0,qS none 0 0,qI 0,qS none 0 0,qS none 0 0,qS none 0 0] 53;rw [hs1] at k2;exact ⟨b1.trans (b2.mono (by omega)),k1.bw b2,k2⟩
 obtain ⟨B0,K0,K1⟩:=F0;obtain ⟨p0,p1,p2,p3,p4,p5,p6,p7⟩:=aY K0;obtain ⟨f0,f1,f2,f3,f4,f5,f6,f7⟩:=cO K0;obtain ⟨u0,u1,u2,u3,u4,u5,u6,u7⟩:=aY K1;have HB0:=zh B0;have HK0:=zh K0;have HB:=zh (h.bw B0);by_cases c1:20000<n
 .have c1':(20000:Int)<(n:Int):=by omega
  have HP:=zh (show prs zs=(3,none) by rw [HPR.o,if_pos (by omega)]);clear B0 K0 K1 h HPR HMK;go_enter Tryz.func14,Tryz.ntmps14
  go_wp2;rw [<- hW0];exact gU HB0.o HK0.o 3 _ HP.o _ rfl rfl
 .have c1':¬ (20000:Int)<(n:Int):=by omega
  by_cases c2:n<2
  .have c2':(n:Int)<2:=by omega
   have HP:=zh (show prs zs=(1,none) by
    rw [HPR.o,if_neg (by omega),if_pos];cases e:lY zs with
    | false=>rfl
    | true=>have:=HMK.o.1 e;omega)
   clear B0 K0 K1 h HPR HMK;go_enter Tryz.func14,Tryz.ntmps14
   go_wp2;rw [<- hW0];exact gU HB0.o HK0.o 1 _ HP.o _ rfl rfl
  .have c2':¬ (n:Int)<2:=by omega
   have m0:(0:Int)<(n:Int):=by omega
   have m1:(1:Int)<(n:Int):=by omega
   have b0:=HB.o.at 0 (by omega);have b1:=HB.o.at 1 (by omega);rw [hW0] at b0 b1;by_cases c3:zs.getD 0 0=88/\zs.getD 1 0=77
   .exact absurd ⟨by omega,by omega,c3.1,c3.2⟩ HBAD.o
   .have HP:=zh (show prs zs=(1,none) by
     rw [HPR.o,if_neg (by omega),if_pos];cases e:lY zs with
     | false=>rfl
     | true=>have:=HMK.o.1 e;exact absurd ⟨this.2.1,this.2.2⟩ c3)
    have d1:(zs.getD 0 0==88)=false\/(zs.getD 1 0==77)=false:=by
     by_cases e:zs.getD 0 0=88
     .right;simp;intro e';exact c3 ⟨e,by simpa [xB] using e'⟩
     .left;simp;intro e';exact e (by simpa [xB] using e')
    generalize zs.getD 0 0=x at *;generalize zs.getD 1 0=y at *;by_cases e0:x=88
    .subst e0;have e1:(y !=77)=true:=by simp;intro e;exact c3 ⟨rfl,e⟩
     clear B0 K0 K1 h HPR HMK c3 d1;go_enter Tryz.func14,Tryz.ntmps14
     go_wp2;rw [<- hW0];exact gU HB0.o HK0.o 1 _ HP.o _ rfl rfl
    .have e1:(x !=88)=true:=by simp [e0]
     clear B0 K0 K1 h HPR HMK c3 d1;go_enter Tryz.func14,Tryz.ntmps14
     go_wp2;rw [<- hW0];exact gU HB0.o HK0.o 1 _ HP.o _ rfl rfl
theorem aLw {w W0:qw}{b:Nat}{zs:qi}(h:BS w (qP b) n cap zs)(hn:n<=1048576)(hb:b<w.heap.size)(h2:2<=n)(B0:qY w W0)(K0:Blk W0 w.heap.size z8 53)(K1:Blk W0 (w.heap.size+1) z8 53)(hs:W0.heap.size=w.heap.size+2):
 Ss w ((W0.alloc (.cells #[qS (qP b) n cap,qI 2,.bool false] 85)).alloc (.cells #[.string ⟨#[]⟩,qS none 0 0,qS none 0 0,qS none 0 0,qI 0,qS none 0 0,qS none 0 0,qS none 0 0] 53)) b n cap zs (some (zs.drop 2)) z8:=by
 have b1:qY W0 (W0.alloc (.cells #[qS (qP b) n cap,qI 2,.bool false] 85)):=bal;have k1:=Blk.new W0 #[qS (qP b) n cap,qI 2,.bool false] 85;have hs1:(W0.alloc (.cells #[qS (qP b) n cap,qI 2,.bool false] 85)).heap.size=w.heap.size+3:=by simp [hs]
 rw [hs] at k1;generalize W0.alloc (.cells #[qS (qP b) n cap,qI 2,.bool false] 85)=W1 at *;have b2:qY W1 (W1.alloc (.cells #[.string ⟨#[]⟩,qS none 0 0,qS none 0 0,qS none 0 0,qI 0,qS none 0 0,qS none 0 0,qS none 0 0] 53)):=bal;have k2:=Blk.new W1 #[.string ⟨#[]⟩,qS none 0 0,qS none 0 0,qS none 0 0,qI 0,qS none 0 0,qS none 0 0,qS none 0 0] 53;rw [hs1] at k2;have bb:=b1.trans (b2.mono (by omega));have B2:=B0.trans (bb.mono B0.size);exact ⟨⟨⟨2,h2,k1.bw b2,fun r e=>by simp at e;exact e.symm⟩,h.bw B2,by omega,hn⟩,B2,K0.bw bb,K1.bw bb,k2,hb⟩
theorem Ss.drew {w W:qw}{b:Nat}{zs:qi}(h:Ss w W b n cap zs st cs):Ss w W.drew b n cap zs st cs:=⟨h.rd.drew,h.be.drew,h.k0,h.k1,h.k2,h.lo⟩
theorem Ss.two {w W:qw}{b:Nat}{zs:qi}(h:Ss w W b n cap zs st cs)(j:Nat)(v:Value)(hj:cs[j]?=some v):W.cell? (qR (w.heap.size+3) j)=some v/\W.frozen? (qR (w.heap.size+3) j)=false:=⟨(h.k2.cell j).trans hj,h.k2.frozen j⟩
theorem Ss.short {w W:qw}{b:Nat}{zs:qi}(h:Ss w W b n cap zs st cs):W.cell? (qR (w.heap.size+2) 2)=some (.bool st.isNone):=by
 obtain ⟨k,_,hb,_⟩:=h.rd.pos;simpa using hb.cell 2
theorem cK {α:Type}(p:List Int->Option (α×List Int))(x:α):Lf p none x none:=⟨fun _=>rfl,fun _ h=>(by cases h),fun _ _ _ h=>(by cases h)⟩
theorem aMp {α β:Type}{p:List Int->Option (α×List Int)}{x:α}(f:α->β)(h:Lf p s1 x s2):Lf (fun zs=>(p zs).map fun u=>(f u.1,u.2)) s1 (f x) s2:=by
 refine ⟨h.n,fun zs e hp=>h.f zs e ?_,fun zs y r e hp=>?_⟩
 .cases e':p zs with
  | none=>rfl
  | some v=>simp only [e'] at hp;simp at hp
 .cases e':p zs with
  | none=>simp only [e'] at hp;simp at hp
  | some v=>
    simp only [e'] at hp;simp at hp;obtain ⟨a,b⟩:=h.s zs v.1 v.2 e e';exact ⟨by rw [a];exact hp.1,by rw [b,hp.2]⟩
theorem aOo {y:Int}(L1:Lf pT s0 nm s1)(L2:Lf (pN 1) s1 x s2)(L3:Lf (pN 2) s2 y s3):Lf pX s0 (nm,x-1,y) s3:=
 L1.bindM (q:=fun a r=>(pN 1 r).bind fun y=>(pN 2 y.2).map fun z=>((a,y.1-1,z.1),z.2)) (L2.bindM (q:=fun b r=>(pN 2 r).map fun z=>((nm,b-1,z.1),z.2)) (aMp (fun z=>(nm,x-1,z)) L3))
theorem dS {α:Type}{p:List Int->Option (α×List Int)}{zs:qi}{x:α}(h:Lf p (some zs) x st):(p zs=none/\st=none)\/∃ r,p zs=some (x,r)/\st=some r:=by
 cases e:p zs with
 | none=>exact .inl ⟨rfl,h.f zs rfl e⟩
 | some y=>
   obtain ⟨y,r⟩:=y;obtain ⟨rfl,hr⟩:=h.s zs y r rfl e;exact .inr ⟨r,rfl,hr⟩
theorem aNo {α:Type}{p:List Int->Option (α×List Int)}{x:α}(hn:s0=none->st=none)(h:∀ zs,s0=some zs->(p zs=none/\st=none)\/∃ r,p zs=some (x,r)/\st=some r):Lf p s0 x st:=by
 refine ⟨hn,fun zs e hp=>?_,fun zs y r e hp=>?_⟩
 .rcases h zs e with ⟨_,h2⟩|⟨r,h1,h2⟩
  .exact h2
  .rw [hp] at h1;cases h1
 .rcases h zs e with ⟨h1,h2⟩|⟨r',h1,h2⟩
  .rw [hp] at h1;cases h1
  .rw [hp] at h1;cases h1;exact ⟨rfl,h2⟩
theorem rX {s4 s5 s6 s7 s8 s9 s10 s11 s12 s13:Option (List Int)}{tz:qi}{m:Int}{bl:List (List Int)}{nd:Int}{dz:qi}{bss mr:Int}{rz:qi}{mi:Int}{ss:List ByteArray}{me:Int}{es:List Ex}
 (L1:Lf pT s0 nm s1) (L2:Lf pL s1 tz s2) (L3:Lf (pN 1) s2 m s3) (L4:Lf (pM pL m.toNat) s3 bl s4) (L5:Lf (pN 2) s4 nd s5) (L6:Lf (pB nd.toNat) s5 dz s6) (L7:Lf (pN 2) s6 bss s7) (L8:Lf (pN 1) s7 mr s8) (L9:Lf (pM (pN 2) mr.toNat) s8 rz s9) (L10:Lf (pN 1) s9 mi s10) (L11:Lf (pM pT mi.toNat) s10 ss s11) (L12:Lf (pN 1) s11 me s12) (L13:Lf (pM pX me.toNat) s12 es s13):
 Lf cZ s0 ⟨nm,tz,bl,dz,bss,rz,ss,es⟩ s13:=by
 refine aNo (fun h=>L13.n (L12.n (L11.n (L10.n (L9.n (L8.n (L7.n (L6.n (L5.n (L4.n (L3.n (L2.n (L1.n (h)))))))))))))) fun z0 hz=>?_;subst hz;unfold cZ;rcases dS L1 with ⟨e,rfl⟩|⟨z1,e,rfl⟩
 .exact .inl ⟨by rw [e];rfl,L13.n (L12.n (L11.n (L10.n (L9.n (L8.n (L7.n (L6.n (L5.n (L4.n (L3.n (L2.n (rfl))))))))))))⟩
 rw [e];clear e;simp only [Option.bind_some];rcases dS L2 with ⟨e,rfl⟩|⟨z2,e,rfl⟩
 .exact .inl ⟨by rw [e];rfl,L13.n (L12.n (L11.n (L10.n (L9.n (L8.n (L7.n (L6.n (L5.n (L4.n (L3.n (rfl)))))))))))⟩
 rw [e];clear e;simp only [Option.bind_some];rcases dS L3 with ⟨e,rfl⟩|⟨z3,e,rfl⟩
 .exact .inl ⟨by rw [e];rfl,L13.n (L12.n (L11.n (L10.n (L9.n (L8.n (L7.n (L6.n (L5.n (L4.n (rfl))))))))))⟩
 rw [e];clear e;simp only [Option.bind_some];rcases dS L4 with ⟨e,rfl⟩|⟨z4,e,rfl⟩
 .exact .inl ⟨by rw [e];rfl,L13.n (L12.n (L11.n (L10.n (L9.n (L8.n (L7.n (L6.n (L5.n (rfl)))))))))⟩
 rw [e];clear e;simp only [Option.bind_some];rcases dS L5 with ⟨e,rfl⟩|⟨z5,e,rfl⟩
 .exact .inl ⟨by rw [e];rfl,L13.n (L12.n (L11.n (L10.n (L9.n (L8.n (L7.n (L6.n (rfl))))))))⟩
 rw [e];clear e;simp only [Option.bind_some];rcases dS L6 with ⟨e,rfl⟩|⟨z6,e,rfl⟩
 .exact .inl ⟨by rw [e];rfl,L13.n (L12.n (L11.n (L10.n (L9.n (L8.n (L7.n (rfl)))))))⟩
 rw [e];clear e;simp only [Option.bind_some];rcases dS L7 with ⟨e,rfl⟩|⟨z7,e,rfl⟩
 .exact .inl ⟨by rw [e];rfl,L13.n (L12.n (L11.n (L10.n (L9.n (L8.n (rfl))))))⟩
 rw [e];clear e;simp only [Option.bind_some];rcases dS L8 with ⟨e,rfl⟩|⟨z8,e,rfl⟩
 .exact .inl ⟨by rw [e];rfl,L13.n (L12.n (L11.n (L10.n (L9.n (rfl)))))⟩
 rw [e];clear e;simp only [Option.bind_some];rcases dS L9 with ⟨e,rfl⟩|⟨z9,e,rfl⟩
 .exact .inl ⟨by rw [e];rfl,L13.n (L12.n (L11.n (L10.n (rfl))))⟩
 rw [e];clear e;simp only [Option.bind_some];rcases dS L10 with ⟨e,rfl⟩|⟨z10,e,rfl⟩
 .exact .inl ⟨by rw [e];rfl,L13.n (L12.n (L11.n (rfl)))⟩
 rw [e];clear e;simp only [Option.bind_some];rcases dS L11 with ⟨e,rfl⟩|⟨z11,e,rfl⟩
 .exact .inl ⟨by rw [e];rfl,L13.n (L12.n (rfl))⟩
 rw [e];clear e;simp only [Option.bind_some];rcases dS L12 with ⟨e,rfl⟩|⟨z12,e,rfl⟩
 .exact .inl ⟨by rw [e];rfl,L13.n (rfl)⟩
 rw [e];clear e;simp only [Option.bind_some];rcases dS L13 with ⟨e,rfl⟩|⟨z13,e,rfl⟩
 .exact .inl ⟨by rw [e];rfl,rfl⟩
 rw [e];clear e;exact .inr ⟨z13,rfl,rfl⟩
def wF (zs:qi):Int×Option PMod:=match cZ (zs.drop 2) with
 | none=>(2,none)
 | some x=>if x.2≠[] then (3,none) else if bI x.1≠0 then (10+bI x.1,none) else (0,some x.1)
theorem gR {zs:qi}(h:Lf cZ (some (zs.drop 2)) P none):wF zs=(2,none):=by
 unfold wF;cases e:cZ (zs.drop 2) with
 | none=>rfl
 | some x=>have:=(h.s _ x.1 x.2 rfl e).2;cases this
theorem aEy {zs r:qi}(h:Lf cZ (some (zs.drop 2)) P (some r)):cZ (zs.drop 2)=some (P,r)/\wF zs=if r≠[] then (3,none) else if bI P≠0 then (10+bI P,none) else (0,some P):=by
 cases e:cZ (zs.drop 2) with
 | none=>have:=h.f _ rfl e;cases this
 | some x=>
   obtain ⟨h1,h2⟩:=h.s _ x.1 x.2 rfl e;simp at h2;subst h1 h2;refine ⟨rfl,?_⟩;unfold wF;rw [e]
def StS (w:qw)(A:World->Prop):Prop:=∀ W W',Turn (Sg w) W W'->A W->A W'
theorem StS.and {w:qw}{A B:World->Prop}(a:StS w A)(b:StS w B):StS w (fun W=>A W/\B W):=fun W W' t h=>⟨a W W' t h.1,b W W' t h.2⟩
theorem vQ {α:Type}{t:TypeId}{sz:Nat}{f:α->List Value}{w:qw}{xs:List α}(hb:w.heap.size+4<=base):StS w (fun W=>OG t sz f W base v xs):=fun W W' t h=>h.turn t (fun k hk=>by unfold Sg at hk;omega)
theorem aIq {w:qw}(hb:w.heap.size+4<=base):StS w (fun W=>OBk W base v bl):=fun W W' t h=>h.turn t (fun k hk=>by unfold Sg at hk;omega)
theorem aLt {w:qw}{zs:qi}(hb:w.heap.size+4<=base):StS w (fun W=>OB W base v zs):=fun W W' t h=>cC t h (fun k hk e=>by have:=(h.lt k hk).1;unfold Sg at e;omega)
theorem Sg.a {w:qw}{W W':qw}(t:Turn (fun j=>j=w.heap.size+2) W W'):Turn (Sg w) W W':=t.mono (fun j hj=>.inl hj)
theorem Sg.b {w W:qw}(i:Nat)(v:Value):Turn (Sg w) W (W.setCell (qR (w.heap.size+3) i) v):=(aC W (w.heap.size+3) i v).mono (fun j hj=>.inr hj)
theorem Ss.num {w W:qw}{b:Nat}{zs:qi}(h:Ss w W b n cap zs st cs)(s:Nat)(hs:s=1\/s=2):
 qC 34 #[.pointer (some (qR (w.heap.size+2) 0)),qI s] W fun e w'=>∃ (x:Nat) (st':Option (List Int)),e=.returned (qI (x:Int))/\x<=65535/\(s=1->x<=255)/\Lf (pN s) st (x:Int) st'/\Ss w w' b n cap zs st' cs/\Turn (Sg w) W w':=by
 refine (rO (w.heap.size+2) b n cap zs st s W h.rd (by omega)).mono ?_;rintro e w' ⟨rfl,R,T⟩;have hx:=lW h.rd s;have L:=aJ8 s st;generalize oN s st=X at *;obtain ⟨x,st'⟩:=X;obtain ⟨m,rfl⟩:∃ m:Nat,x=(m:Int):=⟨x.toNat,by have:=hx.1;dsimp only at this;omega⟩;exact ⟨m,st',rfl,by have:=hx.2.2.1 (by omega);dsimp only at this;omega,fun e=>by have:=hx.2.2.2 e;dsimp only at this;omega,L,h.call T R,Sg.a T⟩
theorem Ss.num0 {w W:qw}{b:Nat}{zs:qi}(h:Ss w W b n cap zs none cs)(s:Nat)(hs:s=1\/s=2):
 qC 34 #[.pointer (some (qR (w.heap.size+2) 0)),qI s] W fun e w'=>e=.returned (qI 0)/\Ss w w' b n cap zs none cs:=by
 refine (rO (w.heap.size+2) b n cap zs none s W h.rd (by omega)).mono ?_;rintro e w' ⟨rfl,R,T⟩;exact ⟨rfl,h.call T R⟩
theorem Ss.bytes {w W:qw}{b:Nat}{zs:qi}(h:Ss w W b n cap zs st cs)(s:Nat)(hs:s<=65535):
 qC 35 #[.pointer (some (qR (w.heap.size+2) 0)),qI s] W fun e w'=>∃ (x:qi) (st':Option (List Int)) (a:qO) (c:Nat),e=.returned (qS a x.length c)/\OB w' W.heap.size (qS a x.length c) x/\Lf (pB s) st x st'/\Ss w w' b n cap zs st' cs/\Turn (Sg w) W w':=by
 refine (tI (w.heap.size+2) b n cap zs st s W h.rd hs).mono ?_;rintro e w' ⟨a,c,rfl,O,R,T⟩;exact ⟨_,_,a,c,rfl,O,aNp s st,h.call T R,Sg.a T⟩
theorem Ss.bytes0 {w W:qw}{b:Nat}{zs:qi}(h:Ss w W b n cap zs none cs):
 qC 35 #[.pointer (some (qR (w.heap.size+2) 0)),qI 0] W fun e w'=>∃ (a:qO) (c:Nat),e=.returned (qS a 0 c)/\Ss w w' b n cap zs none cs:=by
 refine (tI (w.heap.size+2) b n cap zs none 0 W h.rd (by omega)).mono ?_;rintro e w' ⟨a,c,rfl,O,R,T⟩;exact ⟨a,c,rfl,h.call T R⟩
theorem Ss.text {w W:qw}{b:Nat}{zs:qi}(h:Ss w W b n cap zs st cs):
 qC 32 #[.pointer (some (qR (w.heap.size+2) 0))] W fun e w'=>∃ (x:ByteArray) (st':Option (List Int)),e=.returned (.string x)/\Lf pT st x st'/\Ss w w' b n cap zs st' cs/\Turn (Sg w) W w':=by
 refine (aIo (w.heap.size+2) b n cap zs st W h.rd).mono ?_;rintro e w' ⟨x,v,st',rfl,⟨rfl,hx⟩,R,T,L⟩;exact ⟨x,st',rfl,L,h.call T R,Sg.a T⟩
theorem Ss.words {w W:qw}{b:Nat}{zs:qi}(h:Ss w W b n cap zs st cs):
 qC 33 #[.pointer (some (qR (w.heap.size+2) 0))] W fun e w'=>∃ (x:qi) (st':Option (List Int)) (a:qO) (c:Nat),e=.returned (qS a x.length c)/\OG 3 1 clI w' W.heap.size (qS a x.length c) x/\Lf pL st x st'/\Ss w w' b n cap zs st' cs/\Turn (Sg w) W w':=by
 refine (aFq (w.heap.size+2) b n cap zs st W h.rd).mono ?_;rintro e w' ⟨x,v,st',rfl,⟨⟨a,c,rfl⟩,o,hw,hx⟩,R,T,L⟩;exact ⟨x,st',a,c,rfl,o,L,h.call T R,Sg.a T⟩
theorem Ss.other {w W:qw}{b:Nat}{zs:qi}(h:Ss w W b n cap zs st cs)(i:Nat)(v:Value)(hg:w.heap.size+4<=g):Ss w (W.setCell (qR g i) v) b n cap zs st cs:=
 ⟨h.rd.turn (aC W g i v) (by omega) (by have:=h.lo;omega),aI h.be (aC W g i v) (fun k hk=>by omega) h.be.size,aA (aC W g i v) h.k0 (by omega),aA (aC W g i v) h.k1 (by omega),aA (aC W g i v) h.k2 (by omega),h.lo⟩
theorem aJx {w W:qw}{a1:qO}{c1:Nat}{a2:qO}{c2:Nat}{a3:qO}{c3:Nat}{a5:qO}{c5:Nat}{a6:qO}{c6:Nat}{a7:qO}{c7:Nat}(be:qY w W)(k0:Blk W w.heap.size z8 53)(MO:ModO W (w.heap.size+4) P a1 c1 a2 c2 bl a3 c3 a5 c5 a6 c6 a7 c7)(p:Int×Option PMod)(hp:p=(0,some P))(tmps:Array Value)(h2:tmps[2]?=some (.pointer (qP w.heap.size)))(h3:tmps[3]?=some (qI 0)):
 bodyPost Tryz.prog Tryz.f14 (dP w p) Exit.ret ⟨tmps,[]⟩ (st8 W w.heap.size (.string P.nm) (qS a1 P.tz.length c1) (qS a2 bl.length c2) (qS a3 P.dz.length c3) (qI P.bss) (qS a5 P.rz.length c5) (qS a6 P.ss.length c6) (qS a7 P.es.length c7)):=by
 have t:=cS W w.heap.size (.string P.nm) (qS a1 P.tz.length c1) (qS a2 bl.length c2) (qS a3 P.dz.length c3) (qI P.bss) (qS a5 P.rz.length c5) (qS a6 P.ss.length c6) (qS a7 P.es.length c7);have k:=kD k0 rfl (.string P.nm) (qS a1 P.tz.length c1) (qS a2 bl.length c2) (qS a3 P.dz.length c3) (qI P.bss) (qS a5 P.rz.length c5) (qS a6 P.ss.length c6) (qS a7 P.es.length c7);obtain ⟨t0,t1,t2,t3,t4,t5,t6,t7⟩:=k.eight';refine bodyPost_ret_by (v:=.tuple #[.agg (fL P a1 c1 a2 c2 bl a3 c3 a5 c5 a6 c6 a7 c7),qI 0]) ?_ rfl ?_
 .simp [results,Tryz.results14,go_sem,h2,h3,t0,t1,t2,t3,t4,t5,t6,t7,fL]
 .subst hp;exact ⟨aI be t (fun k hk=>by omega) be.size,a1,c1,a2,c2,bl,a3,c3,a5,c5,a6,c6,a7,c7,rfl,(MO.turn t (fun k hk=>by omega)).mono (by omega)⟩
end Go.Proofs.YtcimaholejajpaaGreat
namespace Go.Proofs.YtcimaholejajpaaGreat
open Go.RowKit Classical
set_option maxRecDepth 100000
variable {L:Lay}{P:PMod}{ps:List PMod}
theorem aOx {S F:Nat->World->Prop}{G:Prop}(main:(∀ g W,F g W->S g W)->G)(pf:∀ g W,F g W->S g W):G:=main pf
def wdS (L:Lay):Int:=if 4<L.slots.length then 1 else cfW L
theorem aJ3 (ps:List PMod)(L:Lay):Lok ps L ↔ (lkc ps (L.slots.length:Int) (wdS L) (cfK L) 0=0/\lkL ps (L.slots.length:Int) (wdS L) (cfK L) 0=L):=by
 unfold wdS;by_cases h:4<L.slots.length
 .rw [if_pos h]
  have key:∀ wd:Int,lkc ps (L.slots.length:Int) wd (cfK L) 0≠0:=fun wd e=>by
   have hc:=(fC e).1;unfold cfo at hc;simp at hc;omega
  constructor
  .intro e;exact absurd e.1 (key _)
  .intro e;exact absurd e.1 (key _)
 .rw [if_neg h];rfl
theorem sA (a:qO)(n0 cap:Nat)(ms:List Md)(L:Lay)(a0:qO)(c0:Nat)(xs:List PB)(a2:qO)(c2:Nat)(a5:qO)(c5:Nat)(ts:List TB)(w:qw)(h:MSD w a n0 cap ms)(hL:LyT w L a0 c0 xs a2 c2 a5 c5 ts):
 qC 45 #[qS a n0 cap,.agg (qL L a0 xs.length c0 a2 L.slots.length c2 a5 ts.length c5)] w fun e w'=>e=.returned (.bool (decide (Lok (aF ms) L)))/\qY w w':=by
 have hmx:=hL.s.2.1;unfold maxLen at hmx;obtain ⟨r,hr⟩:=eqx (decide (Lok (aF ms) L));rw [<- hr];replace hr:r=true ↔ Lok (aF ms) L:=by rw [hr];simp
 rw [aJ3] at hr;have HLB:=zh (mE (aF ms) (L.slots.length:Int) (wdS L) (cfK L) 0);have HLV:=zh (aAr (aF ms) (L.slots.length:Int) (wdS L) (cfK L) 0)
 have HSP:=zh (fun (W:qw) (hb:qY w W)=>by
  have:=uO a n0 cap ms (L.slots.length:Int) (wdS L) (cfK L) 0 W (h.bw hb);unfold LkM mC at this
  exact this)
 generalize lkL (aF ms) (L.slots.length:Int) (wdS L) (cfK L) 0=LY at *;generalize lkc (aF ms) (L.slots.length:Int) (wdS L) (cfK L) 0=C at *;have HR:=zh hr;have HEN:=zh (fun (W:qw) (hb:qY w W)=>sC L a0 c0 xs a2 c2 a5 c5 ts W (hL.bw hb));have HSL:=zh (fun (LY:Lay) (b0:qO) (d0:Nat) (ys:List PB) (b2:qO) (d2:Nat) (b5:qO) (d5:Nat) (us:List TB) (W:qw) (o:LyT W LY b0 d0 ys b2 d2 b5 d5 us) (hb:qY w W)=>tK LY b0 d0 ys b2 d2 b5 d5 us L a0 c0 xs a2 c2 a5 c5 ts W o (hL.bw hb));have HWK:=zh (show IntKind.i64.wrap (cV L-L.stack)=cfK L from xP _);have HWD:=zh (show wdS L=if 4<L.slots.length then 1 else cfW L from rfl);have HCW:=zh (show cfW L=if L.slots=[] then 1 else wrap64 ((cfQ L).tdiv 4) from rfl);have HCQ:=zh (show cfQ L=wrap64 ((wrap64 (wrap64 (65536+L.ram)-L.slots.getD 0 0)).tdiv (L.slots.length:Int)) from rfl);have HS:=zh hL.s;have HNE:=zh (show L.slots=[] ↔ L.slots.length=0 from List.length_eq_zero_iff.symm);have hC0:C=C:=rfl;clear h hL hr hC0;generalize cfK L=K at *;generalize wdS L=wd at *;generalize cV L=E at *;generalize L.slots.length=n at *;have B0:qY w (w.alloc (.cells (qL L a0 xs.length c0 a2 n c2 a5 ts.length c5) 64)):=brf.alloc aL _;have k0:=Blk.new w (qL L a0 xs.length c0 a2 n c2 a5 ts.length c5) 64;go_enter Tryz.func45,Tryz.ntmps45
 go_wp2_with fail
 generalize w.alloc (.cells (qL L a0 xs.length c0 a2 n c2 a5 ts.length c5) 64)=W0 at *;have hw0:w.heap.size<W0.heap.size:=k0.lt;obtain ⟨x0,x1,x2,x3,x4,x5⟩:=k0.ly6;have HK0:=zh (xA B0 k0);have HEZ:=zh (fun (zc:Array Value) (t:TypeId) (X:qw) (o:Option Nat) (hz:Zb zc t W0 X o)=>(HEN.o X (HK0.o.1.trans (hz.1.mono HK0.o.1.size))).mono (fun e w' he=>show e=.returned (qI E)/\Zb zc t W0 w' o from ⟨he.1,hz.bw he.2⟩));have HCL:=zh (fun (W:qw) (hb:qY W0 W)=>(HK0.o.2.bw hb).ly6);have HY0:=zh (aLn (qW 0 0 0 0) 25 W0);have HFB:=zh (fun (X:qw) (hz:Zb (qW 0 0 0 0) 25 W0 X none)=>show qY W0 (X.alloc (.cells (qW n 1 K 0) 25))/\Blk (X.alloc (.cells (qW n 1 K 0) 25)) X.heap.size (qW n 1 K 0) 25/\W0.heap.size<=X.heap.size from ⟨hz.1.alloc hz.1.size _,Blk.new _ _ _,hz.1.size⟩)
 have HFA:=zh (fun (X:qw) (g:Nat) (hz:Zb (qW 0 0 0 0) 25 W0 X (some g))=>show qY W0 ((((X.setCell ⟨g,0,none⟩ (qI n)).setCell ⟨g,1,none⟩ (qI 1)).setCell ⟨g,2,none⟩ (qI K)).setCell ⟨g,3,none⟩ (qI 0))/\Blk ((((X.setCell ⟨g,0,none⟩ (qI n)).setCell ⟨g,1,none⟩ (qI 1)).setCell ⟨g,2,none⟩ (qI K)).setCell ⟨g,3,none⟩ (qI 0)) g (qW n 1 K 0) 25/\W0.heap.size<=g from by
  obtain ⟨hg,hk⟩:=hz.2 g rfl;have T:Turn (fun j=>j=g) X ((((X.setCell ⟨g,0,none⟩ (qI n)).setCell ⟨g,1,none⟩ (qI 1)).setCell ⟨g,2,none⟩ (qI K)).setCell ⟨g,3,none⟩ (qI 0)):=(((aC _ _ _ _).trans (aC _ _ _ _)).trans (aC _ _ _ _)).trans (aC _ _ _ _);have kz:=(((hk.set 0 (qI n)).set 1 (qI 1)).set 2 (qI K)).set 3 (qI 0);simp only [yA,yB,yC] at kz
  exact ⟨aI hz.1 T (fun k e=>by omega) hz.1.size,kz,hg⟩)
 clear B0 k0;apply aOx (F:=fun gc W=>qY W0 W/\Blk W gc (qW n 1 K 0) 25/\W0.heap.size<=gc)
 .intro REST0;have REST:=zh REST0;clear REST0
  go_region_held3 (fun w'=>w'.cell? ⟨w.heap.size,0,none⟩=some (qS a0 xs.length c0)/\w'.cell? ⟨w.heap.size,1,none⟩=some (qI L.stack)/\w'.cell? ⟨w.heap.size,2,none⟩=some (qS a2 n c2)/\w'.cell? ⟨w.heap.size,3,none⟩=some (qI L.flash)/\w'.cell? ⟨w.heap.size,4,none⟩=some (qI L.ram)/\w'.cell? ⟨w.heap.size,5,none⟩=some (qS a5 ts.length c5)) (go_keep)
   (first
     | (go_at_call 79;first
         | with_reducible refine (HEZ.o _ _ _ none HY0.o).mono ?_
         | with_reducible refine (HEZ.o _ _ _ none HY0.o.drew).mono ?_
         | with_reducible refine (HEZ.o _ _ _ _ HY0.o.box).mono ?_
         | with_reducible refine (HEZ.o _ _ _ _ HY0.o.drew.box).mono ?_
         | with_reducible refine (HEZ.o _ _ _ _ HY0.o.box.drew).mono ?_
        rintro e w1 ⟨rfl,hY1⟩;have HY1:=zh hY1;clear hY1;obtain ⟨d0,d1,d2,d3,d4,d5⟩:=HCL.o w1 HY1.o.1;have hwr:=HWK.o
        first
         | (have kz:=(HY1.o.2 _ rfl).2
            have z0:=kz.cell 0;have z1:=kz.cell 1;have z2:=kz.cell 2;have z3:=kz.cell 3;simp only [List.getElem?_toArray,List.getElem?_cons_zero,List.getElem?_cons_succ] at z0 z1 z2 z3;have zf:=kz.frozen;have hne:=Nat.ne_of_lt (Nat.lt_of_lt_of_le hw0 (HY1.o.2 _ rfl).1);have hne':=hne.symm
            clear kz)
         | skip))
  all_goals try simp only [HWK.o]
  .have HF:=zh (HFB.o _ HY1.o);generalize w1.alloc (.cells (qW n 1 K 0) 25)=W' at HF ⊢;generalize w1.heap.size=gc at HF ⊢;exact REST.o gc W' HF.o
  all_goals exact REST.o _ _ (HFA.o _ _ HY1.o)
 .rintro gc W ⟨hb,kc,hg⟩;show Exit.then _ _ _ _ _
  have B1:=HK0.o.1.trans (hb.mono HK0.o.1.size);have k1:=HK0.o.2.bw hb;obtain ⟨d0,d1,d2,d3,d4,d5⟩:=k1.ly6;have hne:=Nat.ne_of_lt (Nat.lt_of_lt_of_le hw0 hg);clear hb x0 x1 x2 x3 x4 x5 HK0 HEZ HCL HY0 HFA HFB HEN HWK;by_cases hB:0<n/\n<=4
  .obtain ⟨hn0,hn4⟩:=hB;have hn0':(0:Int)<(n:Int):=by omega
   have hn4':(n:Int)<=4:=by omega
   have he:((n:Int)==0)=false:=by simp;omega
   have hnz:¬ ((n:Int)=0):=by omega
   have hnn:¬ (n=0):=by omega
   obtain ⟨b,off,rfl,hc⟩:=HS.o.2.2.2.1 (by omega);have q0:=hc 0 hn0;rw [Nat.add_zero] at q0
   have nb:b≠gc:=by
    have h2:=xD _ _ q0;dsimp only at h2;omega
   have q:=aE B1 q0;clear q0;have HVW:=zh (show wrap64 ((wrap64 ((wrap64 (wrap64 (65536+L.ram)-L.slots.getD 0 0)).tdiv (n:Int))).tdiv 4)=wd by rw [HWD.o,if_neg (by omega),HCW.o,if_neg (by rw [HNE.o];omega),HCQ.o]);generalize L.slots.getD 0 0=z at *;have y0:W.cell? ⟨gc,1,none⟩=some (qI 1):=kc.cell 1;have yf:=kc.frozen;have nb':=nb.symm;have hne':=hne.symm;clear hc;have hgw:=zh (show w.heap.size<=gc by omega);have HX:=zh (xA B1 (xA k1 kc));clear B1 k1 kc hw0 hg;go_wp2
   go_region_held3 (fun w'=>w'.cell? ⟨w.heap.size,4,none⟩=some (qI L.ram)/\w'.cell? ⟨w.heap.size,2,none⟩=some (qS (some ⟨b,off,none⟩) n c2)/\w'.cell? ⟨b,off,none⟩=some (qI z)) (go_keep) (fail)
   simp only [xP];rw [HVW.o];obtain ⟨B1,k1,kc⟩:=HX.o;have T:Turn (fun j=>j=gc) W (W.setCell ⟨gc,1,none⟩ (qI wd)):=aC _ _ _ _;have B5:=(aI B1 T (fun k e=>by have:=hgw.o;omega) B1.size).drew;have k5':=aA T k1 (fun e=>hne e);have k5:Blk ((W.setCell ⟨gc,1,none⟩ (qI wd)).drew) w.heap.size _ _:=k5';have kc5:Blk ((W.setCell ⟨gc,1,none⟩ (qI wd)).drew) gc _ _:=kc.set 1 (qI wd);simp only [yA,yB,yC] at kc5;generalize (W.setCell ⟨gc,1,none⟩ (qI wd)).drew=W5 at *;clear T B1 k1 kc k5' HX q d0 d1 d2 d3 d4 d5 y0 yf nb nb';obtain ⟨d0,d1,d2,d3,d4,d5⟩:=k5.ly6;obtain ⟨y0,y1,y2,y3⟩:=kc5.z4;go_wp2_with fail
   refine (HSP.o _ B5).mono ?_;rintro e w2 ⟨hb2,b0,d0,ys,b2,d2,b5,d5,us,rfl,O2⟩;have hA:qY w2 (w2.alloc (.cells (qL LY b0 ys.length d0 b2 LY.slots.length d2 b5 us.length d5) 64)):=brf.alloc aL _;have kt:=Blk.new w2 (qL LY b0 ys.length d0 b2 LY.slots.length d2 b5 us.length d5) 64;have B2:=B5.trans (hb2.mono B5.size);have B3:=B2.trans (hA.mono B2.size);have k3:=(k5.bw hb2).bw hA;have O3:=O2.below' hA;have HSM:=zh (HSL.o LY b0 d0 ys b2 d2 b5 d5 us _ (O3.lyt HLB.o.r HLV.o) B3);have HB3:=zh B3;obtain ⟨p0,p1,p2,p3,p4,p5⟩:=k3.ly6;obtain ⟨q0,q1,q2,q3,q4,q5⟩:=kt.ly6;clear hb2 O2 O3 hA B2 B3 k3 kt y0 y1 y2 y3;by_cases hC:C=0
   .have g:(C==0)=true:=by simpa using hC
    have HV:=zh (show decide (LY=L)=r by rw [xJ,HR.o];simp [hC]);rw [HV.o] at HSM;clear hC HR;go_wp2_with fail
    refine HSM.o.mono ?_;rintro e w4 ⟨rfl,hb4⟩;have HB4:=zh (HB3.o.trans (hb4.mono HB3.o.size));clear hb4;cases r
    all_goals
     go_wp2;go_ret;exact ⟨rfl,HB4.o⟩
   .have g:(C==0)=false:=by simpa using hC
    have HV:=zh (show r=false by cases r;rfl;exact absurd (HR.o.1 rfl).1 hC);clear hC HR;go_wp2;go_ret;exact ⟨aB HV.o.symm,HB3.o⟩
  .have HVW:=zh (show (1:Int)=wd by
    rw [HWD.o];by_cases h4:4<n
    .rw [if_pos h4]
    .rw [if_neg h4,HCW.o,if_pos (by rw [HNE.o];omega)])
   have g1:0<n->¬ ((n:Int)<=4):=fun h=>by omega
   rw [HVW.o] at kc;by_cases hn0:0<n
   .have hn0':(0:Int)<(n:Int):=by omega
    have hn4':¬ ((n:Int)<=4):=by omega
    clear g1;obtain ⟨y0,y1,y2,y3⟩:=kc.z4;go_wp2_with fail
    refine (HSP.o _ B1).mono ?_;rintro e w2 ⟨hb2,b0,d0,ys,b2,d2,b5,d5,us,rfl,O2⟩;have hA:qY w2 (w2.alloc (.cells (qL LY b0 ys.length d0 b2 LY.slots.length d2 b5 us.length d5) 64)):=brf.alloc aL _;have kt:=Blk.new w2 (qL LY b0 ys.length d0 b2 LY.slots.length d2 b5 us.length d5) 64;have B2:=B1.trans (hb2.mono B1.size);have B3:=B2.trans (hA.mono B2.size);have k3:=(k1.bw hb2).bw hA;have O3:=O2.below' hA;have HSM:=zh (HSL.o LY b0 d0 ys b2 d2 b5 d5 us _ (O3.lyt HLB.o.r HLV.o) B3);have HB3:=zh B3;obtain ⟨p0,p1,p2,p3,p4,p5⟩:=k3.ly6;obtain ⟨q0,q1,q2,q3,q4,q5⟩:=kt.ly6;clear hb2 O2 O3 hA B2 B3 k3 kt y0 y1 y2 y3;by_cases hC:C=0
    .have g:(C==0)=true:=by simpa using hC
     have HV:=zh (show decide (LY=L)=r by rw [xJ,HR.o];simp [hC]);rw [HV.o] at HSM;clear hC HR;go_wp2_with fail
     refine HSM.o.mono ?_;rintro e w4 ⟨rfl,hb4⟩;have HB4:=zh (HB3.o.trans (hb4.mono HB3.o.size));clear hb4;cases r
     all_goals
      go_wp2;go_ret;exact ⟨rfl,HB4.o⟩
    .have g:(C==0)=false:=by simpa using hC
     have HV:=zh (show r=false by cases r;rfl;exact absurd (HR.o.1 rfl).1 hC);clear hC HR;go_wp2;go_ret;exact ⟨aB HV.o.symm,HB3.o⟩
   .have hn0':¬ ((0:Int)<(n:Int)):=by omega
    clear g1;obtain ⟨y0,y1,y2,y3⟩:=kc.z4;go_wp2_with fail
    refine (HSP.o _ B1).mono ?_;rintro e w2 ⟨hb2,b0,d0,ys,b2,d2,b5,d5,us,rfl,O2⟩;have hA:qY w2 (w2.alloc (.cells (qL LY b0 ys.length d0 b2 LY.slots.length d2 b5 us.length d5) 64)):=brf.alloc aL _;have kt:=Blk.new w2 (qL LY b0 ys.length d0 b2 LY.slots.length d2 b5 us.length d5) 64;have B2:=B1.trans (hb2.mono B1.size);have B3:=B2.trans (hA.mono B2.size);have k3:=(k1.bw hb2).bw hA;have O3:=O2.below' hA;have HSM:=zh (HSL.o LY b0 d0 ys b2 d2 b5 d5 us _ (O3.lyt HLB.o.r HLV.o) B3);have HB3:=zh B3;obtain ⟨p0,p1,p2,p3,p4,p5⟩:=k3.ly6;obtain ⟨q0,q1,q2,q3,q4,q5⟩:=kt.ly6;clear hb2 O2 O3 hA B2 B3 k3 kt y0 y1 y2 y3;by_cases hC:C=0
    .have g:(C==0)=true:=by simpa using hC
     have HV:=zh (show decide (LY=L)=r by rw [xJ,HR.o];simp [hC]);rw [HV.o] at HSM;clear hC HR;go_wp2_with fail
     refine HSM.o.mono ?_;rintro e w4 ⟨rfl,hb4⟩;have HB4:=zh (HB3.o.trans (hb4.mono HB3.o.size));clear hb4;cases r
     all_goals
      go_wp2;go_ret;exact ⟨rfl,HB4.o⟩
    .have g:(C==0)=false:=by simpa using hC
     have HV:=zh (show r=false by cases r;rfl;exact absurd (HR.o.1 rfl).1 hC);clear hC HR;go_wp2;go_ret;exact ⟨aB HV.o.symm,HB3.o⟩
def zby (n:Nat):Array Value:=((List.replicate n (0:Int)).map (Value.int .u8)).toArray
theorem aAq (n:Nat)(hn:n<=16384)(W:qw):(Instr.makeSlice 22 (qI (n:Int)) (qI (n:Int))).run Tryz.prog W=.ok (qS (qP W.heap.size) n n) (W.alloc (.cells (zby n) 5)):=by
 rw [run_make_row' 22 5 (.int .u8 0) 1 Tryz.underlying22 gW rfl .i64 .i64 n (by omega) (by omega) W];have:=aLc n;rw [Nat.mul_one] at this;unfold zby;rw [<- this];rfl
theorem pH {W:qw}{g base n:Nat}(h:Blk W g (zby n) 5)(hg:base<=g)(hn:n<=16384):OB W base (qS (qP g) n n) (List.replicate n 0):=by
 refine ⟨⟨by simp,.inr ⟨g,n,zby n,by simp,hg,h,by simp,by unfold maxLen;omega,by simp [zby],?_⟩⟩,fun z hz=>by have:=List.eq_of_mem_replicate hz;omega⟩;unfold zby;simp only [List.toList_toArray,List.length_replicate,Nat.mul_one];exact xG (by simp)
def cH (zs:qi)(P:PMod)(p:Pl):Nat->List Int
 | 0=>dR zs p.text.toNat P.tz P.tz.length
 | j+1=>dR (cH zs P p j) (p.banks.getD j 0).toNat (P.bl.getD j []) (P.bl.getD j []).length
theorem uU (zs:qi)(P:PMod)(p:Pl):∀ j,(cH zs P p j).length=zs.length
 | 0=>qH _ _ _ _
 | j+1=>by rw [cH,qH,uU zs P p j]
def flB (ps:List PMod)(L:Lay):Nat->List Int
 | 0=>List.replicate L.flash.toNat 0
 | i+1=>cH (flB ps L i) (ps.getD i zP) (L.places.getD i zPB.1) (ps.getD i zP).bl.length
def gQ (zs:qi)(f:Nat)(rz:qi)(d:Int):Nat->List Int
 | 0=>zs
 | j+1=>put (gQ zs f rz d j) (f+(rz.getD j 0).toNat) (low (((gQ zs f rz d j).drop (f+(rz.getD j 0).toNat)).take 4)+d) 4
theorem qE (zs:qi)(f:Nat)(rz:qi)(d:Int):∀ j,(gQ zs f rz d j).length=zs.length
 | 0=>rfl
 | j+1=>by rw [gQ,wD,qE zs f rz d j]
def ovr (zs:qi)(f:Nat)(ds:qi):List Int:=zs.take f++(ds++zs.drop (f+ds.length))
theorem wM (zs:qi)(f:Nat)(ds:qi)(h:f+ds.length<=zs.length):(ovr zs f ds).length=zs.length:=by simp [ovr];omega
def raB (ps:List PMod)(L:Lay):Nat->List Int
 | 0=>List.replicate L.ram.toNat 0
 | i+1=>gQ (ovr (raB ps L i) ((L.places.getD i zPB.1).data-65536).toNat (ps.getD i zP).dz) ((L.places.getD i zPB.1).data-65536).toNat (ps.getD i zP).rz (L.places.getD i zPB.1).data (ps.getD i zP).rz.length
theorem aD4 (ps:List PMod)(L:Lay):∀ i,(flB ps L i).length=L.flash.toNat
 | 0=>by simp [flB]
 | i+1=>by rw [flB,uU,aD4 ps L i]
theorem aJ7 {s w k d:Int}(h:lkc ps s w k d=0):(lay ps s w k).flash<=16384/\(lay ps s w k).ram<=16384:=by
 unfold lkc at h;split at h
 .rename_i h1;exact absurd h h1
 split at h
 .exact absurd h (by decide)
 split at h
 .exact absurd h (by decide)
 split at h
 .exact absurd h (by decide)
 split at h
 .exact absurd h (by decide)
 rename_i h1 h2;omega
theorem aEf {ps:List PMod}(hv:fV ps):∀ i j,i<=j->j<=ps.length->Fl ps i<=Fl ps j
 | i,0,h,_=>by
    have:i=0:=by omega
    subst this;exact Int.le_refl _
 | i,j+1,h,hj=>by
   by_cases e:i=j+1
   .subst e;exact Int.le_refl _
   .have h1:=aEf hv i j (by omega) (by omega);have hm:=hv j (by omega);have h2:=fB hm;have h3:=cL hm _ aL;show Fl ps i<=Fl ps j+(tsz (ps.getD j zP)+cB (ps.getD j zP) (ps.getD j zP).bl.length);omega
theorem aEc {ps:List PMod}(hv:fV ps):∀ i j,i<=j->j<=ps.length->Ra ps i<=Ra ps j
 | i,0,h,_=>by
    have:i=0:=by omega
    subst this;exact Int.le_refl _
 | i,j+1,h,hj=>by
   by_cases e:i=j+1
   .subst e;exact Int.le_refl _
   .have h1:=aEc hv i j (by omega) (by omega);have h2:=hY (hv j (by omega));show Ra ps i<=Ra ps j+dsz (ps.getD j zP);omega
theorem vE {P:PMod}(hv:bI P=0):∀ i j,i<=j->j<=P.bl.length->cB P i<=cB P j
 | i,0,h,_=>by
    have:i=0:=by omega
    subst this;exact Int.le_refl _
 | i,j+1,h,hj=>by
   by_cases e:i=j+1
   .subst e;exact Int.le_refl _
   .have h1:=vE hv i j (by omega) (by omega);have h2:=bA (x:=4*((P.bl.getD j []).length:Int));show cB P i<=cB P j+rnd (4*((P.bl.getD j []).length:Int));omega
structure Lkn (ps:List PMod)(L:Lay):Prop where
 n:1<=ps.length/\ps.length<=4
 v:fV ps
 im:kI ps
 pl:L.places=(List.range ps.length).map (plc ps)
 fl:L.flash=Fl ps ps.length
 fr:0<=L.flash/\L.flash<=16384
 ra:Ra ps ps.length<=L.ram
 rr:0<=L.ram/\L.ram<=16384
 tg:L.targets=(List.range ps.length).map fun i=>tgs ps (ps.getD i zP)
 st:L.stack=65536+Ra ps ps.length
theorem jG (h:Lok ps L):Lkn ps L:=by
 obtain ⟨h1,h2⟩:=h;have e:lay ps (L.slots.length:Int) (cfW L) (cfK L)=L:=by unfold lkL at h2;rw [if_pos h1] at h2;exact h2
 obtain ⟨hc,n1,n2,hv,hi⟩:=fC h1;obtain ⟨b1,b2⟩:=aJ7 h1;unfold cfo at hc;simp at hc;have a1:=cN hv ps.length aL;have a2:=bP hv ps.length aL;have a3:(0:Int)<=((L.slots.length:Int).toNat:Int)*rnd (4*cfW L):=Int.mul_nonneg (by omega) (by have:=bA (x:=4*cfW L);omega);have e1:L.flash=Fl ps ps.length:=by rw [<- e];rfl
 have e2:L.ram=Ra ps ps.length+cfK L+((L.slots.length:Int).toNat:Int)*rnd (4*cfW L):=by
  have:=congrArg Lay.ram e;rw [<- this];rfl
 rw [e] at b1 b2;exact ⟨⟨n1,n2⟩,hv,hi,by rw [<- e];rfl,e1,⟨by omega,b1⟩,by omega,⟨by omega,b2⟩,by rw [<- e];rfl,by have:=congrArg Lay.stack e;rw [<- this];rfl⟩
theorem Lkn.place (h:Lkn ps L)(i:Nat)(hi:i<ps.length):L.places.getD i zPB.1=plc ps i:=by
 rw [h.pl];simp [xB,hi]
theorem aFt (h:bI P=0):∀ j,j<P.rz.length->0<=P.rz.getD j 0/\P.rz.getD j 0+4<=(P.dz.length:Int):=by
 unfold bI mdo at h;split at h
 .exact absurd h (by decide)
 split at h
 .exact absurd h (by decide)
 split at h
 .exact absurd h (by decide)
 split at h
 .exact absurd h (by decide)
 rename_i h1 h2 h3 h4;intro j hj;have h5:rlo P.rz.length P.rz P.dz.length=true:=by simpa using h4
 unfold rlo at h5;rw [Bool.and_eq_true,List.all_eq_true] at h5;have h6:=h5.2 j (by simpa using hj);unfold rlk at h6;rw [decide_eq_true_eq] at h6;omega
theorem aHz {α:Type}(l:List α)(i:Nat)(z:α)(h:i<l.length):l.getD i z∈l:=by simp [xB,h]
theorem aB1 {α:Type}(f:Nat->α)(n j:Nat)(z:α)(h:j<n):((List.range n).map f).getD j z=f j:=by simp [xB,h]
theorem aBo (h:bI P=0):(∀ i,i<P.tz.length->0<=P.tz.getD i 0/\P.tz.getD i 0<=4294967295)/\∀ k,k<P.bl.length->∀ i,i<(P.bl.getD k []).length->0<=(P.bl.getD k []).getD i 0/\(P.bl.getD k []).getD i 0<=4294967295:=by
 unfold bI at h;have V:=fA (by simp [dO]) h;refine ⟨fun i hi=>V.tw _ (by simp [xB,hi]),fun k hk i hi=>?_⟩
 have:=(V.bw k (by simp [dO];exact hk)).2 ((P.bl.getD k []).getD i 0) (by
  have e:((dO P.bl).getD k zB).2.2.2=P.bl.getD k []:=by simp [dO,xB,hk]
  rw [e]
  exact aHz _ _ _ hi)
 exact this
theorem Lkn.at (h:Lkn ps L)(i:Nat)(hi:i<ps.length):
 (0<=(plc ps i).text/\(plc ps i).text+4*((ps.getD i zP).tz.length:Int)<=L.flash)/\(plc ps i).banks.length=(ps.getD i zP).bl.length/\(∀ j,j<(ps.getD i zP).bl.length->0<=(plc ps i).banks.getD j 0/\(plc ps i).banks.getD j 0+4*(((ps.getD i zP).bl.getD j []).length:Int)<=L.flash)/\(65536<=(plc ps i).data/\(plc ps i).data-65536+((ps.getD i zP).dz.length:Int)<=L.ram):=by
 have hm:=h.v i hi;have a1:=cN h.v i (by omega);have a2:=aEf h.v (i+1) ps.length (by omega) aL;have a3:Fl ps (i+1)=Fl ps i+(tsz (ps.getD i zP)+cB (ps.getD i zP) (ps.getD i zP).bl.length):=rfl;have a4:=cL hm _ aL;have a5:=bA (x:=4*((ps.getD i zP).tz.length:Int));have a6:tsz (ps.getD i zP)=rnd (4*((ps.getD i zP).tz.length:Int)):=rfl;have b1:=bP h.v i (by omega);have b2:=aEc h.v (i+1) ps.length (by omega) aL;have b3:Ra ps (i+1)=Ra ps i+dsz (ps.getD i zP):=rfl;have b4:=bS hm;have b5:=bA (x:=((ps.getD i zP).dz.length:Int)+(ps.getD i zP).bss);have b6:dsz (ps.getD i zP)=rnd (((ps.getD i zP).dz.length:Int)+(ps.getD i zP).bss):=rfl;have hfl:=h.fl;have hra:=h.ra;refine ⟨⟨a1.1,?_⟩,by simp [plc],fun j hj=>?_,?_,?_⟩
 .show Fl ps i+4*_<=_;omega
 .have c1:=cL hm j (by omega);have c2:=vE hm (j+1) (ps.getD i zP).bl.length (by omega) aL;have c3:cB (ps.getD i zP) (j+1)=cB (ps.getD i zP) j+rnd (4*(((ps.getD i zP).bl.getD j []).length:Int)):=rfl;have c4:=bA (x:=4*(((ps.getD i zP).bl.getD j []).length:Int));have e:(plc ps i).banks.getD j 0=Fl ps i+tsz (ps.getD i zP)+cB (ps.getD i zP) j:=aB1 _ _ _ _ hj;rw [e];have c5:=fB hm;omega
 .show 65536<=65536+Ra ps i;omega
 .show 65536+Ra ps i-65536+_<=_;omega
end Go.Proofs.YtcimaholejajpaaGreat
namespace Go.Proofs.YtcimaholejajpaaGreat
open Go.RowKit Classical
set_option maxRecDepth 100000
variable {S:Nat->Prop}{base cap f g n:Nat}{rs:List Rg}{v:Value}
structure OM (w:qw)(base:Nat)(v1 v2 v3:Value)(x1 x2 x3:qi):Prop where
 o1:OB w base v1 x1
 o2:OB w base v2 x2
 o3:OB w base v3 x3
 a12:∀ k,v1.ownBlock=some k->v2.ownBlock≠some k
 a13:∀ k,v1.ownBlock=some k->v3.ownBlock≠some k
 a23:∀ k,v2.ownBlock=some k->v3.ownBlock≠some k
def imF (ps:List PMod)(L:Lay):List Int:=@ite _ (Lok ps L) (aMm ps L) (flB ps L ps.length) []
def imR (ps:List PMod)(L:Lay):List Int:=@ite _ (Lok ps L) (aMm ps L) (raB ps L ps.length) []
def ImM (w:qw)(ps:List PMod)(L:Lay)(e:Ending)(w':qw):Prop:=qY w w'/\∃ a1 n1 c1 a2 n2 c2 a3 n3 c3,e=.returned (.tuple #[.agg (qV a1 n1 c1 a2 n2 c2 a3 n3 c3),.bool (decide (Lok ps L))])/\OM w' w.heap.size (qS a1 n1 c1) (qS a2 n2 c2) (qS a3 n3 c3) (imF ps L) (imR ps L) []
theorem pA {W:qw}{zs:qi}(h:OB W base (qS (qP g) n n) zs):W.heap[g]?=some (.cells (zs.map (Value.int .u8)).toArray 5 (0,0))/\zs.length=n/\base<=g/\n<=maxLen:=by
 obtain ⟨hl,⟨h0,_⟩|⟨g',cap',cur,hv,hg,hh,h1,h2,h3,h4⟩⟩:=h.1
 .simp at h0
 .simp at hv;obtain ⟨rfl,rfl,rfl⟩:=hv;refine ⟨?_,rfl,hg,by omega⟩;have e:cur.toList=zs.map (Value.int .u8):=by rw [<- h4,xG (by simp [h3])]
  rw [hh,<- e]
theorem aDb (zs:qi)(f:Nat)(ds:qi):splice (zs.map (Value.int .u8)) f (ds.map (Value.int .u8))=(ovr zs f ds).map (Value.int .u8):=by
 simp [splice,ovr,List.map_take,List.map_drop]
theorem aE1 {zs ds:qi}(hz:∀ z∈zs,0<=z/\z<=255)(hd:∀ z∈ds,0<=z/\z<=255):∀ z∈ovr zs f ds,0<=z/\z<=255:=fun z h=>by
 unfold ovr at h;rcases List.mem_append.1 h with h|h
 .exact hz z (List.mem_of_mem_take h)
 .rcases List.mem_append.1 h with h|h
  .exact hd z h
  .exact hz z (List.mem_of_mem_drop h)
theorem aJp (zs:qi)(f:Nat):ovr zs f []=zs:=by simp [ovr]
theorem aAj (g:Nat)(w:qw)(cs:Array Value):eP g w (w.setRow g cs):=⟨by simp [World.setRow],fun k hk=>setRow_other w g k cs hk,rfl,rfl,rfl⟩
theorem aE4 {W:qw}{zs:qi}(h:W.heap[g]?=some (.cells (zs.map (Value.int .u8)).toArray 5 (0,0)))(hl:zs.length=n)(hg:base<=g)(hm:n<=maxLen)(hr:∀ z∈zs,0<=z/\z<=255):OB W base (qS (qP g) n n) zs:=by
 subst hl;refine ⟨⟨by simp,.inr ⟨g,zs.length,_,rfl,hg,h,aL,hm,by simp,?_⟩⟩,hr⟩;simp only [List.toList_toArray,Nat.mul_one];exact xG (by simp)
theorem tE {W:qw}{zs ds:qi}(ho:OB W base (qS (qP g) n n) zs)(ty:TypeId)(dp sp:qO)(dLen dCap sLen sCap:Nat)(hds:BS W sp sLen sCap ds)(hle:sLen<=dLen)(hfit:f+sLen<=n)(hpos:0<sLen->dp=some (qR g f)):
 ∃ w',(Builtin.copy_ #[22,22] ty #[qS dp dLen dCap,qS sp sLen sCap]).run Tryz.prog W=.ok (goInt sLen) w'/\OB w' base (qS (qP g) n n) (ovr zs f ds)/\eP g W w':=by
 obtain ⟨hrow,hlz,hg,hm⟩:=pA ho;have hld:=hds.1;have hi8:(Tryz.prog.info? 5).map (·.size)=some 1:=by kernel_rfl
 by_cases h0:sLen=0
 .subst h0;obtain rfl:ds=[]:=xE hld;exact ⟨W,run_copy_none (P:=Tryz.prog) W _ _ ty 5 dp sp dLen dCap 0 sCap Tryz.underlying22 hi8 (by simp),by rw [aJp];exact ho,gS _ _⟩
 .obtain ⟨b,off,rfl,hc⟩:=hds.2.2.2.1 h0;rw [hpos (by omega)];subst hld
  have hrun:=run_copy_row (P:=Tryz.prog) W 22 22 ty 5 g f dLen dCap (qR b off) ds.length sCap (zs.map (Value.int .u8)).toArray 5 (ds.map (Value.int .u8)) Tryz.underlying22 hi8 hrow (by rw [xH];exact (Nat.min_eq_left hle).symm) (fun j v hj=>by
   have hjl:j<ds.length:=by
    rcases Nat.lt_or_ge j ds.length with h1|h1
    .exact h1
    .rw [xO (by simp;omega)] at hj;cases hj
   rw [bZ,hc j hjl,<- hj]
   simp [xB,show j<ds.length by omega]) (by simp;omega) (fun v hv=>by
   simp at hv;obtain ⟨z,_,rfl⟩:=hv
   rfl)
  rw [xH] at hrun;refine ⟨_,hrun,?_,aAj _ _ _⟩;refine aE4 ?_ (by rw [wM _ _ _ (by omega)];exact hlz) hg hm (aE1 ho.2 hds.2.2.1);have:=setRow_heap W g (zs.map (Value.int .u8)).toArray (splice (zs.map (Value.int .u8)) f (ds.map (Value.int .u8))).toArray 5 (0,0) hrow;rw [aDb] at this;rw [<- aDb] at this ⊢;simpa [splice] using this
theorem aN3 {S F:Value->World->Prop}{G:Prop}(main:(∀ v W,F v W->S v W)->G)(pf:∀ v W,F v W->S v W):G:=main pf
structure Pc (w0 w:qw)(cm cp:Array Value)(g n base:Nat)(zs:qi)(W:qw):Prop where
 be:qY w0 W
 km:Blk W w.heap.size cm 53
 kp:Blk W (w.heap.size+1) cp 136
 o:OB W base (.slice (some (qR g 0)) n n) zs
 t:Turn (fun j=>j=g) w W
section
variable {w0 w:qw}{cm cp:Array Value}{g n base:Nat}{zs:qi}{W W':qw}
theorem Pc.bw (h:Pc w0 w cm cp g n base zs W)(hb:qY W W'):Pc w0 w cm cp g n base zs W':=⟨h.be.trans (hb.mono h.be.size),h.km.bw hb,h.kp.bw hb,h.o.bw hb,h.t.trans (aJ hb)⟩
theorem Pc.drew (h:Pc w0 w cm cp g n base zs W):Pc w0 w cm cp g n base zs W.drew:=h.bw brf.drew
theorem Pc.set (h:Pc w0 w cm cp g n base zs W){zs':qi}(hg:w0.heap.size<=g)(O:OB W' base (.slice (some (qR g 0)) n n) zs')(T:eP g W W'):Pc w0 w cm cp g n base zs' W':=by
 obtain ⟨c1,k1⟩:=gK h.o;exact ⟨cT h.be T hg,bY T h.km (fun e=>absurd (aW (show Blk W g cm 53 from e ▸ h.km) k1) (by decide)),bY T h.kp (fun e=>absurd (aW (show Blk W g cp 136 from e ▸ h.kp) k1) (by decide)),O,h.t.trans (rE T)⟩
end
theorem aEz (zs:qi)(k:Nat)(ws:qi):dR zs k ws 0=zs:=rfl
theorem aAd (g F:Nat)(nm:ByteArray)(ta:qO)(tn tc:Nat)(tz:qi)(ba:qO)(bn bc:Nat)(bl:List Bk)(da:qO)(dn dc:Nat)(bss:Int)(ra:qO)(rn rc:Nat)(ia:qO)(im ic:Nat)(ea:qO)(en ec:Nat)(P:PMod)(kt:Nat)(xa:qO)(xb:qi)(xc:Nat)(xd xz:Int)(fz:qi)(base:Nat)(w w0:qw)(hT:IS w0 ta tn tc tz)(hB:BKS w0 ba bn bc bl)(hP1:P.tz=tz)(hP2:P.bl=bl.map (fun B=>B.2.2.2))(hx:IS w0 xa xb.length xc xb)(hb:qY w0 w)(hg:w0.heap.size<=g)(ho:OB w base (.slice (some (qR g 0)) F F) fz)(hF:F<=16384)(hbn4:bn<=4)
 (ht:kt+4*tn<=F) (hxb:xb.length=bn) (hbk:∀ j,j<bn->0<=xb.getD j 0/\xb.getD j 0+4*((bl.getD j zB).2.1:Int)<=(F:Int)):
 qC 104 #[.slice (some (qR g 0)) F F,.agg (qM nm ta tn tc ba bn bc da dn dc bss ra rn rc ia im ic ea en ec),.agg #[.int .i64 (kt:Int),.slice xa xb.length xc,.int .i64 xd,.int .i64 xz]] w fun e w'=>e=.returned (.tuple #[])/\OB w' base (.slice (some (qR g 0)) F F) (cH fz P ⟨(kt:Int),xb,xd,xz⟩ P.bl.length)/\Turn (fun j=>j=g) w w':=by
 have hbl:bl.length=bn:=hB.1;have htl:tz.length=tn:=hT.1;have HPL:=zh (show P.bl.length=bn by rw [hP2,xH];exact hbl);have HP0:=zh (show cH fz P ⟨(kt:Int),xb,xd,xz⟩ 0=dR fz kt tz tn by show dR fz ((kt:Int)).toNat P.tz P.tz.length=_;rw [hP1,xY,htl])
 have HPS:=zh (show ∀ j,j<bn->cH fz P ⟨(kt:Int),xb,xd,xz⟩ (j+1)=dR (cH fz P ⟨(kt:Int),xb,xd,xz⟩ j) (xb.getD j 0).toNat (bl.getD j zB).2.2.2 (bl.getD j zB).2.1 from fun j hj=>by
  have e:P.bl.getD j []=(bl.getD j zB).2.2.2:=by rw [hP2,eH _ _ _ zB _]
  show dR _ (xb.getD j 0).toNat (P.bl.getD j []) (P.bl.getD j []).length=_
  rw [e,(hB.2.2.2.1 j hj).1])
 have HPW:=zh (fun (cm cp:Array Value) (zs:qi) (k:Nat) (a:qO) (wn wc:Nat) (ws:qi) (X:qw) (hw:IS w0 a wn wc ws) (S:Pc w0 w cm cp g F base zs X) (hk:k+4*wn<=F) (hlt:k<F)=>(iF g F F k (F-k) (F-k) a wn wc ws zs base w0 X hw S.be hg S.o hF hk (by omega) aL (by omega)).mono (fun e w' he=>show e=.returned (.tuple #[])/\Pc w0 w cm cp g F base (dR zs k ws wn) w' from ⟨he.1,S.set hg he.2.1 he.2.2⟩))
 have HPW0:=zh (fun (cm cp:Array Value) (zs:qi) (k:Nat) (a:qO) (wn wc:Nat) (ws:qi) (X:qw) (hw:IS w0 a wn wc ws) (S:Pc w0 w cm cp g F base zs X) (hk:k+4*wn<=F) (hlt:¬ k<F)=>(iF g F F 0 0 0 a wn wc ws zs base w0 X hw S.be hg S.o hF (by omega) (by omega) aL (by omega)).mono (fun e w' he=>show e=.returned (.tuple #[])/\Pc w0 w cm cp g F base (dR zs k ws wn) w' from ⟨he.1,by
  have e0:wn=0:=by omega
  have:=S.set hg he.2.1 he.2.2;rw [e0,aEz] at this ⊢
  exact this⟩))
 have HB:=zh hB;have HX:=zh hx;have HT:=zh hT;have HBK:=zh hbk
 have S0:Pc w0 w (qM nm ta tn tc ba bn bc da dn dc bss ra rn rc ia im ic ea en ec) #[.int .i64 (kt:Int),.slice xa xb.length xc,.int .i64 xd,.int .i64 xz] g F base fz ((w.alloc (.cells (qM nm ta tn tc ba bn bc da dn dc bss ra rn rc ia im ic ea en ec) 53)).alloc (.cells #[.int .i64 (kt:Int),.slice xa xb.length xc,.int .i64 xd,.int .i64 xz] 136)):=by
  have bb:qY w ((w.alloc (.cells (qM nm ta tn tc ba bn bc da dn dc bss ra rn rc ia im ic ea en ec) 53)).alloc (.cells #[.int .i64 (kt:Int),.slice xa xb.length xc,.int .i64 xd,.int .i64 xz] 136)):=bal.alloc (by simp) _;exact ⟨hb.trans (bb.mono hb.size),(Blk.new _ _ _).alloc _,by have:=Blk.new (w.alloc (.cells (qM nm ta tn tc ba bn bc da dn dc bss ra rn rc ia im ic ea en ec) 53)) #[.int .i64 (kt:Int),.slice xa xb.length xc,.int .i64 xd,.int .i64 xz] 136;simpa using this,ho.bw bb,aJ bb⟩
 have HS0:=zh S0;have HXB:=zh hxb;have HBL:=zh hbl;clear S0 hB hx hT hbk ho hb hP1 hP2 htl hxb hbl;go_enter Tryz.func104,Tryz.ntmps104
 go_wp2_with fail
 generalize ((w.alloc (.cells (qM nm ta tn tc ba bn bc da dn dc bss ra rn rc ia im ic ea en ec) 53)).alloc (.cells #[.int .i64 (kt:Int),.slice xa xb.length xc,.int .i64 xd,.int .i64 xz] 136))=W0 at *;generalize hcm:((qM nm ta tn tc ba bn bc da dn dc bss ra rn rc ia im ic ea en ec):Array Value)=cm at HS0;generalize hcp:(#[.int .i64 (kt:Int),.slice xa xb.length xc,.int .i64 xd,.int .i64 xz]:Array Value)=cp at HS0;have HCM:=zh (xA hcm hcp);clear hcm hcp
 have HCL:=zh (fun (zs:qi) (X:qw) (S:Pc w0 w cm cp g F base zs X)=>show X.cell? (qR w.heap.size 1)=some (.slice ta tn tc)/\X.cell? (qR w.heap.size 2)=some (.slice ba bn bc)/\X.cell? (qR (w.heap.size+1) 0)=some (.int .i64 (kt:Int))/\X.cell? (qR (w.heap.size+1) 1)=some (.slice xa xb.length xc) from by
  have h1:=S.km;have h2:=S.kp;rw [<- HCM.o.1] at h1;rw [<- HCM.o.2] at h2
  exact ⟨h1.cell 1,h1.cell 2,h2.cell 0,h2.cell 1⟩)
 obtain ⟨x1,x2,y0,y1⟩:=HCL.o _ _ HS0.o;have k0':(0:Int)<=(kt:Int):=by omega
 have k1':(kt:Int)<=(F:Int):=by omega
 apply aN3 (F:=fun v W=>Pc w0 w cm cp g F base (cH fz P ⟨(kt:Int),xb,xd,xz⟩ 0) W)
 .intro REST0;have REST:=zh REST0;clear REST0;rw [HP0.o] at REST;by_cases hkF:kt<F
  .have hkF':(kt:Int)<(F:Int):=by omega
   have hkn:¬ (F=kt):=by omega
   go_region_held3 (fun w'=>w'.cell? (qR w.heap.size 1)=some (.slice ta tn tc)/\w'.cell? (qR (w.heap.size+1) 0)=some (.int .i64 (kt:Int))) (go_keep)
    (first
      | (go_at_call 147;first
          | with_reducible refine (HPW.o cm cp fz kt ta tn tc tz _ HT.o HS0.o ht hkF).mono ?_
          | with_reducible refine (HPW.o cm cp fz kt ta tn tc tz _ HT.o HS0.o.drew ht hkF).mono ?_
         rintro e w2 ⟨rfl,hS2⟩;have HS2:=zh hS2;clear hS2
         obtain ⟨z1,z2,z3,z4⟩:=HCL.o _ _ HS2.o))
   generalize Value.slice (some (qR g kt)) (F-kt) (F-kt)=v11;exact REST.o v11 w2 HS2.o
  .obtain rfl:F=kt:=by omega
   go_region_held3 (fun w'=>w'.cell? (qR w.heap.size 1)=some (.slice ta tn tc)/\w'.cell? (qR (w.heap.size+1) 0)=some (.int .i64 (F:Int))) (go_keep)
    (first
      | (go_at_call 147;first
          | with_reducible refine (HPW0.o cm cp fz F ta tn tc tz _ HT.o HS0.o ht hkF).mono ?_
          | with_reducible refine (HPW0.o cm cp fz F ta tn tc tz _ HT.o HS0.o.drew ht hkF).mono ?_
         rintro e w2 ⟨rfl,hS2⟩;have HS2:=zh hS2;clear hS2
         obtain ⟨z1,z2,z3,z4⟩:=HCL.o _ _ HS2.o))
   exact REST.o _ w2 HS2.o
 .rintro v11 W2 hS2;show Exit.then _ _ _ _ _
  obtain ⟨z1,z2,z3,z4⟩:=HCL.o _ _ hS2;have HS2:=zh hS2;clear hS2 x1 x2 y0 y1 HS0 k0' k1';go_wp2;clear z1 z2 z3 z4;go_loopw [18] (fun i wr=>∃ j:Nat,j<=bn/\i=.int .i64 j/\Pc w0 w cm cp g F base (cH fz P ⟨(kt:Int),xb,xd,xz⟩ j) wr) (qf bn)
  .exact ⟨0,xC _,rfl,HS2.o⟩
  .clear HS2;obtain ⟨j,hj,rfl,hJ⟩:=hrel;generalize wr=wj at *;have HJ:=zh hJ;obtain ⟨z1,z2,z3,z4⟩:=HCL.o _ _ hJ;by_cases hjb:j<bn
   .have hjb':(j:Int)<(bn:Int):=by omega
    have hjx':(j:Int)<(xb.length:Int):=by have:=HXB.o;omega
    obtain ⟨bb,bo,rfl,hbc⟩:=HB.o.2.2.1 (show bn≠0 by omega);obtain ⟨qb,qo,rfl,hqc⟩:=HX.o.2.2.2.1 (show xb.length≠0 by have:=HXB.o;omega);have s1:=aE hJ.be (hqc j (by have:=HXB.o;omega));have s2:=aE hJ.be (hbc j hjb);obtain ⟨kb,hkb⟩:∃ kb:Nat,xb.getD j 0=(kb:Int):=⟨(xb.getD j 0).toNat,by have:=(HBK.o j hjb).1;omega⟩;have HK2:=zh (show kb+4*(bl.getD j zB).2.1<=F by have:=(HBK.o j hjb).2;rw [hkb] at this;omega);have HIB:=zh (HB.o.2.2.2.1 j hjb);have HPJ:=HPS.o j hjb;rw [hkb,xY] at HPJ;rw [hkb] at s1;have HPJ:=zh HPJ;have hk2:=HK2.o;generalize hPJ:cH fz P ⟨(kt:Int),xb,xd,xz⟩ (j+1)=ZJ at HPJ;have HZJ:=zh hPJ;clear hJ hbc hqc hkb hPJ;generalize (bl.getD j zB).2.2.2=kw at *;generalize (bl.getD j zB).1=k1 at *;generalize (bl.getD j zB).2.1=k2 at *;generalize (bl.getD j zB).2.2.1=k3 at *;have b0':(0:Int)<=(kb:Int):=by omega
    have b1':(kb:Int)<=(F:Int):=by omega
    by_cases hkF:kb<F
    .have hkF':(kb:Int)<(F:Int):=by omega
     have hkn:¬ (F=kb):=by omega
     have HC:=zh (HPW.o cm cp _ kb k1 k2 k3 kw wj HIB.o HJ.o HK2.o hkF);go_wp2_with fail
     refine HC.o.mono ?_;rintro e w3 ⟨rfl,hS3⟩;have HS3:=zh (show Pc w0 w cm cp g F base ZJ w3 by rw [HPJ.o];exact hS3);clear hS3 s1 s2 z1 z2 z3 z4;go_wp2
     go_roundw
     .exact ⟨j+1,by omega,by go_num,by rw [HZJ.o];exact HS3.o⟩
     .simp [qf,intOf];omega
    .have hkF':¬ (kb:Int)<(F:Int):=by omega
     have HC:=zh (HPW0.o cm cp _ kb k1 k2 k3 kw wj HIB.o HJ.o HK2.o hkF);obtain rfl:F=kb:=by omega
     go_wp2_with fail
     refine HC.o.mono ?_;rintro e w3 ⟨rfl,hS3⟩;have HS3:=zh (show Pc w0 w cm cp g F base ZJ w3 by rw [HPJ.o];exact hS3);clear hS3 s1 s2 z1 z2 z3 z4;go_wp2
     go_roundw
     .exact ⟨j+1,by omega,by go_num,by rw [HZJ.o];exact HS3.o⟩
     .simp [qf,intOf];omega
   .have e:Zh (j=bn):=by show j=bn;omega
    clear hJ;go_wp2
    go_end0
    exact ⟨rfl,by rw [HPL.o,<- e.o];exact HJ.o.o,HJ.o.t⟩
def cW (g:Rg):List Value:=[qI g.1,qI g.2.1,qI g.2.2.1,.bool g.2.2.2.1,.bool g.2.2.2.2.1,.bool g.2.2.2.2.2]
def dH (rs:List Rg):List Value:=rs.flatMap cW
theorem nM:∀ rs:List Rg,(dH rs).length=rs.length*6
 | []=>rfl
 | g::rs=>by simp only [dH,xT,xI];have:=nM rs;simp only [dH] at this;rw [this];simp [cW];omega
theorem nN:∀ (rs:List Rg) (i j:Nat),i<rs.length->j<6->(dH rs)[i*6+j]?=(cW (rs.getD i z6))[j]?
 | [],i,j,h,_=>absurd h (by simp)
 | g::rs,0,j,_,hj=>by
   simp only [dH,xT];rw [List.getElem?_append_left (by simp [cW];omega)];simp
 | g::rs,i+1,j,h,hj=>by
   have hh:=nN rs i j (by simpa using h) hj;simp only [dH,xT] at hh ⊢;rw [List.getElem?_append_right (by simp [cW];omega)];have e:(i+1)*6+j-(cW g).length=i*6+j:=by simp [cW];omega
   rw [e,hh];simp
def ORg (w:qw)(base:Nat)(v:Value)(rs:List Rg):Prop:=w.ownsRow base 177 6 v rs.length (dH rs)/\∀ g∈rs,wfi g.1/\wfi g.2.1/\wfi g.2.2.1
theorem eU {w:qw}{a:qO}(h:ORg w base (qS a n cap) rs):RS w a n cap rs:=by
 obtain ⟨hl,⟨h0,h0'⟩|⟨g,cap',cur,hv,hg,hh,h1,h2,h3,h4⟩⟩:=h.1
 .simp at h0;obtain ⟨rfl,rfl,rfl⟩:=h0;exact ⟨h0',xC _,h.2,fun hn=>absurd rfl hn,aL⟩
 .simp at hv;obtain ⟨rfl,rfl,rfl⟩:=hv;refine ⟨rfl,by omega,h.2,fun hn=>⟨g,0,rfl,fun i hi=>?_⟩,h1⟩
  have hc:∀ j,j<6->w.cell? (qR g (0+i*6+j))=(cW (rs.getD i z6))[j]?:=by
   intro j hj;rw [Blk.cell (w:=w) hh]
   have:cur.toList[0+i*6+j]?=(dH rs)[i*6+j]?:=by
    rw [<- h4,List.getElem?_take,if_pos (by omega),Nat.zero_add]
   rw [Array.getElem?_toList] at this;rw [this,nN rs i j hi hj]
  exact ⟨hc 0 (by omega),hc 1 (by omega),hc 2 (by omega),hc 3 (by omega),hc 4 (by omega),hc 5 (by omega)⟩
theorem vN {w w':qw}(t:Turn S w w')(h:ORg w base v rs)(hk:∀ k,base<=k->¬ S k):ORg w' base v rs:=by
 refine ⟨?_,h.2⟩;obtain ⟨hl,h0|⟨g',cap,cur,hv,hg,hh,h1,h2,h3,h4⟩⟩:=h.1
 .exact ⟨hl,.inl h0⟩
 .exact ⟨hl,.inr ⟨g',cap,cur,hv,hg,aA t hh (hk g' hg),h1,h2,h3,h4⟩⟩
theorem rC (w:qw)(base:Nat)(hb:base<=w.heap.size):ORg (w.alloc (.cells #[] 177)) base (qS (qP w.heap.size) 0 0) []:=
 ⟨⟨rfl,.inr ⟨w.heap.size,0,#[],rfl,hb,heap_alloc_new w _,aL,xC _,rfl,rfl⟩⟩,fun _ h=>by cases h⟩
theorem lT {w:qw}{t:TypeId}{sz:Nat}{xs:List Value}(h:w.ownsRow base t sz v n xs):∃ a cap,v=qS a n cap:=by
 obtain ⟨_,⟨rfl,rfl⟩|⟨g,cap,cur,rfl,_⟩⟩:=h
 .exact ⟨_,_,rfl⟩
 .exact ⟨_,_,rfl⟩
theorem aGy (w:qw)(g:Rg):∀ j u,(cW g)[j]?=some u->(w.alloc (.cells #[qI g.1,qI g.2.1,qI g.2.2.1,.bool g.2.2.2.1,.bool g.2.2.2.2.1,.bool g.2.2.2.2.2] 177)).cell? (((qR w.heap.size 0):Addr).add j)=some u:=by
 intro j u hj;rw [bZ,Nat.zero_add,Blk.cell (Blk.new w _ _),<- hj]
 match j with
 | 0=>rfl
 | 1=>rfl
 | 2=>rfl
 | 3=>rfl
 | 4=>rfl
 | 5=>rfl
 | j+6=>rfl
theorem aJr (g:Rg):∀ u∈cW g,u.oneCell'=true:=by
 intro u hu;simp [cW] at hu;rcases hu with rfl|rfl|rfl|rfl|rfl|rfl<;>rfl
theorem wP {W W':qw}{v v':Value}{g:Rg}(hr:∀ g∈rs,wfi g.1/\wfi g.2.1/\wfi g.2.2.1)(hw:wfi g.1/\wfi g.2.1/\wfi g.2.2.1)(h:W'.ownsRow base 177 6 v' (rs.length+1) (dH rs++cW g)):ORg W' base v' (rs++[g]):=by
 refine ⟨by simpa [dH] using h,fun y hy=>?_⟩;rcases List.mem_append.1 hy with hy|hy
 .exact hr y hy
 .simp at hy;subst hy;exact hw
theorem iQ {W W':qw}{row:Option Nat}(h:W.grownBy W' row):Turn (fun j=>row=some j) W W':=⟨h.os,h.tape,h.output,h.size,fun k hk hn=>h.block k hk (fun e=>hn e.symm)⟩
theorem aL8 (l:Int)(hl:8<=l)(hl2:l<=14):(32:Int) ∣ (2:Int)^(l-3).toNat:=by
 have:l=8\/l=9\/l=10\/l=11\/l=12\/l=13\/l=14:=by omega
 rcases this with rfl|rfl|rfl|rfl|rfl|rfl|rfl<;>decide
theorem aI8 (l:Int)(hl:5<=l)(hl2:l<=14):(32:Int) ∣ (2:Int)^l.toNat:=by
 have:l=5\/l=6\/l=7\/l=8\/l=9\/l=10\/l=11\/l=12\/l=13\/l=14:=by omega
 rcases this with rfl|rfl|rfl|rfl|rfl|rfl|rfl|rfl|rfl|rfl<;>decide
theorem wC (a en l:Int)(hl:5<=l)(hl2:l<=14)(ha:0<=a)(hae:a<en)(hen:en<=262144):a+cnt l (qOf a en l)<=en/\(32:Int) ∣ cnt l (qOf a en l):=by
 obtain ⟨P,hP⟩:∃ P,(2:Int)^(l-3).toNat=P:=⟨_,rfl⟩;obtain ⟨N,hN⟩:∃ N,(2:Int)^l.toNat=N:=⟨_,rfl⟩;obtain ⟨g1,g2,g3,g4,g5,g6,g7⟩:=oC a l P N hl hl2 hP hN ha (by omega);have h0:a+cnt l 0<=en/\(32:Int) ∣ cnt l 0:=by rw [tF];exact ⟨by omega,Int.dvd_zero _⟩
 by_cases h8:l<8
 .by_cases hc:a%N=0/\a+N<=en
  .have e:qOf a en l=255:=by unfold qOf;rw [if_pos h8,hN,if_pos hc]
   have e2:cnt l 255=N:=by unfold cnt;rw [hP,show qK 255=8 from rfl,g1];rfl
   rw [e,e2];refine ⟨hc.2,?_⟩;rw [<- hN];exact aI8 l hl hl2
  .have e:qOf a en l=0:=by unfold qOf;rw [if_pos h8,hN,if_neg hc]
   rw [e];exact h0
 .by_cases hm:a%P=0
  .have e:qOf a en l=bN (cF a l) (jOf a en l):=by unfold qOf;rw [if_neg h8,hP,if_pos hm]
   have hj:((jOf a en l:Nat):Int)<=(en-a)/P/\cF a l+jOf a en l<=8:=by
    have:0<=(en-a)/P:=Int.ediv_nonneg (by omega) (by omega);unfold jOf;rw [hP];omega
   rw [e,mT l P hP _ _ g5 hj.2];have:=Int.mul_le_of_le_ediv (by omega) hj.1;refine ⟨by omega,?_⟩;rw [<- hP];exact Int.dvd_mul_of_dvd_right (aL8 l (by omega) hl2)
  .have e:qOf a en l=0:=by unfold qOf;rw [if_neg h8,hP,if_neg hm]
   rw [e];exact h0
theorem iU (a en:Int)(ha:0<=a)(hae:a<en)(hen:en<=262144):∀ n:Nat,n<=10->∀ b l q,bL a en n=some (b,l,q)->5<=l/\l<=14/\b=bH a l/\q=qOf a en l
 | 0,_=>fun b l q h=>by rw [dG] at h;cases h
 | n+1,hn=>by
   have ih:=iU a en ha hae hen n (by omega);intro b l q h;rw [dF] at h;unfold fX at h;split at h
   .simp at h;obtain ⟨rfl,rfl,rfl⟩:=h;exact ⟨by omega,by omega,rfl,rfl⟩
   .exact ih b l q h
theorem oI (a en:Int)(ha:0<=a)(hae:a+32<=en)(ha32:a%32=0):∀ n:Nat,∃ x,bL a en (n+1)=some x
 | 0=>by
   have e:qOf a en 5=255:=by
    unfold qOf;rw [if_pos (by omega),if_pos];exact ⟨ha32,hae⟩
   refine ⟨(bH a 5,5,255),?_⟩;rw [dF,dG];show fX none (bH a 5) 5 (qOf a en 5)=_;rw [e];rfl
 | n+1=>by
   obtain ⟨x,hx⟩:=oI a en ha hae ha32 n;rw [dF];unfold fX;split
   .exact ⟨_,rfl⟩
   .exact ⟨x,hx⟩
theorem aId (a en:Int)(ha:0<=a)(hae:a<en)(hen:en<=262144)(ha32:a%32=0)(he32:en%32=0):
 ∃ b l q,bL a en 10=some (b,l,q)/\5<=l/\l<=14/\q<256/\32<=cnt l q/\a+cnt l q<=en/\cnt l q%32=0/\b=bH a l/\q=qOf a en l:=by
 obtain ⟨⟨b,l,q⟩,hx⟩:=oI a en ha (by omega) ha32 9;obtain ⟨k1,k2,k3,k4⟩:=iU a en ha hae hen 10 aL b l q hx;obtain ⟨m1,m2,m3,m4⟩:=nQ a en ha (by omega) 10 aL b l q hx;obtain ⟨c1,c2⟩:=wC a en l k1 k2 ha hae hen;rw [<- k4] at c1 c2;exact ⟨b,l,q,hx,k1,k2,m3,by omega,c1,by omega,k3,k4⟩
def aCt (s:CSt)(next:Int->List Rg)(a:Int):List Rg:=
 match s with
 | some (b,l,q)=>(b,l,255-(q:Int),false,false,false)::next (a+cnt l q)
 | none=>[]
def eO (en:Int):Nat->Int->List Rg
 | 0,_=>[]
 | n+1,a=>if a<en then aCt (bL a en 10) (eO en n) a else []
theorem tC (en:Int)(n:Nat)(a:Int)(h:¬ a<en):eO en n a=[]:=by
 cases n with
 | zero=>rfl
 | succ n=>exact if_neg h
theorem oH (en:Int)(n:Nat)(a b l:Int)(q:Nat)(h:a<en)(hF:bL a en 10=some (b,l,q)):eO en (n+1) a=(b,l,255-(q:Int),false,false,false)::eO en n (a+cnt l q):=by
 have e:eO en (n+1) a=aCt (bL a en 10) (eO en n) a:=if_pos h;rw [e,hF];rfl
def grn (x:Int):Bool:=decide (0<=x/\x%32=0)
theorem dY (x:Int)(w:qw):
 qC 49 #[qI x] w fun e w'=>e=.returned (.bool (grn x))/\w=w':=by
 by_cases h:0<=x
 .have HG:=zh (show grn x=decide (x%32=0) from by unfold grn;simp [h]);go_enter Tryz.func49,Tryz.ntmps49
  go_wp2;go_ret;refine ⟨aB ?_,rfl⟩;rw [HG.o];rw [xJ];simp
 .have HG:=zh (show grn x=false from by unfold grn;simp;omega);go_enter Tryz.func49,Tryz.ntmps49
  go_wp2;go_ret;exact ⟨aB HG.o.symm,rfl⟩
def lJ (w:qw)(ok:Bool)(L:List Rg)(e:Ending)(w':qw):Prop:=
 ∃ (x:qO) (m cap:Nat),e=.returned (.tuple #[qS x m cap,.bool ok])/\ORg w' w.heap.size (qS x m cap) L/\qY w w'
theorem oY (w:qw)(base:Nat):ORg w base (qS none 0 0) []:=⟨⟨rfl,.inl ⟨rfl,rfl⟩⟩,fun _ h=>by cases h⟩
def oS (f s:Int):Bool:=grn f&&grn s&&decide (s<=262144-f)
def oJ (f s:Int):List Rg:=eO (f+s) (s/32).toNat f
set_option maxRecDepth 100000 in
theorem aA3 (f s:Int)(w:qw)(hf:0<=f)(hf32:f%32=0)(hs:0<=s)(hs32:s%32=0)(hfs:s<=262144-f):
 qC 157 #[qI f,qI s] w (lJ w true (oJ f s)):=by
 obtain ⟨i0,hi,hz0,hz1,hz2⟩:=info_parts aDx;have G1:=zh (dY f);have G2:=zh (dY s);have e1:grn f=true:=by unfold grn;simp;omega
 have e2:grn s=true:=by unfold grn;simp;omega
 rw [e1] at G1;rw [e2] at G2;clear e1 e2;obtain ⟨L,hL⟩:=eqx (oJ f s);rw [<- hL];unfold oJ at hL;have HL:=zh hL;clear hL;go_enter Tryz.func157,Tryz.ntmps157
 go_wp2_with fail
 refine (G1.o w).mono ?_;rintro e w1 ⟨rfl,rfl⟩;go_wp2_with fail
 refine (G2.o w).mono ?_;rintro e w1 ⟨rfl,rfl⟩;go_wp2_with fail
 go_loopw [6,8] (fun r x wr=>∃ (A:qO) (m cap:Nat) (rs:List Rg) (n:Nat) (a:Int),r=qS A m cap/\x=qI a/\f<=a/\a<=f+s/\a%32=0/\f+s-a<=32*(n:Int)/\m+n<=8192/\ORg wr w.heap.size (qS A m cap) rs/\L=rs++eO (f+s) n a/\qY w wr) (fun _ x _=>(f+s-intOf x).toNat)
 .exact ⟨none,0,0,[],(s/32).toNat,f,rfl,rfl,by omega,by omega,hf32,by omega,by omega,oY _ _,by rw [HL.o];rfl,brf⟩
 .obtain ⟨A,m,cap,rs,n,a,rfl,rfl,ha,ha2,ha32,hn,hmn,hO,hLL,hB⟩:=hrel;have hlen:=(eU hO).1;by_cases hlt:a<f+s
  .obtain ⟨b,l,q,hF,hl,hl2,hq,hc1,hc2,hc3,hb,_⟩:=aId a (f+s) (by omega) hlt (by omega) ha32 (by omega);obtain ⟨n,rfl⟩:∃ n',n=n'+1:=⟨n-1,by omega⟩;rw [oH (f+s) n a b l q hlt hF] at hLL
   have hbw:0<=b/\b<=262144:=by
    have:=kH a l _ hl hl2 rfl;have:=pow_pos l.toNat;rw [hb];unfold bH;omega
   clear hb;have HW:=zh (aBn a (f+s) wr (by omega) hlt (by omega) b l q hF);have HLL:=zh hLL;have HO:=zh hO;have HB:=zh hB;have HC:=zh (dW b l q false false false);have HLEN0:=zh hlen;have hsz:=hB.size;obtain ⟨c,hcc⟩:=eqx (cnt l q);rw [<- hcc] at hc1 hc2 hc3 HC HLL;have HCC:=zh hcc;have HWF:=zh (show wfi b/\wfi l/\wfi (255-(q:Int)) from by unfold wfi;omega);have HQ:=zh hq;clear hLL hO hB hF hlen hcc;go_wp2_with fail
   refine HW.o.mono ?_;rintro e w2 ⟨rfl,hb2⟩;have HB2:=zh (HB.o.trans (hb2.mono hsz));obtain ⟨o,ho⟩:=eqx (255-(q:Int));rw [<- ho] at HC HLL HWF ⊢;have hO2:=vN (S:=fun _=>False) (aJ hb2) HO.o (fun _ _=>id);have hO3:=hO2.1.alloc (.cells #[qI b,qI l,qI o,.bool false,.bool false,.bool false] 177);have HOWN:=zh (hO3.alloc (.cells #[qI b,qI l,qI o,.bool false,.bool false,.bool false] 177));rw [HLEN0.o] at HOWN;have HLEN:Zh ((cW (b,l,o,false,false,false)).length=1*6):=rfl;have HNEWS:=zh (aGy (w2.alloc (.cells #[qI b,qI l,qI o,.bool false,.bool false,.bool false] 177)) (b,l,o,false,false,false));have HONE:=zh (aJr (b,l,o,false,false,false));have HRS:=zh hO2.2;have HLT:=zh hO2.1.lt;have KB:=zh ((Blk.new w2 #[qI b,qI l,qI o,.bool false,.bool false,.bool false] 177).alloc (.cells #[qI b,qI l,qI o,.bool false,.bool false,.bool false] 177));have hsz2:=hb2.size;have HB3:=zh ((HB2.o.alloc (by omega) (.cells #[qI b,qI l,qI o,.bool false,.bool false,.bool false] 177)).alloc (by simp;omega) (.cells #[qI b,qI l,qI o,.bool false,.bool false,.bool false] 177));try unfold qY at *
   simp only [xF] at HNEWS;clear hO2 hO3 hb2 ho;go_wp2_with (at_builtin;refine wpList_append_own _ rfl _ _ 103 rfl w.heap.size 177 i0 (.agg #[qI 0,qI 0,qI 0,.bool false,.bool false,.bool false]) 6 32 Tryz.underlying103 hi hz0 hz1 hz2 rfl (by decide) (qS A m cap) m (dH rs) rfl HOWN.o (qR (w2.heap.size+1) 0) 1 1 (cW (b,l,o,false,false,false)) rfl HLEN.o HNEWS.o HONE.o (by unfold maxLen;omega) (by omega) (by simp;omega) ?_;intro v' w3 hown3 hgr3 _;obtain ⟨A',cap',he⟩:=lT hown3;subst he;have hO3:=wP (W:=w2) (v:=qS A m cap) (g:=(b,l,o,false,false,false)) HRS.o HWF.o (by rw [HLEN0.o];exact hown3);have t3:=iQ hgr3;have hfar:∀ j,(qS A m cap).ownBlock=some j->w.heap.size<=j:=fun j hj=>(HLT.o j hj).1;have hnot:∀ j,(qS A m cap).ownBlock=some j->j<w2.heap.size:=fun j hj=>(HLT.o j hj).2;have hK3:=aA t3 KB.o (fun e=>by have:=hnot _ e;omega);have hsz3:=t3.size;simp only [xF] at hsz3;have HB4:=zh (aI HB3.o t3 hfar (by simp;omega));have HO3:=zh hO3;have HK3:=zh hK3;obtain ⟨q1,q2,q3,q4,q5,q6,q7⟩:=hK3.six';clear hO3 t3 hfar hnot hown3 hgr3 hK3)
   refine (HC.o w3 HQ.o hl hl2).mono ?_;rintro e w4 ⟨rfl,hb4⟩;have HB5:=zh (HB4.o.trans (hb4.mono (by omega)));have HO5:=zh (vN (S:=fun _=>False) (aJ hb4) HO3.o (fun _ _=>id));clear hb4;go_wp2_with fail
   go_roundw
   .exact ⟨A',m+1,cap',rs++[(b,l,o,false,false,false)],n,a+c,rfl,by go_num,by omega,by omega,by omega,by omega,by omega,HO5.o,by rw [HLL.o];simp,HB5.o⟩
   .simp [intOf];omega
  .have hLe:L=rs:=by rw [hLL,tC _ _ _ hlt,List.append_nil]
   subst hLe;have HO:=zh hO;have HB:=zh hB;clear hLL hO hB;go_wp2
   go_ret2
   exact ⟨A,m,cap,rfl,HO.o,HB.o⟩
theorem aCn (f s:Int)(w:qw)(hs0:-9223372036854775808<=f/\f<=9223372036854775807)(h:oS f s=false):
 qC 157 #[qI f,qI s] w (lJ w false []):=by
 have G1:=zh (dY f);have G2:=zh (dY s);have HN:=zh (oY w w.heap.size);unfold oS at h;cases e1:grn f
 .rw [e1] at G1;clear h e1;go_enter Tryz.func157,Tryz.ntmps157
  go_wp2_with fail
  refine (G1.o w).mono ?_;rintro e w1 ⟨rfl,rfl⟩;go_wp2_with fail
  go_ret2
  exact ⟨none,0,0,rfl,HN.o,brf⟩
 .rw [e1] at G1 h;have hf:0<=f:=by unfold grn at e1;simp at e1;omega
  cases e2:grn s
  .rw [e2] at G2;clear h e1 e2;go_enter Tryz.func157,Tryz.ntmps157
   go_wp2_with fail
   refine (G1.o w).mono ?_;rintro e w1 ⟨rfl,rfl⟩;go_wp2_with fail
   refine (G2.o w).mono ?_;rintro e w1 ⟨rfl,rfl⟩;go_wp2_with fail
   go_ret2
   exact ⟨none,0,0,rfl,HN.o,brf⟩
  .rw [e2] at G2 h;have hlt:262144-f<s:=by simp at h;omega
   clear h e1 e2;go_enter Tryz.func157,Tryz.ntmps157
   go_wp2_with fail
   refine (G1.o w).mono ?_;rintro e w1 ⟨rfl,rfl⟩;go_wp2_with fail
   refine (G2.o w).mono ?_;rintro e w1 ⟨rfl,rfl⟩;go_wp2_with fail
   go_ret2
   exact ⟨none,0,0,rfl,HN.o,brf⟩
def cvL (f s:Int):List Rg:=if oS f s then oJ f s else []
theorem aCo (f s:Int)(w:qw)(hs0:-9223372036854775808<=f/\f<=9223372036854775807):
 qC 157 #[qI f,qI s] w (lJ w (oS f s) (cvL f s)):=by
 unfold cvL;cases e:oS f s
 .exact aCn f s w hs0 e
 .unfold oS grn at e;simp at e;exact aA3 f s w (by omega) (by omega) (by omega) (by omega) (by omega)
def ci (i0 j i:Nat):Nat:=min (i-i0) j
theorem aM0:∀ (i0:Fin 8) (j:Fin 9) (i:Fin 8),(i0.val<=i.val/\i.val<i0.val+j.val)->(ci i0 j (i.val+1)=ci i0 j i+1/\2^i.val-1-bN i0 (ci i0 j i)=2^(i.val+1)-1-bN i0 (ci i0 j (i.val+1))):=by decide +kernel
theorem aKo:∀ (i0:Fin 8) (j:Fin 9) (i:Fin 8),((i.val<i0.val\/i0.val+j.val<=i.val)/\i0.val+j.val<=8)->(ci i0 j (i.val+1)=ci i0 j i/\2^i.val-1-bN i0 (ci i0 j i)+2^i.val=2^(i.val+1)-1-bN i0 (ci i0 j (i.val+1))):=by decide +kernel
theorem aN5 (i0:Nat)(h0:i0<8)(j:Nat)(hj:j<9)(i:Nat)(hi:i<8)(h:i0<=i/\i<i0+j):ci i0 j (i+1)=ci i0 j i+1/\2^i-1-bN i0 (ci i0 j i)=2^(i+1)-1-bN i0 (ci i0 j (i+1)):=aM0 ⟨i0,h0⟩ ⟨j,hj⟩ ⟨i,hi⟩ h
theorem aMz (i0:Nat)(h0:i0<8)(j:Nat)(hj:j<9)(i:Nat)(hi:i<8)(h:(i<i0\/i0+j<=i)/\i0+j<=8):ci i0 j (i+1)=ci i0 j i/\2^i-1-bN i0 (ci i0 j i)+2^i=2^(i+1)-1-bN i0 (ci i0 j (i+1)):=aKo ⟨i0,h0⟩ ⟨j,hj⟩ ⟨i,hi⟩ h
theorem aIc:∀ i0,i0<8->∀ j,j<9->i0+j<=8->ci i0 j 8=j:=by decide +kernel
def jj (a en l:Int):Nat:=if a%(2:Int)^(l-3).toNat=0 then jOf a en l else 0
theorem aGh (a en l:Int)(h:8<=l):qOf a en l=bN (cF a l) (jj a en l):=by
 unfold qOf jj;rw [if_neg (by omega)];split
 .rfl
 .rw [uP]
theorem aNw (a en l:Int)(hi:cF a l<8):cF a l+jj a en l<=8:=by
 unfold jj;split
 .unfold jOf;omega
 .omega
theorem aJb (a en l P N:Int)(hl:5<=l)(hl2:l<=14)(hP:(2:Int)^(l-3).toNat=P)(hN:(2:Int)^l.toNat=N)(ha:0<=a)(hae:a<en)(hen:en<=262144)(i:Nat)(hi:i<8):
 (a<=bH a l+(i:Int)*P/\bH a l+(i:Int)*P+P<=en/\a%P=0) ↔ (cF a l<=i/\i<cF a l+jj a en l):=by
 obtain ⟨g1,g2,g3,g4,g5,g6,g7⟩:=oC a l P N hl hl2 hP hN ha (by omega);unfold jj;rw [hP];by_cases hm:a%P=0
 .rw [if_pos hm];have hb:bH a l=a-a%N:=by unfold bH;rw [hN]
  have g6':=g6 hm;have hd0:0<=(en-a)/P:=Int.ediv_nonneg (by omega) (by omega)
  have e1:(a<=bH a l+(i:Int)*P) ↔ cF a l<=i:=by
   rw [hb,g6'];constructor
   .intro h;have:(cF a l:Int)*P<=(i:Int)*P:=by omega
    have:=Int.le_of_mul_le_mul_right this (by omega);omega
   .intro h;have:(cF a l:Int)*P<=(i:Int)*P:=Int.mul_le_mul_of_nonneg_right (by omega) (by omega);omega
  have e2:cF a l<=i->((bH a l+(i:Int)*P+P<=en) ↔ ((i-cF a l:Nat):Int)<(en-a)/P):=by
   intro h;rw [hb,g6'];have e3:((i-cF a l:Nat):Int)=(i:Int)-(cF a l:Int):=by omega
   have e4:(((i:Int)-(cF a l:Int))+1)*P=(i:Int)*P-(cF a l:Int)*P+P:=by rw [Int.add_mul,Int.sub_mul];omega
   rw [e3];constructor
   .intro h;have:=Int.le_ediv_of_mul_le (c:=P) (a:=(i:Int)-(cF a l:Int)+1) (b:=en-a) (by omega) (by omega);omega
   .intro h;have:(i:Int)-(cF a l:Int)+1<=(en-a)/P:=by omega
    have:=Int.mul_le_of_le_ediv (by omega) this;omega
  have e5:jOf a en l=min (8-cF a l) ((en-a)/P).toNat:=by unfold jOf;rw [hP]
  rw [e5,e1];constructor
  .rintro ⟨h1,h2,_⟩;have:=(e2 h1).1 h2;omega
  .rintro ⟨h1,h2⟩;exact ⟨h1,(e2 h1).2 (by omega),hm⟩
 .rw [if_neg hm];constructor
  .rintro ⟨_,_,h⟩;exact absurd h hm
  .intro h;omega
theorem mR (a N:Int)(h0:0<=a)(hN:0<N):a/N*N=a-a%N:=by
 have:=Int.mul_ediv_add_emod a N;rw [Int.mul_comm];omega
def zO (w:qw)(b l c:Int)(q:Nat)(e:Ending)(w':qw):Prop:=
 ∃ o:Int,e=.returned (.tuple #[.agg #[qI b,qI l,qI o,.bool false,.bool false,.bool false],qI c])/\(0<c->o=255-(q:Int))/\qY w w'
theorem zI (w W:qw)(tmps:Array Value)(b l o c:Int)(q:Nat)(h6:tmps[6]?=some (.pointer (qP w.heap.size)))(h7:tmps[7]?=some (qI c))
 (hz:Blk W w.heap.size #[qI b,qI l,qI o,.bool false,.bool false,.bool false] 177) (hB:qY w W) (ho:0<c->o=255-(q:Int)):
 bodyPost Tryz.prog Tryz.f153 (zO w b l c q) Exit.ret ⟨tmps,[]⟩ W:=by
 refine bodyPost_ret (v:=.tuple #[.agg #[qI b,qI l,qI o,.bool false,.bool false,.bool false],qI c]) ?_ rfl ⟨o,rfl,ho,hB⟩;obtain ⟨p1,p2,p3,p4,p5,p6,p7⟩:=hz.six';simp [results,Tryz.results153,go_sem,h6,h7,p1,p2,p3,p4,p5,p6]
theorem zH {w2:qw}(hz:Blk w2 g #[qI 0,qI 0,qI 0,.bool false,.bool false,.bool false] 177)(b l o:Int):
 Blk ((((((w2.setCell (qR g 0) (qI b)).setCell (qR g 1) (qI l)).setCell (qR g 2) (qI o)).setCell (qR g 3) (.bool false)).setCell (qR g 4) (.bool false)).setCell (qR g 5) (.bool false)) g #[qI b,qI l,qI o,.bool false,.bool false,.bool false] 177:=
 Blk.set (Blk.set (Blk.set (Blk.set (Blk.set (Blk.set hz 0 _) 1 _) 2 _) 3 _) 4 _) 5 _
theorem jO {B:Nat}{w w2:qw}(hg:B<=g)(h:Below B w w2)(b l o:Int):
 Below B w ((((((w2.setCell (qR g 0) (qI b)).setCell (qR g 1) (qI l)).setCell (qR g 2) (qI o)).setCell (qR g 3) (.bool false)).setCell (qR g 4) (.bool false)).setCell (qR g 5) (.bool false)):=
 (((((h.setCell hg _).setCell hg _).setCell hg _).setCell hg _).setCell hg _).setCell hg _
theorem uE (a s l:Int)(w:qw)(hl:5<=l)(hl2:l<8)(ha:0<=a)(hs:0<s)(has:a+s<=262144):
 qC 153 (qT l a s) w (zO w (bH a l) l (cnt l (qOf a (a+s) l)) (qOf a (a+s) l)):=by
 obtain ⟨P,hP⟩:∃ P,(2:Int)^(l-3).toNat=P:=⟨_,rfl⟩;obtain ⟨N,hN⟩:∃ N,(2:Int)^l.toNat=N:=⟨_,rfl⟩;obtain ⟨g1,g2,g3,g4,g5,g6,g7⟩:=oC a l P N hl (by omega) hP hN ha (by omega);obtain ⟨b0,b1,b2,b3,b4⟩:=kH a l N hl (by omega) hN ha;have hdm:=mR a N ha (by omega);obtain ⟨b,hb⟩:=eqx (a-a%N);have hbo:bH a l=b:=by unfold bH;rw [hN,hb]
 rw [<- hb] at b0 b1 b2 hdm;have HP2:=zh (fun w=>eG l (by omega) (by omega) w);rw [hN] at HP2;have hwf:(Lit.int .i64 b).wf=true:=by simp [Lit.wf,IntKind.min,IntKind.max,IntKind.bits,IntKind.signed];omega
 have HR:=zh (fun w=>kP b l 0 false false false w hwf);have hrok:rok b l 0=true:=by unfold rok;rw [hN];simp;omega
 rw [hrok] at HR;rw [hbo]
 have h8:8*P<=1024:=by
  have:l=5\/l=6\/l=7:=by omega
  rcases this with rfl|rfl|rfl<;>(simp at hP;omega)
 have HE:=zh (show ∀ c:Bool,(c=true ↔ (a=b/\N<=s))->qOf a (a+s) l=(if c then 255 else 0)/\cnt l (qOf a (a+s) l)=(if c then N else 0) from by
  intro c hc
  have e:qOf a (a+s) l=(if c then 255 else 0):=by
   unfold qOf;rw [if_pos hl2,hN];cases c
   .rw [if_neg (by simp at hc;omega)];rfl
   .have:=hc.1 rfl;rw [if_pos (by omega)];rfl
  refine ⟨e,?_⟩;rw [e];cases c
  .exact tF l
  .show cnt l 255=N;unfold cnt;rw [hP,show qK 255=8 from rfl,g1]
   rfl)
 have hN1:N<=1024:=by omega
 have hN0:0<N:=by omega
 clear hP hN g1 g2 g3 g4 g5 g6 g7 hrok hbo h8 b2 b3 b4 hb hwf;go_enter Tryz.func153,Tryz.ntmps153
 go_wp2_with fail
 refine (HP2.o _).mono ?_;rintro e w1 ⟨rfl,rfl⟩;go_wp2_with fail
 refine (HR.o _).mono ?_;rintro e w2 ⟨rfl,hb2⟩;have kz:=((Blk.new w #[qI 0,qI 0,qI 0,.bool false,.bool false,.bool false] 177).alloc (.cells #[qI b,qI l,qI 0,.bool false,.bool false,.bool false] 177)).bw hb2;have kr:=(Blk.new (w.alloc (.cells #[qI 0,qI 0,qI 0,.bool false,.bool false,.bool false] 177)) #[qI b,qI l,qI 0,.bool false,.bool false,.bool false] 177).bw hb2;try unfold qY at *
 simp only [xF] at kr;have HB2:=zh ((((Below.refl w.heap.size w).alloc aL (.cells #[qI 0,qI 0,qI 0,.bool false,.bool false,.bool false] 177)).alloc (by simp) (.cells #[qI b,qI l,qI 0,.bool false,.bool false,.bool false] 177)).trans (hb2.mono (by simp;omega)));obtain ⟨q1,q2,q3,q4,q5,q6,q7⟩:=kz.six';obtain ⟨p1,p2,p3,p4,p5,p6,p7⟩:=kr.six';have KZ:=zh kz;clear kz kr hb2;by_cases hba:b=a
 .subst hba;by_cases hNs:s<N
  .obtain ⟨x1,x2⟩:=HE.o false (by simp;omega);have X:=zh (xA x1 x2);clear x1 x2 HE;go_wp2_with fail
   rw [X.o.2,X.o.1];exact zI w _ _ b l 0 0 0 rfl rfl (zH KZ.o b l 0) (jO aL HB2.o b l 0) (fun h=>absurd h (by omega))
  .obtain ⟨x1,x2⟩:=HE.o true (by simp;omega);have X:=zh (xA x1 x2);clear x1 x2 HE;go_wp2_with fail
   rw [X.o.2,X.o.1];exact zI w _ _ b l 0 N 255 rfl rfl (zH KZ.o b l 0) (jO aL HB2.o b l 0) (fun _=>rfl)
 .obtain ⟨x1,x2⟩:=HE.o false (by simp;omega);have X:=zh (xA x1 x2);have hba':(b !=a)=true:=by simpa using hba
  clear x1 x2 HE hba;go_wp2_with fail
  rw [X.o.2,X.o.1];exact zI w _ _ b l 0 0 0 rfl rfl (zH KZ.o b l 0) (jO aL HB2.o b l 0) (fun h=>absurd h (by omega))
def rgt (r x y:Bool)(g:Rg):Rg:=(g.1,g.2.1,g.2.2.1,r,x,y)
def rts (r x y:Bool)(L:List Rg):List Rg:=L.map (rgt r x y)
theorem eV (r x y:Bool)(L:List Rg):(rts r x y L).length=L.length:=by simp [rts]
theorem aGb (r x y:Bool)(L:List Rg)(k:Nat)(h:k<L.length):(rts r x y L).take (k+1)=(rts r x y L).take k++[rgt r x y (L.getD k z6)]:=by
 rw [List.take_add_one];congr 1;simp [rts,xB,h]
theorem tB:∀ (n:Nat) (en a:Int),(eO en n a).length<=n
 | 0,en,a=>by simp [eO]
 | n+1,en,a=>by
   unfold eO;split
   .unfold aCt;split
    .have:=tB n en;simp only [List.length_cons];exact Nat.succ_le_succ (this _)
    .simp
   .simp
theorem pF (f s:Int):(cvL f s).length<=8192:=by
 unfold cvL;split
 .rename_i h;unfold oJ;unfold oS grn at h;simp at h;have:=tB (s/32).toNat (f+s) f;omega
 .simp
def RowW (w:qw)(g:Nat)(rs:List Rg):Prop:=
 (∃ cur,Blk w g cur 177)/\∀ i,i<rs.length->At6 w g (i*6) (rs.getD i z6)
theorem RowW.frozen {w:qw}(h:RowW w g rs)(i:Nat):w.frozen? (qR g i)=false:=by obtain ⟨⟨cur,hb⟩,_⟩:=h;exact hb.frozen i
theorem aJq {w:qw}(h:ORg w base (qS (qP g) n cap) rs)(hn:n≠0):RowW w g rs:=by
 have hr:=eU h;have hl:=hr.1;obtain ⟨_,⟨h0,h0'⟩|⟨g',cap',cur,hv,hg,hh,h1,h2,h3,h4⟩⟩:=h.1
 .simp at h0
 .simp at hv;obtain ⟨rfl,_⟩:=hv;exact ⟨⟨cur,hh⟩,fun i hi=>by have:=hr.at i (by omega);rw [Nat.zero_add] at this;exact this⟩
theorem fF {w w':qw}(t:Turn S w w')(h:ORg w base v rs)(hk:∀ k,v.ownBlock=some k->¬ S k):ORg w' base v rs:=by
 refine ⟨?_,h.2⟩;obtain ⟨hl,h0|⟨g',cap,cur,rfl,hg,hh,h1,h2,h3,h4⟩⟩:=h.1
 .exact ⟨hl,.inl h0⟩
 .exact ⟨hl,.inr ⟨g',cap,cur,rfl,hg,aA t hh (hk g' rfl),h1,h2,h3,h4⟩⟩
theorem aDc {w:qw}(h:ORg w base v rs)(k:Nat)(hk:v.ownBlock=some k):k<w.heap.size:=by
 obtain ⟨hl,⟨rfl,h0⟩|⟨g',cap,cur,rfl,hg,hh,h1,h2,h3,h4⟩⟩:=h.1
 .cases hk
 .have e:some g'=some k:=hk;injection e with e
  subst e;exact Blk.lt (w:=w) hh
