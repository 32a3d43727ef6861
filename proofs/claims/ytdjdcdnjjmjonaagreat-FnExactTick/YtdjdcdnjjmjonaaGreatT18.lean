import Derived.Deep.Slices
import Derived.Test.YtdjdcdnjjmjonaaGreatT16
import Derived.Test.YtdjdcdnjjmjonaaGreatT17
set_option linter.all false
set_option maxHeartbeats 16000000
namespace Go.Proofs.YtdjdcdnjjmjonaaGreat
open Go.RowKit
open Go.Proofs.Tryz
set_option maxRecDepth 100000
variable {C:Cy}{L:Lay}{M:Mn}{ax cs:Array Value}{base q:Nat}{d i pc:Int}{v:Value}
structure Stk (C:Cy)(pc:Int)(rg:qi)(r:Res):Prop where
 w:wrd r.pc
 l:r.rg.length=8
 g:∀z∈r.rg,wrd z
 a:r.x1=C.x1
 b:r.x2=C.x2\/∃p s v,C.al p s 2=true/\wd s=true/\ins p s 65536 C.n2=true/\r.x2=put C.x2 (p-65536).toNat v s.toNat
 o:r.x3.length<=5000/\r.x3.length<=C.x3.length+1
 d:(r.did=0/\r.num=0)\/(∃f,r=C.go 5 f pc rg)\/∃d n,(1<=d/\d<=4)/\r=C.go d n (m32 (pc+4)) rg/\wrd n/\(d=4->n=0)
def aTr {n1 n2 n3:Nat}{x1 x2 x3:qi}{p s v:Int}:(wrm n1 n2 n3 x1 x2 x3 p s v).2.2.2=0->(wrm n1 n2 n3 x1 x2 x3 p s v).1=x1/\((wrm n1 n2 n3 x1 x2 x3 p s v).2.1=x2\/wd s=true/\ins p s 65536 n2=true/\(wrm n1 n2 n3 x1 x2 x3 p s v).2.1=put x2 (p-65536).toNat v s.toNat)/\((wrm n1 n2 n3 x1 x2 x3 p s v).2.2.1=x3\/n3<5000/\(wrm n1 n2 n3 x1 x2 x3 p s v).2.2.1=x3++[v%256]):=by
 unfold wrm;by_cases c:mok n1 n2 n3=true/\wd s=true
 .rw[if_pos c]
  repeat' split
  all_goals intro h
  all_goals first
   | (simp at h;done)
   | exact⟨rfl,.inl rfl,.inr ⟨J,rfl⟩⟩
   | exact⟨rfl,.inr ⟨c.2,‹_›,rfl⟩,.inl rfl⟩
 .grind
def aRf {rg:qi}(t:rg.length=8)(b:∀z∈rg,wrd z)(I:∀z∈C.x1,0<=z/\z<=255)(H:∀z∈C.x2,0<=z/\z<=255)(l:C.x3.length=C.n3)(K:mok C.n1 C.n2 C.n3=true)(F:∀f,Stk C pc rg$ C.go 5 f pc rg){op a:Int}(P:1<=op)(Q:op<=25)(E:0<=d)(u:d<=7)(O:0<=a)(a1:a<=7)(k:0<=i)(G:i<=65535):Stk C pc rg (opz C op d a i pc rg):=by
 have g:C.x3.length<=5000/\C.x3.length<=C.x3.length+1:=⟨by rw[l];exact(uE K).2.2,Nat.le_succ _⟩;have w:∀x,wrd$ m32 x:=λx=>by grind
 have S:∀v,wrd v->Stk C pc rg (C.go 0 0 (m32$ pc+4)$ rg.set d.toNat v):=λv N=>⟨w _,by grind,λz R=>by
  rcases List.mem_or_eq_of_mem_set R with h|rfl
  .exact b z h
  .exact N,rfl,.inl rfl,g,.inl ⟨rfl,rfl⟩⟩
 have p:∀j:Int,0<=j->j<=7->wrd (rg.getD j.toNat 0):=λj x y=>b _$ aGn _ _ _ J
 have A:∀s,Stk C pc rg$ ldz C pc rg d a i s:=λs=>by
  unfold ldz
  repeat' split
  .exact S _ (vR _ _ _ _ _ _ _ I H)
  .grind
  .grind
 have B:∀s,Stk C pc rg$ stz C pc rg d a i s:=λs=>by
  unfold stz;split
  .next q=>
   dsimp only;split
   .next e=>
    let⟨e1,e2,e3⟩:=aTr e;refine⟨w _,t,b,e1,e2.imp id λx=>⟨_,_,_,q,x⟩,?_,.inl ⟨rfl,rfl⟩⟩;rcases e3 with x|⟨x,y⟩
    .rw[show _=C.x3 from x];exact g
    .rw[show _=C.x3++[_] from y,List.length_append,l];exact⟨x,Nat.le_refl _⟩
   .next e=>
    have:=aSw e;unfold Cy.wr;rw[this];exact F _
  .exact F _
 by_cases M:op=1\/20<=op
 .rw[vZ M];have X:∀{d n:Int}{q:Int},(d=0/\n=0)\/((1<=d/\d<=4)/\q=m32 (pc+4)/\wrd n/\(d=4->n=0))->wrd q->Stk C pc rg (C.go d n q rg):=λh D=>⟨D,t,b,rfl,.inl rfl,g,h.imp id λx=>.inr ⟨_,_,x.1,by rw[x.2.1],x.2.2⟩⟩;refine X ?_ (by split<;>exact w _);by_cases c2:20<=op/\op<=22
  .unfold ev;rw[if_neg J,if_neg J,if_neg J,if_neg J]
   grind
  .rw[if_neg (by unfold jmp;simp;omega)];refine .inr ?_;rcases(show op=1\/op=23\/op=24\/op=25 from J)with rfl|rfl|rfl|rfl
   .rw[show ev 1 i (m32$ pc+4)=(1,0)from rfl];exact⟨Ja,rfl,Ja,Ja⟩
   .exact⟨⟨by show(1:Int)<=2;decide,by show(2:Int)<=4;decide⟩,rfl,w _,λh=>absurd h (by show ¬(2:Int)=4;decide)⟩
   .exact⟨⟨by show(1:Int)<=3;decide,by show(3:Int)<=4;decide⟩,rfl,⟨k,by show i<=_;omega⟩,λh=>absurd h (by show ¬(3:Int)=4;decide)⟩
   .rw[show ev 25 i (m32$ pc+4)=(4,0)from rfl];exact⟨Ja,rfl,Ja,Ja⟩
 by_cases c2:op<=13
 .rw[aDn J c2];let⟨W,Y⟩:=p d E u;let⟨U,V⟩:=p a O a1;have:=aEr k G W Y U V (op-2).toNat J;rw[this.1,show(((op-2).toNat+2:Nat):Int)=op from J]at this;exact S _ this.2
 rcases(show op=14\/op=15\/op=16\/op=17\/op=18\/op=19 from J)with rfl|rfl|rfl|rfl|rfl|rfl
 .exact A 1
 .exact A 2
 .exact A 4
 .exact B 1
 .exact B 2
 .exact B 4
def aJv {rg:qi}(j:wrd pc)(g:rg.length=8)(e:∀z∈rg,wrd z)(l:∀z∈C.x1,0<=z/\z<=255)(k:∀z∈C.x2,0<=z/\z<=255)(a:C.x3.length=C.n3)(b:mok C.n1 C.n2 C.n3=true):Stk C pc rg (spz C pc rg):=by
 have F:∀f,Stk C pc rg$ C.go 5 f pc rg:=λf=>⟨j,g,e,rfl,.inl rfl,⟨by rw[a];exact(uE b).2.2,Nat.le_succ _⟩,.inr$ .inl ⟨f,rfl⟩⟩;unfold spz;split
 .next hf=>
  have hd:dOk (C.rd pc 4).1=true:=by
   unfold fez at hf
   grind
  have:=aI3 hd;exact aRf g e l k a b F this.1 this.2 J J J J J J
 .grind
def Cn.z (C:Cn)(L:Lay):Cy:=⟨C.fz.length,C.rz.length,C.oz.length,C.fz,C.rz,C.oz,(plQ C L).length,plQ C L⟩
def Cn.r (C:Cn)(L:Lay):Res:=spz (C.z L) C.pc C.kz
def Cn.n (C:Cn)(L:Lay):Cn:={ C with pc:=(C.r L).pc,kz:=(C.r L).rg,fz:=(C.r L).x1,rz:=(C.r L).x2,oz:=(C.r L).x3 }
def Cv.stp {C:Cn}(h:Cv C L)(k:Stk (C.z L) C.pc C.kz (C.r L)):Cv (C.n L) L:=by
 unfold Cn.n;generalize C.r L=r at *
 have g:r.x2.length=C.rz.length:=by
  rcases k.b with e|⟨p,s,v,_,_,_,e⟩
  .rw[e];rfl
  .rw[e,nN];rfl
 refine⟨h.k,h.e,?_,?_,k.l,⟨h.s.1,λi hi=>?_⟩,h.n,h.t⟩
 .show mok r.x1.length r.x2.length r.x3.length=true;have:=uE h.b;have o:=k.o.1;have e:(C.z L).x1.length=C.fz.length:=rfl;rw[k.a,g,e];unfold mok
  grind
 .show(r.x2.length:Int)=L.ram;rw[g];exact h.r
 .have⟨s1,s2,s3⟩:=h.s.2 i hi;refine⟨s1,s2,λu=>?_⟩;refine Eq.trans (show slb r.x2 L C.cw i=slb C.rz L C.cw i from ?_)$ s3 u;rcases k.b with e|⟨p,s,v,a,x,b,e⟩
  .rw[e];rfl
  rw[e];let⟨t,y,A,q,B,D⟩:=h.slot hi;have:=h.ends.2.2.2.2.2 i q;unfold slb;refine congrArg (List.take _)$ List.ext_getElem? λj=>?_;rw[List.getElem?_drop,List.getElem?_drop,aDd,if_neg]
  .rfl
  unfold ins at b;simp at b;have:=h.r;have:=(uE h.b).2.1;unfold Cy.al alw at a;simp only[Bool.and_eq_true,decide_eq_true_eq]at a;have:(C.z L).n2=C.rz.length:=rfl;have w:=pM.1 a.2.2.2;rintro⟨E,F,G⟩;have o:=w (s.toNat-1) (by grind);have:1<=s/\s<=4:=by rcases eE x with rfl|rfl|rfl<;>decide
  have l:wrap64 (p+((s.toNat-1:Nat):Int))=p+s-1:=by unfold wrap64;omega
  rw[l]at o;have d:(C.z L).rs=plQ C L:=rfl;have f:(C.z L).rn=(plQ C L).length:=rfl;rw[d,f]at o;unfold plQ at o;split at o
  .have:=aT8 h aO o;omega
  .cases o
def mnV (M:Mn):Value:=.agg$ qA M
structure MnS (w:qw)(M:Mn)(L:List (PMod×Mb)):Prop where
 a:(∃g,M.ma=qP g)/\∃b o,M.ka=some (qR b o)
 m:OMq w M.ma L
 n:L.length=M.mn
 e:L.map (fun x=>x.1)=aF M.ms
 k:IS w M.ka M.kn M.kc M.kz
 f:OB w 0 (qS M.fa M.fn M.fc) M.fz
 r:OB w 0 (qS M.ra M.rn M.rc) M.rz
 o:OB w 0 (qS M.oa M.on M.oc) M.oz
 l:Srd cM w M.la M.ln M.lc M.lz
 h:Srd bM w M.ha M.hn M.hc M.hz
 z:M.mn<=1048576/\M.kn<=1048576/\M.fn+M.rn+M.on<=1048576/\M.ln<=1048576/\M.hn<=1048576
def MnS.bw {w w':qw}{L:List (PMod×Mb)}(h:MnS w M L)(a:qY w w'):MnS w' M L:=⟨h.a,h.m.bw a,h.n,h.e,h.k.bw a,h.f.bw a,h.r.bw a,h.o.bw a,h.l.bw a,h.h.bw a,h.z⟩
abbrev Mn.vm (M:Mn)(a:qO)(n c:Nat):Array Value:=qX M a n c M.ka M.kn M.kc M.fa M.fn M.fc M.ra M.rn M.rc M.oa M.on M.oc M.la M.ln M.lc M.ha M.hn M.hc
structure Cpx (w X:qw)(ax cs:Array Value):Prop where
 b:qY w X
 ka:Blk X w.heap.size ax 43
 kr:Blk X (w.heap.size+1) z15 43
 kg:Blk X (w.heap.size+1+1) cs 43
def Cpx.bw {w X b:qw}(h:Cpx w X ax cs)(a:qY X b):Cpx w b ax cs:=⟨h.b.trans$ a.mono h.b.size,h.ka.bw a,h.kr.bw a,h.kg.bw a⟩
def Cpx.set {w X:qw}(h:Cpx w X ax cs)(i v):Cpx w (X.setCell ⟨(w.heap.size+1+1),i,none⟩ v) ax (cs.setIfInBounds i v)/\TMx X (X.setCell ⟨(w.heap.size+1+1),i,none⟩ v):=⟨⟨aG h.b (aC X _ i v) (λk a=>J) h.b.size,h.ka.other _ _ (by grind),h.kr.other _ _ (by grind),h.kg.set i v⟩,eZ h.kg$ aC X _ i v⟩
def aSg {W:qw}(b:Blk W q z15 43)(v0 v1 v2 v3 v4 k l p s t d f g i j)(Q:Ending->World->Prop)(tmps)(e:tmps[2]?=some (.pointer$ qP q))(a:Q (.returned$ .agg #[v0,v1,v2,v3,v4,k,l,p,s,t,d,f,g,i,j]) (oD W q v0 v1 v2 v3 v4 k l p s t d f g i j)):
 bodyPost prog f32 Q Exit.ret ⟨tmps,[]⟩ (oD W q v0 v1 v2 v3 v4 k l p s t d f g i j):=by
 obtain⟨u,w,D,E,F,G,H,I,K,M,x,y,A,B,C⟩:=(jE b v0 v1 v2 v3 v4 k l p s t d f g i j).mc;refine bodyPost_ret_by (v:=.agg #[v0,v1,v2,v3,v4,k,l,p,s,t,d,f,g,i,j]) ?_ rfl a;simp[results,results32,go_sem,e,u,w,D,E,F,G,H,I,K,M,x,y,A,B,C]
def aFm {w f X w4:qw}{b:Nat}{L:List (PMod×Mb)}{l:Nat->Nat}(O:OMp f base v L l)(k:b<=base)(B:Below b w f)(hs:b<=f.heap.size)(j:qY f X)(a:X.grownBy w4 v.ownBlock):Below b w w4:=
 aG (B.trans$ j.mono hs) (S:=λq=>v.ownBlock=some q) ⟨a.os,a.tape,a.output,a.size,λq g hs=>a.block q g λe=>hs e.symm⟩ (λq g=>xM k (O.o.lt q g).1) (xM hs j.size)
def CpP (w:qw)(C:Cn)(e:Ending)(w':qw):Prop:=qY w w'/\∃N base aP L β,e=.returned (mnV N)/\MxO w' base aP C N L β/\w.heap.size<=base/\aP<=w'.heap.size
def aPz {w XX G K S I P:qw}{p a Q O H:Nat}{F B A j y al D:qO}{u s cf l g k t:Nat}{b:List (PMod×Mb)}{f:Nat->Nat}(hb:qY w XX)(e:OMp G p (qS F M.mn u) b f)(e1:b.map (λx=>x.1)=aF M.ms)(E:w.heap.size<=p)(i:TMx G XX)
 (d:OI K a (qS B M.kn s) M.kz) (q:TMx K XX) (C:G.heap.size<=a) (W:cB S Q (qS A M.fn cf) (qS j M.rn l) (qS y M.on g) M.fz M.rz M.oz) (V:TMx S XX) (h2:a<=Q) (R:OG 132 4 cM I O (qS al M.ln k) M.lz) (Y:TMx I XX) (h3:a<=O) (N:OG 136 4 bM P H (qS D M.hn t) M.hz) (U:TMx P XX) (X:a<=H) (Z:a<=XX.heap.size):
 CpP w M.cn (.returned$ .agg$ qX M F M.mn u B M.kn s A M.fn cf j M.rn l y M.on g al M.ln k D M.hn t) XX:=by
 refine⟨hb,⟨F,M.mn,u,b.map mdP,M.cs,M.cw,M.ck,M.cd,M.pc,B,M.kn,s,M.kz,A,M.fn,cf,M.fz,j,M.rn,l,M.rz,y,M.on,g,M.oz,M.md,M.bk,al,M.ln,k,M.lz,D,M.hn,t,M.hz,M.tn⟩,p,a,b,f,rfl,⟨e.tm i,e1,d.tm q,fM (aJ7 W V) h2,(R.kept Y$ oM R Ja).mono h3,(N.kept U$ oM N Ja).mono X,?_,?_,⟨rfl,rfl,rfl,rfl,rfl,rfl,rfl,rfl⟩,⟨rfl,rfl,rfl,rfl,rfl,rfl,rfl⟩⟩,E,Z⟩
 .have:=e.lo;have:=e.mono 0 b.length (xC _) aO;have:=e.hi;omega
 .exact xM e.hi C
def mQ (M Ls w)(H:MnS w M Ls):qC 32 #[.agg$ qA M] w (CpP w M.cn):=by
 obtain⟨iM,bg,bh,bi,bj⟩:=info_parts aPi;obtain⟨⟨⟨g,ea⟩,b1,o1,ek⟩,hm,aq,ap,hk,hf,hr,ho,hl,hh,zm,zk,zq,zl,zh⟩:=H;obtain⟨w1,a0⟩:=aN$ ((w.alloc$ .cells (qA M) 43).alloc$ .cells qZ 43).alloc$ .cells (M.vm none 0 0) 43;have B1:qY w w1:=by rw[a0];exact((brf.alloc aO _).alloc Jb _).alloc Jc _
 have Q:Cpx w w1 (qA M) (M.vm none 0 0):=by
  refine⟨B1,?_,?_,?_⟩
  .rw[a0];exact((Blk.new _ _ _).alloc _).alloc _
  .rw[a0];have:=(Blk.new (w.alloc$ .cells (qA M) 43) z15 43).alloc$ .cells (M.vm none 0 0) 43;simpa[z15]using this
  .rw[a0];have:=Blk.new ((w.alloc$ .cells (qA M) 43).alloc$ .cells qZ 43) (M.vm none 0 0) 43;simpa using this
 have ag:w1.heap.size=w.heap.size+1+1+1:=by rw[a0];simp
 have S0:=aRj w1 w1.heap.size aO;rw[ea]at hm;have be:=aR λ(X:qw)(y:qY w X)=>hm.bw y;have bc:=aR (λ(X:qw)(y:qY w X)=>show qC 85 #[.agg #[qI M.pc,qS M.ka M.kn M.kc]] X (dV X M.pc M.kn M.kz)by rw[ek]at hk⊢;exact aEh M.pc b1 o1 M.kn M.kc M.kz X (hk.bw y) zk);have b4:=aR λ(X:qw)(y:qY w X)=>aI9 M.fa M.ra M.oa M.fn M.fc M.rn M.rc M.on M.oc M.fz M.rz M.oz X (hf.bw y) (hr.bw y) (ho.bw y) zq;have ba:=aR λ(X:qw)(y:qY w X)=>aJd M.la M.ln M.lc M.lz X (hl.bw y) zl;have ay:=aR λ(X:qw)(y:qY w X)=>aJe M.ha M.hn M.hc M.hz X (hh.bw y) zh;have E:=aR$ xA aq ap;have bm:=aR ag;have x0:w1.cell? (qR w.heap.size 0)=some (qS (qP g) M.mn M.mc):=by rw[<-ea];exact Q.ka.cell 0
 have b:=aR$ xA Q S0;have F:=aR a0;obtain⟨B,hB⟩:=aN$ w1.heap.size;rw[<-hB]at b;have ad:=aR$ show w.heap.size+1+1<B from J;clear a0 B1 Q S0 hm hk hf hr ho hl hh zk zq zl zh aq ap ea ek ag hB;go_enter func32,ntmps32
 go_wp2_with (rw[<-F.out])
 go_loopw [11] (λi wr=>∃(j:Nat) (A:qO) (D:Nat) (L':List (PMod×Mb)) (aj:Nat->Nat),j<=M.mn/\i=qI j/\OMp wr B (qS A j D) L' aj/\L'.map (λx=>x.1)=(Ls.take j).map (λx=>x.1)/\Cpx w wr (qA M) (M.vm A j D)) (λi _=>M.mn-(intOf i).toNat)
 case atStart=>exact⟨0,none,0,[],_,xC _,rfl,b.out.2,Jb,b.out.1⟩
 case round=>
  obtain⟨j,A,D,L',aj,hj,rfl,O,C,K⟩:=hrel;have V:L'.length=j:=by have h1:=congrArg List.length C;have h2:=E.out.1;simp at h1;omega
  clear x0 b F;by_cases bo:j<M.mn
  .have ar:(j:Int)<(M.mn:Int):=J
   have bl:(0:Int)<=(j:Int):=J
   obtain⟨⟨P,⟨b1,d1,b2,d2,bq,b3,d3,b5,d5,b6,d6,b7,d7⟩⟩,hx⟩:∃x,Ls[j]?=some x:=⟨Ls[j]'(jK E.out.1),xN _⟩;obtain⟨⟨s0,s1,s2,s3,s4,s5,s6,s7⟩,ms,R⟩:=(be.out wr K.b).srcM hx;obtain⟨W1,an,a1,km⟩:=nwb wr (qM P.nm b1 P.tz.length d1 b2 bq.length d2 b3 P.dz.length d3 P.bss b5 P.rz.length d5 b6 P.ss.length d6 b7 P.es.length d7) 128;obtain⟨q0,q1,q2,q3,q4,q5,q6,q7⟩:=Blk.eight' km;have am:=aR λ(X:qw)(y:qY W1 X)=>zI P b1 d1 b2 d2 bq b3 d3 b5 d5 b6 d6 b7 d7 X ((ms.bw a1).bw y) R;have Q:=K.bw a1;have O1:=O.bw a1;have p1:=Q.kg.cell 0;simp only[Array.getElem?_eq_getElem,List.getElem?_toArray,List.getElem?_cons_succ,List.getElem?_cons_zero]at p1;have b:=aR$ xA O1$ xA Q$ xA V C;have HX:=aR$ xA hx R;have F:=aR an;have b0:B<=W1.heap.size:=by have:=O1.lo;have:=O1.hi;have:=O1.mono 0 L'.length (xC _) aO;omega
   clear ms R O K an a1 km Q O1 C hx;go_wp2_with (rw[<-F.out])
   clear s0 s1 s2 s3 s4 s5 s6 s7
   go_region_law
    (first
      | (go_simp;go_at_call 84;first|refine(am.out _ brf).mono ?_|refine(am.out _ brf.drew).mono ?_
         rintro e w6 ⟨x,rfl,M6,a⟩;replace a:qY W1 w6:=(by first|exact a|exact aW a)
         have bb:w6.cell? ⟨(w.heap.size+1+1),0,none⟩=some (qS A j D):=(b.out.2.1.bw a).kg.cell 0;have b9:(w6.alloc$ .cells (qM P.nm x.a1 P.tz.length x.c1 x.a2 x.bl.length x.c2 x.a3 P.dz.length x.c3 P.bss x.a5 P.rz.length x.c5 x.a6 P.ss.length x.c6 x.a7 P.es.length x.c7) 128).cell? ⟨(w.heap.size+1+1),0,none⟩=some (qS A j D):=((b.out.2.1.bw a).kg.alloc _).cell 0;have bA:qY w6 (w6.alloc$ .cells (qM P.nm x.a1 P.tz.length x.c1 x.a2 x.bl.length x.c2 x.a3 P.dz.length x.c3 P.bss x.a5 P.rz.length x.c5 x.a6 P.ss.length x.c6 x.a7 P.es.length x.c7) 128):=brf.alloc aO _;have l:=aR$ aJ6 V (b.out.1.bw$ a.trans$ bA.mono a.size).o;have I:=aR$ cA w6 (qM P.nm x.a1 P.tz.length x.c1 x.a2 x.bl.length x.c2 x.a3 P.dz.length x.c3 P.bss x.a5 P.rz.length x.c5 x.a6 P.ss.length x.c6 x.a7 P.es.length x.c7) 128 (clB (P,x)) rfl;have ai:B<=(w6.alloc$ .cells (qM P.nm x.a1 P.tz.length x.c1 x.a2 x.bl.length x.c2 x.a3 P.dz.length x.c3 P.bss x.a5 P.rz.length x.c5 x.a6 P.ss.length x.c6 x.a7 P.es.length x.c7) 128).heap.size:=xM b0$ xM a.size bA.size;have a8:=aR λ(v':Value)(w4:qw)s(f:World.grownBy _ w4 _)=>xA (b.out.1.push (q:=z6) (x:=(P,x)) (v':=v') (w4:=w4) V a M6 HX.out.2 bA s f)$ xA (aFm b.out.1 (jK ad.out) b.out.2.1.b b.out.2.1.b.size (a.trans$ bA.mono a.size) f)$ show TMx W1 w4\/True from .inr trivial;have ab:=aR (λ(w4:qw)(f:World.grownBy _ w4 _)=>xA (bG f ((b.out.2.1.bw a).ka.alloc$ .cells (qM P.nm x.a1 P.tz.length x.c1 x.a2 x.bl.length x.c2 x.a3 P.dz.length x.c3 P.bss x.a5 P.rz.length x.c5 x.a6 P.ss.length x.c6 x.a7 P.es.length x.c7) 128) (λe=>by obtain⟨c,kk⟩:=aE l.out e.symm;exact absurd (aH kk$ (b.out.2.1.bw a).ka.alloc$ .cells (qM P.nm x.a1 P.tz.length x.c1 x.a2 x.bl.length x.c2 x.a3 P.dz.length x.c3 P.bss x.a5 P.rz.length x.c5 x.a6 P.ss.length x.c6 x.a7 P.es.length x.c7) 128) Ja)) (xA (bG f ((b.out.2.1.bw a).kr.alloc$ .cells (qM P.nm x.a1 P.tz.length x.c1 x.a2 x.bl.length x.c2 x.a3 P.dz.length x.c3 P.bss x.a5 P.rz.length x.c5 x.a6 P.ss.length x.c6 x.a7 P.es.length x.c7) 128) (λe=>by obtain⟨c,kk⟩:=aE l.out e.symm;exact absurd (aH kk$ (b.out.2.1.bw a).kr.alloc$ .cells (qM P.nm x.a1 P.tz.length x.c1 x.a2 x.bl.length x.c2 x.a3 P.dz.length x.c3 P.bss x.a5 P.rz.length x.c5 x.a6 P.ss.length x.c6 x.a7 P.es.length x.c7) 128) Ja)) (bG f ((b.out.2.1.bw a).kg.alloc$ .cells (qM P.nm x.a1 P.tz.length x.c1 x.a2 x.bl.length x.c2 x.a3 P.dz.length x.c3 P.bss x.a5 P.rz.length x.c5 x.a6 P.ss.length x.c6 x.a7 P.es.length x.c7) 128) (λe=>by obtain⟨c,kk⟩:=aE l.out e.symm;exact absurd (aH kk$ (b.out.2.1.bw a).kg.alloc$ .cells (qM P.nm x.a1 P.tz.length x.c1 x.a2 x.bl.length x.c2 x.a3 P.dz.length x.c3 P.bss x.a5 P.rz.length x.c5 x.a6 P.ss.length x.c6 x.a7 P.es.length x.c7) 128) Ja))));clear M6 a bA)
      | (refine step_append_lies _ (by rfl) _ _ 36 (by rfl) B 128 iM _ 8 _ underlying36 bg bh bi bj rfl Ja (qS A j D) j (L'.flatMap clB) (by rfl) l.out ⟨w6.heap.size,0,none⟩ 1 1 (clB (P,x)) (by rfl) (by rfl) I.out (by intro u hu;simp[clB,clH,hdP]at hu;rcases hu with rfl|rfl|rfl|rfl|rfl|rfl|rfl|rfl<;>rfl) Ja Jf J ai _ rfl ?_;intro g4 c4 w4 s f _ _;have W:=aR$ xA (a8.out _ w4 s f)$ ab.out w4 f;have bf:w4.cell? ⟨(w.heap.size+1+1),0,none⟩=some (qS A j D):=W.out.2.2.2.cell 0;have f4:=W.out.2.2.2.frozen 0;clear s f))
   all_goals
    clear q0 q1 q2 q3 q4 q5 q6 q7 p1 bb b9 bf f4 l I a8 ab ai;go_wp2
    go_roundw
    case rel=>
     obtain⟨⟨PO,bw,_⟩,ka,kr,kg⟩:=W.out;have KX:Cpx w w4 _ _:=⟨bw,ka,kr,kg⟩;obtain⟨KY,TY⟩:=KX.set 0$ qS (qP g4) (j+1) c4;exact⟨j+1,some ⟨g4,0,none⟩,c4,_,_,J,by go_num,PO.tm TY,by rw[List.map_append,b.out.2.2.2,nK HX.out.1];rfl,KY⟩
    case measure=>simp[intOf];omega
  .have ar:¬(j:Int)<(M.mn:Int):=J
   obtain rfl:j=M.mn:=J
   rw[<-E.out.1,List.take_length,E.out.2]at C;have x5:=K.ka.cell 5;have x6:=K.ka.cell 6;have aa:=aR$ bc.out wr K.b;have HO:=aR$ xA O$ xA C K;clear O C K;go_wp2_with fail
   apply aa.out.mono;rintro e w2 ⟨ak,ck,rfl,O2,Y⟩;obtain⟨O,C,K⟩:=HO.out;have K2:=K.bw Y;obtain⟨q,T3⟩:=(K2.set 5$ qI M.pc).1.set 6$ qS ak M.kn ck;have T2:=(K2.set 5$ qI M.pc).2;simp only[yA,yB,yC]at q;have y5:=K2.kg.cell 5;have y6:=K2.kg.cell 6;have yf:=K2.kg.frozen;obtain⟨X3,a2⟩:=aN$ (w2.setCell ⟨(w.heap.size+1+1),5,none⟩$ qI M.pc).setCell ⟨(w.heap.size+1+1),6,none⟩$ qS ak M.kn ck;rw[<-a2]at q T3;have k:=aR$ xA (T2.trans T3)$ xA q$ xA O2$ fC Y;have x7:=q.ka.cell 7;have x8:=q.ka.cell 8;have x9:=q.ka.cell 9;have a9:=aR$ b4.out X3 q.b;have ac:=aR a2;clear x5 x6 O C K K2 q T3 T2 a2 O2 Y aa;go_wp2_with (rw[<-ac.out])
   apply a9.out.mono;rintro e w4 ⟨S,cf,Z,cr,ao,co,rfl,O4,N⟩;have G:=k.out.2.1.bw N;obtain⟨K5,T5⟩:=((G.set 7$ qS S M.fn cf).1.set 8$ qS Z M.rn cr).1.set 9$ qS ao M.on co;have T4:=(G.set 7$ qS S M.fn cf).2.trans ((G.set 7$ qS S M.fn cf).1.set 8$ qS Z M.rn cr).2;simp only[yA,yB,yC]at K5;have y7:=G.kg.cell 7;have y8:=G.kg.cell 8;have y9:=G.kg.cell 9;have b8:=G.kg.frozen;obtain⟨X5,a3⟩:=aN$ ((w4.setCell ⟨(w.heap.size+1+1),7,none⟩$ qS S M.fn cf).setCell ⟨(w.heap.size+1+1),8,none⟩$ qS Z M.rn cr).setCell ⟨(w.heap.size+1+1),9,none⟩$ qS ao M.on co;rw[<-a3]at K5 T5;have p:=aR$ xA (T4.trans T5)$ xA K5$ xA O4$ fC N;have az:=K5.ka.cell 12;have a6:=aR$ ba.out X5 K5.b;have af:=aR a3;clear x7 x8 x9 y5 y6 yf G K5 T4 T5 a3 O4 N a9 ac;go_wp2_with (rw[<-af.out])
   apply a6.out.mono;rintro e w6 ⟨al,cl,rfl,O6,a⟩;have K6:=p.out.2.1.bw a;obtain⟨K7,T7⟩:=K6.set 12$ qS al M.ln cl;simp only[yA,yB,yC]at K7;have bd:=K6.kg.cell 12;have av:=K6.kg.frozen;obtain⟨X7,a4⟩:=aN$ w6.setCell ⟨(w.heap.size+1+1),12,none⟩$ qS al M.ln cl;rw[<-a4]at K7 T7;have t:=aR$ xA T7$ xA K7$ xA O6$ fC a;have au:=K7.ka.cell 13;have a7:=aR$ ay.out X7 K7.b;have ae:=aR a4;clear az y7 y8 y9 b8 K6 K7 T7 a4 O6 a a6 af;go_wp2_with (rw[<-ae.out])
   apply a7.out.mono;rintro e w8 ⟨ah,ch,rfl,O8,U⟩;have K8:=t.out.2.1.bw U;obtain⟨d,T9⟩:=K8.set 13$ qS ah M.hn ch;simp only[yA,yB,yC]at d;have bn:=K8.kg.cell 13;have bk:=K8.kg.frozen;obtain⟨X9,a5⟩:=aN$ w8.setCell ⟨(w.heap.size+1+1),13,none⟩$ qS ah M.hn ch;rw[<-a5]at d T9;obtain⟨u0,u1,u2,u3,u4,u5,u6,u7,u8,u9,c0,c1,c3,c5,c6⟩:=d.kg.mc;have KZ:=d.kr;unfold z15 at KZ;obtain⟨r0,r1,r2,r3,r4,r5,r6,r7,r8,r9,bp,br,bu,bv,bz⟩:=KZ.mc;have rf:=KZ.frozen
   have HE:=aR (show CpP w M.cn (.returned$ .agg$ qX M A M.mn D ak M.kn ck S M.fn cf Z M.rn cr ao M.on co al M.ln cl ah M.hn ch) (oD X9 (w.heap.size+1) (qS A M.mn D) (qI M.cs) (qI M.cw) (qI M.ck) (qI M.cd) (qI M.pc) (qS ak M.kn ck) (qS S M.fn cf) (qS Z M.rn cr) (qS ao M.on co) (qI M.md) (qI M.bk) (qS al M.ln cl) (qS ah M.hn ch)$ qI M.tn)by
    have TE:=eZ d.kr$ cL X9 (w.heap.size+1) (qS A M.mn D) (qI M.cs) (qI M.cw) (qI M.ck) (qI M.cd) (qI M.pc) (qS ak M.kn ck) (qS S M.fn cf) (qS Z M.rn cr) (qS ao M.on co) (qI M.md) (qI M.bk) (qS al M.ln cl) (qS ah M.hn ch)$ qI M.tn;have U9:=T9.trans TE;have U7:=(t.out.1.trans$ fC U).trans U9;have U5:=(p.out.1.trans t.out.2.2.2).trans U7;have U3:=(k.out.1.trans p.out.2.2.2).trans U5;have U1:=k.out.2.2.2.trans U3
    exact aPz (aG d.b (cL _ _ _ _ _ _ _ _ _ _ _ _ _ _ _ _ _ ) (λj hj=>J) d.b.size) HO.out.1 HO.out.2.1 (jK ad.out) U1 k.out.2.2.1 U3 aO p.out.2.2.1 U5 (by have h1:=k.out.1.size;have h2:=k.out.2.2.2.size;omega) t.out.2.2.1 U7 (by have h1:=k.out.1.size;have h2:=k.out.2.2.2.size;have h3:=p.out.1.size;have h4:=p.out.2.2.2.size;omega) O8 U9 (by have h1:=k.out.1.size;have h2:=k.out.2.2.2.size;have h3:=p.out.1.size;have h4:=p.out.2.2.2.size;have h5:=t.out.1.size;have h6:=t.out.2.2.2.size;omega) U1.size)
   have ax:=aR d.kr;have aw:=aR a5;clear au bd av K8 d T9 a5 O8 U a7 ae KZ;go_wp2_with (rw[<-aw.out])
   exact aSg ax.out _ _ _ _ _ _ _ _ _ _ _ _ _ _ _ _ _ rfl HE.out
def lFr (C:Cn):FrT:=C.hz.getD (C.hz.length-1) zFr
def aN6 (C:Cn):Cn:={ C with hz:=C.hz.take (C.hz.length-1) }
def aLm (C:Cn)(L:Lay):Cn:=eG (aN6 C) L (lFr C).1 (lFr C).2.1 (lFr C).2.2.1
def lN (C:Cn)(L:Lay):Cn:={ aLm C L with kz:=(aLm C L).kz.set 7 (lFr C).2.2.2 }
def vB (C L m b t):(eG C L m b t).kz.length=C.kz.length:=by unfold eG;split<;>simp
def GbP (w1 w:World)(G:Nat)(Y:Lyb)(C:Cn)(M:Mn)(v13:Value)(e:Ending)(w':World):Prop:=
 if C.hz.length≠0/\C.tn<1000000000 then e=.returned (.bool true)/\(∃M' vr',Mg w1 w' G Y (lN C Y.L) M' v13 vr')/\Kb w w' else e=.returned (.bool false)/\qY w w'
def aIy (w1 G Y C M a0 vr w)(h:Mg w1 w G Y C M a0 vr)(a:Cv C Y.L)(hf:∀i,i<C.hz.length->frk C.ps (C.hz.getD i zFr)):
 Calls prog 157 #[.pointer$ qP G] w (GbP w1 w G Y C M a0):=by
 have a5:w.cell? ⟨G,14,none⟩=qj M.tn:=h.k.cell 14;have p:=h.vs.1.2.2.2.2.2.2.2;by_cases c1:C.tn=1000000000
 .refine Calls.mono (R:=λe d=>e=.returned (.bool false)/\qY w d) ?_ (λe d b=>by unfold GbP;rw[if_neg J];exact b);have ht:(M.tn==1000000000)=true:=by rw[p,c1];rfl
  go_in
  go_wp2;go_ret;exact⟨rfl,brf⟩
 have ht:(M.tn==1000000000)=false:=by rw[p];simpa using c1
 by_cases c2:C.hz.length=0
 .refine Calls.mono (R:=λe d=>e=.returned (.bool false)/\qY w d) ?_ (λe d b=>by unfold GbP;rw[if_neg J];exact b);have t:=zh$ aN5 w1 G Y C M a0 vr w h c2
  go_in
  go_wp2_with fail
  apply t.mono;rintro e l ⟨rfl,S⟩;have HB:=zh$ S.trans$ (bal (w:=l) (o:=.cells (qW 0 0 0 0) 136)).mono S.size;go_wp2;go_ret;exact⟨rfl,HB⟩
 refine Calls.mono (R:=λe d=>e=.returned (.bool true)/\(∃f a1,Mg w1 d G Y (lN C Y.L) f a0 a1)/\Kb w d) ?_ (λe d b=>by unfold GbP;rw[if_pos ⟨c2,jK a.t.2⟩];exact b);obtain⟨n,hn⟩:∃n,C.hz.length=n+1:=⟨C.hz.length-1,J⟩;let⟨⟨x0,x1,x2,x3⟩,hx⟩:=aN$ C.hz.getD n zFr;have I:=zh (show frk C.ps (x0,x1,x2,x3)by rw[hx];exact hf n J)
 have W:=zh (show lN C Y.L={ eG { C with hz:=C.hz.take n } Y.L x0 x1 x2 with kz:=(eG { C with hz:=C.hz.take n } Y.L x0 x1 x2).kz.set 7 x3 } by
  unfold lN aLm aN6 lFr
  rw[hn,show n+1-1=n from J,<-hx])
 have t:=zh$ aQ8 w1 G Y C M a0 vr w h n hn x0 x1 x2 x3 hx.symm;have E:=zh λ(X:World)(a1:Value)(hX:Mg w1 X G Y { C with hz:=C.hz.take n } { M with hn:=n,hz:=C.hz.take n } a0 a1)=>aCc w1 G Y _ _ a0 a1 x0 x1 x2 X hX ⟨a.k,a.e,a.b,a.r,a.g,a.s,a.n,a.t⟩;have P:=zh a.g;have V:=zh (show C.tn<1000000000 by have:=a.t.2;omega)
 go_in
 go_wp2_with fail
 apply t.mono;rintro e l ⟨rfl,h1,B⟩;let⟨U,hU,bU,kU⟩:=nwb l (qW x0 x1 x2 x3) 136;have H:=zh$ xA (h1.bw bU) kU;have HU:=zh hU;let⟨y0,y1,y2,y3⟩:=kU.z4;have y:=zh λ(X:World)=>mP x0 x1 x2 x3 X;have A:=zh$ B.trans$ cG bU;go_wp2_with (rw[<-HU.o])
 apply(y _).mono;rintro e X2 ⟨rfl,g⟩;have N:=zh$ xA (H.1.bw g)$ H.2.bw g;have x:=zh$ A.trans$ cG g;go_wp2_with fail
 apply(E X2 vr N.1).mono;intro e s b;unfold EtP at b;rw[if_pos ⟨V.o,I.o.1⟩]at b;obtain⟨rfl,f,a1,h3,T3⟩:=b;have K:=T3.blk N.2 Jg;have y3:=K.e3
 obtain⟨gk,a2,a4,x7,xf,n1,n2,n3,n4⟩:∃gk,f.ka=some ⟨gk,0,none⟩/\f.kn=8/\(∃u,s.cell? ⟨gk,7,none⟩=some u)/\(∀i,s.frozen? ⟨gk,i,none⟩=false)/\¬gk=G/\¬G=gk/\¬gk=l.heap.size/\¬l.heap.size=gk:=by
  let⟨a3,aP,Ls,β,mm,_⟩:=h3.m;have mk:=mm.k;have e8:f.kn=8:=by rw[kD mk,vB];exact P.o
  let⟨gk,cp,e,_⟩:=World.ownsRow.form mk.1 (by rw[vB];show 0<C.kz.length;rw[P.o];decide);simp only[Value.slice.injEq]at e;rw[e.1]at mk;let⟨cs,kb⟩:=aE mk.1 (k:=gk) rfl;have F:gk≠G:=λq=>by subst q;exact absurd (aH kb h3.k) Ja
  have Q:gk≠l.heap.size:=λq=>by rw[q]at kb;exact absurd (aH kb K) Ja
  exact⟨gk,e.1,e8,⟨_,mk.is.at 7 J⟩,kb.frozen,F,λq=>F q.symm,Q,λq=>Q q.symm⟩
 obtain⟨u,x7⟩:=x7;have c6:s.cell? ⟨G,6,none⟩=qk (some ⟨gk,0,none⟩) 8 f.kc:=by rw[<-a2,<-a4];exact h3.k.cell 6
 have H3:=zh (show Mg w1 (s.setCell ⟨gk,7,none⟩$ qI x3).drew G Y (lN C Y.L) { f with kz:=(eG { C with hz:=C.hz.take n } Y.L x0 x1 x2).kz.set 7 x3 } a0 a1 by
  rw[W.o]
  exact(h3.reg a2 7 J x3 (by have:=I.o.2;dsimp only at this;unfold wfi;omega)).bw brf.drew)
 have D:Zh (Kb w (s.setCell ⟨gk,7,none⟩$ qI x3).drew):=(x.trans T3.kb).trans (λj cs ty hn O=>(O.other ⟨gk,7,none⟩ _ (λe=>by
  have Z:j=gk:=e;subst Z;let⟨a3,aP,Ls,β,mm,_⟩:=h3.m;let⟨a6,kb⟩:=aE mm.k.1 (k:=j) (by rw[a2];rfl)
  exact hn$ .inl$ .inr$ .inr$ .inr$ aH O kb)).bw brf.drew)
 go_wp2_with fail
 go_region_held3 (λd=>d.cell? ⟨G,6,none⟩=qk (some ⟨gk,0,none⟩) 8 f.kc/\d.cell? ⟨l.heap.size,3,none⟩=qj x3) (go_keep) (fail)
 go_wp2;go_ret;exact⟨rfl,⟨_,_,H3⟩,D⟩
def cld (C:Cn)(L:Lay)(d m b t:Int):Int×Int×Cn:=if gL C L m b t=0 then (d,0,tM C L m b t) else (5,gL C L m b t,C)
abbrev tgl (C:Cn)(L:Lay):List Tg:=L.targets.getD C.md.toNat []
def flw (C:Cn)(L:Lay)(d n:Int):Int×Int×Cn:=
 if d=2 then (if atB C L n=true then cld C L d C.md C.bk (awy C L n/4) else (5,5,C))
 else if d=3 then (if n<(tgl C L).length then cld C L d ((tgl C L).getD n.toNat zT).1 ((tgl C L).getD n.toNat zT).2.1 ((tgl C L).getD n.toNat zT).2.2 else (5,8,C))
 else if d=4/\C.hz.length≠0 then (d,n,lN C L)
 else if d=1\/d=4 then (1,C.kz.getD 0 0,C) else (d,n,C)
structure Vc (C:Cn)(L:Lay):Prop where
 v:Cv C L
 p:wrd C.pc
 d:C.cd<=100
 f:∀i,i<C.hz.length->frk C.ps (C.hz.getD i zFr)
 t:C.tn<1000000000
def FlP (w1 w:qw)(G:Nat)(Y:Lyb)(v13:Value)(r:Int×Int×Cn)(e:Ending)(w':qw):Prop:=e=.returned (.agg #[qI r.1,qI r.2.1])/\(∃M' vr',Mg w1 w' G Y r.2.2 M' v13 vr')/\Kb w w'/\(r.1=5->qY w w')
section
variable {w1 w W W':qw}{G base aP:Nat}{Y:Lyb}{C:Cn}{M:Mn}{v13 vr:Value}{Ls:List (PMod×Mb)}{β:Nat->Nat}
abbrev bxk (t:TypeId):Prop:=t≠128/\t≠25/\t≠3/\t≠5/\t≠132/\t≠136
def MxO.bx {t:TypeId}(h:MxO W base aP C M Ls β)(kb:Blk W q cs t)(e:aP<=q)(b:bxk t)(T:Turn (λj=>j=q) W W'):MxO W' base aP C M Ls β:=
 let⟨k,l,f,d,g,i⟩:=b
 ⟨h.upd T (λj a=>by grind),h.e,aX T h.k$ aU kb h.k.1 f.symm,dX h.q T (λj a=>by
  rcases a with q|q|q
  .exact aU kb h.q.1.1 d.symm j q
  .exact aU kb h.q.2.1.1 d.symm j q
  .exact aU kb h.q.2.2.1.1 d.symm j q),h.l.kept T$ aU kb h.l g.symm,h.h.kept T$ aU kb h.h i.symm,h.bm,h.bh,h.vs,h.vz⟩
def Mg.bx {t:TypeId}(h:Mg w1 W G Y C M v13 vr)(kb:Blk W q cs t)(f:G<q)(a:bxk t)(T:Turn (λj=>j=q) W W'):Mg w1 W' G Y C M v13 vr:=by
 let⟨g,aP,d,l,m,i,k⟩:=h.m;have:=h.g;exact⟨aG h.b T (λj b=>J) h.b.size,h.g,aD T h.k λe=>J,⟨g,aP,d,l,m.bx kb J a T,i,k⟩,h.l⟩
def kJ {fn:Func}{a:Nat}{tmps:Array Value}{u:Value}{j:Int}{r:Int×Int×Cn}(p:fn.results=#[.cell a 80])(ha:tmps[a]?=some (.pointer$ qP q))(h:Mg w1 W G Y C M v13 vr)(l:Blk W q #[u,v] 80)(s:Kb w W)(f:i≠5\/qY w W)(A:w.heap.size<=q)(y:G<w.heap.size)(e:r=(i,j,C)):bodyPost prog fn (FlP w1 w G Y v13 r) Exit.ret ⟨tmps,[]⟩ (evs W q i j):=by
 subst e;have T:=(aM W q 0$ qI i).trans$ aM _ q 1$ qI j;have g:=(l.set 0$ qI i).set 1$ qI j;have e0:(evs W q i j).cell? (qR q 0)=qj i:=by rw[g.cell];rfl
 have e1:(evs W q i j).cell? (qR q 1)=qj j:=by rw[g.cell];rfl
 exact bodyPost_ret_by (v:=.agg #[qI i,qI j]) (by simp[results,p,go_sem,ha,e0,e1]) rfl ⟨rfl,⟨M,vr,h.bx l J Ja T⟩,λk d t n b=>aD T (s k d t n b) λe=>jK b.lt,λh=>by
  rcases f with f|f
  .exact absurd h f
  .exact aG f T (λj x=>J) f.size⟩
end
def zM (D G Y C M B F d n m b t w)(h:Mg D w G Y C M B F)(V:Vc C Y.L)(hd:d≠5):qC 156 #[.pointer$ qP G,.agg #[qI d,qI n],.agg$ qT m b t] w (FlP D w G Y B$ cld C Y.L d m b t):=by
 have u:=h.k.lt;let⟨U,q⟩:=aN$ ((w.alloc$ .cells #[qI d,qI n] 80).alloc$ .cells (qT m b t) 121).alloc$ .cells #[qI 0,qI 0] 80;have j:qY w U:=by rw[q];exact(bal.alloc Jb _).alloc Jc _
 have g:=((Blk.new w #[qI d,qI n] 80).alloc$ .cells (qT m b t) 121).alloc$ .cells #[qI 0,qI 0] 80;have l:=(Blk.new (w.alloc$ .cells #[qI d,qI n] 80) (qT m b t) 121).alloc$ .cells #[qI 0,qI 0] 80;have a:=Blk.new ((qm w #[qI d,qI n] 80).alloc$ .cells (qT m b t) 121) #[qI 0,qI 0] 80;simp only[xF]at l a;rw[<-q]at g l a;have x:=zh$ aP5 D G Y C M B F m b t U (h.bw j) V.v V.p V.d;have s:=zh$ xA (h.bw j)$ xA g$ xA a j;have:=l.three;have A:=zh q
 delta qC;go_in
 go_wp2_with (rw[<-A.o])
 apply x.mono;intro e X k;unfold CaP at k;by_cases c:gL C Y.L m b t=0
 .rw[c,if_pos rfl]at k;obtain⟨rfl,⟨I,K,H⟩,kb⟩:=k;let⟨E,g,a,j⟩:=s.o;replace g:=kb _ _ _ Jg g;replace a:=kb _ _ _ Jg a;have:=g.two';have y:=a.two';have f:=zh$ xA H$ xA a$ (cG j).trans kb;have p:=zh (show cld C Y.L d m b t=(d,0,tM C Y.L m b t)by unfold cld;rw[if_pos c]);go_wp2;exact kJ rfl rfl f.1 f.2.1 f.2.2 (.inl hd) J u p
 .rw[if_neg c]at k;obtain⟨rfl,i⟩:=k;let⟨E,g,a,j⟩:=s.o;have y:=(a.bw i).two';have f:=zh$ xA (E.bw i)$ xA (a.bw i)$ yT j i;have p:=zh (show cld C Y.L d m b t=(5,gL C Y.L m b t,C)by unfold cld;rw[if_neg c]);have:(gL C Y.L m b t !=0)=true:=by simpa using c
  go_wp2;exact kJ rfl rfl f.1 f.2.1 (cG f.2.2) (.inr f.2.2) J u p
def Lyb.tgl {Y:Lyb}{W:qw}(h:Y.T W)(i):(Y.ts.getD i zTB).1=Y.L.targets.getD i []:=by
 rw[<-h.tt];simp only[xB,List.getElem?_map];cases Y.ts[i]?<;>rfl
def aI1 (w1 G Y C M a0 vr d n w)(h:Mg w1 w G Y C M a0 vr)(V:Vc C Y.L)(d0:0<=d)(d5:d<=5)(hn:2<=d->d<=3->wrd n):qC 92 #[.pointer$ qP G,.agg #[qI d,qI n]] w (FlP w1 w G Y a0$ flw C Y.L d n):=by
 have u:=h.k.lt;obtain⟨U,hU⟩:=aN$ (w.alloc$ .cells #[qI d,qI n] 80).alloc$ .cells #[qI 0,qI 0] 80;have A:qY w U:=by rw[hU];exact bal.alloc Jb _
 have k:=(Blk.new w #[qI d,qI n] 80).alloc$ .cells #[qI 0,qI 0] 80;have f:=Blk.new (w.alloc$ .cells #[qI d,qI n] 80) #[qI 0,qI 0] 80;simp only[xF]at f;rw[<-hU]at k f;have a:=zh$ xA (h.bw A)$ xA k$ xA f A;have e0:=k.two';have r0:=f.two';have E:=zh hU;have D:=zh V
 have R:=zh (λ(X:qw)(I:qY U X)=>show ∃H,qN X G 6=qk (qP H) 8 M.kc/\qN X H 0=qj (C.kz.getD 0 0)by
  let⟨a6,aP,Ls,β,mm,_⟩:=((h.bw A).bw I).m;have mk:=mm.k;have e8:M.kn=8:=by rw[kD mk];exact V.v.g
  let⟨H,ea⟩:=pY mk J;rw[ea]at mk;refine⟨H,?_,by simpa using mk.is.at 0 J⟩;rw[<-ea,<-e8]
  exact((h.bw A).bw I).k.cell 6)
 have HN:=zh hn;clear h V A k f hU hn;rcases(show d=2\/d=3\/d=4\/d=1\/d=0\/d=5 from J)with rfl|rfl|rfl|rfl|hd
 .have HT:=zh$ pP w1 G Y C M a0 vr n U a.1 D.v$ HN Ja Ja
  delta qC;go_in
  go_wp2_with (rw[<-E.o])
  apply HT.mono;rintro e X ⟨⟨z,rfl,hz⟩,b⟩;let⟨X1,a2,b1,k1⟩:=nwb X (qT C.md C.bk z) 121;have B:=yT b b1;let⟨h0,k,f,A⟩:=a.o;have y:=zh$ xA (h0.bw B)$ xA (f.bw B)$ yT A B;let⟨x0,x1,x2⟩:=(k.bw B).two';let⟨y0,y1,y2⟩:=(f.bw B).two';let⟨t0,t1,t2,_⟩:=k1.three;have N:=zh a2;clear e0 r0 h0 k f A b b1 B a2 HT E a k1;cases c:atB C Y.L n
  .have j:=zh (show flw C Y.L 2 n=(5,5,C)by unfold flw;rw[if_pos rfl,c];rfl);clear c hz;go_wp2_with (rw[<-N.o])
   exact kJ rfl rfl y.1 y.2.1 (cG y.2.2) (.inr y.2.2) J u j
  .obtain rfl:=hz c;have j:=zh (show flw C Y.L 2 n=cld C Y.L 2 C.md C.bk (awy C Y.L n/4)by unfold flw;rw[if_pos rfl,c];rfl);have Q:=zh$ zM w1 G Y C M a0 vr 2 n C.md C.bk (awy C Y.L n/4) X1 y.1 D Ja;clear c hz;go_wp2_with (rw[<-N.o])
   apply Q.mono;rintro e X2 ⟨rfl,⟨M',a3,t⟩,kb,K⟩;have f:=kb _ _ _ Jg y.2.1;clear y0 y1 y2;let⟨y0,y1,y2⟩:=f.two';have g:=zh$ xA t$ xA f$ xA ((cG y.2.2).trans kb) λq=>yT y.2.2$ K q;clear t kb K f x0 x1 x2 t0 t1 t2;go_wp2_with fail
   exact kJ rfl rfl g.1 g.2.1 g.2.2.1 (Decidable.or_iff_not_imp_left.2 λq=>g.2.2.2$ Decidable.not_not.1 q) J u j
 .have Z:=D.v;have S:=Z.n.1;have em:=a.1.vs.1.2.2.2.2.2.1;obtain⟨n0,n1⟩:=HN Ja Ja;have hT:=a.1.ly.t
  have el:Y.ts.length=C.ps.length:=by
   have:=congrArg List.length a.1.ly.tt;rw[Z.e,show lkL C.ps C.cs C.cw C.ck C.cd=lay C.ps C.cs C.cw C.ck by unfold lkL;rw[if_pos Z.k]]at this;simpa[lay]using this
  obtain⟨m0,m1⟩:0<=C.md/\C.md<(Y.ts.length:Int):=by
   rw[el];unfold pcq at S;split at S
   .assumption
   .exact absurd S Ja
  obtain⟨b5,o5,ea,ec⟩:=hT.at C.md.toNat J;have a5:qN U G 10=some (qI C.md):=by rw[<-em];exact a.o.1.k.cell 10
  have a4:qN U G 20=some (qS (some$ qR b5 o5) Y.ts.length Y.c5):=by rw[<-ea];exact a.o.1.k.cell 20
  have p:=zh λ(X:qw)(h:Y.T X)=>show TgS X (Y.ts.getD C.md.toNat zTB).2.1 (Y.ts.getD C.md.toNat zTB).1.length (Y.ts.getD C.md.toNat zTB).2.2 (Y.ts.getD C.md.toNat zTB).1 from h.t.2.2.2.1 C.md.toNat J;have hl:=Lyb.tgl a.1.ly C.md.toNat;unfold svT at ec
  have l:Zh (flw C Y.L 3 n=if n<((Y.ts.getD C.md.toNat zTB).1.length:Int) then cld C Y.L 3 ((Y.ts.getD C.md.toNat zTB).1.getD n.toNat zT).1 ((Y.ts.getD C.md.toNat zTB).1.getD n.toNat zT).2.1 ((Y.ts.getD C.md.toNat zTB).1.getD n.toNat zT).2.2 else (5,8,C)):=by
   show _=_;unfold flw;rw[if_neg Ja,if_pos rfl,show tgl C Y.L=_ from hl.symm]
  generalize Y.ts.getD C.md.toNat zTB=T at *;obtain⟨W,ta,tc⟩:=T;dsimp only at p l ec;clear Z S em hT el hl HN ea
  delta qC;go_in
  go_wp2_with (rw[<-E.o])
  go_region_held3 (λi=>qN i G 10=qj C.md/\qN i G 20=qk (qe b5 o5) Y.ts.length Y.c5/\qN i b5 (o5+C.md.toNat)=qk ta W.length tc) (go_keep) (fail)
  clear a5 a4 ec;by_cases c:n<(W.length:Int)
  .have j:=zh$ l.trans$ if_pos c;have Q:=zb U λX I=>zM w1 G Y C M a0 vr 3 n (W.getD n.toNat zT).1 (W.getD n.toNat zT).2.1 (W.getD n.toNat zT).2.2 X (a.1.bw I) D Ja |>.mono λe i s=>show FlP w1 U G Y a0 _ e i from⟨s.1,s.2.1,(cG I).trans s.2.2.1,λq=>yT I$ s.2.2.2 q⟩
   let⟨bt,ot,et,t0,t1,t2⟩:=(p U a.1.ly).at n.toNat J
   have F:=zh (λ(X:qw)(h:Y.T X)=>show qN X bt (ot+n.toNat*3)=qj (W.getD n.toNat zT).1/\qN X bt (ot+n.toNat*3+1)=qj (W.getD n.toNat zT).2.1/\qN X bt (ot+n.toNat*3+2)=qj (W.getD n.toNat zT).2.2 by
    let⟨a7,a8,a1,q⟩:=(p X h).at n.toNat J;rw[et]at a1;cases a1
    exact q)
   subst et;generalize W.getD n.toNat zT=x at *;obtain⟨xm,xb,xt⟩:=x;dsimp only at j Q t0 t1 t2 F;have O:=xD w1 _ (F w1 a.1.l).1;dsimp only at O;obtain⟨q1,q2,q3,q4⟩:bt≠w.heap.size+1/\w.heap.size+1≠bt/\w.heap.size≠w.heap.size+1/\w.heap.size+1≠w.heap.size:=jK a.1.g;clear l p O;go_wp2
   go_region_held3 (λi=>qn i w 0=qj 3/\qn i w 1=qj n/\qN i bt (ot+n.toNat*3)=qj xm/\qN i bt (ot+n.toNat*3+1)=qj xb/\qN i bt (ot+n.toNat*3+2)=qj xt) (go_keep)
    (first|(go_at_call 156;(first|with_reducible refine(Q.o _ brf.drew).mono ?_|with_reducible refine(Q.o _ brf.drew.drew).mono ?_);rintro e X2 ⟨rfl,⟨M',a3,t⟩,kb,K⟩;obtain⟨c0,c1,c2⟩:=F.o X2 t.ly;have k:=kb _ _ _ Jg a.o.2.1;have f:=kb _ _ _ Jg a.o.2.2.1;obtain⟨x0,x1,x2⟩:=k.two';obtain⟨y0,y1,y2⟩:=f.two'))
   have g:=zh$ xA t$ xA f$ xA ((cG a.2.2.2).trans kb) λq=>yT a.2.2.2$ K q;clear t kb K f k;go_wp2;exact kJ rfl rfl g.1 g.2.1 g.2.2.1 (Decidable.or_iff_not_imp_left.2 λq=>g.2.2.2$ Decidable.not_not.1 q) J u j
  .have j:=zh$ l.trans$ if_neg c;clear l p;go_wp2;exact kJ rfl rfl (a.1.bw brf.drew) (a.2.2.1.bw brf.drew) (cG$ yT a.2.2.2 brf.drew) (.inr$ yT a.2.2.2 brf.drew) J u j
 .have P:=zh$ aIy w1 G Y C M a0 vr U a.1 D.v D.f;have ht:=D.t
  delta qC;go_in
  go_wp2_with (rw[<-E.o])
  apply P.mono;intro e X s;unfold GbP at s;clear e0 r0 P E HN;by_cases c:C.hz.length≠0
  .rw[if_pos ⟨c,ht⟩]at s;obtain⟨rfl,⟨M',a3,t⟩,kb⟩:=s;have k:=kb _ _ _ Jg a.2.1;have f:=kb _ _ _ Jg a.2.2.1;let⟨x0,x1,x2⟩:=k.two';let⟨y0,y1,y2⟩:=f.two';have j:=zh (show flw C Y.L 4 n=(4,n,lN C Y.L)by unfold flw;rw[if_neg Ja,if_neg Ja,if_pos ⟨rfl,c⟩]);have g:=zh$ xA t$ xA f$ (cG a.2.2.2).trans kb;clear t kb k f c ht;go_wp2;exact kJ rfl rfl g.1 g.2.1 g.2.2 (.inl Ja) J u j
  .rw[if_neg (λq=>c q.1)]at s;obtain⟨rfl,b⟩:=s;let⟨H,x6,x7⟩:=R X b;let⟨y0,y1,y2⟩:=(a.2.2.1.bw b).two';have j:=zh (show flw C Y.L 4 n=(1,C.kz.getD 0 0,C)by unfold flw;rw[if_neg Ja,if_neg Ja,if_neg (λq=>c q.2),if_pos (.inr rfl)]);have g:=zh$ xA (a.1.bw b)$ xA (a.2.2.1.bw b)$ yT a.2.2.2 b;clear b c ht;go_wp2;exact kJ rfl rfl g.1 g.2.1 (cG g.2.2) (.inr g.2.2) J u j
 .have⟨H,x6,x7⟩:=R U brf;have j:=zh (show flw C Y.L 1 n=(1,C.kz.getD 0 0,C)by unfold flw;rw[if_neg Ja,if_neg Ja,if_neg (λq=>absurd q.1 Ja),if_pos (.inl rfl)])
  delta qC;go_in
  go_wp2_with (rw[<-E.o])
  exact kJ rfl rfl a.1 a.2.2.1 (cG a.2.2.2) (.inr a.2.2.2) J u j
 .have j:=zh (show flw C Y.L d n=(d,n,C)by unfold flw;rw[if_neg J,if_neg J,if_neg J,if_neg J]);have n1:(d==2)=false:=Jc
  have n2:(d==3)=false:=Jc
  have n3:(d==4)=false:=Jc
  have n4:(d==1)=false:=Jc
  clear hd
  delta qC;go_in
  go_wp2_with (rw[<-E.o])
  exact kJ rfl rfl a.1 a.2.2.1 (cG a.2.2.2) (.inr a.2.2.2) J u j
def tkF (C:Cn)(L:Lay):Int×Int×Cn:=flw (C.n L) L (C.r L).did (C.r L).num
def tkR (C:Cn)(L:Lay):Int×Int×Cn:=if C.tn<1000000000 then (if (tkF C L).1=5 then (5,(tkF C L).2.1,C) else tkF C L) else (5,2,C)
def aV2 {N:Cn}{n:Int}:(flw N L d n).1=5->(flw N L d n).2.2=N:=by
 have a:∀{d m b t:Int},d≠5->(cld N L d m b t).1=5->(cld N L d m b t).2.2=N:=λhd h=>by
  unfold cld at *
  grind
 unfold flw
 repeat' split
 all_goals intro h
 all_goals first
  | rfl
  | exact a J h
  | (have:d=5:=h;omega)
def aU8 {C:Cn}(k:Stk (C.z L) C.pc C.kz (C.r L))(h:(tkF C L).1=5):(tkF C L).2.2=C.n L/\{ C.n L with pc:=C.pc,kz:=C.kz }=C:=by
 refine⟨aV2 h,?_⟩;unfold tkF at h;unfold Cn.n at *;generalize C.r L=r at *;rcases k.d with⟨e1,e2⟩|⟨f,e⟩|⟨d,n,hd,e,_,_⟩
 .rw[e1,e2]at h;unfold flw at h
  grind
 all_goals
  subst e;rfl
abbrev st5 (W:qw)(G:Nat)(a b c d e:Value):qw:=((((W.setCell (qR G 5) a).setCell (qR G 6) b).setCell (qR G 7) c).setCell (qR G 8) d).setCell (qR G 9) e
section
variable {w1 W W' X:qw}{G base aP:Nat}{Y:Lyb}{C:Cn}{M:Mn}{v13 vr:Value}{Ls:List (PMod×Mb)}{β:Nat->Nat}{S:Nat->Prop}{fa ra oa ka:qO}{fn fc rn rc on oc kn kc:Nat}{x1 x2 x3 kz:qi}
def MxO.stp (h:MxO W base aP C M Ls β)(T:Turn S W W')(hS:∀j,S j->aP<=j/\∃cs f,Blk W j cs f/\(f=5\/f=152))(q:cB W' aP (qS fa fn fc) (qS ra rn rc) (qS oa on oc) x1 x2 x3)(k:OI W' aP (qS ka kn kc) kz)(pc):MxO W' base aP { C with pc:=pc,kz:=kz,fz:=x1,rz:=x2,oz:=x3 } { M with pc:=pc,ka:=ka,kn:=kn,kc:=kc,kz:=kz,fa:=fa,fn:=fn,fc:=fc,fz:=x1,ra:=ra,rn:=rn,rc:=rc,rz:=x2,oa:=oa,on:=on,oc:=oc,oz:=x3 } Ls β/\OI W' aP (qS M.ka M.kn M.kc) C.kz:=by
 have a:∀{t:TypeId}{sz n b:Nat}{v:Value}{i:List Value},W.ownsRow b t sz v n i->t≠5->t≠152->∀k,v.ownBlock=some k->¬S k:=λg p u k l s=>by
  let⟨_,cs,f,kb,e⟩:=hS k s;let⟨c,d⟩:=aE g l;have:=aH d kb
  grind
 exact⟨⟨h.upd T (λj s=>by
  grind),h.e,k,q,h.l.kept T$ a h.l Ja Ja,h.h.kept T$ a h.h Ja Ja,h.bm,h.bh,⟨h.vs.1,h.vs.2.1,h.vs.2.2.1,h.vs.2.2.2.1,rfl,h.vs.2.2.2.2.2⟩,⟨h.vz.1,rfl,rfl,rfl,rfl,h.vz.2.2.2.2.2⟩⟩,aX T h.k$ a h.k.1 Ja Ja⟩
def aUi (h:Mg w1 W G Y C M v13 vr)(m:MxO W base aP C M Ls β)(t:w1.heap.size<=base)(g:aP<=G)(T:Turn S W W')(hS:∀j,S j->aP<=j/\∃cs f,Blk W j cs f/\(f=5\/f=152))(q:cB W' aP (qS fa fn fc) (qS ra rn rc) (qS oa on oc) x1 x2 x3)(k:OI W' aP (qS ka kn kc) kz)(pc)(u:X=st5 W' G (qI pc) (qS ka kn kc) (qS fa fn fc) (qS ra rn rc) (qS oa on oc)):
 Mg w1 X G Y { C with pc:=pc,kz:=kz,fz:=x1,rz:=x2,oz:=x3 } { M with pc:=pc,ka:=ka,kn:=kn,kc:=kc,kz:=kz,fa:=fa,fn:=fn,fc:=fc,fz:=x1,ra:=ra,rn:=rn,rc:=rc,rz:=x2,oa:=oa,on:=on,oc:=oc,oz:=x3 } v13 vr/\MxO X base aP { C with pc:=pc,kz:=kz,fz:=x1,rz:=x2,oz:=x3 } { M with pc:=pc,ka:=ka,kn:=kn,kc:=kc,kz:=kz,fa:=fa,fn:=fn,fc:=fc,fz:=x1,ra:=ra,rn:=rn,rc:=rc,rz:=x2,oa:=oa,on:=on,oc:=oc,oz:=x3 } Ls β/\OI X aP (qS M.ka M.kn M.kc) C.kz/\Turn (λj=>j=G) W' X:=by
 let⟨d,i⟩:=m.stp T hS q k pc
 have b:=aD T h.k (λs=>by
  let⟨_,cs,f,kb,e⟩:=hS _ s;have:=aH h.k kb
  grind)
 have:=m.bm;have B:=aG h.b T (λj s=>by grind) h.b.size;have p:=h.g;subst u;have a:=((((aC W' G 5$ qI pc).trans$ aC _ G 6$ qS ka kn kc).trans$ aC _ G 7$ qS fa fn fc).trans$ aC _ G 8$ qS ra rn rc).trans$ aC _ G 9$ qS oa on oc;have l:=((((b.set 5$ qI pc).set 6$ qS ka kn kc).set 7$ qS fa fn fc).set 8$ qS ra rn rc).set 9$ qS oa on oc;exact⟨⟨aG B a (λj x=>J) B.size,p,by simpa using l,⟨base,aP,Ls,β,d.gm b g a,t,g⟩,h.l⟩,d.gm b g a,aX a i$ aU b i.1 Ja,a⟩
def aRu (h:Mg w1 W G Y C M v13 vr)(m:MxO W base aP C M Ls β)(f:w1.heap.size<=base)(a:aP<=G)(k:OI W aP (qS ka kn kc) kz)(pc):Mg w1 ((W.setCell (qR G 5)$ qI pc).setCell (qR G 6)$ qS ka kn kc) G Y { C with pc:=pc,kz:=kz } { M with pc:=pc,ka:=ka,kn:=kn,kc:=kc,kz:=kz } v13 vr:=by
 have e:=h.g;have T:=(aC W G 5$ qI pc).trans$ aC _ G 6$ qS ka kn kc;have b:=(h.k.set 5$ qI pc).set 6$ qS ka kn kc;have x:=m.gm h.k a T;exact⟨aG h.b T (λj g=>J) h.b.size,e,by simpa using b,⟨base,aP,Ls,β,⟨x.m,x.e,aX T k$ aU h.k k.1 Ja,x.q,x.l,x.h,x.bm,x.bh,⟨x.vs.1,x.vs.2.1,x.vs.2.2.1,x.vs.2.2.2.1,rfl,x.vs.2.2.2.2.2⟩,⟨x.vz.1,rfl,x.vz.2.2⟩⟩,f,a⟩,h.l⟩
end
def MOk.pcd (h:MOk M):(0<=M.cn.pc/\M.cn.pc<=4294967295)/\M.cn.cd<=100:=by
 have hc:=h.c;unfold cok at hc;simp at hc;have a:=(dZ.1 h.l).1;unfold cfo at a;simp at a;exact⟨by show 0<=M.pc/\M.pc<=4294967295;omega,by show M.cd<=100;omega⟩
def aRk (W:qw)(base)(a:base<=W.heap.size):OMp (W.alloc$ .cells #[] 128) base (qS (qP W.heap.size) 0 0) [] (λ_=>W.heap.size):=⟨cC _ _ _ _ _ a,λi x hx=>by grind,λ_ _ _ _=>aO,a,Jb⟩
def L7P (w:qw)(n:Nat)(L:List (PMod×Mb))(e:Ending)(w':qw):Prop:=∃a cap L' β',e=.returned (qS a n cap)/\OMp w' w.heap.size (qS a n cap) L' β'/\L'.map (λx=>x.1)=L.map (λx=>x.1)/\qY w w'
def aRm {α:Type}{t:TypeId}{sz:Nat}{f:α->List Value}{w:qw}{xs:List α}(h:OG t sz f w base v xs):OG t sz f w.drew base v xs:=h.bw brf.drew
def aIe (g n ct L w)(H:OMq w (qP g) L)(hl:L.length=n)(hn:n<=1048576):
 qC 70 #[qS (qP g) n ct] w (L7P w n L):=by
 let⟨iI,ap,aa,ab,aj⟩:=info_parts nC;let⟨iB,d0,cw,cx,cy⟩:=info_parts aPj;let⟨iT,db,dc,dd,de⟩:=info_parts aPh;let⟨iX,df,dg,dh,di⟩:=info_parts aPf;let⟨iM,d4,d8,d9,da⟩:=info_parts aPi;have S0:=aRk w w.heap.size aO;have B0:qY w (w.alloc$ .cells #[] 128):=bal;have ae:=zh$ xA S0 B0;have HH:=zh H;clear S0 B0 H
 delta qC;go_in
 go_wp2;go_loopw [3,4] (λv i wr=>∃j:Nat,j<=n/\i=qI j/\∃L' ai,OMp wr w.heap.size v L' ai/\L'.map (λx=>x.1)=(L.take j).map (λx=>x.1)/\qY w wr) (λ_ i _=>n-(intOf i).toNat)
 .exact⟨0,xC _,rfl,[],_,ae.o.1,Jb,ae.o.2⟩
 .obtain⟨j,hj,rfl,L',ai,O,hL,B⟩:=hrel;have ag:L'.length=j:=by have:=congrArg List.length hL;simp at this;omega
  obtain⟨bb,cv,rfl⟩:=aZ O.o;rw[ag]at O⊢;generalize wr=s at *;clear ae;by_cases ef:j<n
  .have bu:(j:Int)<(n:Int):=J
   obtain⟨⟨P,⟨b1,d1,b2,d2,q,b3,d3,b5,d5,b6,d6,b7,d7⟩⟩,hx⟩:∃x,L[j]?=some x:=⟨L[j],xN J⟩;have l:=zb s λX hX=>(HH.bw$ yT B hX).srcM hx;have N:=zh$ xA O$ xA hL B;let⟨⟨s0,s1,s2,s3,s4,s5,s6,s7⟩,_⟩:=l s brf;let⟨w1,aq⟩:=aN$ s.alloc$ .cells (qM P.nm b1 P.tz.length d1 b2 q.length d2 b3 P.dz.length d3 P.bss b5 P.rz.length d5 b6 P.ss.length d6 b7 P.es.length d7) 128;have C1:Cpm s w1 s.heap.size (qM P.nm b1 P.tz.length d1 b2 q.length d2 b3 P.dz.length d3 P.bss b5 P.rz.length d5 b6 P.ss.length d6 b7 P.es.length d7):=by rw[aq];exact⟨bal,Blk.new _ _ _,aO⟩
   have be:qY w1 (w1.alloc$ .cells #[] 3):=bal;let⟨⟨q0,q1,q2,q3,q4,q5,q6,q7⟩,S,R⟩:=l _$ yT C1.b be;have ck:=zh$ cC 3 1 clI w1 w1.heap.size aO;have cq:=zh S.t;have ht:=R.t.1;have dy:q.length<=1048576:=by have h1:=R.b.1;rw[<-S.bls,xH]at h1;exact h1
   have bd:=zh R;have bh:=zh C1;have cr:=zh aq;have cc:=zh hx;clear O hL B C1 aq be S hx R;go_wp2_with (first|(at_builtin;refine bY rfl _ _ 25 rfl w1.heap.size 3 iI (qI 0) 1 8 underlying25 ap aa ab aj rfl Ja (qS (qp w1) 0 0) [] rfl ck.o b1 P.tz.length d1 P.tz rfl cq.o (λ_=>rfl) (λy u hu=>by simp[clI]at hu;subst hu;rfl) (by unfold maxLen;simp;omega) Jc Jb ?_;intro v' w2 O2 G2;rw[List.nil_append]at O2;obtain⟨t1,e1,rfl⟩:=aZ O2;obtain⟨k2,C2,R2,T2⟩:=bh.o.row 1 O2 Ja G2;have z1:=k2.cell 1;have bz:=k2.frozen 1;have kk:=C2.k.alloc$ .cells #[] 25;have z2:=kk.cell 2;have cd:=kk.frozen 2;have ac:=zh$ Cpb.new (v2:=qS b2 q.length d2) (C2:Cpm s _ s.heap.size (qM P.nm t1 P.tz.length e1 b2 q.length d2 b3 P.dz.length d3 P.bss b5 P.rz.length d5 b6 P.ss.length d6 b7 P.es.length d7))$ OG.mono R2 bh.o.b.size;clear kk k2 C2 R2 T2 O2 G2 q0 q1 q2 q3 q4 q5 q6 q7)|rw[<-cr.o])
   try unfold qY at *
   rw[aK]at ac;clear s0 s1 s2 s3 s4 s5 s6 s7;go_loopw [7] (λi wr=>∃(k:Nat) (M:qO) (c2:Nat) (p:List Bk),k<=q.length/\i=qI k/\p.map (λB=>B.2.2.2)=(q.take k).map (λB=>B.2.2.2)/\Cpb s wr s.heap.size w2.heap.size t1 e1 P.tz M c2 p (.string P.nm) (qS b3 P.dz.length d3) (qI P.bss) (qS b5 P.rz.length d5) (qS b6 P.ss.length d6) (qS b7 P.es.length d7)) (qf q.length)
   .exact⟨0,_,_,[],xC _,rfl,Jb,ac.o⟩
   .obtain⟨k,M,c2,p,hk,rfl,D,C⟩:=hrel;have aw:p.length=k:=by have:=congrArg List.length D;simp at this;omega
    have dr:p.length<=1048576:=J
    have dz:=zh aw;clear z1 bz z2 cd ac aw;generalize w2.heap.size=lo at *;by_cases ba:k<q.length
    .have br:(k:Int)<(q.length:Int):=J
     have ed:(0:Int)<=(k:Int):=J
     have ce:(0:Int)<=(j:Int):=J
     let⟨w5,a2⟩:=aN$ wr.alloc$ .cells #[] 3;have ah:qY wr w5:=by rw[a2];exact bal
     have bg:OG 3 1 clI w5 wr.heap.size (qS (qp wr) 0 0) []:=by rw[a2];exact cC _ _ _ _ _ aO
     let⟨⟨_,_,r2,_⟩,S,_⟩:=l wr C.c.b;have C5:=C.bw ah;let⟨⟨_,_,p2,_⟩,ar,R5⟩:=l w5 C5.c.b;let⟨gb,A,Cc,G,cu,hB,p3,oz⟩:=ar.b k ba;subst cu;have p1:=C5.c.k.cell 2;simp only[Array.getElem?_eq_getElem,List.getElem?_toArray,List.getElem?_cons_succ,List.getElem?_cons_zero]at p1;have ee:G.length<=1048576:=(R5.b.2 G (by rw[<-ar.bls,List.mem_map];exact⟨_,List.mem_of_getElem? hB,rfl⟩)).1;have cj:=zh a2;have az:=zh bg;have b8:=zh oz;have Q:=zh$ xA C ah;have Z:=zh$ xA hB D
     have af:=zh (λ(X:qw)(hX:qY s X)=>(show qN X g (j*8+2)=qk (qP gb) q.length d2/\qN X gb k=qk A G.length Cc by
      let⟨⟨_,_,y2,_⟩,dj,_⟩:=l X hX;let⟨ei,A',dq,ej,e',a9,y3,_⟩:=dj.b k ba;rw[hB]at a9;simp at e' a9;obtain⟨rfl,_,rfl,rfl⟩:=a9;subst e'
      exact⟨y2,y3⟩))
     clear a2 ah bg S C5 ar R5 oz C hB D;go_wp2_with (rw[<-cj.o])
     have F:=zh Q.2.size
     go_region_law
      (first
        | (refine aHf (by rfl) _ _ 25 (by rfl) wr.heap.size 3 iI (qI 0) 1 8 underlying25 ap aa ab aj rfl Ja (qS (qp wr) 0 0) [] (by rfl) (by first|exact az.o|exact aRm az.o) A G.length Cc G (by rfl) (by first|exact b8.o|exact b8.o.bw brf.drew) (λ_=>rfl) (λy u hu=>by simp[clI]at hu;subst hu;rfl) (by unfold maxLen;simp;omega) Jc (by exact F.o) ?_;intro v' w6 O6 G6;rw[List.nil_append]at O6;obtain⟨W,Y,rfl⟩:=aZ O6;have ad:qY wr w6:=(by first|exact tO Q.o.2 F.o rfl G6|exact tO Q.o.2.drew F.o rfl G6);have C6:=Q.o.1.bw ad;obtain⟨dk,dn⟩:=af.o w6 C6.c.b;have co:qn w6 s 2=qk M p.length c2:=C6.c.k.cell 2;have ch:(w6.alloc$ .cells #[qS W G.length Y] 25).cell? (qh s 2)=qk M p.length c2:=(C6.c.k.alloc _).cell 2;have au:=zh (C6.bw$ brf.alloc aO$ .cells #[qS W G.length Y] 25).b.head;have b0:=zh$ cA w6 _ 25 [qS W G.length Y] rfl;have bf:=zh λw4 d a f=>Q.o.1.bank (w4:=w4) (d:=d) (O6.bw$ brf.alloc aO$ .cells #[qS W G.length Y] 25) (yT ad$ brf.alloc aO$ .cells #[qS W G.length Y] 25) a f;have ay:=zh (C6.bw$ brf.alloc aO$ .cells #[qS W G.length Y] 25).lh;clear O6 G6 ad C6)
        | (refine step_append_lies _ (by rfl) _ _ 99 (by rfl) lo 25 iB (qS none 0 0) 1 24 underlying99 d0 cw cx cy rfl Ja (qS M p.length c2) p.length (p.map λB=>qS B.1 B.2.1 B.2.2.1) (by rfl) au.o (qh w6 0) 1 1 [qS W G.length Y] (by rfl) (by rfl) b0.o (by intro u hu;simp at hu;subst hu;rfl) Ja Jf J ay.o _ rfl ?_;intro g4 ds w4 a f bv dt;have K:=zh$ bf.o w4 _ a f;have c8:=zh$ af.o _$ K.o.2.choose_spec.choose_spec.2.c.b;obtain⟨dl,dp⟩:=af.o w4 K.o.1.b;have cs:qn w4 s 2=qk M p.length c2:=K.o.1.k.cell 2;have f4:=K.o.1.k.frozen 2;clear a f bv))
     all_goals
      clear p1 co ch cs p2 dk dl p3 dn dp f4 au b0 bf ay c8;go_wp2
      go_roundw
      .have⟨a',c',eh,CF⟩:=K.2;exact⟨k+1,a',c',_,J,by go_num,by rw[List.map_append,Z.o.2,nK Z.o.1];rfl,CF⟩
      .simp[qf,intOf];omega
    .have br:¬(k:Int)<(q.length:Int):=J
     obtain rfl:k=q.length:=J
     rw[List.take_length]at D;have ce:(0:Int)<=(j:Int):=J
     let⟨⟨_,_,r2,r3,_⟩,S,R⟩:=l wr C.c.b;have b4:=zh$ aGd b3 P.dz.length d3 P.dz wr S.d R.d.2 rfl$ jK R.d.1;have Q:=zh C;have Z:=zh (show p.map (λB=>B.2.2.2)=P.bl by rw[D];exact S.bls);clear C S R D;go_wp2_with fail
     apply b4.mono;rintro e w7 ⟨a3,c3,rfl,o7,k7⟩;let⟨C7,D7,P7,T7,_⟩:=Q.row (v3':=qS a3 P.dz.length c3) (aVo o7) k7 Ja 3 rfl;have y3:=C7.c.k.cell 3;have dv:=C7.c.k.frozen 3;let⟨X7,ak⟩:=aN$ w7.setCell ⟨s.heap.size,3,none⟩$ qS a3 P.dz.length c3;rw[<-ak]at D7 P7 T7;let⟨⟨_,_,_,_,_,r5,_⟩,bi,R7⟩:=l _ (D7.bw$ brf.alloc aO$ .cells #[] 3).c.b;have du:=R7.r.1;have ea:=R7.i.1;have ec:=R7.e.1;have bn:=zh$ cC 3 1 clI X7 X7.heap.size aO;have bm:=zh bi.r;have I:=zh$ xA D7$ xA P7$ xM Q.c.b.size$ Nat.le_refl wr.heap.size;have cg:=zh ak;clear C7 D7 P7 T7 ak bi R7 o7 k7 r2 r3 b4
     go_wp2_with (first
      | (at_builtin;refine bY rfl _ _ 25 rfl X7.heap.size 3 iI (qI 0) 1 8 underlying25 ap aa ab aj rfl Ja (qS (qp X7) 0 0) [] rfl bn.o b5 P.rz.length d5 P.rz rfl bm.o (λ_=>rfl) (λy u hu=>by simp[clI]at hu;first|(subst hu;rfl)|(rcases hu with rfl|rfl|rfl<;>rfl)) (by unfold maxLen;simp;omega) Jc Jb ?_;intro v' w8 O8 G8;rw[List.nil_append]at O8;obtain⟨a5,c5,rfl⟩:=aZ O8;obtain⟨C8,D8,P8,T8,_⟩:=I.o.1.row (v5':=qS a5 P.rz.length c5) O8 (mJ G8) Ja 5 rfl;have cb:=zh$ I.o.1.apart O8;have y5:=C8.c.k.cell 5;have eg:=C8.c.k.frozen 5;obtain⟨X8,am⟩:∃X8,X8=w8.setCell (qh s 5) (qS a5 P.rz.length c5):=⟨_,rfl⟩;rw[<-am]at D8 P8 T8;obtain⟨⟨_,_,_,_,_,_,r6,_⟩,bj,_⟩:=l.o _ (D8.bw$ brf.alloc aO$ .cells #[] 9).c.b;have bl:=zh$ cC 9 1 clT X8 X8.heap.size aO;have bq:=zh bj.i;have E:=zh$ xA D8$ xA P8$ dA T8 I.o.1.c.k I.o.2.1 Ja;have cl:=zh am;clear C8 D8 P8 T8 am bj O8 G8 r5)
      | (at_builtin;refine bY rfl _ _ 100 rfl X8.heap.size 9 iT (.string ⟨#[]⟩) 1 16 underlying100 db dc dd de rfl Ja (qS (qp X8) 0 0) [] rfl bl.o b6 P.ss.length d6 P.ss rfl bq.o (λ_=>rfl) (λy u hu=>by simp[clT]at hu;first|(subst hu;rfl)|(rcases hu with rfl|rfl|rfl<;>rfl)) (by unfold maxLen;simp;omega) Jc Jb ?_;intro v' w9 O9 G9;rw[List.nil_append]at O9;obtain⟨a6,c6,rfl⟩:=aZ O9;obtain⟨C9,D9,P9,T9,_⟩:=E.o.1.row (v6':=qS a6 P.ss.length c6) O9 (mJ G9) Ja 6 rfl;have y6:=C9.c.k.cell 6;have dw:=C9.c.k.frozen 6;obtain⟨X9,an⟩:∃X9,X9=w9.setCell (qh s 6) (qS a6 P.ss.length c6):=⟨_,rfl⟩;rw[<-an]at D9 P9 T9;obtain⟨⟨_,_,_,_,_,_,_,r7⟩,bk,_⟩:=l.o _ (D9.bw$ brf.alloc aO$ .cells #[] 209).c.b;have bp:=zh$ cC 209 3 clX X9 X9.heap.size aO;have bo:=zh bk.e;have t:=zh$ xA D9$ xA P9$ xA (dA T9 E.o.1.c.k E.o.2.1 Ja)$ dA T9 E.o.1.c.k E.o.2.2 Ja;have ca:=zh an;clear C9 D9 P9 T9 an bk O9 G9 r6)
      | (at_builtin;refine bY rfl _ _ 126 rfl X9.heap.size 209 iX _ 3 32 underlying126 df dg dh di rfl Ja (qS (qp X9) 0 0) [] rfl bp.o b7 P.es.length d7 P.es rfl bo.o (λ_=>rfl) (λy u hu=>by simp[clX]at hu;first|(subst hu;rfl)|(rcases hu with rfl|rfl|rfl<;>rfl)) (by unfold maxLen;simp;omega) Jc Jb ?_;intro v' c0 U bc;rw[List.nil_append]at U;obtain⟨a7,c7,rfl⟩:=aZ U;obtain⟨a4,a0,a8,a1,_⟩:=t.o.1.row (v7':=qS a7 P.es.length c7) U (mJ bc) Ja 7 rfl;have y7:=a4.c.k.cell 7;have eb:=a4.c.k.frozen 7;obtain⟨XX,ao⟩:∃XX,XX=c0.setCell (qh s 7) (qS a7 P.es.length c7):=⟨_,rfl⟩;rw[<-ao]at a0 a8 a1;have b:=zh$ xA a0$ xA a8$ xA (dA a1 t.o.1.c.k t.o.2.1 Ja)$ xA (dA a1 t.o.1.c.k t.o.2.2.1 Ja)$ dA a1 t.o.1.c.k t.o.2.2.2 Ja;obtain⟨x0,x1,x2,x3,x4,x5,x6,x7⟩:=Blk.eight' a0.c.k;have c4:=zh ao;have V:qY XX (XX.alloc$ .cells (qM P.nm t1 P.tz.length e1 M p.length c2 a3 P.dz.length c3 P.bss a5 P.rz.length c5 a6 P.ss.length c6 a7 P.es.length c7) 128):=bal;have dx:=xM N.o.2.2.size a0.c.b.size;have ax:=zh$ aJ6 ag (N.o.1.bw$ yT a0.c.b V).o;have av:=zh$ cA XX (qM P.nm t1 P.tz.length e1 M p.length c2 a3 P.dz.length c3 P.bss a5 P.rz.length c5 a6 P.ss.length c6 a7 P.es.length c7) 128 (clB (P,(⟨t1,e1,M,c2,p,a3,c3,a5,c5,a6,c6,a7,c7⟩:Mb))) rfl;have c9:=xM Q.o.c.b.size$ Nat.le_refl wr.heap.size;have c1:=zh$ b.o.1.done Z.o bd.o.d.2 b.o.2.2.2.2 Q.o.c.b.size b.o.2.2.2.1 I.o.1.c.b.size b.o.2.2.1 E.o.1.c.b.size b.o.2.1 t.o.1.c.b.size cb.o;have b9:=zh λ(v':Value)(w4:qw)a f=>xA (N.o.1.push (q:=z6) (x:=(P,(⟨t1,e1,M,c2,p,a3,c3,a5,c5,a6,c6,a7,c7⟩:Mb))) (v':=v') (w4:=w4) ag b.o.1.c.b c1.o bd.o V a f)$ aHq N.o.1 N.o.2.2 (yT b.o.1.c.b V) f;clear a4 a0 a8 a1 ao U bc r7 V c9)
      | (at_builtin;refine wpList_append_own _ rfl _ _ 36 rfl w.heap.size 128 iM _ 8 _ underlying36 d4 d8 d9 da rfl Ja (qS bb j cv) j (L'.flatMap clB) rfl ax.o (qh XX 0) 1 1 (clB (P,(⟨t1,e1,M,c2,p,a3,c3,a5,c5,a6,c6,a7,c7⟩:Mb))) rfl rfl av.o (by intro u hu;simp[clB,clH,hdP]at hu;rcases hu with rfl|rfl|rfl|rfl|rfl|rfl|rfl|rfl<;>rfl) Jf J Jc ?_;intro v' w4 a f _;have HP:=zh$ b9.o v' w4 a f;clear a f b9 ax av x0 x1 x2 x3 x4 x5 x6 x7)
      | rw[<-cg.o]|rw[<-cl.o]|rw[<-ca.o]|rw[<-c4.o])
     go_roundw
     .exact⟨j+1,J,by go_num,_,_,HP.o.1,by rw[List.map_append,N.o.2.1,nK cc.o];rfl,HP.o.2⟩
     .simp[qf,intOf];omega
  .have bu:¬(j:Int)<(n:Int):=J
   obtain rfl:j=n:=J
   rw[<-hl,List.take_length]at hL;have N:=zh$ xA O$ xA hL B;clear O hL B;go_wp2;go_ret;exact⟨bb,cv,L',ai,rfl,N.1,N.2.1,N.2.2⟩
def aR4 {W:qw}(b:Blk W q z15 43)(v0 v1 v2 v3 v4 k l p s t d f g i j)(Q:Ending->World->Prop)(tmps)(e:tmps[2]?=some (.pointer$ qP q))(a:Q (.returned$ .agg #[v0,v1,v2,v3,v4,k,l,p,s,t,d,f,g,i,j]) (oD W q v0 v1 v2 v3 v4 k l p s t d f g i j)):
 bodyPost prog f23 Q Exit.ret ⟨tmps,[]⟩ (oD W q v0 v1 v2 v3 v4 k l p s t d f g i j):=by
 obtain⟨u,w,D,E,F,G,H,I,K,M,x,y,A,B,C⟩:=(jE b v0 v1 v2 v3 v4 k l p s t d f g i j).mc;refine bodyPost_ret_by (v:=.agg #[v0,v1,v2,v3,v4,k,l,p,s,t,d,f,g,i,j]) ?_ rfl a;simp[results,results23,go_sem,e,u,w,D,E,F,G,H,I,K,M,x,y,A,B,C]
def zQ {W w6:qw}{o:Obj}(a:v.ownBlock=some W.heap.size)(G:(W.alloc o).grownBy w6 v.ownBlock):qY W w6:=tO (brf.alloc aO o) Jb a G
def bE (M Ls w)(H:MnS w M Ls):qC 23 #[.agg$ qA M] w (CpP w M.cn):=by
 obtain⟨iS,b4,b5,b6,b7⟩:=info_parts aIr;obtain⟨iF,az,b0,b2,b3⟩:=info_parts yH;obtain⟨⟨⟨g,ea⟩,b1,o1,ek⟩,hm,af,ae,hk,hf,hr,ho,hl,hh,zm,zk,zq,zl,zh⟩:=H;obtain⟨w1,S⟩:=aN$ ((w.alloc$ .cells (qA M) 43).alloc$ .cells qZ 43).alloc$ .cells (qA M) 43;have B1:qY w w1:=by rw[S];exact((brf.alloc aO _).alloc Jb _).alloc Jc _
 have K1:Cpx w w1 (qA M) (qA M):=by
  refine⟨B1,?_,?_,?_⟩
  .rw[S];exact((Blk.new _ _ _).alloc _).alloc _
  .rw[S];have:=(Blk.new (w.alloc$ .cells (qA M) 43) z15 43).alloc$ .cells (qA M) 43;simpa[z15]using this
  .rw[S];have:=Blk.new ((w.alloc$ .cells (qA M) 43).alloc$ .cells qZ 43) (qA M) 43;simpa using this
 rw[ea]at hm;have k:=aIe g M.mn M.mc Ls w1 (hm.bw B1) af zm;rw[<-ea]at k;replace k:=aR k;have aw:=aR (λ(X:qw)(l:qY w X)=>show qC 71 #[.agg #[qI M.pc,qS M.ka M.kn M.kc]] X (dV X M.pc M.kn M.kz)by rw[ek]at hk⊢;exact xK M.pc b1 o1 M.kn M.kc M.kz X (hk.bw l) zk);have ap:=aR λ(X:qw)(l:qY w X)=>sY M.fa M.ra M.oa M.fn M.fc M.rn M.rc M.on M.oc M.fz M.rz M.oz X (hf.bw l) (hr.bw l) (ho.bw l) zq;have av:=aR λ(X:qw)(l:qY w X)=>hl.bw l;have an:=aR λ(X:qw)(l:qY w X)=>hh.bw l;have ar:=aR ae;have a5:=aR$ xA hl.1 hh.1;have ay:=aR$ show w.heap.size<=w1.heap.size from B1.size;have x0:=K1.ka.cell 0;have a7:=aR K1;have ad:=aR S;clear S B1 K1 hm hk hf hr ho hl hh zk zq af ae ea ek zm;go_enter func23,ntmps23
 go_wp2_with (rw[<-ad.out])
 apply k.out.mono;rintro e wr ⟨U,c0,L',bd,rfl,O,hL,a9⟩;rw[ar.out]at hL;have K0:=a7.out.bw a9;obtain⟨K,T⟩:=K0.set 0$ qS U M.mn c0;simp only[yA,yB,yC]at K;have y0:=K0.kg.cell 0;have aj:=K0.kg.frozen;obtain⟨X1,a0⟩:=aN$ wr.setCell ⟨(w.heap.size+1+1),0,none⟩$ qS U M.mn c0;rw[<-a0]at K T;have x5:=K.ka.cell 5;have x6:=K.ka.cell 6;have Z:=aR$ aw.out X1 K.b;have HO:=aR$ xA (O.tm T)$ xA hL K;have P:=aR a0;clear O hL K K0 T a0 a9 k x0 ad a7;go_wp2_with (rw[<-P.out])
 apply Z.out.mono;rintro e w2 ⟨ak,Q,rfl,O2,E⟩;obtain⟨O,hL,K⟩:=HO.out;have N:=K.bw E;obtain⟨i,T3⟩:=(N.set 5$ qI M.pc).1.set 6$ qS ak M.kn Q;have T2:=(N.set 5$ qI M.pc).2;simp only[yA,yB,yC]at i;have y5:=N.kg.cell 5;have y6:=N.kg.cell 6;have yf:=N.kg.frozen;obtain⟨X3,a1⟩:=aN$ (w2.setCell ⟨(w.heap.size+1+1),5,none⟩$ qI M.pc).setCell ⟨(w.heap.size+1+1),6,none⟩$ qS ak M.kn Q;rw[<-a1]at i T3;have a:=aR$ xA (T2.trans T3)$ xA i$ xA O2$ fC E;have x7:=i.ka.cell 7;have x8:=i.ka.cell 8;have x9:=i.ka.cell 9;have V:=aR$ ap.out X3 i.b;have a6:=aR a1;clear x5 x6 y0 aj O hL K N i T3 T2 a1 O2 E Z P;go_wp2_with (rw[<-a6.out])
 apply V.out.mono;rintro e w4 ⟨B,cf,F,I,R,co,rfl,O4,t⟩;have p:=a.out.2.1.bw t;obtain⟨q,T5⟩:=((p.set 7$ qS B M.fn cf).1.set 8$ qS F M.rn I).1.set 9$ qS R M.on co;have T4:=(p.set 7$ qS B M.fn cf).2.trans ((p.set 7$ qS B M.fn cf).1.set 8$ qS F M.rn I).2;simp only[yA,yB,yC]at q;have y7:=p.kg.cell 7;have y8:=p.kg.cell 8;have y9:=p.kg.cell 9;have ba:=p.kg.frozen;obtain⟨G,a2⟩:=aN$ ((w4.setCell ⟨(w.heap.size+1+1),7,none⟩$ qS B M.fn cf).setCell ⟨(w.heap.size+1+1),8,none⟩$ qS F M.rn I).setCell ⟨(w.heap.size+1+1),9,none⟩$ qS R M.on co;rw[<-a2]at q T5;have b:=aR$ xA (T4.trans T5)$ xA q$ xA O4$ fC t;have bA:qY G (G.alloc$ .cells #[] 132):=brf.alloc aO _;have ao:=(q.bw bA).ka.cell 12;have ac:=aR$ av.out _ (q.bw bA).b;have ab:=aR$ cC 132 4 cM G G.heap.size aO;have au:=aR a2;have ag:=a5.out.1;have ax:=a5.out.2;clear x7 x8 x9 y5 y6 yf p q T4 T5 a2 O4 t V a6 bA;go_wp2_with (first|(at_builtin;refine bY rfl _ _ 40 rfl G.heap.size 132 iS _ 4 32 underlying40 b4 b5 b6 b7 rfl Ja (qS (qP G.heap.size) 0 0) [] rfl ab.out M.la M.ln M.lc M.lz rfl ac.out (λ_=>rfl) (λy u hu=>by simp[cM]at hu;rcases hu with rfl|rfl|rfl|rfl<;>rfl) (by unfold maxLen;simp;omega) Jc Jb ?_;intro v' w6 W G6;rw[List.nil_append]at W;obtain⟨al,cl,rfl⟩:=aZ W;rw[ag]at W⊢;have A:=zQ rfl G6;have K6:=b.out.2.1.bw A;obtain⟨C,T7⟩:=K6.set 12$ qS al M.ln cl;simp only[yA,yB,yC]at C;have bc:=K6.kg.cell 12;have b9:=K6.kg.frozen;obtain⟨s,a3⟩:∃s,s=w6.setCell ⟨(w.heap.size+1+1),12,none⟩ (qS al M.ln cl):=⟨_,rfl⟩;rw[<-a3]at C T7;have f:=aR$ xA T7$ xA C$ xA W$ fC A;have bB:qY s (s.alloc$ .cells #[] 136):=brf.alloc aO _;have ai:=(C.bw bB).ka.cell 13;have aa:=aR$ an.out _ (C.bw bB).b;have a8:=aR$ cC 136 4 bM s s.heap.size aO;have aq:=aR a3;clear ao K6 C T7 a3 W G6 A bB ab ac)|(at_builtin;refine bY rfl _ _ 41 rfl s.heap.size 136 iF _ 4 32 underlying41 az b0 b2 b3 rfl Ja (qS (qP s.heap.size) 0 0) [] rfl a8.out M.ha M.hn M.hc M.hz rfl aa.out (λ_=>rfl) (λy u hu=>by simp[bM]at hu;rcases hu with rfl|rfl|rfl|rfl<;>rfl) (by unfold maxLen;simp;omega) Jc Jb ?_;intro v' w8 x G8;rw[List.nil_append]at x;obtain⟨ah,ch,rfl⟩:=aZ x;rw[ax]at x⊢;have D:=zQ rfl G8;have K8:=f.out.2.1.bw D;obtain⟨d,Y⟩:=K8.set 13$ qS ah M.hn ch;simp only[yA,yB,yC]at d;have bb:=K8.kg.cell 13;have b8:=K8.kg.frozen;obtain⟨X9,a4⟩:∃X9,X9=w8.setCell ⟨(w.heap.size+1+1),13,none⟩ (qS ah M.hn ch):=⟨_,rfl⟩;rw[<-a4]at d Y;obtain⟨u0,u1,u2,u3,u4,u5,u6,u7,u8,u9,bj,bk,bl,bm,bn⟩:=d.kg.mc;have KZ:=d.kr;unfold z15 at KZ;obtain⟨r0,r1,r2,r3,r4,r5,r6,r7,r8,r9,be,bf,bg,bh,bi⟩:=KZ.mc;have rf:=KZ.frozen;have HE:=aR$ xA Y$ xA d$ xA x$ fC D;have am:=aR a4;clear ai K8 d Y a4 x G8 D KZ a8 aa)|rw[<-au.out]|rw[<-aq.out]|rw[<-am.out])
 have HF:=show CpP w M.cn (.returned$ .agg$ qX M U M.mn c0 ak M.kn Q B M.fn cf F M.rn I R M.on co al M.ln cl ah M.hn ch) (oD X9 (w.heap.size+1) (qS U M.mn c0) (qI M.cs) (qI M.cw) (qI M.ck) (qI M.cd) (qI M.pc) (qS ak M.kn Q) (qS B M.fn cf) (qS F M.rn I) (qS R M.on co) (qI M.md) (qI M.bk) (qS al M.ln cl) (qS ah M.hn ch)$ qI M.tn)by
  obtain⟨Y,d,x,T8⟩:=HE.out;have TE:=eZ d.kr$ cL X9 (w.heap.size+1) (qS U M.mn c0) (qI M.cs) (qI M.cw) (qI M.ck) (qI M.cd) (qI M.pc) (qS ak M.kn Q) (qS B M.fn cf) (qS F M.rn I) (qS R M.on co) (qI M.md) (qI M.bk) (qS al M.ln cl) (qS ah M.hn ch)$ qI M.tn;have U9:=Y.trans TE;have U7:=(f.out.1.trans T8).trans U9;have U5:=(b.out.1.trans f.out.2.2.2).trans U7;have U3:=(a.out.1.trans b.out.2.2.2).trans U5;have U1:=a.out.2.2.2.trans U3;exact aPz (aG d.b (cL _ _ _ _ _ _ _ _ _ _ _ _ _ _ _ _ _ ) (λj hj=>J) d.b.size) HO.out.1 HO.out.2.1 ay.out U1 a.out.2.2.1 U3 aO b.out.2.2.1 U5 (by have h1:=a.out.1.size;have h2:=a.out.2.2.2.size;omega) f.out.2.2.1 U7 (by have h1:=a.out.1.size;have h2:=a.out.2.2.2.size;have h3:=b.out.1.size;have h4:=b.out.2.2.2.size;omega) x U9 (by have h1:=a.out.1.size;have h2:=a.out.2.2.2.size;have h3:=b.out.1.size;have h4:=b.out.2.2.2.size;have h5:=f.out.1.size;have h6:=f.out.2.2.2.size;omega) U1.size
 exact aR4 HE.out.2.1.kr _ _ _ _ _ _ _ _ _ _ _ _ _ _ _ _ _ rfl HF
end Go.Proofs.YtdjdcdnjjmjonaaGreat
namespace Go.Proofs.YtdjdcdnjjmjonaaGreat
open Go.ChangeShapes Go.WideShapes Go.ChangeAt Go.RowKit
variable {base fuel:Nat}{cs:List Value}{held:Bool}
def aJm (b a i):(Addr.add (qR b a) i)=(qR b$ a+i):=by
 simp only[Addr.add]
 grind
set_option maxRecDepth 100000 in
def lY {H:Type}{enc:TypeId×Value->H}{w:qw}{x:DataW H×List MemPlace}
 (h:DataW.trod enc Tryz.prog w base (λ_=>true) held fuel 25 cs=some x):∃a n j zs,cs=[qS a n j]/\IS w a n j zs:=by
 rcases open_ints Tryz.underlying25 Tryz.underlying3 Je h with⟨g,_⟩|⟨x,l,c,zs,g,_,s,u,d,_,e,k⟩
 .exact⟨none,0,0,[],g,rfl,Nat.zero_le _,Jb,λh=>absurd rfl h,aO⟩
 .simp at d;refine⟨some x,l,c,zs.take l,g,by grind,J,λz p=>wf_i64$ k z$ List.mem_of_mem_take p,λt=>?_,s⟩;obtain⟨b,q,y⟩:=x;have f:y=none:=by simpa[Addr.add]using World.cell?_spot$ e 0 J
  subst f;refine⟨b,q,rfl,λi hi=>?_⟩;have:=e i J;rw[aJm]at this
  grind
set_option maxRecDepth 100000 in
def aG2 {H:Type}{enc:TypeId×Value->H}{w:qw}{x:DataW H×List MemPlace}
 (h:DataW.trod enc Tryz.prog w base (λ_=>true) held fuel 99 cs=some x):∃a n j bl,cs=[qS a n j]/\BKS w a n j bl:=by
 have e1:Tryz.prog.cellsOf 25=1:=Je
 rcases Deep.open_slice Tryz.underlying99 h with⟨l,_⟩|⟨a,len,j,m,n,D,Pl,l,A,u,y,s,hx,hd⟩
 .exact⟨none,0,0,[],l,rfl,Nat.zero_le _,λh=>absurd rfl h,λi hi=>J,aO⟩
 .simp at s;rw[s]at hd;rw[e1]at hd
  let⟨G,B⟩:=Deep.choose_lt (α:=Bk) (p:=λi g=>(∃f,w.cells? base (a.add$ i*1) 1=some f/\f=[qS g.1 g.2.1 g.2.2.1])/\IS w g.1 g.2.1 g.2.2.1 g.2.2.2) (n:=len) (λi hi=>by
   let⟨f,d,q⟩:=hd i J;let⟨C,I,E,N,e,F⟩:=lY q
   exact⟨(C,I,E,N),⟨f,d,e⟩,F⟩)
  have t:∀i,i<len->((List.range len).map G).getD i zB=G i:=λi hi=>by grind
  refine⟨some a,len,j,(List.range len).map G,l,Jb,J,?_,λi hi=>by grind,u⟩;intro O;obtain⟨b,K,M⟩:=a
  have k:M=none:=by
   let⟨⟨f,d,q⟩,_⟩:=B 0 J;have:=(World.cells?_some d).2.2 0 J;rw[q]at this;simpa[Addr.add]using World.cell?_spot this
  subst k;refine⟨b,K,rfl,λi hi=>?_⟩;let⟨⟨f,d,q⟩,_⟩:=B i hi;have hc:=(World.cells?_some d).2.2;rw[q]at hc;rw[t i hi];simp only[aJm]at hc
  grind
set_option maxRecDepth 100000 in
def aG9 {H:Type}{enc:TypeId×Value->H}{w:qw}{x:DataW H×List MemPlace}
 (h:DataW.trod enc Tryz.prog w base (λ_=>true) held fuel 100 cs=some x):∃a n j ss,cs=[qS a n j]/\TS w a n j ss:=by
 have e1:Tryz.prog.cellsOf 9=1:=Je
 have E:zS.size<=maxLen:=Ja
 rcases Deep.open_slice Tryz.underlying100 h with⟨l,_⟩|⟨a,len,j,m,n,D,Pl,l,B,y,A,t,hx,hd⟩
 .exact⟨none,0,0,[],l,rfl,Nat.zero_le _,λi=>by grind,λh=>absurd rfl h,aO⟩
 .simp at t;rw[t]at hd;rw[e1]at hd
  let⟨G,C⟩:=Deep.choose_lt (α:=ByteArray) (p:=λi g=>(∃f,w.cells? base (a.add$ i*1) 1=some f/\f=[Value.string g])/\g.size<=maxLen) (n:=len) (λi hi=>by
   let⟨f,q,d⟩:=hd i J;let⟨s,e,_,K⟩:=DataW.trod_string Tryz.underlying9 d
   grind)
  have u:∀i,i<len->((List.range len).map G).getD i zS=G i:=λi hi=>by grind
  refine⟨some a,len,j,(List.range len).map G,l,Jb,J,λi=>?_,?_,y⟩
  .grind
  intro M;obtain⟨b,F,I⟩:=a
  have k:I=none:=by
   let⟨⟨f,q,d⟩,_⟩:=C 0 J;have:=(World.cells?_some q).2.2 0 J;rw[d]at this;simpa[Addr.add]using World.cell?_spot this
  subst k;refine⟨b,F,rfl,λi hi=>?_⟩;let⟨⟨f,q,d⟩,_⟩:=C i hi;have hc:=(World.cells?_some q).2.2;rw[d]at hc;rw[u i hi];simp only[aJm]at hc
  grind
set_option maxRecDepth 100000 in
def aEb {H:Type}{enc:TypeId×Value->H}{w:qw}{base:Nat}{u:Bool}{a:Nat->Bool}{t:Nat}{cs:List Value}{x:DataW H×List MemPlace}
 (h:DataW.trod enc Tryz.prog w base a u t 223 cs=some x):∃g:Ex,cs=[.string g.1,qI g.2.1,qI g.2.2]/\g.1.size<=maxLen:=by
 let⟨B,n,_,_,l,y,d⟩:=DataW.trod_struct Tryz.underlying223 h;have e6:Tryz.prog.cellsOf 223=3:=Je
 rw[e6]at l
 match B,y,cs,l with
 | [y0,y1,y2],_,[c0,c1,c2],_=>
 have b:=d 0 _ rfl;have f:=d 1 _ rfl;have e:=d 2 _ rfl;have e3:Tryz.prog.cellsOf 3=1:=Je
 have e4:Tryz.prog.cellsOf 9=1:=Je
 simp[e3,e4]at b f e;let⟨p,i,_,A⟩:=DataW.trod_string Tryz.underlying9 b;let⟨q,j,_,C⟩:=DataW.trod_int Tryz.underlying3 f;let⟨s,k,_,D⟩:=DataW.trod_int Tryz.underlying3 e;simp at i j k;subst i j k;exact⟨(p,q,s),rfl,A⟩
set_option maxRecDepth 100000 in
def aHd {H:Type}{enc:TypeId×Value->H}{w:qw}{x:DataW H×List MemPlace}
 (h:DataW.trod enc Tryz.prog w base (λ_=>true) held fuel 101 cs=some x):∃a n j es,cs=[qS a n j]/\TE w a n j es:=by
 have e1:Tryz.prog.cellsOf 223=3:=Je
 have E:(zE).1.size<=maxLen:=Ja
 rcases Deep.open_slice Tryz.underlying101 h with⟨l,_⟩|⟨a,len,j,m,n,D,Pl,l,B,y,A,t,hx,hd⟩
 .exact⟨none,0,0,[],l,rfl,Nat.zero_le _,λi=>by grind,λh=>absurd rfl h,aO⟩
 .simp at t;rw[t]at hd;rw[e1]at hd
  let⟨G,C⟩:=Deep.choose_lt (α:=Ex) (p:=λi g=>(∃f,w.cells? base (a.add$ i*3) 3=some f/\f=[.string g.1,qI g.2.1,qI g.2.2])/\g.1.size<=maxLen) (n:=len) (λi hi=>by
   let⟨f,q,d⟩:=hd i J;let⟨s,e,K⟩:=aEb d
   grind)
  have u:∀i,i<len->((List.range len).map G).getD i zE=G i:=λi hi=>by grind
  refine⟨some a,len,j,(List.range len).map G,l,Jb,J,λi=>?_,?_,y⟩
  .grind
  intro M;obtain⟨b,F,I⟩:=a
  have k:I=none:=by
   let⟨⟨f,q,d⟩,_⟩:=C 0 J;have:=(World.cells?_some q).2.2 0 J;rw[d]at this;simpa[Addr.add]using World.cell?_spot this
  subst k;refine⟨b,F,rfl,λi hi=>?_⟩;let⟨⟨f,q,d⟩,_⟩:=C i hi;have hc:=(World.cells?_some q).2.2;rw[d]at hc;rw[u i hi];simp only[aJm]at hc;exact⟨hc 0 J,hc 1 J,hc 2 J⟩
