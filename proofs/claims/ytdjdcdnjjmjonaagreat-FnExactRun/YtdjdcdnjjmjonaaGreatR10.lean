import Derived.Test.YtdjdcdnjjmjonaaGreatR07
import Derived.Test.YtdjdcdnjjmjonaaGreatR09
set_option linter.all false
set_option maxHeartbeats 4000000
namespace Go.Proofs.YtdjdcdnjjmjonaaGreat
open Go.RowKit
open Go.Proofs.Tryz
set_option maxRecDepth 100000
variable {G:Prop}{P:PMod}{S:Nat->Prop}{V c d k s w:Int}{a a0 a5:qO}{base c0 c5 cap i lo lo' n:Nat}{cs:Array Value}{m:Md}{ms:List Md}{ps:List PMod}{row:Option Nat}{v:Value}
def Md.pm (m:Md):PMod:=⟨m.nm,m.tz,m.bl.map λB=>B.2.2.2,m.dz,m.bss,m.rz,m.ss,m.es⟩
def zP:PMod:=⟨⟨#[]⟩,[],[],[],0,[],[],[]⟩
def dm (P:PMod):Md:=⟨P.nm,none,P.tz.length,P.tz.length,P.tz,none,P.bl.length,P.bl.length,nM P.bl,none,P.dz.length,P.dz.length,P.dz,P.bss,none,P.rz.length,P.rz.length,P.rz,none,P.ss.length,P.ss.length,P.ss,none,P.es.length,P.es.length,P.es⟩
def Md.md (m:Md)(w:qw):Prop:=MD w m.nm m.ta m.tn m.tc m.tz m.ba m.bn m.bc m.bl m.da m.dn m.dc m.dz m.bss m.ra m.rn m.rc m.rz m.ia m.im m.ic m.ss m.ea m.en m.ec m.es
theorem aPv {w:qw}(h:m.md w):mdo m.nm m.tn m.tz m.bn m.bl m.dn m.bss m.rn m.rz m.im m.ss m.en m.es=fY m.pm:=by
 have b:=h.b.1;have e:m.pm.bl.length=m.bn:=by simp[Md.pm,b]
 unfold fY;rw[show m.pm.tz.length=m.tn from h.t.1,show m.pm.dz.length=m.dn from h.d.1,show m.pm.rz.length=m.rn from h.r.1,show m.pm.ss.length=m.im from h.i.1,show m.pm.es.length=m.en from h.e.1,e,<-b];refine aSr (by rw[b];simp[nM,e]) λi hi=>?_;have:=(h.b.2.2.2.1 i J).1
 have:(nM m.pm.bl).getD i zB=(none,(m.bl.getD i zB).2.2.2.length,(m.bl.getD i zB).2.2.2.length,(m.bl.getD i zB).2.2.2):=by
  simp[nM,Md.pm,xB,hi]
 grind
abbrev Tg:=Int×Int×Int
def kD (ps:List PMod)(s:ByteArray):Option Tg:=(rsT ps.length (ps.map dm) s).map λx=>((x.1:Int),((ps.getD x.1 zP).es.getD x.2 zE).2.1,((ps.getD x.1 zP).es.getD x.2 zE).2.2)
def tgV:Option Tg->Value
 | some t=>.tuple #[.agg$ qT t.1 t.2.1 t.2.2,.bool true]
 | none=>.tuple #[.agg$ qT 0 0 0,.bool false]
def jC {α e:Type}(f:α->e)(l:List α)(i a b)(h:i<l.length:=by omega):(l.map f).getD i b=f (l.getD i a):=by
 simp[xB,h]
def aOq {s:ByteArray}(f:ms.length=n)(g:∀i,i<n->(ms.getD i aM).es.length=(ms.getD i aM).en):rsv n ms s=tgV (kD (ms.map Md.pm) s):=by
 have j:rsT (ms.map Md.pm).length ((ms.map Md.pm).map dm) s=rsT n ms s:=by
  rw[xH,f];refine aMc λi hi=>?_;rw[List.map_map,jC _ _ _ aM _];exact⟨rfl,by rw[<-g i hi];rfl,rfl⟩
 unfold kD rsv;rw[j];cases e:rsT n ms s with
 | none=>rfl
 | some x=>
   obtain⟨i,k⟩:=x;have hi:=aU5 e;have b:(ms.map Md.pm).getD i zP=(ms.getD i aM).pm:=jC _ _ _ aM _;simp only[Option.map_some,tgV,b];rfl
def zT:Tg:=(0,0,0)
abbrev aAy (ps:List PMod)(P:PMod):Prop:=∀i,i<P.ss.length->(kD ps (P.ss.getD i zS)).isSome=true
def tgs (ps:List PMod)(P:PMod):List Tg:=(List.range P.ss.length).map λi=>(kD ps$ P.ss.getD i zS).getD zT
def rnd (x:Int):Int:=(x+31)/32*32
def cS (P:PMod):Nat->Int
 | 0=>0
 | k+1=>cS P k+rnd (4*((P.bl.getD k []).length:Int))
def tsz (P:PMod):Int:=rnd$ 4*(P.tz.length:Int)
def msz (P:PMod):Int:=tsz P+cS P P.bl.length
def dsz (P:PMod):Int:=rnd$ (P.dz.length:Int)+P.bss
def Fl (ps:List PMod):Nat->Int
 | 0=>0
 | i+1=>Fl ps i+msz (ps.getD i zP)
def Ra (ps:List PMod):Nat->Int
 | 0=>0
 | i+1=>Ra ps i+dsz (ps.getD i zP)
structure Pl where
 text:Int
 banks:List Int
 data:Int
 size:Int
def plc (ps:List PMod)(i:Nat):Pl:=⟨Fl ps i,(List.range (ps.getD i zP).bl.length).map λk=>Fl ps i+tsz (ps.getD i zP)+cS (ps.getD i zP) k,65536+Ra ps i,dsz$ ps.getD i zP⟩
structure Lay where
 places:List Pl
 stack:Int
 slots:List Int
 flash:Int
 ram:Int
 targets:List (List Tg)
abbrev qL (L:Lay)(a:Option Addr)(b c:Nat)(d:Option Addr)(e f:Nat)(g:Option Addr)(h i:Nat):Array Value:=#[.slice a b c,.int .i64 L.stack,.slice d e f,.int .i64 L.flash,.int .i64 L.ram,.slice g h i]
abbrev qJ {α β:Type}(L:Lay)(a:qO)(xs:List α)(c:Nat)(d:qO)(f:Nat)(g:qO)(ts:List β)(i:Nat):Array Value:=qL L a xs.length c d L.slots.length f g ts.length i
def slt (ps:List PMod)(w k:Int)(i:Nat):Int:=65536+Ra ps ps.length+k+(i:Int)*rnd (4*w)
def lay (ps:List PMod)(s w k:Int):Lay:=⟨(List.range ps.length).map$ plc ps,65536+Ra ps ps.length,(List.range s.toNat).map$ slt ps w k,Fl ps ps.length,Ra ps ps.length+k+(s.toNat:Int)*rnd (4*w),(List.range ps.length).map λi=>tgs ps$ ps.getD i zP⟩
abbrev iQ (ps:List PMod):Prop:=∀i,i<ps.length->fY (ps.getD i zP)=0
abbrev nms (ps:List PMod):Prop:=∀i,i<ps.length->∀k,k<i->(ps.getD k zP).nm≠(ps.getD i zP).nm
abbrev oJ (ps:List PMod):Prop:=∀i,i<ps.length->aAy ps (ps.getD i zP)
abbrev oX (ps:List PMod)(w:Int):Prop:=∀i,i<ps.length->∀k,k<(ps.getD i zP).bl.length->(((ps.getD i zP).bl.getD k []).length:Int)<=w
def fJ (ps:List PMod)(s w k d:Int):Int:=
 if cfo s w k d=false then 1 else if ps.length<1\/4<ps.length then 2 else if ¬iQ ps then 3 else if ¬nms ps then 4 else 0
def lkc (ps:List PMod)(s w k d:Int):Int:=
 if fJ ps s w k d≠0 then fJ ps s w k d else if ¬oJ ps then 5 else if 0<s/\¬oX ps w then 6 else if 16384<(lay ps s w k).flash then 7 else if 16384<(lay ps s w k).ram then 8 else 0
structure MSD (w:qw)(a:qO)(n cap:Nat)(ms:List Md):Prop where
 s:MS w a n cap ms
 d:∀i,i<n->(ms.getD i aM).md w
def MSD.bw {w w':qw}(h:MSD w a n cap ms)(b:qY w w'):MSD w' a n cap ms:=⟨h.s.bw b,λi hi=>MD.bw (h.d i hi) b⟩
def aI (ms:List Md):List PMod:=ms.map Md.pm
def cF (ms):(aI ms).length=ms.length:=by simp[aI]
def cZ (h:i<ms.length:=by omega):(aI ms).getD i zP=(ms.getD i aM).pm:=jC _ _ _ aM _ h
def L0:Lay:=⟨[],0,[],0,0,[]⟩
def lkL (ps:List PMod)(s w k d:Int):Lay:=if lkc ps s w k d=0 then lay ps s w k else L0
def aOd (h:cfo s w k d=false):fJ ps s w k d=1:=if_pos h
theorem aOc (h:cfo s w k d=true)(b:ps.length<1\/4<ps.length):fJ ps s w k d=2:=by
 unfold fJ;rw[if_neg (by grind),if_pos b]
theorem aOb (h:cfo s w k d=true)(e:¬(ps.length<1\/4<ps.length))(i)(hi:i<ps.length)(b:fY (ps.getD i zP)≠0):fJ ps s w k d=3:=by
 unfold fJ;rw[if_neg (by grind),if_neg e,if_pos (λv=>b$ v i hi)]
theorem aUy (h:cfo s w k d=true)(g:¬(ps.length<1\/4<ps.length))(b:iQ ps)(i j)(hi:i<ps.length)(e:j<i)(f:(ps.getD j zP).nm=(ps.getD i zP).nm):fJ ps s w k d=4:=by
 unfold fJ;rw[if_neg (by grind),if_neg g,if_neg (λv=>v b),if_pos (λv=>v i hi j e f)]
theorem aOe (h:cfo s w k d=true)(f:¬(ps.length<1\/4<ps.length))(b:iQ ps)(e:nms ps):fJ ps s w k d=0:=by
 unfold fJ;rw[if_neg (by grind),if_neg f,if_neg (λv=>v b),if_neg (λv=>v e)]
def lD {B:Nat}{a W:qw}(h:Below B a W)(n):Below B a (W.drewN n):=⟨h.os,h.tape,h.output,h.size,h.block⟩
def aUv {a b:ByteArray}(h:a≠b):(a.toList==b.toList)=false:=by
 rw[beq_eq_false_iff_ne];intro e;apply h;rw[ByteArray.toList_eq,ByteArray.toList_eq]at e;cases a
 cases b
 simp at e;rw[e]
def fC (x w)(f:0<=x:=by omega)(b:x<=4294967295:=by omega):qC 124 #[qI x] w λe a=>e=.returned (qI$ rnd x)/\a=w:=by
 go_enter func124,ntmps124
 go_wp2;go_ret;exact⟨aJ (by unfold rnd;rw[show x+31=x+32-1 from J]),rfl⟩
theorem Md.okS {w:qw}(h:m.md w):qC 163 #[.agg$ qM m.nm m.ta m.tn m.tc m.ba m.bn m.bc m.da m.dn m.dc m.bss m.ra m.rn m.rc m.ia m.im m.ic m.ea m.en m.ec] w (qB w$ qI$ fY m.pm):=by
 have:=aA8 _ _ _ _ _ _ _ _ _ _ _ _ _ _ _ _ _ _ _ _ _ _ _ _ _ _ w h;rw[aPv h]at this
 grind
def aG2 (a n a0 ms s c k d w)(h:MSD w a n a0 ms):
 qC 109 #[qS a n a0,.agg$ qW s c k d] w (qB w$ qI$ fJ (aI ms) s c k d):=by
 have hA:qY w (w.alloc$ .cells (qW s c k d) 37):=bal;have hl:=h.s.1;have:=h.s.2.1;have a7:=cF ms;have HH:=zh h;have HC:=zh λW=>aA9 s c k d W
 delta qC;go_in
 go_wp2_with fail
 apply(HC _).mono;rintro e w1 ⟨rfl,a4⟩;have u:=zh$ hA.trans$ a4.mono Jb;cases l:cfo s c k d with
 | false=>
   have t:=zh$ aOd (ps:=aI ms) l;go_wp2;go_ret;exact⟨aJ t.symm,u⟩
 | true=>
   by_cases O:n<1\/4<n
   .have t:=zh$ aOc (ps:=aI ms) l J;by_cases a8:n<1
    .have A:(n:Int)<1:=J
     go_wp2;go_ret;exact⟨aJ t.symm,u⟩
    .have A:¬(n:Int)<1:=J
     have Z:(4:Int)<(n:Int):=J
     go_wp2;go_ret;exact⟨aJ t.symm,u⟩
   have A:¬(n:Int)<1:=J
   have Z:¬(4:Int)<(n:Int):=J
   have E:=zh (show ¬((aI ms).length<1\/4<(aI ms).length)by rw[a7,hl];exact O);clear O;go_wp2;go_loopw [5] (λi wr=>∃m:Nat,m<=n/\i=qI m/\(∀j,j<m->fY ((aI ms).getD j zP)=0)/\qY w wr) (qf n)
   .exact⟨0,xC _,rfl,λj N=>absurd N J,u⟩
   .obtain⟨m,hm,rfl,f,B⟩:=hrel;by_cases U:m<n
    .have a2:(m:Int)<(n:Int):=J
     have H:=HH.bw B;obtain⟨b,off,rfl,q0,q1,q2,q3,q4,q5,q6,q7⟩:=H.s.at m U;have y:=zh$ Md.okS$ H.d m U;rw[<-cZ]at y;have P:=zh f;have G:=zh B;let⟨V,hV⟩:=aO$ fY$ (aI ms).getD m zP;rw[<-hV]at y;have a1:=zh hV;generalize ms.getD m aM=M at *;clear f B H hV;go_wp2_with fail
     apply y.mono;rintro e w2 ⟨rfl,X⟩;have a3:=zh$ yT G X;clear X y G q0 q1 q2 q3 q4 q5 q6 q7;by_cases hz:V=0
     .subst hz
      have a6:=zh (show ∀j,j<m+1->fY ((aI ms).getD j zP)=0 from λj N=>by
       by_cases e:j=m
       .subst e;exact a1.symm
       .exact P j J)
      go_wp2
      go_roundw
      .exact⟨m+1,J,by go_num,a6,a3⟩
      .simp[qf,intOf];omega
     .have a9:(V !=0)=true:=by simp[hz]
      have t:=zh (aOb (ps:=aI ms) l E.o m J (by rw[<-a1.o];exact hz));go_wp2;go_ret;exact⟨aJ t.symm,a3⟩
    .have a2:¬(m:Int)<(n:Int):=J
     have P:Zh (iQ$ aI ms):=λi hi=>f i J;have G:=zh B;clear f B;go_wp2;go_loopw [6] (λi wr=>∃m:Nat,m<=n/\i=qI m/\(∀i,i<m->∀k,k<i->((aI ms).getD k zP).nm≠((aI ms).getD i zP).nm)/\qY w wr) (qf n)
     .exact⟨0,xC _,rfl,λj N=>absurd N J,G⟩
     .obtain⟨p,hp,rfl,f,B⟩:=hrel;by_cases Q:p<n
      .have D:(p:Int)<(n:Int):=J
       have HP:=zh f;have I:=zh B;clear f B;go_wp2;go_loopw [7] (λi wr=>∃q:Nat,q<=p/\i=qI q/\(∀k,k<q->((aI ms).getD k zP).nm≠((aI ms).getD p zP).nm)/\qY w wr) (qf p)
       .exact⟨0,xC _,rfl,λj N=>absurd N J,I⟩
       .obtain⟨q,hq,rfl,f,B⟩:=hrel;by_cases Y:q<p
        .have K:(q:Int)<(p:Int):=J
         have H:=HH.bw B;obtain⟨b,off,rfl,q0,_⟩:=H.s.at q J;let⟨b',a5,e',r0,_⟩:=H.s.at p Q;simp at e';obtain⟨rfl,rfl⟩:=e';have e1:((aI ms).getD q zP).nm=(ms.getD q aM).nm:=by rw[cZ];rfl
         have e2:((aI ms).getD p zP).nm=(ms.getD p aM).nm:=by rw[cZ];rfl
         have HQ:=zh f;have x:=zh B;by_cases g:(ms.getD q aM).nm=(ms.getD p aM).nm
         .have t:=zh (aUy (ps:=aI ms) l E.o P.o p q J Y (by rw[e1,e2];exact g));rw[g]at q0;generalize ms.getD p aM=M at *;clear f B H e1 e2 g;go_wp2_with fail
          go_quiet (fail)
          go_wp2;go_ret;exact⟨aJ t.symm,lD x nq⟩
         .have aa:=aUv g
          have C:=zh (show ∀k,k<q+1->((aI ms).getD k zP).nm≠((aI ms).getD p zP).nm from λk S=>by
           by_cases e:k=q
           .subst e;rw[e1,e2];exact g
           .exact HQ k J)
          generalize (ms.getD p aM).nm=N1 at *;generalize (ms.getD q aM).nm=N2 at *;clear f B H e1 e2 g;go_wp2_with fail
          go_quiet (fail)
          go_wp2
          go_roundw
          .exact⟨q+1,J,by go_num,C,lD x nq⟩
          .simp[qf,intOf];omega
        .have K:¬(q:Int)<(p:Int):=J
         have C:=zh (show ∀i,i<p+1->∀k,k<i->((aI ms).getD k zP).nm≠((aI ms).getD i zP).nm from λi hi k S=>by
          by_cases e:i=p
          .subst e;exact f k J
          .exact HP i J k S)
         have x:=zh B;clear f B;go_wp2
         go_roundw
         .exact⟨p+1,J,by go_num,C,x⟩
         .simp[qf,intOf];omega
      .have D:¬(p:Int)<(n:Int):=J
       have t:=zh$ aOe (ps:=aI ms) l E P λi hi k S=>f i J k S;have I:=zh B;clear f B;go_wp2;go_ret;exact⟨aJ t.symm,I⟩
def clG (t:Tg):List Value:=[qI t.1,qI t.2.1,qI t.2.2]
def aUe:(prog.info? 121).map (λi=>(i.zero,i.size,i.bytes))=some (some$ .agg$ qT 0 0 0,3,24):=Je
def cP {α:Type}(t sz)(f:α->List Value)(w:qw)(base)(b:base<=w.heap.size):OG t sz f (w.alloc$ .cells #[] t) base (qS (qP w.heap.size) 0 0) []:=
 ⟨Jb,.inr ⟨w.heap.size,0,#[],rfl,b,heap_alloc_new w _,aQ,Jf,Jb,Jb⟩⟩
def aAr {a W W':qw}(h:qY a W)(b:W.grownBy W' row)(f:∀k,row=some k->a.heap.size<=k):qY a W':=
 aF h ⟨b.os,b.tape,b.output,b.size,λj hj(hs:¬row=some j)=>b.block j hj λe=>hs e.symm⟩ f h.size
def dZ {W f:qw}{k:Nat}{t:TypeId}(h:Blk W k cs t)(b:W.grownBy f row)(g:some k≠row):Blk f k cs t:=
 aC (S:=λj=>row=some j) ⟨b.os,b.tape,b.output,b.size,λj l hs=>b.block j l λe=>hs e.symm⟩ h (λe=>g e.symm)
def tgN (ps:List PMod)(P:PMod)(m:Nat):List Tg:=(List.range m).map λi=>(kD ps$ P.ss.getD i zS).getD zT
def jJ (ps P m):(tgN ps P m).length=m:=by simp[tgN]
def aFv (ps P m){t:Tg}(h:kD ps (P.ss.getD m zS)=some t):tgN ps P (m+1)=tgN ps P m++[t]:=by
 simp only[tgN,List.range_succ,List.map_append,List.map_cons,List.map_nil,h,Option.getD_some]
def aRh (ps P):tgN ps P P.ss.length=tgs ps P:=rfl
def cJ (h:fY P=0):P.es.length<=16/\P.ss.length<=16/\P.tz.length<=200/\P.bl.length<=4/\P.dz.length<=512/\0<=P.bss/\P.bss<=512/\∀k,k<P.bl.length->(P.bl.getD k []).length<=64:=by
 have V:=jZ (by simp[nM]) h;refine⟨V.e,V.i,V.t,V.b,V.d,V.s.1,V.s.2,λk b=>?_⟩;have:=(V.bw k (by simp[nM];exact b)).1;simpa[nM,xB,b]using this
def MSD.es {w:qw}(h:MSD w a n cap ms)(f:iQ (aI ms)):∀i,i<n->ES w (ms.getD i aM).ea (ms.getD i aM).en (ms.getD i aM).ec (ms.getD i aM).es/\(ms.getD i aM).en<=1048576:=λi hi=>by
 have:=h.s.1;have e:=(h.d i hi).e;refine⟨e,?_⟩;have b:=(cJ (f i (by rw[cF];omega))).1;rw[cZ]at b;have:(ms.getD i aM).pm.es.length=(ms.getD i aM).en:=e.1;omega
def MSD.resS {w:qw}(h:MSD w a n cap ms)(b:iQ (aI ms))(hn:n<=4)(s)(hs:s.size<=1048576):qC 164 #[qS a n cap,.string s] w (qB w$ tgV$ kD (aI ms) s):=by
 have:=aDx a n cap ms s w h.s J hs$ h.es b;rw[aOq h.s.1 λi hi=>(h.d i hi).e.1]at this;exact this
def MSD.resI {w:qw}(h:MSD w a n cap ms)(b:iQ (aI ms))(hn:n<=4)(s)(hs:s.size<=1048576):qC 258 #[qS a n cap,.string s] w (qB w$ tgV$ kD (aI ms) s):=by
 have:=aEx a n cap ms s w h.s J hs$ h.es b;rw[aOq h.s.1 λi hi=>(h.d i hi).e.1]at this;exact this
def oT (a n a0 ms)(M:Md)(w)(h:MSD w a n a0 ms)(hv:iQ (aI ms))(hn:n<=4)(hM:M.md w)(a3:fY M.pm=0):
 qC 110 #[qS a n a0,.agg$ qM M.nm M.ta M.tn M.tc M.ba M.bn M.bc M.da M.dn M.dc M.bss M.ra M.rn M.rc M.ia M.im M.ic M.ea M.en M.ec] w λe w'=>qY w w'/\((¬aAy (aI ms) M.pm/\∃v,e=.returned (.tuple #[v,.bool false]))\/(aAy (aI ms) M.pm/\∃a c,e=.returned (.tuple #[.slice a (tgs (aI ms) M.pm).length c,.bool true])/\OG 121 3 clG w' w.heap.size (.slice a (tgs (aI ms) M.pm).length c) (tgs (aI ms) M.pm))):=by
 let⟨iG,hi,ag,ah,ai⟩:=info_parts aUe;have hA:qY w (w.alloc$ .cells (qM M.nm M.ta M.tn M.tc M.ba M.bn M.bc M.da M.dn M.dc M.bss M.ra M.rn M.rc M.ia M.im M.ic M.ea M.en M.ec) 128):=bal;have k0:=Blk.new w (qM M.nm M.ta M.tn M.tc M.ba M.bn M.bc M.da M.dn M.dc M.bss M.ra M.rn M.rc M.ia M.im M.ic M.ea M.en M.ec) 128;have aj:M.im<=16:=by have h1:=(cJ a3).2.1;have h2:M.pm.ss.length=M.im:=hM.i.1;omega
 have a1:M.pm.ss.length=M.im:=hM.i.1;have HS:=zh λ(W:qw)(hb:qY w W)(s:ByteArray)(hs:s.size<=1048576)=>(h.bw hb).resS hv hn s hs;have HI:=zh hM.i;have O0:=cP 121 3 clG (w.alloc$ .cells (qM M.nm M.ta M.tn M.tc M.ba M.bn M.bc M.da M.dn M.dc M.bss M.ra M.rn M.rc M.ia M.im M.ic M.ea M.en M.ec) 128) w.heap.size hA.size;have a2:=hA.trans$ ((Below.refl _$ w.alloc$ .cells (qM M.nm M.ta M.tn M.tc M.ba M.bn M.bc M.da M.dn M.dc M.bss M.ra M.rn M.rc M.ia M.im M.ic M.ea M.en M.ec) 128).alloc aQ$ .cells #[] 121).mono hA.size;have X:=k0.alloc$ .cells #[] 121;simp only[xF]at O0;have HP:=zh$ xA O0$ xA a2 X;clear O0 hA a2 k0 X h hM a3
 delta qC;go_in
 go_wp2_with fail
 go_loopw [6,7] (λx i wr=>∃m:Nat,m<=M.im/\i=qI m/\(∀j,j<m->(kD (aI ms)$ M.pm.ss.getD j zS).isSome=true)/\OG 121 3 clG wr w.heap.size x (tgN (aI ms) M.pm m)/\qY w wr/\Blk wr w.heap.size (qM M.nm M.ta M.tn M.tc M.ba M.bn M.bc M.da M.dn M.dc M.bss M.ra M.rn M.rc M.ia M.im M.ic M.ea M.en M.ec) 128) (λ_ i _=>M.im-(intOf i).toNat)
 .exact⟨0,xC _,rfl,λj hj=>absurd hj J,HP.1,HP.2.1,HP.2.2⟩
 .clear HP;obtain⟨m,hm,rfl,hs,O,B,k⟩:=hrel;have q6:=k.e6;obtain⟨a',c',rfl⟩:=aZ O;rw[jJ]at *;by_cases H:m<M.im
  .have a9:(m:Int)<(M.im:Int):=J
   let⟨_,_,a8,a5,_⟩:=HI.o;let⟨b,off,a6,hc⟩:=a5 J;have c0:=((B.cell$ xD w _$ hc m H).trans$ hc m H);have ac:(M.ss.getD m zS).size<=1048576:=a8 _ (by have:=HI.o.1;simp[xB,show m<M.ss.length from J]);have HR:=zh$ HS wr B (M.ss.getD m zS) ac;rw[a6]at q6;clear a6;have HQ:=zh$ xA O$ xA B k;have a7:=zh hs;have E:=zh λt(h:kD (aI ms) (M.ss.getD m zS)=some t)=>aFv (ps:=aI ms) (P:=M.pm) m h;have l:=zh (λ(h:kD (aI ms) (M.ss.getD m zS)=none)=>(show ¬aAy (aI ms) M.pm from λhk=>by have:=hk m (by rw[a1];exact H);rw[show M.pm.ss.getD m zS=M.ss.getD m zS from rfl,h]at this;cases this))
   have Q:=zh (λt(h:kD (aI ms) (M.ss.getD m zS)=some t)=>(show ∀j,j<m+1->(kD (aI ms)$ M.pm.ss.getD j zS).isSome=true from λj hj=>by
    by_cases e:j=m
    .subst e;rw[show M.pm.ss.getD j zS=M.ss.getD j zS from rfl,h];rfl
    .exact a7 j J))
   generalize M.ss.getD m zS=ad at *;clear O B k hs hc a8 a5 HI a7;go_wp2_with fail
   apply HR.mono;rintro e y ⟨rfl,g⟩;let⟨O,B,k⟩:=HQ.o;have V:=yT B g;cases ho:kD (aI ms) ad with
   | none=>
     have C:=zh$ xA (V.trans$ ((Below.refl _ y).alloc aQ$ .cells (qT 0 0 0) 121).mono V.size)$ l ho;clear O B k g V HQ HR E l Q q6 c0;unfold tgV;go_wp2
     go_ret2
     exact⟨C.1,.inl ⟨C.2,_,rfl⟩⟩
   | some t=>
     obtain⟨d,G,S⟩:=t;have p:qY y (y.alloc$ .cells (qT d G S) 121):=bal;have aa:(y.alloc$ .cells (qT d G S) 121).heap.size=y.heap.size+1:=Jb
     have X:=Blk.new y (qT d G S) 121;have D:=(O.bw g).bw p;have U:=yT V p;have f:=(k.bw g).bw p;have ab:=zh$ E _ ho;have ae:=zh$ Q _ ho;let⟨x0,x1,x2,_⟩:=X.three;clear O B k g V HQ HR E l Q q6 c0 p;generalize I:y.alloc (.cells (qT d G S) 121)=W1 at *;have Y:=zh (show(W1.alloc$ .cells (qT d G S) 121).ownsRow w.heap.size 121 3 (qS a' m c') m ((tgN (aI ms) M.pm m).flatMap clG)by have:=D.bw$ brf.alloc aQ$ .cells (qT d G S) 121;unfold OG at this;rw[jJ]at this;exact this);have HX:=zh$ xA D$ xA U f;have ak:=U.size;rw[<-I]at x0 x1 x2;have af:=zh I;clear D U f X I;unfold tgV;go_wp2_with (at_builtin;rw[af.o];refine wpList_append_own _ rfl _ _ 164 rfl w.heap.size 121 iG (.agg$ qT 0 0 0) 3 24 underlying164 hi ag ah ai rfl Ja (qS a' m c') m ((tgN (aI ms) M.pm m).flatMap clG) rfl Y.o (qR (y.heap.size+1) 0) 1 1 (clG (d,G,S)) rfl rfl (by rw[<-aa];exact cA W1 _ _ (clG (d,G,S)) rfl) (by intro u hu;simp[clG]at hu;rcases hu with rfl|rfl|rfl<;>rfl) Jf J Jc ?_;intro v' w4 A K _)
     let⟨D,U,f⟩:=HX.o;have N:qY W1 (W1.alloc$ .cells (qT d G S) 121):=bal;have q:∀j,(qS a' m c').ownBlock=some j->w.heap.size<=j:=λj hj=>(D.lt j hj).1
     have O4:OG 121 3 clG w4 (qs w) v' (tgN (aI ms) M.pm$ m+1):=by
      unfold OG;rw[jJ,ab.o,xU,xX];exact A
     have B4:=aAr (yT U N) K q
     have k4:=dZ (f.bw N) K (λe=>by
      let⟨cs,hk⟩:=aE D e.symm
      exact absurd (aH f hk) Ja)
     have C:=zh$ xA ae$ xA O4$ xA B4 k4;clear D U f N q O4 B4 k4 A K HX Y x0 x1 x2
     go_roundw
     .exact⟨m+1,J,by go_num,C.1,C.2.1,C.2.2.1,C.2.2.2⟩
     .simp[intOf];omega
  .have a9:¬(m:Int)<(M.im:Int):=J
   have HK:Zh (aAy (aI ms) M.pm):=λj hj=>hs j J;have HX:=zh$ xA B O;have Z:=zh (show tgN (aI ms) M.pm m=tgs (aI ms) M.pm by rw[<-aRh,a1,show m=M.im from J]);have a4:=zh (show m=(tgs (aI ms) M.pm).length by rw[<-Z.o,jJ]);clear B O k hs;go_wp2
   go_ret2
   refine⟨HX.o.1,.inr ⟨HK.o,a',c',by rw[<-a4.o];rfl,?_⟩⟩;have:=HX.2;rw[Z.o]at this;rw[<-a4.o];exact this
def OG.kept' {α:Type}{t:TypeId}{sz:Nat}{f:α->List Value}{w w':qw}{xs:List α}(h:OG t sz f w base v xs)(b:w.grownBy w' row)(l:∀k,v.ownBlock=some k->row≠some k):OG t sz f w' base v xs:=
 h.kept (S:=λj=>row=some j) ⟨b.os,b.tape,b.output,b.size,λj p hs=>b.block j p λe=>hs e.symm⟩ (λk g e=>l k g e)
structure OR {α β:Type}(th:TypeId)(hs:Nat)(hc:α->List Value)(tr:TypeId)(rs:Nat)(rc:β->List Value)(sv:α->Value)(ct:α->List β)(w:qw)(base lo:Nat)(v:Value)(xs:List α):Prop where
 head:OG th hs hc w base v xs
 rows:∀x∈xs,OG tr rs rc w lo (sv x) (ct x)
 apart:xs.Pairwise fun A B=>∀k,(sv A).ownBlock=some k->(sv B).ownBlock≠some k
section
variable {α β:Type}{th:TypeId}{hs:Nat}{hc:α->List Value}{tr:TypeId}{rs:Nat}{rc:β->List Value}{sv:α->Value}{ct:α->List β}{w w':qw}{base lo:Nat}{v:Value}{xs:List α}
def OR.bw (h:OR th hs hc tr rs rc sv ct w base lo v xs)(b:qY w w'):OR th hs hc tr rs rc sv ct w' base lo v xs:=⟨h.head.bw b,λx hx=>(h.rows x hx).bw b,h.apart⟩
def OR.mono {base':Nat}(h:OR th hs hc tr rs rc sv ct w base lo v xs)(e:base'<=base)(b:lo'<=lo):OR th hs hc tr rs rc sv ct w base' lo' v xs:=⟨h.head.mono e,λx hx=>(h.rows x hx).mono b,h.apart⟩
def OR.kept (h:OR th hs hc tr rs rc sv ct w base lo v xs)(t:Turn S w w')(b:∀k,v.ownBlock=some k->¬S k)(e:∀x∈xs,∀k,(sv x).ownBlock=some k->¬S k):OR th hs hc tr rs rc sv ct w' base lo v xs:=⟨h.head.kept t b,λx hx=>(h.rows x hx).kept t$ e x hx,h.apart⟩
def OR.lt (h:OR th hs hc tr rs rc sv ct w base lo v xs):(∀k,v.ownBlock=some k->base<=k/\k<w.heap.size)/\∀x∈xs,∀k,(sv x).ownBlock=some k->lo<=k/\k<w.heap.size:=⟨h.head.lt,λx hx=>(h.rows x hx).lt⟩
def aEg:OR th hs hc tr rs rc sv ct w base lo (qS none 0 0) []:=⟨mW _ _ _ _ _,Jb,Jb⟩
def aPa (b:base<=w.heap.size):OR th hs hc tr rs rc sv ct (w.alloc$ .cells #[] th) base lo (qS (qP w.heap.size) 0 0) []:=⟨cP _ _ _ _ _ b,Jb,Jb⟩
theorem OR.push {k c:Nat}{v':Value}{x:α}(h:OR th hs hc tr rs rc sv ct w base lo (qS a k c) xs)(I:xs.length=k)(hx:OG tr rs rc w lo' (sv x) (ct x))(E:lo<=lo')(p:∀A∈xs,∀j,(sv A).ownBlock=some j->j<lo')(y:w'.ownsRow base th hs v' (k+1) (xs.flatMap hc++hc x))(C:w.grownBy w' (qS a k c).ownBlock)(g:th≠tr):OR th hs hc tr rs rc sv ct w' base lo v' (xs++[x]):=by
 have f:∀(u:Value)(D:List β)(l:Nat),OG tr rs rc w l u D->∀j,u.ownBlock=some j->(qS a k c).ownBlock≠some j:=λu D l H j q e=>by
  let⟨s,d⟩:=aE H q;let⟨c2,i⟩:=aE h.head e;exact g$ aH i d
 refine⟨?_,?_,?_⟩
 .unfold OG
  grind
 .intro B b;rcases List.mem_append.1 b with b|b
  .exact(h.rows B b).kept' C (f _ _ _$ h.rows B b)
  .simp at b;subst b;exact(hx.kept' C$ f _ _ _ hx).mono E
 .rw[List.pairwise_append];refine⟨h.apart,Jb,λB b X t j q e=>?_⟩;simp at t;subst t;have:=p B b j q;have:=(hx.lt j e).1;omega
end
abbrev PB:=Pl×qO×Nat
def svP (x:PB):Value:=qS x.2.1 x.1.banks.length x.2.2
def clP (x:PB):List Value:=[qI x.1.text,svP x,qI x.1.data,qI x.1.size]
def ctP (x:PB):List Int:=x.1.banks
abbrev OPl:=OR 170 4 clP 3 1 clI svP ctP
abbrev TB:=List Tg×qO×Nat
def svT (x:TB):Value:=qS x.2.1 x.1.length x.2.2
def aJ9 (x:TB):List Value:=[svT x]
def ctT (x:TB):List Tg:=x.1
abbrev OTg:=OR 164 1 aJ9 121 3 clG svT ctT
structure LayO (W:qw)(base:Nat)(L:Lay)(a0:qO)(c0:Nat)(xs:List PB)(a2:qO)(c2:Nat)(a5:qO)(c5:Nat)(ts:List TB):Prop where
 p:OPl W base base (qS a0 xs.length c0) xs
 ps:xs.map (fun x=>x.1)=L.places
 s:OG 3 1 clI W base (qS a2 L.slots.length c2) L.slots
 t:OTg W base base (qS a5 ts.length c5) ts
 tt:ts.map (fun x=>x.1)=L.targets
 sp:∀k,(qS a2 L.slots.length c2).ownBlock=some k->∀x∈xs,(svP x).ownBlock≠some k
def rJ (L:Lay)(a0:qO)(c0:Nat)(xs:List PB)(a2:qO)(c2:Nat)(a5:qO)(c5:Nat)(ts:List TB):Array Value:=(qL L a0 xs.length c0 a2 L.slots.length c2 a5 ts.length c5)
def aXb:(prog.info? 170).map (λi=>(i.zero,i.size,i.bytes))=some (some$ .agg #[qI 0,qS none 0 0,qI 0,qI 0],4,48):=Je
def aQa:(prog.info? 164).map (λi=>(i.zero,i.size,i.bytes))=some (some$ qS none 0 0,1,24):=Je
def aD8 {w:qw}(h:m.md w)(k)(b:k<m.bn):(m.bl.getD k zB).2.1=(m.pm.bl.getD k []).length/\m.pm.bl.length=m.bn:=by
 have f:=h.b.1;refine⟨?_,by simp[Md.pm,f]⟩;have e:m.pm.bl.getD k []=(m.bl.getD k zB).2.2.2:=jC _ _ _ zB _;rw[e];exact(h.b.2.2.2.1 k b).1.symm
def aBl (a n a0 ms s c k d w)(h:MSD w a n a0 ms):
 qC 111 #[qS a n a0,.agg$ qW s c k d] w λe w'=>e=.returned (.bool$ decide$ 0<s/\¬oX (aI ms) c)/\qY w w':=by
 have hA:qY w (w.alloc$ .cells (qW s c k d) 37):=bal;have k0:=Blk.new w (qW s c k d) 37;have hl:=h.s.1;have X:=h.s.2.1;unfold maxLen at X;have a8:=cF ms;have HH:=zh h;let⟨R,P⟩:=aO$ decide$ 0<s/\¬oX (aI ms) c;rw[<-P];have S:=zh P;clear P;have u:=zh$ xA hA k0;clear h hA k0
 delta qC;go_in
 go_wp2;go_loopw [5] (λi wr=>∃m:Nat,m<=n/\i=qI m/\(0<s->∀j,j<m->∀k,k<((aI ms).getD j zP).bl.length->((((aI ms).getD j zP).bl.getD k []).length:Int)<=c)/\qY w wr/\Blk wr w.heap.size (qW s c k d) 37) (qf n)
 .exact⟨0,xC _,rfl,λ_ j O=>absurd O J,u.1,u.2⟩
 .obtain⟨m,hm,rfl,Q,B,t⟩:=hrel;by_cases I:m<n
  .have M:(m:Int)<(n:Int):=J
   have HV:=zh Q;have x:=zh$ xA B t;clear Q B t u;go_wp2;go_loopw [6] (λi wr=>∃q:Nat,q<=(ms.getD m aM).bn/\i=qI q/\(0<s->∀k,k<q->((((aI ms).getD m zP).bl.getD k []).length:Int)<=c)/\qY w wr/\Blk wr w.heap.size (qW s c k d) 37) (λi _=>(ms.getD m aM).bn-(intOf i).toNat)
   .exact⟨0,xC _,rfl,λ_ j O=>absurd O J,x.1,x.2⟩
   .obtain⟨q,hq,rfl,W,B,t⟩:=hrel;have H:=HH.bw B;obtain⟨b,off,rfl,q0,q1,q2,_⟩:=H.s.at m I;have l:=H.d m I;have K:((aI ms).getD m zP).bl.length=(ms.getD m aM).bn:=by rw[cZ];show(List.map _ _).length=_;rw[xH];exact l.b.1
    have V:=zh W;have a6:(ms.getD m aM).bn<=9223372036854775807:=by have:=l.b.2.1;unfold maxLen at this;omega
    by_cases p:q<(ms.getD m aM).bn
    .have A:(q:Int)<((ms.getD m aM).bn:Int):=J
     let⟨_,_,a2,a3,_⟩:=l.b;let⟨b2,ad,a1,hc⟩:=a2 J;have c0:=hc q p;have f:=(aD8 l q p).1;rw[<-cZ]at f;rw[a1]at q2;have y0:=t.e0;have y1:=t.e1;have g:=zh$ xA B t;obtain⟨L,G⟩:∃L:Nat,L=(((aI ms).getD m zP).bl.getD q []).length:=⟨_,rfl⟩;rw[<-G]at f;rw[f]at c0;have a7:L<=9223372036854775807:=by have:=(a3 q p).2.1;rw[f]at this;unfold maxLen at this;omega
     have E:=zh (show(0<s->(L:Int)<=c)->0<s->∀k,k<q+1->((((aI ms).getD m zP).bl.getD k []).length:Int)<=c from λD Z k N=>by
      by_cases e:k=q
      .subst e;rw[<-G];exact D Z
      .exact V Z k J)
     have Y:Zh (0<s->c<(L:Int)->0<s/\¬oX (aI ms) c):=λD Z=>⟨D,λhs=>by have:=hs m J q J;rw[<-G]at this;omega⟩;generalize (ms.getD m aM).bl.getD q zB=bq at *;generalize (ms.getD m aM).bn=bn at *;obtain⟨a9,aa,ab,ac⟩:=bq;dsimp only at c0 f;clear W B H l K a1 hc a2 a3 G f q0 q1 t;by_cases C:0<s
     .by_cases U:c<(L:Int)
      .have y:=zh$ Y C U;go_wp2_with fail
       go_quiet (fail)
       go_wp2;go_ret;exact⟨aA (by rw[S.o,xR y.o]),lD g.o.1 nq⟩
      .have y:=zh$ E λ_=>J;go_wp2_with fail
       go_quiet (fail)
       go_wp2
       go_roundw
       .exact⟨q+1,J,by go_num,y,lD g.1 nq,g.2⟩
       .simp[qf,intOf];omega
     .have y:=zh$ E λe=>absurd e C;have a5:decide (0<s)=false:=xS C;go_wp2_with fail
      go_quiet (fail)
      go_wp2
      go_roundw
      .exact⟨q+1,J,by go_num,y,lD g.1 nq,g.2⟩
      .simp[qf,intOf];omega
    .have A:¬(q:Int)<((ms.getD m aM).bn:Int):=J
     have a4:=zh (show 0<s->∀j,j<m+1->∀k,k<((aI ms).getD j zP).bl.length->((((aI ms).getD j zP).bl.getD k []).length:Int)<=c from λD j O k N=>by
      by_cases e:j=m
      .subst e;exact V D k J
      .exact HV D j J k N)
     have g:=zh$ xA B t;generalize (ms.getD m aM).bn=bn at *;clear W B H l K q0 q1 t;go_wp2
     go_roundw
     .exact⟨m+1,J,by go_num,a4,g.1,g.2⟩
     .simp[qf,intOf];omega
  .have M:¬(m:Int)<(n:Int):=J
   have y:Zh (¬(0<s/\¬oX (aI ms) c)):=λh=>h.2 λi hi k N=>Q h.1 i J k N;have x:=zh B;clear Q B t u;go_wp2;go_ret;exact⟨aA (by rw[S.o,xS y.o]),x.o⟩
def aX {x:Int}(h:0<=x:=by omega):x<=rnd x/\rnd x<=x+31:=by unfold rnd;omega
def iL (h:fY P=0):0<=tsz P/\tsz P<=831:=by
 have:=(cJ h).2.2.1;have:=aX (x:=4*(P.tz.length:Int));unfold tsz;omega
def cT {P:PMod}(h:fY P=0):∀k,k<=P.bl.length->0<=cS P k/\cS P k<=(k:Int)*287
 | 0,_=>by simp[cS]
 | k+1,hk=>by
   have:=cT h k J;have:=(cJ h).2.2.2.2.2.2.2 k J;have:=aX (x:=4*((P.bl.getD k []).length:Int));show 0<=cS P k+rnd (4*((P.bl.getD k []).length:Int))/\cS P k+rnd (4*((P.bl.getD k []).length:Int))<=_;push_cast;omega
def iN (h:fY P=0):0<=dsz P/\dsz P<=1055:=by
 have:=cJ h;have:=aX (x:=(P.dz.length:Int)+P.bss);unfold dsz;omega
def fP {ps:List PMod}(h:iQ ps):∀i,i<=ps.length->0<=Fl ps i/\Fl ps i<=(i:Int)*1979
 | 0,_=>by simp[Fl]
 | i+1,hi=>by
   have:=fP h i J;have b:=h i J;have:=iL b;have:=cT b _ aQ;have:=(cJ b).2.2.2.1;show 0<=Fl ps i+(tsz (ps.getD i zP)+cS (ps.getD i zP) (ps.getD i zP).bl.length)/\Fl ps i+(tsz (ps.getD i zP)+cS (ps.getD i zP) (ps.getD i zP).bl.length)<=_;push_cast;omega
def cN {ps:List PMod}(h:iQ ps):∀i,i<=ps.length->0<=Ra ps i/\Ra ps i<=(i:Int)*1055
 | 0,_=>by simp[Ra]
 | i+1,hi=>by
   have:=cN h i J;have:=iN$ h i J;show 0<=Ra ps i+dsz (ps.getD i zP)/\Ra ps i+dsz (ps.getD i zP)<=_;push_cast;omega
def dJ {w:qw}{sz:Nat}{t e:TypeId}{xs:List Value}{k:Nat}(h:w.ownsRow base t sz v n xs)(f:v.ownBlock=some k)(g:Blk w k cs e)(b:t≠e):False:=by
 let⟨d,a⟩:=aE h f;exact b$ aH a g
def zL:Array Value:=qz
structure Lst (w W:qw)(s c k d:Int)(cs:Array Value):Prop where
 be:qY w W
 k0:Blk W w.heap.size (qW s c k d) 37
 k1:Blk W (w.heap.size+1) zL 65
 k5:Blk W (w.heap.size+5) cs 65
def Lst.bw {w W e:qw}(h:Lst w W s c k d cs)(b:qY W e):Lst w e s c k d cs:=⟨h.be.trans$ b.mono h.be.size,h.k0.bw b,h.k1.bw b,h.k5.bw b⟩
def Lst.set {w W:qw}(h:Lst w W s c k d cs)(i v):Lst w (W.setCell (qR (w.heap.size+5) i) v) s c k d (cs.setIfInBounds i v):=
 ⟨aF h.be (aD W (w.heap.size+5) i v) (λk b=>J) h.be.size,aC (aD W (w.heap.size+5) i v) h.k0 J,aC (aD W (w.heap.size+5) i v) h.k1 J,h.k5.set i v⟩
def Lst.other {w W:qw}(h:Lst w W s c k d cs){g:Nat}(e:w.heap.size+6<=g)(i v):Lst w (W.setCell (qR g i) v) s c k d cs:=
 ⟨aF h.be (aD W g i v) (λk b=>J) h.be.size,aC (aD W g i v) h.k0 J,aC (aD W g i v) h.k1 J,aC (aD W g i v) h.k5 J⟩
theorem Lst.grown {w W W':qw}(h:Lst w W s c k d cs)(b:W.grownBy W' row)(g:∀j,row=some j->w.heap.size+2<=j/\j≠w.heap.size+5):Lst w W' s c k d cs:=by
 have t:Turn (λj=>row=some j) W W':=⟨b.os,b.tape,b.output,b.size,λj f hs=>b.block j f λe=>hs e.symm⟩;exact⟨aF h.be t (λj f=>by grind) h.be.size,aC t h.k0 (λe=>by grind),aC t h.k1 (λe=>by grind),aC t h.k5 (λe=>by grind)⟩
def Lst.sz {w W:qw}(h:Lst w W s c k d cs):w.heap.size+6<=W.heap.size:=h.k5.lt
def Lst.drew {w W:qw}(h:Lst w W s c k d cs):Lst w W.drew s c k d cs:=⟨h.be.drew,h.k0,h.k1,h.k5⟩
structure Lrw (w W:qw)(ps:List PMod)(m:Nat)(a0:qO)(c0:Nat)(xs:List PB)(a5:qO)(c5:Nat)(ts:List TB):Prop where
 P:OPl W (w.heap.size+2) (w.heap.size+6) (qS a0 m c0) xs
 T:OTg W (w.heap.size+2) (w.heap.size+6) (qS a5 m c5) ts
 S:OG 3 1 clI W (w.heap.size+2) (qS (some (qR (w.heap.size+3) 0)) 0 0) []
 pl:xs.length=m
 tl:ts.length=m
 px:xs.map (fun x=>x.1)=(List.range m).map (plc ps)
 tx:ts.map (fun x=>x.1)=(List.range m).map fun i=>tgs ps (ps.getD i zP)
def Lg (w:qw)(j:Nat):Prop:=j=w.heap.size+5
def Lrw.kept {w W g:qw}{m:Nat}{xs:List PB}{ts:List TB}(h:Lrw w W ps m a0 c0 xs a5 c5 ts)(L:Lst w W s c k d cs)(t:Turn (Lg w) W g):Lrw w g ps m a0 c0 xs a5 c5 ts:=by
 have f:=L.k5;refine⟨h.P.kept t (λk b e=>?_) λx hx k b e=>?_,h.T.kept t (λk b e=>?_) λx hx k b e=>?_,h.S.kept t λk b e=>?_,h.pl,h.tl,h.px,h.tx⟩
 .rw[show k=w.heap.size+5 from e]at b;exact dJ h.P.head b f Ja
 .rw[show k=w.heap.size+5 from e]at b;exact dJ (h.P.rows x hx) b f Ja
 .rw[show k=w.heap.size+5 from e]at b;exact dJ h.T.head b f Ja
 .rw[show k=w.heap.size+5 from e]at b;exact dJ (h.T.rows x hx) b f Ja
 .rw[show k=w.heap.size+5 from e]at b;exact dJ h.S b f Ja
def Lrw.bw {w W e:qw}{m:Nat}{xs:List PB}{ts:List TB}(h:Lrw w W ps m a0 c0 xs a5 c5 ts)(b:qY W e):Lrw w e ps m a0 c0 xs a5 c5 ts:=⟨h.P.bw b,h.T.bw b,h.S.bw b,h.pl,h.tl,h.px,h.tx⟩
def bks (ps:List PMod)(i k:Nat):List Int:=(List.range k).map λj=>Fl ps i+tsz (ps.getD i zP)+cS (ps.getD i zP) j
def aFf (ps i k):(bks ps i k).length=k:=by simp[bks]
def aQ3 (ps i k):bks ps i (k+1)=bks ps i k++[Fl ps i+tsz (ps.getD i zP)+cS (ps.getD i zP) k]:=by simp[bks,List.range_succ]
def LkM (w:qw)(ps:List PMod)(s c k d:Int)(e:Ending)(w':qw):Prop:=qY w w'/\∃a0 c0 xs a2 c2 a5 c5 ts,e=.returned (.tuple #[.agg$ rJ (lkL ps s c k d) a0 c0 xs a2 c2 a5 c5 ts,qI$ lkc ps s c k d])/\LayO w' w.heap.size (lkL ps s c k d) a0 c0 xs a2 c2 a5 c5 ts
theorem aSu (W base):LayO W base L0 none 0 [] none 0 none 0 []:=⟨aEg,rfl,mW _ _ _ _ _,aEg,rfl,λk b=>by grind⟩
theorem aK7 {w w':qw}(b:qY w w')(e:lkc ps s c k d=V)(f:V≠0):LkM w ps s c k d (.returned$ .tuple #[.agg zL,qI V]) w':=by
 refine⟨b,none,0,[],none,0,none,0,[],?_,?_⟩
 .unfold lkL;rw[if_neg (by grind),e];rfl
 .unfold lkL;rw[if_neg (by grind)];exact aSu _ _
theorem aUa (h:fJ ps s w k d=V)(b:V≠0):lkc ps s w k d=V:=by unfold lkc;rw[if_pos (by grind),h]
theorem aT9 (h:fJ ps s w k d=0)(b:¬oJ ps):lkc ps s w k d=5:=by unfold lkc;rw[if_neg (by grind),if_pos b]
theorem aT8 (h:fJ ps s w k d=0)(f:oJ ps)(b:0<s/\¬oX ps w):lkc ps s w k d=6:=by unfold lkc;rw[if_neg (by grind),if_neg (λe=>e f),if_pos b]
theorem aT7 (h:fJ ps s w k d=0)(f:oJ ps)(b:¬(0<s/\¬oX ps w))(g:16384<(lay ps s w k).flash):lkc ps s w k d=7:=by unfold lkc;rw[if_neg (by grind),if_neg (λe=>e f),if_neg b,if_pos g]
theorem aT6 (h:fJ ps s w k d=0)(f:oJ ps)(b:¬(0<s/\¬oX ps w))(j:¬16384<(lay ps s w k).flash)(g:16384<(lay ps s w k).ram):lkc ps s w k d=8:=by unfold lkc;rw[if_neg (by grind),if_neg (λe=>e f),if_neg b,if_neg j,if_pos g]
theorem aUb (h:fJ ps s w k d=0)(f:oJ ps)(b:¬(0<s/\¬oX ps w))(j:¬16384<(lay ps s w k).flash)(g:¬16384<(lay ps s w k).ram):lkc ps s w k d=0:=by unfold lkc;rw[if_neg (by grind),if_neg (λe=>e f),if_neg b,if_neg j,if_neg g]
theorem wC (h:fJ ps s w k d=0):cfo s w k d=true/\ps.length<=4/\iQ ps:=by
 unfold fJ at h;split at h
 .grind
 grind
section
variable {α β γ:Type}{t t' u u' tr:TypeId}{sz sz' hs rs:Nat}{f:α->List Value}{f':β->List Value}{rc:γ->List Value}{sv:α->Value}{ct:α->List γ}{w W:qw}{base base' lo b g:Nat}{v v':Value}{xs:List α}{ys:List β}{cs cs':Array Value}
def Blk.kp (h:Blk w b cs u)(k:Blk w g cs' u')(T:Turn (λj=>j=g) w W)(hn:u≠u':=by decide):Blk W b cs u:=aC T h (λe=>by
 subst e
 exact hn$ aH h k)
def OG.kp (h:OG t sz f w base v xs)(k:Blk w g cs u)(T:Turn (λj=>j=g) w W)(hn:t≠u:=by decide):OG t sz f W base v xs:=h.kept T λj l e=>by
 subst e;exact dJ h l k hn
def OR.kp (h:OR t hs f tr rs rc sv ct w base lo v xs)(k:Blk w g cs u)(T:Turn (λj=>j=g) w W)(hn:t≠u:=by decide)(e:tr≠u:=by decide):OR t hs f tr rs rc sv ct W base lo v xs:=⟨h.head.kp k T hn,λx hx=>(h.rows x hx).kp k T e,h.apart⟩
def OG.gr (h:OG t sz f w base v xs)(l:w.grownBy W v'.ownBlock)(o:OG t' sz' f' w base' v' ys)(hn:t≠t':=by decide):OG t sz f W base v xs:=h.kept' l λj p e=>by
 let⟨c,k⟩:=aE o e;exact dJ h p k hn
def OR.gr (h:OR t hs f tr rs rc sv ct w base lo v xs)(e:w.grownBy W v'.ownBlock)(o:OG t' sz' f' w base' v' ys)(hn:t≠t':=by decide)(j:tr≠t':=by decide):OR t hs f tr rs rc sv ct W base lo v xs:=⟨h.head.gr e o hn,λx hx=>(h.rows x hx).gr e o j,h.apart⟩
def Blk.gr (h:Blk w b cs u)(j:w.grownBy W v'.ownBlock)(o:OG t' sz' f' w base' v' ys)(hn:u≠t':=by decide):Blk W b cs u:=dZ h j λe=>by
 let⟨c,k⟩:=aE o e.symm;exact hn$ aH h k
def OR.psh {x:α}(h:OR t hs f tr rs rc sv ct w base lo v xs)(hx:OG tr rs rc w lo' (sv x) (ct x))(y:lo<=lo')(p:∀A∈xs,∀j,(sv A).ownBlock=some j->j<lo')(q:OG t hs f W base v' (xs++[x]))(B:w.grownBy W v.ownBlock)(l:t≠tr:=by decide):OR t hs f tr rs rc sv ct W base lo v' (xs++[x]):=by
 let⟨a,c,e⟩:=aZ h.head;subst e;refine h.push rfl hx y p ?_ B l;unfold OG at q;simpa using q
end
structure AT {α:Type}(s e:TypeId)(sz:Nat)(f:α->List Value):Prop where
 t:prog.underlying s=some (.slice e)
 i:∃i z b,prog.info? e=some i/\i.zero=some z/\i.size=sz/\i.bytes=b/\z.cells.size=sz/\b<=1000
 p:0<sz
 l:∀x,(f x).length=sz
 o:∀x,∀u∈f x,u.oneCell'=true
def tI:AT 25 3 1 clI:=⟨underlying25,by
 let⟨i,h,a,b,c⟩:=info_parts rO
 exact⟨i,_,_,h,a,b,c,rfl,Ja⟩,Ja,λ_=>rfl,λx u hu=>by simp[clI]at hu;subst hu;rfl⟩
def tP:AT 62 170 4 clP:=⟨underlying62,by
 let⟨i,h,a,b,c⟩:=info_parts aXb
 exact⟨i,_,_,h,a,b,c,rfl,Ja⟩,Ja,λ_=>rfl,λx u hu=>by simp[clP]at hu;rcases hu with rfl|rfl|rfl|rfl<;>rfl⟩
def tT:AT 63 164 1 aJ9:=⟨underlying63,by
 let⟨i,h,a,b,c⟩:=info_parts aQa
 exact⟨i,_,_,h,a,b,c,rfl,Ja⟩,Ja,λ_=>rfl,λx u hu=>by simp[aJ9]at hu;subst hu;rfl⟩
def ap1 {α:Type}{s e:TypeId}{sz:Nat}{f:α->List Value}{l:Array Oper}{rest:List Oper}{o:Oper}{p:Act}{Q:Exit->Act->World->Prop}{w:qw}{c:Nat}{xs:List α}{B x:Operand}{C:Addr}
 (A:AT s e sz f) (y:α) (O:OG e sz f w base v xs) (E:base<=w.heap.size) (hn:xs.length<=100000) (hc:∀j u,(f y)[j]?=some u->w.cell? (C.add j)=some u)
 (k:∀v' w',OG e sz f w' base v' (xs++[y])->w.grownBy w' v.ownBlock->wpList prog l Q rest (p.put o.dst v') w')
 (q:o.guard=none:=by rfl) (H:o.op=.call { callee:=.builtin .append,args:=#[B,x],argTypes:=#[s,s] }:=by rfl) (hs:p.eval B=v:=by rfl) (hx:p.eval x=.slice (some C) 1 c:=by rfl):wpList prog l Q (o::rest) p w:=by
 let⟨i,z,b,a,d,g,t,G,K⟩:=A.i;refine wpList_append_own _ q B x s H base e i z sz b A.t a d g t G A.p v xs.length (xs.flatMap f) hs O C 1 c (f y) hx (by rw[A.l];omega) hc (A.o y) Jf ?_ E λv' w' D I _=>k v' w' ?_ I
 .have:(xs.length+1)*b<=100001*1000:=Nat.mul_le_mul J K;omega
 .unfold OG;simpa using D
structure Lr3 (w W:qw)(v0 v2 v5:Value)(xs:List PB)(ss:List Int)(ts:List TB):Prop where
 P:OPl W (w.heap.size+2) (w.heap.size+6) v0 xs
 S:OG 3 1 clI W (w.heap.size+2) v2 ss
 T:OTg W (w.heap.size+2) (w.heap.size+6) v5 ts
 sp:∀j,v2.ownBlock=some j->∀x∈xs,(svP x).ownBlock≠some j
structure Lin (w wo W:qw)(s c k d:Int)(cs mb:Array Value)(a b e:Int)(g:Nat)(u v:Value)(bs:List Int):Prop where
 S:Lst w W s c k d cs
 M:Blk W wo.heap.size mb 128
 T:Turn (Lg w) wo W
 p:Blk W g #[qI a,u,qI b,qI e] 170
 O:OG 3 1 clI W (wo.heap.size+1) v bs
 y:wo.heap.size+1<=g
 z:w.heap.size+6<=wo.heap.size
section
variable {w wo W W':qw}{v0 v2 v5 u v v':Value}{xs:List PB}{ss bs bs':List Int}{ts:List TB}{s c k d a b e:Int}{cs mb:Array Value}{g:Nat}
def Lr3.bw (h:Lr3 w W v0 v2 v5 xs ss ts)(j:qY W W'):Lr3 w W' v0 v2 v5 xs ss ts:=⟨h.P.bw j,h.S.bw j,h.T.bw j,h.sp⟩
def Lr3.kp {us:Array Value}{t:TypeId}(h:Lr3 w W v0 v2 v5 xs ss ts)(k:Blk W g us t)(T:Turn (λj=>j=g) W W')(l:t=65:=by rfl):Lr3 w W' v0 v2 v5 xs ss ts:=by
 subst l;exact⟨h.P.kp k T,h.S.kp k T,h.T.kp k T,h.sp⟩
def Lin.bw (h:Lin w wo W s c k d cs mb a b e g u v bs)(j:qY W W'):Lin w wo W' s c k d cs mb a b e g u v bs:=⟨h.S.bw j,h.M.bw j,h.T.trans$ aG j,h.p.bw j,h.O.bw j,h.y,h.z⟩
def Lin.s5 (h:Lin w wo W s c k d cs mb a b e g u v bs)(i x):Lin w wo (W.setCell (qR (w.heap.size+5) i) x) s c k d (cs.setIfInBounds i x) mb a b e g u v bs:=
 have t:=aD W (w.heap.size+5) i x
 ⟨h.S.set i x,h.M.kp h.S.k5 t,h.T.trans t,h.p.kp h.S.k5 t,h.O.kp h.S.k5 t,h.y,h.z⟩
def Lin.gr (h:Lin w wo W s c k d cs mb a b e g u v bs)(o:OG 3 1 clI W' (wo.heap.size+1) v' bs')(p:W.grownBy W' v.ownBlock):Lin w wo W' s c k d cs mb a b e g u v' bs':=
 have q:=λj l=>(h.O.lt j l).1;have z:=h.z
 ⟨h.S.grown p λj l=>jK$ q j l,h.M.gr p h.O,vW h.T p λj l=>jK$ q j l,h.p.gr p h.O,o,h.y,z⟩
def Lin.st (h:Lin w wo W s c k d cs mb a b e g u v bs)(x):Lin w wo (W.setCell (qR g 1) x) s c k d cs mb a b e g x v bs:=
 have t:=aD W g 1 x;have z:=h.z;have y:=h.y
 ⟨h.S.other J 1 x,aC t h.M J,aB3 h.T J 1 x,h.p.s1 x,h.O.kp h.p t,y,z⟩
abbrev mqP (M:Md)(P:PMod):Array Value:=qM M.nm M.ta P.tz.length M.tc M.ba P.bl.length M.bc M.da P.dz.length M.dc P.bss M.ra M.rn M.rc M.ia M.im M.ic M.ea M.en M.ec
def aSw (S:Lst w W s c k d cs)(M:Blk W wo.heap.size mb 128)(T:Turn (Lg w) wo W)(z:w.heap.size+6<=wo.heap.size)(p:W.heap.size=wo.heap.size+1):
 Lin w wo ((qm (qm W #[] 3) #[qI a,qS (qP W.heap.size) 0 0,qI b,qI e] 170).drew) s c k d cs mb a b e (W.heap.size+1) (qS (qP W.heap.size) 0 0) (qS (qP W.heap.size) 0 0) []/\Lin w wo ((qm (qm W #[qI a,qS (some$ qR (W.heap.size+1) 0) 0 0,qI b,qI e] 170) #[] 3).drew) s c k d cs mb a b e W.heap.size (qS (some$ qR (W.heap.size+1) 0) 0 0) (qS (some$ qR (W.heap.size+1) 0) 0 0) []:=by
 constructor
 .have⟨V,f⟩:=aO$ qm W #[] 3;have o:OG 3 1 clI V (wo.heap.size+1) (qS (qP W.heap.size) 0 0) []:=f ▸ cP 3 1 clI W (wo.heap.size+1) J;have l:qY W V:=f ▸ bal;have e1:V.heap.size=W.heap.size+1:=by rw[f];simp
  rw[<-f];have j:qY V ((qm V #[qI a,qS (qP W.heap.size) 0 0,qI b,qI e] 170).drew):=bal.drew;have q:=Blk.new V #[qI a,qS (qP W.heap.size) 0 0,qI b,qI e] 170;rw[e1]at q;have B:=yT l j;exact⟨S.bw B,M.bw B,T.trans$ aG B,q,o.bw j,J,z⟩
 .have⟨q,g⟩:=aO$ qS (some$ qR (W.heap.size+1) 0) 0 0;rw[<-g];let⟨V,f⟩:=aO$ qm W #[qI a,q,qI b,qI e] 170;have l:qY W V:=f ▸ bal;have e1:V.heap.size=W.heap.size+1:=by rw[f];simp
  have k:Blk V W.heap.size #[qI a,q,qI b,qI e] 170:=f ▸ Blk.new W #[qI a,q,qI b,qI e] 170;have o:=cP 3 1 clI V (wo.heap.size+1) J;rw[e1,show qS (qP$ W.heap.size+1) 0 0=q from g.symm]at o;rw[<-f];have j:qY V ((qm V #[] 3).drew):=bal.drew;have B:=yT l j;exact⟨S.bw B,M.bw B,T.trans$ aG B,k.bw j,o.bw brf.drew,J,z⟩
end
def aDd {a W:qw}(h:Turn S a W):Turn S a W.drew:=⟨h.os,h.tape,h.output,h.size,h.block⟩
def aXh {S:Prop}(main:S->G)(pf:S):G:=main pf
def aXg {S F:Nat->Nat->World->Prop}(main:(∀j gr W,F j gr W->S j gr W)->G)(pf:∀j gr W,F j gr W->S j gr W):G:=main pf
def aSy (w s c k d ps):
 Lst w ((((((w.alloc$ .cells (qW s c k d) 37).alloc$ .cells qz 65).alloc$ .cells #[] 170).alloc$ .cells #[] 3).alloc$ .cells #[] 164).alloc$ .cells #[qS (some$ qR (w.heap.size+2) 0) 0 0,qI 0,qS (some$ qR (w.heap.size+3) 0) 0 0,qI 0,qI 0,qS (some$ qR (w.heap.size+4) 0) 0 0] 65) s c k d #[qS (some$ qR (w.heap.size+2) 0) 0 0,qI 0,qS (some$ qR (w.heap.size+3) 0) 0 0,qI 0,qI 0,qS (some$ qR (w.heap.size+4) 0) 0 0] /\
 Lrw w ((((((w.alloc$ .cells (qW s c k d) 37).alloc$ .cells qz 65).alloc$ .cells #[] 170).alloc$ .cells #[] 3).alloc$ .cells #[] 164).alloc$ .cells #[qS (some$ qR (w.heap.size+2) 0) 0 0,qI 0,qS (some$ qR (w.heap.size+3) 0) 0 0,qI 0,qI 0,qS (some$ qR (w.heap.size+4) 0) 0 0] 65) ps 0 (some$ qR (w.heap.size+2) 0) 0 [] (some$ qR (w.heap.size+4) 0) 0 []:=by
 have Y:=Blk.new w (qW s c k d) 37;have Q:qY w (w.alloc$ .cells (qW s c k d) 37):=bal;have s0:(w.alloc$ .cells (qW s c k d) 37).heap.size=w.heap.size+1:=Jb
 generalize w.alloc (.cells (qW s c k d) 37)=x at *;have E:=Blk.new x qz 65;have O:qY x (x.alloc$ .cells qz 65):=bal;have s1:(x.alloc$ .cells qz 65).heap.size=w.heap.size+2:=by simp[s0]
 rw[s0]at E;generalize x.alloc (.cells qz 65)=j at *;have H:OPl (j.alloc$ .cells #[] 170) (w.heap.size+2) (w.heap.size+6) (qS (qP j.heap.size) 0 0) []:=aPa J;have a:qY j (j.alloc$ .cells #[] 170):=bal;have s2:(j.alloc$ .cells #[] 170).heap.size=w.heap.size+3:=by simp[s1]
 rw[s1]at H;generalize j.alloc (.cells #[] 170)=B at *;have I:=cP 3 1 clI B (w.heap.size+2) J;have X:qY B (B.alloc$ .cells #[] 3):=bal;have s3:(B.alloc$ .cells #[] 3).heap.size=w.heap.size+4:=by simp[s2]
 rw[s2]at I;generalize B.alloc (.cells #[] 3)=l at *;have M:OTg (l.alloc$ .cells #[] 164) (w.heap.size+2) (w.heap.size+6) (qS (qP l.heap.size) 0 0) []:=aPa J;have Z:qY l (l.alloc$ .cells #[] 164):=bal;have U:(l.alloc$ .cells #[] 164).heap.size=w.heap.size+5:=by simp[s3]
 rw[s3]at M;generalize l.alloc (.cells #[] 164)=D at *;have K:=Blk.new D #[qS (some$ qR (w.heap.size+2) 0) 0 0,qI 0,qS (some$ qR (w.heap.size+3) 0) 0 0,qI 0,qI 0,qS (some$ qR (w.heap.size+4) 0) 0 0] 65;have N:qY D (D.alloc$ .cells #[qS (some$ qR (w.heap.size+2) 0) 0 0,qI 0,qS (some$ qR (w.heap.size+3) 0) 0 0,qI 0,qI 0,qS (some$ qR (w.heap.size+4) 0) 0 0] 65):=bal;rw[U]at K;have p:=N;have A:=Z.trans$ p.mono J;have y:=X.trans$ A.mono J;have C:=a.trans$ y.mono J;have q:=O.trans$ C.mono J;exact⟨⟨Q.trans$ q.mono J,Y.bw q,E.bw C,K⟩,⟨H.bw y,M.bw p,I.bw A,rfl,rfl,rfl,rfl⟩⟩
def st6 (W:qw)(k:Nat)(v0 v1 v2 v3 v4 v5:Value):World:=(((((W.setCell (qR k 0) v0).setCell (qR k 1) v1).setCell (qR k 2) v2).setCell (qR k 3) v3).setCell (qR k 4) v4).setCell (qR k 5) v5
def cU (W k v0 v1 v2 v3 v4 a):Turn (λj=>j=k) W (st6 W k v0 v1 v2 v3 v4 a):=
 (((((aD W k 0 v0).trans$ aD _ k 1 v1).trans$ aD _ k 2 v2).trans$ aD _ k 3 v3).trans$ aD _ k 4 v4).trans (aD _ k 5 a)
def oE {W:qw}{k:Nat}{t:TypeId}(h:Blk W k zL t)(v0 v1 v2 v3 v4 a):Blk (st6 W k v0 v1 v2 v3 v4 a) k #[v0,v1,v2,v3,v4,a] t:=
 (((((h.set 0 v0).set 1 v1).set 2 v2).set 3 v3).set 4 v4).set 5 a
def aSz {w W:qw}(j:Blk W (w.heap.size+1) zL 65)(v0 v1 v2 v3 v4 a)(Q:Ending->World->Prop)(tmps)(p:tmps[4]?=some (.pointer$ some$ qR (w.heap.size+1) 0))(l:Q (.returned$ .agg #[v0,v1,v2,v3,v4,a]) (st6 W (w.heap.size+1) v0 v1 v2 v3 v4 a)):
 bodyPost prog f112 Q Exit.ret ⟨tmps,[]⟩ (st6 W (w.heap.size+1) v0 v1 v2 v3 v4 a):=by
 have k:=oE j v0 v1 v2 v3 v4 a;let⟨b,d,e,f,g,i⟩:=k.z6;refine bodyPost_ret_by (v:=.agg #[v0,v1,v2,v3,v4,a]) ?_ rfl l;simp[results,results112,go_sem,p,b,d,e,f,g,i]
structure MdA (ps:List PMod)(m:Nat)(M:Md)(P:PMod):Prop where
 e:P=ps.getD m zP
 p:P=M.pm
 v:fY P=0
 t:M.tn=P.tz.length
 d:M.dn=P.dz.length
 s:M.bss=P.bss
 b:M.bn=P.bl.length
 k:∀j,j<P.bl.length->(M.bl.getD j zB).2.1=(P.bl.getD j []).length
def mdA {m:Nat}{w:qw}(h:MSD w a n cap ms)(p:iQ (aI ms))(l:m<n):MdA (aI ms) m (ms.getD m aM) ((aI ms).getD m zP):=by
 have d:=h.d m l;have:=h.s.1;have e:(aI ms).getD m zP=(ms.getD m aM).pm:=cZ;have v:=p m (by rw[cF];omega);rw[e]at v;have b:(ms.getD m aM).pm.bl.length=(ms.getD m aM).bn:=by show(List.map _ _).length=_;rw[xH];exact d.b.1
 rw[e];exact⟨e.symm,rfl,v,d.t.1.symm,d.d.1.symm,rfl,b.symm,λj x=>(aD8 d j J).1⟩
theorem aHl:∀(xs:List Tg)(i:Nat),i<xs.length->(xs.flatMap clG)[i*3]?=some (qI (xs.getD i zT).1)/\(xs.flatMap clG)[i*3+1]?=some (qI (xs.getD i zT).2.1)/\(xs.flatMap clG)[i*3+2]?=some (qI (xs.getD i zT).2.2)
 | [],i,h=>by grind
 | x::xs,0,h=>by simp[clG]
 | x::xs,i+1,h=>by
   obtain⟨a,b,d⟩:=aHl xs i (by grind);rw[show(i+1)*3=i*3+1+1+1 from J];simp only[xT,clG,List.cons_append,List.nil_append,List.getElem?_cons_succ]
   grind
theorem aVg {w:qw}{c:Nat}{xs:List Tg}(h:OG 121 3 clG w base (qS a n c) xs)(m)(j:m<n):∃g,a=some (qR g 0)/\w.cell? (qR g$ m*3)=some (qI (xs.getD m zT).1)/\w.cell? (qR g$ m*3+1)=some (qI (xs.getD m zT).2.1)/\w.cell? (qR g$ m*3+2)=some (qI (xs.getD m zT).2.2):=by
 let⟨e,_,_,b⟩:=aW h;let⟨g,d,hc⟩:=b J;let⟨e0,e1,e2⟩:=aHl xs m J
 grind
def zTB:TB:=([],none,0)
theorem aO8 {w:qw}{c:Nat}{b:List TB}(h:OTg w base lo (qS a n c) b)(i)(hi:i<n):∃g,a=some (qR g 0)/\w.cell? (qR g i)=some (svT$ b.getD i zTB)/\OG 121 3 clG w lo (svT$ b.getD i zTB) (b.getD i zTB).1:=by
 let⟨f,_,_,d⟩:=aW h.head;let⟨g,e,hc⟩:=d J;refine⟨g,e,hc i _ ?_,h.rows _ (by grind)⟩;rw[show b.flatMap aJ9=b.map svT from dR _ _]
 grind
def zPB:PB:=(⟨0,[],0,0⟩,none,0)
theorem aHk:∀(xs:List PB)(i:Nat),i<xs.length->(xs.flatMap clP)[i*4]?=some (qI (xs.getD i zPB).1.text)/\(xs.flatMap clP)[i*4+1]?=some (svP$ xs.getD i zPB)/\(xs.flatMap clP)[i*4+2]?=some (qI (xs.getD i zPB).1.data)/\(xs.flatMap clP)[i*4+3]?=some (qI (xs.getD i zPB).1.size)
 | [],i,h=>by grind
 | x::xs,0,h=>by simp[clP]
 | x::xs,i+1,h=>by
   have:=aHk xs i (by grind);rw[show(i+1)*4=i*4+1+1+1+1 from J];simp only[xT,clP,List.cons_append,List.nil_append,List.getElem?_cons_succ]
   grind
theorem aPb {w:qw}{c:Nat}{xs:List PB}(h:OPl w base lo (qS a n c) xs)(i)(hi:i<n):∃g,a=some (qR g 0)/\w.cell? (qR g$ i*4)=some (qI (xs.getD i zPB).1.text)/\w.cell? (qR g$ i*4+1)=some (svP$ xs.getD i zPB)/\w.cell? (qR g$ i*4+2)=some (qI (xs.getD i zPB).1.data)/\w.cell? (qR g$ i*4+3)=some (qI (xs.getD i zPB).1.size)/\OG 3 1 clI w lo (svP$ xs.getD i zPB) (xs.getD i zPB).1.banks:=by
 let⟨e,_,_,b⟩:=aW h.head;let⟨g,d,hc⟩:=b J;let⟨e0,e1,e2,e3⟩:=aHk xs i J;exact⟨g,d,hc _ _ e0,hc _ _ e1,hc _ _ e2,hc _ _ e3,h.rows _ (by grind)⟩
structure LayR (L:Lay):Prop where
 p:∀x∈L.places,∀z∈x.banks,wfi z
 s:∀z∈L.slots,wfi z
 n:L.places.length<=1048576/\L.targets.length<=1048576/\∀x∈L.targets,x.length<=1048576
abbrev Rw3:=qO×Nat×Nat
theorem dE {j:Nat}{u v:Value}(h:cs[j]?=some u)(hn:i≠j:=by omega):(cs.setIfInBounds i v)[j]?=some u:=by grind
