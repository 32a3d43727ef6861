import Derived.Test.YtdjdcdnjjmjonaaGreatR13
import Derived.Test.YtdjdcdnjjmjonaaGreatR15
set_option linter.all false
set_option maxHeartbeats 4000000
namespace Go.Proofs.YtdjdcdnjjmjonaaGreat
open Go.RowKit
set_option maxRecDepth 100000
variable {A a a0 a2 a5:qO}{L:Lay}{P:Prop}{R rs:List Rg}{b m pc s:Int}{base c c0 c2 c5 cap g k n o:Nat}{ms:List Md}{ps:List PMod}{q:Rg}{ts:List TB}{v:Value}{xs:List PB}
theorem wO {w:qw}(h:ORg w base (qS a n cap) rs)(k)(d:(qS a n cap).ownBlock=some k):base<=k:=by
 obtain⟨u,⟨e,_⟩|⟨b,g,i,f,s,t,j,l,p,q⟩⟩:=h.1
 .rw[e]at d;cases d
 .rw[f]at d;have:some b=some k:=d
  grind
def aJc (A m a1 rs f s r x y base w)(hb:base<=w.heap.size)(h:ORg w base (qS A m a1) rs)(hf:wfi f)(hs:wfi s)(hm:m<=1000000):
 qC 121 #[qS A m a1,qI f,qI s,.bool r,.bool x,.bool y] w λe w'=>∃p l d,e=.returned (qS p l d)/\l=m+(cvL f s).length/\ORg w' base (qS p l d) (rs++rts r x y (cvL f s))/\Below base w w':=by
 let⟨i0,hi,ah,ai,aj⟩:=info_parts aLa;have HC:=zh$ aIg f s w (by unfold wfi at hf;omega) (by unfold wfi at hs;omega);have HL:=zh$ vR f s;have Y:=zh h;generalize cvL f s=C at *;clear h
 delta qC;go_in
 go_wp2_with fail
 apply HC.mono;rintro e w2 ⟨c,n,cc,rfl,t,H⟩;have S:=zh (eV t).1;have hn:n<=8192:=jL S.o HL.o;have HX:=zh$ xA t H;have ag:=zh$ fG (aG H) Y (λk hk h=>by exact h);clear t H;go_wp2_with fail
 go_loopw [0,15] (λo i wr=>∃(p:qO) (l d k:Nat),k<=n/\l=m+k/\o=qS p l d/\i=qI k/\ORg wr base (qS p l d) (rs++(rts r x y C).take k)/\ORg wr w.heap.size (qS c n cc) C/\(∀j,(qS p l d).ownBlock=some j->¬(qS c n cc).ownBlock=some j)/\Below base w wr) (λ_ i _=>n-(intOf i).toNat)
 .exact⟨A,m,a1,0,xC _,rfl,rfl,rfl,by simpa using ag.o,HX.o.1,λj h1 h2=>jL (aK1 Y.o j h1)$ wO HX.o.1 j h2,HX.o.2.mono hb⟩
 .obtain⟨p,l,d,k,hk,I,rfl,rfl,B,t,hd,O⟩:=hrel;by_cases K:k<n
  .have ak:(k:Int)<(n:Int):=J
   obtain⟨b,off,rfl⟩:=(eV t).some J;have aa:=(eV t).at k K
   have U:=t.2 (C.getD k z6) (by
    have:k<C.length:=by rw[S.o];exact K
    simp[xB,this])
   have HT:=zh (aOp r x y C k (by rw[S.o];exact K));generalize hG:C.getD k z6=G at *;obtain⟨a,g,q,g4,g5,g6⟩:=G;have HG:=zh hG;obtain⟨p0,p1,p2,p3,p4,p5⟩:=aa;let⟨W1,P⟩:=aO$ wr.alloc$ .cells #[qI a,qI g,qI q,.bool g4,.bool g5,.bool g6] 231;have K1:Blk W1 wr.heap.size #[qI a,qI g,qI q,.bool g4,.bool g5,.bool g6] 231:=by rw[P];exact Blk.new _ _ _
   have B1:qY wr W1:=by rw[P];exact bal
   have s1:W1.heap.size=wr.heap.size+1:=by rw[P];simp
   let⟨W2,a0⟩:=aO$ ((W1.setCell ⟨wr.heap.size,3,none⟩$ .bool r).setCell ⟨wr.heap.size,4,none⟩$ .bool x).setCell ⟨wr.heap.size,5,none⟩$ .bool y
   have K2:Blk W2 wr.heap.size #[qI a,qI g,qI q,.bool r,.bool x,.bool y] 231:=by
    rw[a0];exact((K1.set 3$ .bool r).set 4$ .bool x).set 5 (.bool y)
   have B2:qY wr W2:=by rw[a0];exact((B1.setCell aQ _).setCell aQ _).setCell aQ _
   have s2:W2.heap.size=wr.heap.size+1:=by rw[a0];simp[s1]
   have Z:qY wr (W2.alloc$ .cells #[qI a,qI g,qI q,.bool r,.bool x,.bool y] 231):=B2.alloc (by rw[s2];omega) _
   have a3:=zh (show(W2.alloc$ .cells #[qI a,qI g,qI q,.bool r,.bool x,.bool y] 231).ownsRow base 231 6 (qS p l d) l (fM$ rs++(rts r x y C).take k)by
    have:=(fG (aG Z) B λ_ _ h=>h).1
    rwa[(eV B).1]at this)
   have M:=zh (by have:=aPi W2 (a,g,q,r,x,y);rw[s2]at this;exact this);have N:=zh I;have V:=zh$ aSf (a,g,q,r,x,y);have a4:=zh B.2;have am:=zh$ aK1 B;have a9:=zh$ wO B;have a7:=zh$ fG (aG Z) t λ_ _ h=>h;have ad:=zh$ aK1 t;have HD:=zh hd;have ab:=zh (eV B).1;have Q:=zh (show base<=(W2.alloc$ .cells #[qI a,qI g,qI q,.bool r,.bool x,.bool y] 231).heap.size by have:=O.size;simp;omega);have a6:=zh (show(W2.alloc$ .cells #[qI a,qI g,qI q,.bool r,.bool x,.bool y] 231).heap.size=wr.heap.size+2 by simp[s2]);have ac:Zh (Below base w$ W2.alloc$ .cells #[qI a,qI g,qI q,.bool r,.bool x,.bool y] 231):=O.trans$ Z.mono$ jK O.size;have ae:=zh U;have q1:=K1.six';have u1:=K2.six';have af:=zh P;have a2:=zh a0;clear P a0 K1 K2 B1 B2 Z B t hd O U hG I;generalize X:W2.alloc (.cells #[qI a,qI g,qI q,.bool r,.bool x,.bool y] 231)=W3 at *;have a8:=zh X;clear X;go_wp2_with (first|rw[<-af.o]|rw[<-a2.o]|rw[a8.o]|(at_builtin;refine wpList_append_own_at _ rfl _ _ 118 rfl base 231 i0 (.agg #[qI 0,qI 0,qI 0,.bool false,.bool false,.bool false]) 6 32 Tryz.underlying118 hi ah ai aj rfl Ja (qS p l d) l (fM$ rs++(rts r x y C).take k) rfl a3.o (qr wr 0) 1 1 (dS (a,g,q,r,x,y)) rfl rfl M.o V.o (by have:=N.o;unfold maxLen;omega) (jK N.o) Q.o ?_;intro v' w3 u E _ D;have HP:=zh$ xA u$ xA E D;clear u E D;obtain⟨A2,a5,he⟩:=mU HP.o.1;subst he))
   have t3:=lX HP.2.1;refine⟨⟨A2,l+1,a5,k+1,J,jK N.o,rfl,by go_num,?_,?_,?_,?_⟩,by simp[intOf];omega⟩
   .rw[HT.o,<-List.append_assoc];refine aEh (W:=W3) (v:=qS p l d) a4 ae ?_;rw[ab.o];exact HP.1
   .exact fG t3 a7 (λj hj h=>HD j h hj)
   .intro j h1 h2;rcases HP.2.2 with h|h
    .exact HD j (h ▸ h1) h2
    .rw[h1]at h;injection h with h
     have:=ad j h2;have:=a6.o;omega
   .exact aF ac t3 (λj hj=>a9 j hj) Q
  .have HE:=zh$ show k=n from J;have HF:=zh$ xA B O;clear B t hd O;go_wp2;go_ret;refine⟨p,l,d,rfl,by rw[I,HE.o,S.o],?_,HF.o.2⟩;have:=HF.1
   rwa[xG (by rw[jN,HE.o,S.o];exact aQ)]at this
def aDm:=@aHo _$ .inr rfl
def pcm (ms:List Md)(m b:Int):Int:=if 0<=m/\m<(ms.length:Int) then pcn (ms.getD m.toNat aM).tn (ms.getD m.toNat aM).bn (ms.getD m.toNat aM).bl b else -1
def jQ (a n q ms m b w)(h:MS w a n q ms):
 qC 67 #[qS a n q,qI m,qI b] w (qB w$ .bool$ decide$ 0<=pcm ms m b):=by
 have k:=h.1;have:=h.2.1;have j:=zh$ Below.refl (qs w) w;by_cases s:m<0
 .have f:=zh (show decide (0<=pcm ms m b)=false by unfold pcm;rw[if_neg J];rfl);rw[f.o];clear k
  delta qC;go_in
  go_wp2;go_ret;exact⟨rfl,j⟩
 .by_cases c2:(n:Int)<=m
  .have f:=zh (show decide (0<=pcm ms m b)=false by unfold pcm;rw[if_neg J];rfl);rw[f.o];clear k
   delta qC;go_in
   go_wp2;go_ret;exact⟨rfl,j⟩
  .have f:=zh (show pcm ms m b=pcn (ms.getD m.toNat aM).tn (ms.getD m.toNat aM).bn (ms.getD m.toNat aM).bl b by unfold pcm;rw[if_pos J]);rw[f.o];clear f;obtain⟨g,off,rfl,x,A,D,E,G,H,I,K⟩:=h.at m.toNat J;have d:=h.2.2.2.1 m.toNat J;generalize ms.getD m.toNat aM=M at *;have t:=zh$ nF M.nm M.ta M.tn M.tc M.ba M.bn M.bc M.bl (qS M.da M.dn M.dc) (qS M.ra M.rn M.rc) (qS M.ia M.im M.ic) (qS M.ea M.en M.ec) M.bss b w d.t.2.1 d.b;clear k d h
   delta qC;go_in
   go_wp2_with fail
   apply t.mono;rintro e N ⟨y,B,u,C,rfl,i,_,_,l⟩;have p:=zh i;clear i;go_wp2;go_ret;exact⟨aA p,l⟩
def nG (a n q ms m b w)(h:MS w a n q ms):
 qC 191 #[qS a n q,qI m,qI b] w (qB w$ .bool$ decide$ 0<=pcm ms m b):=by
 have k:=h.1;have x:=h.2.1;unfold maxLen at x;have p:=zh$ Below.refl (qs w) w;by_cases s:m<0
 .have f:=zh (show decide (0<=pcm ms m b)=false by unfold pcm;rw[if_neg J];rfl);rw[f.o];clear k;have i:=zh$ cM m$ (n:Int)-1
  delta qC;go_in
  go_wp2_with (go_at_call 141;refine(i.o _).mono ?_;rintro e l ⟨rfl,rfl⟩;rw[xS J])
  go_ret;exact⟨rfl,p⟩
 .by_cases c2:(n:Int)<=m
  .have f:=zh (show decide (0<=pcm ms m b)=false by unfold pcm;rw[if_neg J];rfl);rw[f.o];clear k;have i:=zh$ cM m$ (n:Int)-1
   delta qC;go_in
   go_wp2_with (go_at_call 141;refine(i.o _).mono ?_;rintro e l ⟨rfl,rfl⟩;rw[xS J])
   go_ret;exact⟨rfl,p⟩
  .have f:=zh (show pcm ms m b=pcn (ms.getD m.toNat aM).tn (ms.getD m.toNat aM).bn (ms.getD m.toNat aM).bl b by unfold pcm;rw[if_pos J]);rw[f.o];clear f;obtain⟨g,off,rfl,t,A,B,I,K,N,O,P⟩:=h.at m.toNat J;have d:=h.2.2.2.1 m.toNat J;generalize ms.getD m.toNat aM=M at *;have C:=zh$ mT M.nm M.ta M.tn M.tc M.ba M.bn M.bc M.bl (qS M.da M.dn M.dc) (qS M.ra M.rn M.rc) (qS M.ia M.im M.ic) (qS M.ea M.en M.ec) M.bss b w d.t.2.1 d.b;have:0<=m:=J
   have:m<(n:Int):=J
   clear k d h;have i:=zh$ cM m$ (n:Int)-1
   delta qC;go_in
   go_wp2_with (go_at_call 141;refine(i.o _).mono ?_;rintro e l ⟨rfl,rfl⟩;rw[xR J])
   apply C.mono;rintro e Q ⟨E,G,D,H,rfl,j,_,_,u⟩;have y:=zh j;clear j;go_wp2;go_ret;exact⟨aA y,u⟩
def pcq (ps:List PMod)(m b:Int):Int:=
 if 0<=m/\m<(ps.length:Int) then (if b=-1 then ((ps.getD m.toNat zP).tz.length:Int) else if 0<=b/\b<((ps.getD m.toNat zP).bl.length:Int) then (((ps.getD m.toNat zP).bl.getD b.toNat []).length:Int) else -1) else -1
theorem fL {w:qw}(h:MSD w a n cap ms)(m b):pcm ms m b=pcq (aI ms) m b:=by
 have i:=h.s.1;unfold pcm pcq;rw[cF];by_cases c:0<=m/\m<(ms.length:Int)
 .rw[if_pos c,if_pos c,cZ];have hd:=h.d m.toNat J;generalize ms.getD m.toNat aM=M at *;have f:M.tn=M.pm.tz.length:=hd.t.1.symm;have d:M.bn=M.pm.bl.length:=by simp[Md.pm,hd.b.1]
  unfold pcn;rw[f,d];by_cases g:b=-1
  .grind
  .rw[if_neg g,if_neg g];by_cases c2:0<=b/\b<(M.pm.bl.length:Int)
   .rw[if_pos c2,if_pos c2];have e:=(hd.b.2.2.2.1 b.toNat J).1;rw[<-e];congr 1;have:b.toNat<M.bl.length:=by rw[hd.b.1,d];omega
    simp[Md.pm,xB,this]
   .grind
 .grind
def eE (L:Lay)(p:Pl)(b s:Int):Int:=if b=-1 then p.text else if s=-1 then p.banks.getD b.toNat 0 else L.slots.getD s.toNat 0
def aEe (L P b s):iU L P b s=eE L P.1 b s:=rfl
abbrev sOk (L:Lay)(b s:Int):Prop:=if b=-1\/L.slots=[] then s=-1 else 0<=s/\s<(L.slots.length:Int)
theorem sOk.fit (h:sOk L b s):s=-1\/(b≠-1/\0<=s/\s<(L.slots.length:Int)):=by grind
structure Pkn (ps:List PMod)(L:Lay)(xs:List PB)(m b s:Int):Prop where
 m0:0<=m
 m1:m<(xs.length:Int)
 m2:m<(ps.length:Int)
 p:(xs.getD m.toNat zPB).1=plc ps m.toNat
 bb:b=-1\/(0<=b/\b<((xs.getD m.toNat zPB).1.banks.length:Int))
 w:0<=pcq ps m b/\pcq ps m b<=200
 d:65536<=(plc ps m.toNat).data/\(plc ps m.toNat).data<=100000/\0<=(plc ps m.toNat).size/\(plc ps m.toNat).size<=100000
 t:65536<=L.stack/\L.stack<=100000
 e:65536<=cX L/\cX L<=100000
theorem aSt (h:Lok ps L):65536<=cX L/\cX L<=100000:=by
 have K:=nB h;obtain⟨b,a⟩:=h;have e:lay ps (L.slots.length:Int) (cfW L) (cfK L)=L:=by unfold lkL at a;rw[if_pos b]at a;exact a
 let⟨hc,j,k,g,hi⟩:=cW b;unfold cfo at hc;simp at hc;have i:=cN g ps.length aQ;have d:=K.rr;unfold cX;by_cases c:L.slots=[]
 .rw[if_pos c];have:wrap64 (65536+L.ram)=65536+L.ram:=by unfold wrap64;omega
  grind
 .rw[if_neg c];have f:0<L.slots.length:=List.length_pos_iff.2 c
  have e3:L.slots.getD 0 0=slt ps (cfW L) (cfK L) 0:=by
   have:=congrArg Lay.slots e
   have e4:L.slots=(List.range (L.slots.length:Int).toNat).map (slt ps (cfW L)$ cfK L):=by
    conv=>lhs;rw[<-this]
    rfl
   grind
  rw[e3];unfold slt
  grind
theorem mR {w:qw}
 (j:LyT w L a0 c0 xs a2 c2 a5 c5 ts) (l:Lok ps L) (d:0<=pcq ps m b):Pkn ps L xs m b s:=by
 have K:=nB l
 have f:0<=m/\m<(ps.length:Int):=by
  unfold pcq at d
  grind
 have:xs.length=ps.length:=by
  have:=congrArg List.length$ j.ps.trans K.pl
  grind
 have e:(xs.getD m.toNat zPB).1=plc ps m.toNat:=by
  rw[<-K.place m.toNat J,<-j.ps]
  grind
 have i:=K.v m.toNat J;let⟨_,_,v3,v4,_,_,_,a⟩:=cJ i;have:=cN K.v m.toNat J;have:=cN K.v ps.length aQ;have:=iN i;have:=K.n.2;refine⟨f.1,by grind,f.2,e,?_,⟨d,?_⟩,?_,?_,aSt l⟩
 .rw[e];unfold pcq at d;rw[if_pos f]at d;by_cases c:b=-1
  .grind
  .rw[if_neg c]at d;right;split at d
   .rename_i c2;simpa[plc]using c2
   .grind
 .unfold pcq
  grind
 .have:(plc ps m.toNat).data=65536+Ra ps m.toNat:=rfl;have:(plc ps m.toNat).size=dsz (ps.getD m.toNat zP):=rfl
  grind
 .rw[K.st]
  grind
def plR (ps:List PMod)(L:Lay)(m b s:Int):List Rg:=(([]++rts true true false (cvL (plc ps m.toNat).data (plc ps m.toNat).size))++rts true true false (cvL L.stack$ cX L-L.stack)++rts false true false (cvL 131072 32))++rts false false true (cvL (eE L (plc ps m.toNat) b s)$ rnd$ 4*pcq ps m b)
def wN {w:qw}{base':Nat}(h:ORg w base v rs)(d:base'<=base):ORg w base' v rs:=by
 refine⟨?_,h.2⟩;obtain⟨a,g|⟨f,b,e,s,p,q,i,j,k,l⟩⟩:=h.1
 .exact⟨a,.inl g⟩
 .exact⟨a,.inr ⟨f,b,e,s,xM d p,q,i,j,k,l⟩⟩
structure PlZ (V X:qw)(v:Value)(rs:List Rg):Prop where
 b:qY V X
 o:ORg X V.heap.size v rs
def PlZ.bw {V X e:qw}(h:PlZ V X v rs)(d:qY X e):PlZ V e v rs:=⟨h.b.trans$ d.mono h.b.size,fG (aG d) h.o λ_ _ h=>h⟩
def PlZ.drew {V X:qw}(h:PlZ V X v rs):PlZ V X.drew v rs:=h.bw brf.drew
def rK {V:qw}(A m a rs f s r x y X)(h:PlZ V X (qS A m a) rs)(B:wfi f)(hs:wfi s)(u:m<=1000000):
 qC 121 #[qS A m a,qI f,qI s,.bool r,.bool x,.bool y] X λe b=>∃j i d,e=.returned (qS j i d)/\i<=m+8192/\PlZ V b (qS j i d) (rs++rts r x y (cvL f s)):=
 (aJc A m a rs f s r x y V.heap.size X h.b.size h.o B hs u).mono λe b⟨j,i,d,l,t,w,p⟩=>⟨j,i,d,l,jK$ vR f s,h.b.trans p,w⟩
theorem aGj {w:qw}
 (f:LyT w L a0 c0 xs a2 c2 a5 c5 ts) (i:Lok ps L) (j:0<=pcq ps m b) (hs:s=-1\/(b≠-1/\0<=s/\s<(L.slots.length:Int))):wfi (iU L (xs.getD m.toNat zPB) b s):=by
 have Q:=mR (s:=s) f i j;have K:=nB i;have:=Q.m2;have:=Q.m0;have d:=K.v m.toNat J;have:=K.n.2;have:=fP K.v m.toNat J;have:=iL d;unfold iU;rw[Q.p];by_cases c:b=-1
 .rw[if_pos c];have e:(plc ps m.toNat).text=Fl ps m.toNat:=rfl;rw[e];unfold wfi;omega
 .rw[if_neg c];by_cases c2:s=-1
  .rw[if_pos c2];have l:=Q.bb.resolve_left c;rw[Q.p]at l;have:(plc ps m.toNat).banks.length=(ps.getD m.toNat zP).bl.length:=by simp[plc]
   have:b.toNat<(ps.getD m.toNat zP).bl.length:=by grind
   have e:(plc ps m.toNat).banks.getD b.toNat 0=Fl ps m.toNat+tsz (ps.getD m.toNat zP)+cS (ps.getD m.toNat zP) b.toNat:=by
    simp only[plc]
    grind
   have:=cT d b.toNat J;have:=cJ d;rw[e];unfold wfi;omega
  .rw[if_neg c2];exact f.s.2.2.1 _$ aCv J
def iZ (a n ah ms L a6 c0 xs a2 c2 a5 c5 ts m b a0 s w)(h:MSD w a n ah ms)(hL:LyT w L a6 c0 xs a2 c2 a5 c5 ts)
 (hk:Lok (aI ms) L) (hp:0<=pcq (aI ms) m b) (hs:s=-1\/(b≠-1/\0<=s/\s<(L.slots.length:Int))):
 qC 73 #[qS a n ah,.agg$ qJ L a6 xs c0 a2 c2 a5 ts c5,.agg$ qT m b a0,qI s] w λe w'=>∃A k c,e=.returned (qS A k c)/\ORg w' w.heap.size (qS A k c) (plR (aI ms) L m b s)/\qY w w':=by
 have K:=mR (s:=s) hL hk hp;have hn:=h.s.1;have U:=cF ms;obtain⟨m0,m1,m2,a7,a9,hw,hd,b3,b2⟩:=K;have t:wfi (iU L (xs.getD m.toNat zPB) b s):=aGj hL hk hp hs;have ak:=zh$ fL h m b;let⟨W,hW⟩:=aO$ (w.alloc$ .cells (qJ L a6 xs c0 a2 c2 a5 ts c5) 65).alloc$ .cells (qT m b a0) 121;have hB:qY w W:=by rw[hW];exact bal.alloc Jb _
 have k0:Blk W w.heap.size (qJ L a6 xs c0 a2 c2 a5 ts c5) 65:=by rw[hW];exact(Blk.new w _ _).alloc _
 have p:Blk W (w.heap.size+1) (qT m b a0) 121:=by rw[hW];have:=Blk.new (w.alloc$ .cells (qJ L a6 xs c0 a2 c2 a5 ts c5) 65) (qT m b a0) 121;simpa using this
 have h1:=h.bw hB;have l:=hL.bw hB;obtain⟨gp,op,rfl,q0,q1,q2,q3⟩:=l.p.at m.toNat J;unfold svP at q1;have ax:=l.p.2.1;have d0:=k0.e0;have t0:=p.e0;let⟨P,hP⟩:=aO$ xs.getD m.toNat zPB;rw[<-hP]at q0 q1 q2 q3 a7 a9 t;rw[<-a7]at hd;obtain⟨⟨tx,bk,dt,sz⟩,pa,pc⟩:=P;have HP:=zh hP;let⟨q,hq⟩:=aO$ pcq (aI ms) m b;have HQ:=zh hq
 have I:=zh (show plR (aI ms) L m b s=(([]++rts true true false (cvL dt sz))++rts true true false (cvL L.stack$ cX L-L.stack)++rts false true false (cvL 131072 32))++rts false false true (cvL (iU L ((⟨tx,bk,dt,sz⟩,pa,pc):PB) b s)$ rnd$ 4*q)by
  unfold plR;rw[<-a7,hq]
  rfl)
 rw[I.o];rw[<-hq]at hw hp;clear I;let⟨V,hV,bV,kV⟩:=nwb W #[qI tx,qS pa bk.length pc,qI dt,qI sz] 170;have af:=k0.bw bV;have S:=p.bw bV;have aa:=zh$ yT hB bV;have h2:=h1.bw bV;have ao:=l.bw bV;have HW:=zh hW;have HV:=zh hV;have HM:=zh h2;have O:=zh ao;have f:=zh$ xA af$ xA S kV;clear hW hV k0 p h h1 hL l hB bV af S kV hP a7 hq
 delta qC;go_in
 go_wp2_with (first|rw[<-HW.o]|rw[<-HV.o])
 obtain⟨gm,om,rfl,v0,v1,v2,v3,v4,v5,v6,v7⟩:=HM.s.at m.toNat J;have C:=HM.s.2.2.2.1 m.toNat J
 have G:pcn (ms.getD m.toNat aM).tn (ms.getD m.toNat aM).bn (ms.getD m.toNat aM).bl b=q:=by
  rw[HQ.o,<-ak.o];unfold pcm;rw[if_pos J]
 generalize ms.getD m.toNat aM=M at *
 have D:=zh (show ∀X,qY V X->qC 118 #[.agg$ qM M.nm M.ta M.tn M.tc M.ba M.bn M.bc M.da M.dn M.dc M.bss M.ra M.rn M.rc M.ia M.im M.ic M.ea M.en M.ec,qI b] X (λe w'=>∃xa i xc,e=.returned (.tuple #[qS xa i xc,.bool true])/\(i:Int)=q/\qY V w')from λX hX=>
  (nF M.nm M.ta M.tn M.tc M.ba M.bn M.bc M.bl (qS M.da M.dn M.dc) (qS M.ra M.rn M.rc) (qS M.ia M.im M.ic) (qS M.ea M.en M.ec) M.bss b X C.t.2.1$ C.b.bw hX).mono λe w'⟨xa,i,xc,ok,H,ho,hx,_,hb⟩=>by
    have ae:ok=true:=by rw[ho,G];simp;omega
    exact⟨xa,i,xc,by rw[H,ae],by rw[hx ae,G],yT hX hb⟩)
 have x0:=f.1.ly6;have y0:=f.2.1.e0;have y1:=f.2.1.e1;have am:=HM.s.2.1;unfold maxLen at am;have az:m<(n:Int):=J
 clear q0 q1 q2 q3 d0 t0 C G U hn
 go_region_held3 (λw'=>qg w' w 0=qj m/\qg w' w 1=qj b/\qN w' gm (om+m.toNat*8)=some (.string M.nm)/\qN w' gm (om+m.toNat*8+1)=qk M.ta M.tn M.tc/\qN w' gm (om+m.toNat*8+2)=qk M.ba M.bn M.bc/\qN w' gm (om+m.toNat*8+3)=qk M.da M.dn M.dc/\qN w' gm (om+m.toNat*8+4)=qj M.bss/\qN w' gm (om+m.toNat*8+5)=qk M.ra M.rn M.rc/\qN w' gm (om+m.toNat*8+6)=qk M.ia M.im M.ic/\qN w' gm (om+m.toNat*8+7)=qk M.ea M.en M.ec) (go_keep)
  (first
    | (go_at_call 118;first
        | with_reducible refine(D.o _ brf).mono ?_
        | with_reducible refine(D.o _ brf.drew).mono ?_
       rintro e w1 ⟨xa,i,xc,rfl,ad,d⟩;have B:=zh d;have Y:=zh ad;have C1:=(f.2.1.bw d).cell 0;have C2:=(f.2.1.bw d).cell 1;have u0:=aB d v0;have u1:=aB d v1;have u2:=aB d v2;have u3:=aB d v3;have u4:=aB d v4;have u5:=aB d v5;have u6:=aB d v6;have u7:=aB d v7
       clear d ad))
 have j:=zh (show ∀X v rs,PlZ V X v rs->qn X W 2=qj dt/\qn X W 3=qj sz/\(qn X w 0=qk (qe gp op) xs.length c0/\qn X w 1=qj L.stack/\qn X w 2=qk a2 L.slots.length c2/\qn X w 3=qj L.flash/\qn X w 4=qj L.ram/\qn X w 5=qk a5 ts.length c5)/\qg X w 0=qj m/\qg X w 1=qj b/\qg X w 2=qj a0 from λX v rs g=>
  ⟨(f.2.2.bw g.b).cell 2,(f.2.2.bw g.b).cell 3,(f.1.bw g.b).ly6,(f.2.1.bw g.b).cell 0,(f.2.1.bw g.b).cell 1,(f.2.1.bw g.b).cell 2⟩)
 have Z:Zh (∀X v rs,PlZ V X v rs->qC 122 #[.agg$ qL L (qe gp op) xs.length c0 a2 L.slots.length c2 a5 ts.length c5] X (λe w'=>e=.returned (qI$ cX L)/\PlZ V w' v rs)):=λX v rs g=>(yZ L (qe gp op) c0 xs a2 c2 a5 c5 ts X$ O.bw g.b).mono λe w' H=>⟨H.1,g.bw H.2⟩;have aq:Zh (∀X v rs,PlZ V X v rs->qC 123 #[.agg$ qL L (qe gp op) xs.length c0 a2 L.slots.length c2 a5 ts.length c5,.agg$ qT m b a0,qI s] X (λe w'=>e=.returned (qI$ iU L ((⟨tx,bk,dt,sz⟩,pa,pc):PB) b s)/\PlZ V w' v rs)):=λX v rs g=>(lT L (qe gp op) c0 xs a2 c2 a5 c5 ts m b a0 s X (O.o.bw g.b) m0 m1 (HP.o ▸ a9) hs).mono λe w' H=>⟨HP.o ▸ H.1,g.bw H.2⟩;generalize ac:iU L ((⟨tx,bk,dt,sz⟩,pa,pc):PB) b s=og at *;generalize hE:cX L=E at *;have ai:=zh ac;have HE:=zh hE;clear ac hE;have Z0:Zh (PlZ V (w1.alloc$ .cells #[] 231) (qS (qp w1) 0 0) []):=⟨B.alloc B.size _,wP w1 V.heap.size B.size⟩;let⟨X1,a8⟩:=aO$ w1.alloc$ .cells #[] 231;rw[<-a8]at Z0;have Q:=zh a8;clear a8 u0 u1 u2 u3 u4 u5 u6 u7 C1 C2 v0 v1 v2 v3 v4 v5 v6 v7 x0 y0 y1 D a9 hs hk;let⟨z2,z3,⟨z4,z5,z6,z7,z8,z9⟩,a1,a3,a4⟩:=j _ _ _ Z0;have N:=zh$ rK _ _ _ [] dt sz true true false X1 Z0 Jh Jh J;go_wp2_with (rw[<-Q.o])
 apply N.mono;rintro e X2 ⟨A1,p,p1,rfl,aw,g⟩;have Z1:=zh g;clear g z2 z3 z4 z5 z6 z7 z8 z9 a1 a3 a4 Z0 N Q;let⟨z2,z3,⟨z4,z5,z6,z7,z8,z9⟩,a1,a3,a4⟩:=j _ _ _ Z1;have ar:Zh (IntKind.i64.wrap (E-L.stack)=E-L.stack):=rZ;have y:Zh (∀X,PlZ V X (qS A1 p p1) ([]++rts true true false (cvL dt sz))->qC 121 #[qS A1 p p1,qI L.stack,qI$ IntKind.i64.wrap$ E-L.stack,.bool true,.bool true,.bool false] X λe w'=>∃A' m' u,e=.returned (qS A' m' u)/\m'<=p+8192/\PlZ V w' (qS A' m' u) (([]++rts true true false (cvL dt sz))++rts true true false (cvL L.stack$ E-L.stack))):=λX hX=>by rw[ar.o];exact rK A1 p p1 ([]++rts true true false (cvL dt sz)) L.stack (E-L.stack) true true false X hX Jh Jh J
 go_wp2_with fail
 go_region_held3 (λw'=>qn w' w 0=qk (qe gp op) xs.length c0/\qn w' w 1=qj L.stack/\qn w' w 2=qk a2 L.slots.length c2/\qn w' w 3=qj L.flash/\qn w' w 4=qj L.ram/\qn w' w 5=qk a5 ts.length c5) (go_keep)
  (first
    | (go_at_call 122;first
        | with_reducible refine(Z.o _ _ _ Z1.o).mono ?_
        | with_reducible refine(Z.o _ _ _ Z1.o.drew).mono ?_
       rintro e w3 ⟨rfl,ag⟩;have Z3:=zh ag;clear ag
       let⟨z2,z3,⟨z4,z5,z6,z7,z8,z9⟩,a1,a3,a4⟩:=j _ _ _ Z3)
    | (go_at_call 121;first
        | with_reducible refine(y.o _ Z3.o).mono ?_
        | with_reducible refine(y.o _ Z3.o.drew).mono ?_
       rintro e X3 ⟨A2,k2,p2,rfl,ay,g⟩;have Z2:=zh g;clear g
       let⟨z2,z3,⟨z4,z5,z6,z7,z8,z9⟩,a1,a3,a4⟩:=j _ _ _ Z2))
 clear y Z1 Z3;have ab:=zh$ rK A2 k2 p2 (([]++rts true true false (cvL dt sz))++rts true true false (cvL L.stack$ E-L.stack)) 131072 32 false true false X3 Z2 Jh Jh J;go_wp2_with fail
 apply ab.mono;rintro e X4 ⟨A3,k3,p3,rfl,b0,g⟩;have Z4:=zh g;clear g Z2 ab z2 z3 z4 z5 z6 z7 z8 z9 a1 a3 a4;let⟨z2,z3,⟨z4,z5,z6,z7,z8,z9⟩,a1,a3,a4⟩:=j _ _ _ Z4;have av:(i:Int)<=200:=by rw[Y.o];exact hw.2
 have ap:=zh λ(X:qw)=>fC (4*(i:Int)) X;go_wp2_with fail
 apply(aq _ _ _ Z4).mono;rintro e X5 ⟨rfl,g⟩;have Z5:=zh g;clear g Z4;go_wp2_with fail
 apply(ap _).mono;rintro e X6 ⟨rfl,rfl⟩;have b1:=aX (x:=4*(i:Int));have aj:=zh$ rK A3 k3 p3 ((([]++rts true true false (cvL dt sz))++rts true true false (cvL L.stack$ E-L.stack))++rts false true false (cvL 131072 32)) og (rnd$ 4*(i:Int)) false false true _ Z5 t Jh J;have an:=zh (show rnd (4*q)=rnd (4*(i:Int))by rw[Y.o]);generalize rnd (4*(i:Int))=rr at *;go_wp2_with fail
 apply aj.mono;rintro e X7 ⟨A4,k4,p4,rfl,au,g⟩;have Z7:=zh g;clear g;go_wp2;go_ret;exact⟨A4,k4,p4,rfl,by have e:=an.o;have e2:=HE.o;have e3:=ai.o;rw[e,e2,e3];exact wN Z7.o.o aa.o.size,yT aa.o Z7.o.b⟩
def vF (ps:List PMod)(L:Lay):Prop:=Lok ps L/\∀m b s:Int,0<=pcq ps m b->sOk L b s->(plR ps L m b s).length<=8
def eA (i:Int):Int:=if 32768<=i then i-65536 else i
def lE (i)(e:0<=i)(d:i<=65535):-32768<=eA i/\eA i<=32767:=by unfold eA;split<;>omega
def lU (i w)(f:0<=i)(d:i<=65535):
 qC 132 #[qI i] w λe w'=>e=.returned (qI$ eA i)/\w=w':=by
 unfold eA;by_cases h:32768<=i
 .rw[if_pos h]
  delta qC;go_in
  go_wp2;go_ret;exact⟨rfl,rfl⟩
 .rw[if_neg h]
  delta qC;go_in
  go_wp2;go_ret;exact⟨rfl,rfl⟩
def ev (op i nx:Int):Int×Int:=if op=1 then (1,0) else if op=23 then (2,(nx+4*eA i)%4294967296) else if op=24 then (3,i) else if op=25 then (4,0) else (0,0)
def aG5 (op d a i nx w)(f:0<=i)(l:i<=65535)(E:0<=nx)(n1:nx<=4294967295):
 qC 128 #[.agg$ qW op d a i,qI nx] w (qB w$ .tuple #[qI (ev op i nx).1,qI (ev op i nx).2]):=by
 by_cases b:op=1
 .subst b
  delta qC;go_in
  go_wp2
  go_ret2
  exact⟨rfl,bal⟩
 .by_cases c2:op=23
  .subst c2;have:=lE i f l;have u:=zh λw=>lU i w f l;have e:ev 23 i nx=(2,(nx+4*eA i)%4294967296):=rfl;rw[e];generalize eA i=x at *;have y:=zh λw=>dQ (nx+4*x) w J;clear e
   delta qC;go_in
   go_wp2_with (first|(go_at_call 132;refine(u.o _).mono ?_;rintro e q ⟨rfl,rfl⟩)|(go_at_call 116;refine(y.o _).mono ?_;rintro e q ⟨rfl,rfl⟩))
   go_ret2
   exact⟨rfl,bal⟩
  .by_cases g:op=24
   .subst g;have j:qY w (w.alloc$ .cells (qW 24 d a i) 186):=bal;have p:=zh j;clear j
    delta qC;go_in
    go_wp2
    go_region
    all_goals(try go_wp2)
    all_goals
     go_ret2
     exact⟨rfl,by first|exact p|exact p.drew⟩
   .by_cases k:op=25
    .subst k
     delta qC;go_in
     go_wp2
     go_ret2
     exact⟨rfl,bal⟩
    .have t:Zh (ev op i nx=(0,0)):=by show _=_;unfold ev;rw[if_neg b,if_neg c2,if_neg g,if_neg k]
     have:(op==1)=false:=by simpa using b
     have:(op==23)=false:=by simpa using c2
     have:(op==24)=false:=by simpa using g
     have:(op==25)=false:=by simpa using k
     rw[t.o];clear b c2 g k
     delta qC;go_in
     go_wp2
     go_ret2
     exact⟨rfl,bal⟩
def jmp (op d:Int):Bool:=decide$ op=20\/(op=21/\d=0)\/(op=22/\2147483648<=d)
def aG3 (op d a i x w):
 qC 131 #[.agg$ qW op d a i,qI x] w (qB w$ .bool$ jmp op x):=by
 by_cases b:op=20
 .subst b
  delta qC;go_in
  go_wp2;go_ret;exact⟨aA (by simp[jmp]),bal⟩
 .by_cases c2:op=21
  .subst c2
   delta qC;go_in
   go_wp2
   all_goals
    go_ret;refine⟨aA ?_,bal⟩;rw[xJ];simp[jmp];try omega
  .by_cases f:op=22
   .subst f
    delta qC;go_in
    go_wp2
    all_goals
     go_ret;refine⟨aA ?_,bal⟩;rw[xJ];simp[jmp]
   .have j:(op==20)=false:=by simpa using b
    have:(op==21)=false:=by simpa using c2
    have:(op==22)=false:=by simpa using f
    have e:Zh (jmp op x=false):=by show _=_;simp[jmp];omega
    clear b c2 f
    delta qC;go_in
    go_wp2;go_ret;exact⟨aA e.symm,bal⟩
def cok (pc:Int)(n:Nat)(zs:qi):Bool:=decide (0<=pc/\pc<=4294967295/\n=8)&&zs.all λz=>decide$ 0<=z/\z<=4294967295
theorem aTg {d:qi}(k)(e:k<d.length)(h:¬(0<=d.getD k 0/\d.getD k 0<=4294967295)):cok pc n d=false:=by
 unfold cok;rw[Bool.and_eq_false_iff];right;rw[List.all_eq_false];refine⟨d.getD k 0,?_,by grind⟩
 grind
theorem aQy {d:qi}(i:0<=pc)(f:pc<=4294967295)(e:d.length=8)(h:∀j,j<8->0<=d.getD j 0/\d.getD j 0<=4294967295):cok pc 8 d=true:=by
 unfold cok;rw[Bool.and_eq_true];refine⟨by grind,?_⟩;rw[List.all_eq_true];intro z a;obtain⟨j,b,rfl⟩:=List.getElem_of_mem a;have:=h j J
 grind
def aC0 {D:Nat}(I:D=142\/D=63)(pc a n A g w)(h:IS w a n A g):
 qC D #[.agg #[qI pc,qS a n A]] w (qB w$ .bool$ cok pc n g):=by
 rcases I with rfl|rfl
 all_goals
  have d:qY w (w.alloc$ .cells #[qI pc,qS a n A] 38):=bal;have H:=h.1;by_cases U:pc<0
  .have p:Zh (cok pc n g=false):=by show _=_;unfold cok;simp;omega
   rw[p.o];have f:=zh λw=>cL pc w;rw[xS J]at f
   delta qC;go_in
   go_wp2_with (go_at_call 183;refine(f.o _).mono ?_;rintro e s ⟨rfl,rfl⟩)
   go_ret;exact⟨rfl,d⟩
  .by_cases c2:4294967295<pc
   .have p:Zh (cok pc n g=false):=by show _=_;unfold cok;simp;omega
    rw[p.o];have f:=zh λw=>cL pc w;rw[xS J]at f
    delta qC;go_in
    go_wp2_with (go_at_call 183;refine(f.o _).mono ?_;rintro e s ⟨rfl,rfl⟩)
    go_ret;exact⟨rfl,d⟩
   .by_cases S:n=8
    .subst S;obtain⟨b,off,rfl⟩:=h.addr J;have K:=h.bw d;have y:=zh d;have M:(((8:Nat):Int) !=8)=false:=Jb
     have f:=zh λw=>cL pc w;rw[xR J]at f
     delta qC;go_in
     go_wp2_with (go_at_call 183;refine(f.o _).mono ?_;rintro e s ⟨rfl,rfl⟩)
     first|(go_loop [18] (λi=>∃k:Nat,k<=8/\i=qI k/\Hid (∀j,j<k->0<=g.getD j 0/\g.getD j 0<=4294967295)) (λi=>8-(intOf i).toNat);focus (exact⟨0,J,rfl,zh λj x=>J⟩))|(go_loop [3] (λi=>∃k:Nat,k<=8/\i=qI k/\Hid (∀j,j<k->0<=g.getD j 0/\g.getD j 0<=4294967295)) (λi=>8-(intOf i).toNat);focus (exact⟨0,J,rfl,zh λj x=>J⟩))
     .obtain⟨k,O,rfl,E⟩:=hrel;by_cases u:k<8
      .have G:(k:Int)<8:=J
       have hc:=K.at k u;have t:Zh (∀z,z=g.getD k 0->¬(0<=z/\z<=4294967295)->cok pc 8 g=false):=λz q P=>aTg k J (by rw[<-q];exact P)
       have B:=zh (show ∀z,z=g.getD k 0->(0<=z/\z<=4294967295)->∀j,j<k+1->0<=g.getD j 0/\g.getD j 0<=4294967295 from λz q P j x=>by
        by_cases e:j=k
        .subst e;rw[<-q];exact P
        .exact E.out j J)
       let⟨z,q⟩:=aO$ g.getD k 0;rw[<-q]at hc;have t:=zh$ t z q;have B:=zh$ B z q;clear q;by_cases Q:z<0
       .have C:=zh$ t J;have l:=zh λw=>cL z w;rw[xS J]at l;go_wp2_with (go_at_call 183;refine(l.o _).mono ?_;rintro e s ⟨rfl,rfl⟩)
        go_ret;exact⟨aA C.symm,y⟩
       .by_cases N:4294967295<z
        .have C:=zh$ t J;have l:=zh λw=>cL z w;rw[xS J]at l;go_wp2_with (go_at_call 183;refine(l.o _).mono ?_;rintro e s ⟨rfl,rfl⟩)
         go_ret;exact⟨aA C.symm,y⟩
        .have l:=zh λw=>cL z w;rw[xR J]at l;go_wp2_with (go_at_call 183;refine(l.o _).mono ?_;rintro e s ⟨rfl,rfl⟩)
         go_round
         .exact⟨k+1,J,by go_num,zh$ B J⟩
         .simp[intOf];omega
      .have e:Zh (cok pc 8 g=true):=zh$ aQy J J H λj x=>E.out j J;go_wp2;go_ret;exact⟨aA e.symm,y⟩
    .have p:Zh (cok pc n g=false):=by show _=_;unfold cok;simp;omega
     rw[p.o];have M:((n:Int) !=8)=true:=Jc
     have f:=zh λw=>cL pc w;rw[xR J]at f
     delta qC;go_in
     go_wp2_with (go_at_call 183;refine(f.o _).mono ?_;rintro e s ⟨rfl,rfl⟩)
     go_ret;exact⟨rfl,d⟩
def aJ0:=@aC0 _$ .inl rfl
def rN:=@aC0 _$ .inr rfl
def Yn (P:Prop)(w:qw)(e:Ending)(w':qw):Prop:=∃r:Bool,e=.returned (.bool r)/\(r=true ↔ P)/\qY w w'
def uK {w w':qw}(h:P)(d:qY w w'):Yn P w (.returned$ .bool true) w':=⟨true,rfl,by simp[h],d⟩
def dL {w w':qw}(h:¬P)(d:qY w w'):Yn P w (.returned$ .bool false) w':=⟨false,rfl,by simp[h],d⟩
def aV9 {Q:Prop}[Decidable Q]{w w':qw}(h:Q ↔ P)(d:qY w w'):Yn P w (.returned$ .bool$ decide Q) w':=⟨_,rfl,by simp[h],d⟩
theorem pF {w:qw}(h:MSD w a n cap ms)(d:0<=pcq (aI ms) m b):(0<=m/\m<(n:Int))/\pcn (ms.getD m.toNat aM).tn (ms.getD m.toNat aM).bn (ms.getD m.toNat aM).bl b=pcq (aI ms) m b:=by
 have:=h.s.1;rw[<-fL h]at d⊢;unfold pcm at d⊢
 grind
theorem aKy {l:Nat}(B:l=195\/l=118){w:qw}{a:qO}{n k:Nat}{ms:List Md}(h:MSD w a n k ms){m b:Int}(x:0<=pcq (aI ms) m b){M:Md}(u:ms.getD m.toNat aM=M)(X)(p:qY w X):qC l #[.agg$ qM M.nm M.ta M.tn M.tc M.ba M.bn M.bc M.da M.dn M.dc M.bss M.ra M.rn M.rc M.ia M.im M.ic M.ea M.en M.ec,qI b] X (λe g=>∃j f i,e=.returned (.tuple #[qS j f i,.bool true])/\(f:Int)=pcq (aI ms) m b/\qY w g):=by
 rcases B with rfl|rfl
 all_goals
  let⟨⟨s,t⟩,q⟩:=pF h x;have d:=h.s.2.2.2.1 m.toNat J;rw[u]at d q;refine(pE (by first|exact .inl rfl|exact .inr rfl) M.nm M.ta M.tn M.tc M.ba M.bn M.bc M.bl (qS M.da M.dn M.dc) (qS M.ra M.rn M.rc) (qS M.ia M.im M.ic) (qS M.ea M.en M.ec) M.bss b X d.t.2.1$ d.b.bw p).mono λe g⟨j,f,i,C,D,E,hx,_,y⟩=>?_;have:C=true:=by grind
  exact⟨j,f,i,by grind,by grind,yT p y⟩
def aMl:=@aKy _$ .inl rfl
def tB:=@aKy _$ .inr rfl
def aD7 (w:qw)(g o:Nat)(r x y:Bool):World:=((w.setCell (qR g$ o+3)$ .bool r).setCell (qR g$ o+4)$ .bool x).setCell (qR g$ o+5)$ .bool y
def cY (w g o b o' r x y)(h:b≠g\/o'<o+3\/o+6<=o':=by omega):(aD7 w g o r x y).cell? (qR b o')=w.cell? (qR b o'):=by
 unfold aD7;rw[dB,dB,dB]
def aR1 {w:qw}(h:At6 w g o q)(r x y):At6 (aD7 w g o r x y) g o (rgt r x y q):=by
 obtain⟨a,b,d,e,f,i⟩:=h;refine⟨?_,?_,?_,?_,?_,?_⟩
 .rw[cY _ _ _ _ _ _ _ _];exact a
 .rw[cY _ _ _ _ _ _ _ _];exact b
 .rw[cY _ _ _ _ _ _ _ _];exact d
 .unfold aD7;rw[dB,dB];exact tV e
 .unfold aD7;rw[dB];exact tV (by rw[dB];exact f)
 .unfold aD7;exact tV (by rw[dB,dB];exact i)
def aGe {w:qw}{b d:Nat}(h:At6 w b d q)(r x y)(e:b≠g\/d+6<=o\/o+6<=d):At6 (aD7 w g o r x y) b d q:=by
 unfold At6;rw[cY _ _ _ _ _ _ _ _,cY _ _ _ _ _ _ _ _,cY _ _ _ _ _ _ _ _,cY _ _ _ _ _ _ _ _,cY _ _ _ _ _ _ _ _,cY _ _ _ _ _ _ _ _];exact h
def yH (r x y:Bool)(C:List Rg)(k:Nat):List Rg:=(rts r x y C).take k++C.drop k
def xK (r x y C k)(h:k<=C.length):(yH r x y C k).length=C.length:=by
 simp[yH,jN];omega
theorem aK6 (r x y C k i)(h:k<=C.length)(hi:i<C.length):(yH r x y C k).getD i z6=if i<k then rgt r x y (C.getD i z6) else C.getD i z6:=by
 unfold yH;by_cases c:i<k
 .rw[if_pos c,xB,List.getElem?_append_left (by simp[jN];omega)];simp[rts,c,hi,xB]
 .rw[if_neg c,xB,List.getElem?_append_right (by grind)];simp only[List.length_take,jN,List.getElem?_drop]
  grind
def aOu {w:qw}{r x y:Bool}{C:List Rg}(e:k<C.length)(h:RowW w g (yH r x y C k)):RowW (aD7 w g (k*6) r x y) g (yH r x y C$ k+1):=by
 obtain⟨⟨b,hc⟩,a⟩:=h;refine⟨⟨_,((hc.set _ _).set _ _).set _ _⟩,λi hi=>?_⟩;rw[xK _ _ _ _ _ J]at hi;have d:=a i (by rw[xK _ _ _ _ _ J];exact hi);rw[aK6 _ _ _ _ _ _ J hi]at d;rw[aK6 _ _ _ _ _ _ J hi];by_cases c:i=k
 .subst c;rw[if_neg J]at d;rw[if_pos J];exact aR1 d r x y
 .by_cases c2:i<k
  .rw[if_pos c2]at d;rw[if_pos J];exact aGe d r x y J
  .rw[if_neg c2]at d;rw[if_neg J];exact aGe d r x y J
def aGb (f s r x y w)(hf:wfi f)(hs:wfi s):
 qC 268 #[.agg #[qI f,qI s,.bool r,.bool x,.bool y]] w λe w'=>∃A n cap,e=.returned (qS A n cap)/\RS w' A n cap (rts r x y$ cvL f s)/\(A=none->n=0/\cap=0)/\qY w w':=by
 obtain⟨W,a⟩:=aO$ w.alloc$ .cells #[qI f,qI s,.bool r,.bool x,.bool y] 252;have l:=zh (show qY w W by rw[a];exact bal);have X:Blk W w.heap.size #[qI f,qI s,.bool r,.bool x,.bool y] 252:=by rw[a];exact Blk.new w _ _
 have sW:W.heap.size=w.heap.size+1:=by rw[a];simp
 have d0:=X.e0;have d1:=X.e1;have HK:=zh X;have HC:=zh$ aJn f s W (by unfold wfi at hf;omega);have HL:=zh$ vR f s;generalize cvL f s=C at *;have HW:=zh a;clear a X;go_enter Tryz.func268,Tryz.ntmps268
 go_wp2_with (rw[<-HW.o])
 apply HC.o.mono;rintro e w2 ⟨c,n,cc,rfl,B,D⟩;have u:=zh (eV B).1;have hn:n<=8192:=jL u.o HL.o;have K:=zh$ xA B D;by_cases h0:n=0
 .subst h0;clear B D;go_wp2_with fail
  go_loopw [16] (λi wr=>i=qI 0/\wr=w2) (λ_ _=>0)
  .exact⟨rfl,rfl⟩
  .obtain⟨rfl,rfl⟩:=hrel;go_wp2;go_ret;have e0:C=[]:=xE u.o;refine⟨_,_,_,rfl,?_,λhc=>?_,l.o.trans$ K.o.2.mono l.o.size⟩;rotate_left
   .obtain⟨U,⟨d,_⟩|⟨Z,t,M,Q,_⟩⟩:=K.o.1.1
    .injection d with _ d h2;exact⟨rfl,h2⟩
    .injection Q with d;rw[hc]at d;cases d
   have:=eV K.o.1;rw[e0]at this⊢;exact this
 .have H:n≠0:=h0
  obtain⟨g,ha⟩:∃g,c=some ⟨g,0,none⟩:=by
   obtain⟨U,⟨d,_⟩|⟨Z,t,M,Q,_⟩⟩:=B.1
   .injection d with _ d;exact absurd d H
   .injection Q with d;exact⟨Z,d⟩
  subst ha;have HR:=zh$ aSa B H
  have E:W.heap.size<=g:=by
   obtain⟨U,⟨d,_⟩|⟨Z,t,M,Q,hg,_⟩⟩:=B.1
   .injection d with _ d;exact absurd d H
   .injection Q with d;injection d with d;injection d with d;omega
  clear B D;go_wp2_with fail
  go_loopw [16] (λi wr=>∃k:Nat,k<=n/\i=qI k/\RowW wr g (yH r x y C k)/\qY W wr) (qf n)
  .exact⟨0,xC _,rfl,by simpa[yH]using HR.o,K.o.2⟩
  .obtain⟨k,hk,rfl,I,S⟩:=hrel;by_cases N:k<n
   .have a3:(k:Int)<(n:Int):=J
    obtain⟨p0,p1,p2,p3,p4,p5⟩:=I.2 k (by rw[xK _ _ _ _ _ (by rw[u.o];omega),u.o];exact N);have j:=I.frozen;have V:=HK.o.bw S;have e2:=V.e2;have e3:=V.e3;have e4:=V.e4;have HS:=zh (aOu (by rw[u.o];exact N) I);have Y:Zh (qY W$ (aD7 wr g (k*6) r x y).drew):=(((S.setCell (p:=(qR g$ k*6+3)) E _).setCell (p:=(qR g$ k*6+4)) E _).setCell (p:=(qR g$ k*6+5)) E _).drew;clear I S V;generalize (yH r x y C k).getD k z6=G at *;obtain⟨g1,g2,g3,g4,g5,g6⟩:=G;have a4:¬g=w.heap.size:=J
    have a1:¬w.heap.size=g:=J
    have f3:=j$ k*6+3;have f4:=j$ k*6+4;have f5:=j$ k*6+5;clear j;go_wp2
    go_region_with (fail)
    all_goals
     go_wp2
     go_roundw
     .exact⟨k+1,J,by go_num,HS.o,Y.o⟩
     .simp[qf,intOf];omega
   .have b:=zh$ show k=n from J;have P:=zh$ xA I S;clear I S;go_wp2;go_ret;refine⟨_,_,_,rfl,?_,(λhc=>by cases hc),l.o.trans$ P.o.2.mono l.o.size⟩;have O:=P.o.1
    have e0:yH r x y C k=rts r x y C:=by
     have U:=jN r x y C;have:=u.o;unfold yH;rw[List.drop_eq_nil_of_le (by rw[b.o,this];exact aQ),List.append_nil,xG (by rw[U,this,b.o];exact aQ)]
    rw[e0]at O;refine⟨by rw[jN];exact u.o,Jf,?_,λ_=>⟨g,0,rfl,λi hi=>by have:=O.2 i (by rw[jN,u.o];exact hi);rw[Nat.zero_add];exact this⟩,(eV K.o.1).2.2.2.2⟩;intro q hq;simp only[rts,List.mem_map]at hq;obtain⟨p,hp,rfl⟩:=hq;exact K.o.1.2 p hp
theorem aRq {w:qw}{b off:Nat}(h:RS w (some$ qR b off) n cap rs):∀j u,(fM rs)[j]?=some u->w.cell? (((qR b off):Addr).add j)=some u:=by
 intro j u l;have:=h.1
 have d:j<(fM rs).length:=by
  grind
 rw[tL]at d;have i:j/6<rs.length:=J
 have f:j%6<6:=Nat.mod_lt _ J;have e:=tM rs (j/6) (j%6) i f;rw[show j/6*6+j%6=j from J,l]at e;let⟨a,g,k,p,s,t⟩:=h.at (j/6) J;rw[cE,show off+j=off+j/6*6+j%6 from J];rw[e];generalize rs.getD (j/6) z6=G at *;generalize j/6=q at *;have c:j%6=0\/j%6=1\/j%6=2\/j%6=3\/j%6=4\/j%6=5:=J
 rcases c with c|c|c|c|c|c<;>rw[c]
 .exact a
 .exact g
 .exact k
 .exact p
 .exact s
 .exact t
def aNi (rs):∀u∈fM rs,u.oneCell'=true:=by
 intro u hu;simp only[fM,List.mem_flatMap]at hu;obtain⟨g,_,a⟩:=hu;exact aSf g u a
def aQo (xs ys):fM (xs++ys)=fM xs++fM ys:=by simp[fM]
abbrev Spn:=Int×Int×Bool×Bool×Bool
def spR (p:Spn):List Rg:=rts p.2.2.1 p.2.2.2.1 p.2.2.2.2$ cvL p.1 p.2.1
def zSp:Spn:=(0,0,false,false,false)
def At5 (w:qw)(b o:Nat)(p:Spn):Prop:=
 w.cell? (qR b o)=some (qI p.1)/\w.cell? (qR b$ o+1)=some (qI p.2.1)/\w.cell? (qR b$ o+2)=some (.bool p.2.2.1) /\
 w.cell? (qR b$ o+3)=some (.bool p.2.2.2.1)/\w.cell? (qR b$ o+4)=some (.bool p.2.2.2.2)
theorem At5.bw {w w':qw}{b:Nat}{p:Spn}(h:At5 w b o p)(e:qY w w'):At5 w' b o p:=by
 obtain⟨a,f,g,i,j⟩:=h;have d:b<qs w:=xD w _ a;unfold At5;rw[e.cell (p:=(qR b o)) d,e.cell (p:=(qR b$ o+1)) d,e.cell (p:=(qR b$ o+2)) d,e.cell (p:=(qR b$ o+3)) d,e.cell (p:=(qR b$ o+4)) d]
 grind
def aKo (p):(spR p).length<=8192:=by unfold spR;rw[jN];exact vR _ _
def aRk (ss:List Spn):(ss.flatMap spR).length<=8192*ss.length:=by
 induction ss with
 | nil=>simp
 | cons p ss ih=>have:=aKo p;simp only[xT,xI,List.length_cons];omega
def aOa (ss:List Spn)(k)(h:k<ss.length):(ss.take$ k+1).flatMap spR=(ss.take k).flatMap spR++spR (ss.getD k zSp):=by
 rw[List.take_add_one,xU];congr 1;simp[xB,h]
def aJi (b off n a0)(ss:List Spn)(w)(hn:ss.length=n)(ag:n<=4)(hw:∀i,i<n->wfi (ss.getD i zSp).1/\wfi (ss.getD i zSp).2.1)(h:∀i,i<n->At5 w b (off+i*5) (ss.getD i zSp)):
 qC 196 #[qS (some$ qR b off) n a0] w λe w'=>∃A m d,e=.returned (qS A m d)/\m=(ss.flatMap spR).length/\ORg w' w.heap.size (qS A m d) (ss.flatMap spR)/\qY w w':=by
 let⟨i0,hi,a5,ac,ae⟩:=info_parts aLa;have HA:=zh h;have HW:=zh hw;have HN:=zh hn;clear h hw hn
 delta qC;go_in
 go_wp2;go_loopw [3,8] (λo i wr=>∃(A:qO) (m d k:Nat),k<=n/\o=qS A m d/\i=qI k/\ORg wr w.heap.size (qS A m d) ((ss.take k).flatMap spR)/\qY w wr) (λ_ i _=>n-(intOf i).toNat)
 .exact⟨none,0,0,0,xC _,rfl,rfl,vK _ _,brf⟩
 .obtain⟨A,m,d,k,hk,rfl,rfl,t,S⟩:=hrel;by_cases N:k<n
  .have af:(k:Int)<(n:Int):=J
   let⟨p0,p1,p2,p3,p4⟩:=(HA k N).bw S;have HT:=zh (aOa ss k (by rw[HN.o];exact N));have I:=HW k N;generalize ss.getD k zSp=G at *;obtain⟨f,s,r,x,y⟩:=G;let⟨V,hV⟩:=aO$ wr.alloc$ .cells #[qI f,qI s,.bool r,.bool x,.bool y] 252;have Q:Blk V wr.heap.size #[qI f,qI s,.bool r,.bool x,.bool y] 252:=by rw[hV];exact Blk.new _ _ _
   have BV:qY wr V:=by rw[hV];exact bal
   have e0:=Q.e0;have e1:=Q.e1;have e2:=Q.e2;have e3:=Q.e3;have e4:=Q.e4;have HR:=zh$ aGb f s r x y V I.1 I.2;have HO:=zh$ fG (aG BV) t λ_ _ h=>h;have a3:=zh (eV t).1;have a9:=zh (show m<=32768 by have C:=aRk$ ss.take k;rw[(eV t).1,List.length_take,HN.o]at C;omega);have ah:=zh$ aK1 t;have aa:=zh$ yT S BV;have Y:Zh (w.heap.size<=V.heap.size):=xM S.size BV.size;have HV:=zh hV;have ab:=zh λj g=>wO t j g;clear hV Q BV t S I;go_wp2_with (rw[<-HV.o])
   apply HR.mono;rintro e w3 ⟨X,q,qc,rfl,hX,D,p⟩;have a6:=zh (show q<=8192 by have C:=aKo (f,s,r,x,y);have h2:=hX.1;unfold spR at C;simp only at C;omega);have K:=zh$ fG (aG p) HO λ_ _ h=>h;have Z:=zh$ aa.trans$ p.mono Y;have W:Zh (w.heap.size<=qs w3):=xM Y p.size;have E:=zh hX;have a8:=zh D;clear hX D p;have U:=zh (show w3.ownsRow (qs w) 231 6 (qS A m d) m (fM$ (ss.take k).flatMap spR)by have:=K.o.1;rwa[a3.o]at this);have H:Zh (spR (f,s,r,x,y)=rts r x y (cvL f s)):=rfl;have a4:=zh E.2.2.1;let⟨M,hM⟩:=aO$ rts r x y$ cvL f s;rw[<-hM]at E H a4;have a1:=zh (show(fM M).length=q*6 by rw[tL,E.o.1]);have a7:=zh$ aNi M;clear hM
   match X with
   | none=>
     obtain⟨rfl,rfl⟩:=a8 rfl;go_wp2_with (at_builtin;refine wpList_append_own_none rfl _ _ 118 rfl (qs w) 231 i0 6 Tryz.underlying118 hi (qS A m d) m (fM$ (ss.take k).flatMap spR) rfl U.o rfl ?_)
     refine⟨⟨A,m,d,k+1,J,rfl,by go_num,?_,Z.o⟩,by simp[intOf];omega⟩;rw[HT.o,H.o,xE E.o.1,List.append_nil];exact K
   | some ad=>
     have O:=zh (show ∀j u,(fM M)[j]?=some u->w3.cell? (ad.add j)=some u by
      by_cases hq:q=0
      .have e:M=[]:=xE$ E.o.1 ▸ hq;rw[e];intro j u g;simp[fM]at g
      .have⟨b',ai,a⟩:=E.some hq;injection a with a
       subst a
       exact aRq E)
     go_wp2_with (at_builtin;refine wpList_append_own _ rfl _ _ 118 rfl (qs w) 231 i0 (.agg #[qI 0,qI 0,qI 0,.bool false,.bool false,.bool false]) 6 32 Tryz.underlying118 hi a5 ac ae rfl Ja (qS A m d) m (fM$ (ss.take k).flatMap spR) rfl U.o ad q qc (fM M) rfl a1.o O.o a7.o (by have:=a9.o;have:=a6.o;unfold maxLen;omega) (jL a9.o a6.o) W.o ?_;intro v' w4 l B _;have HP:=zh$ xA l B;clear l B;obtain⟨A2,a2,a⟩:=mU HP.o.1;subst a)
     refine⟨⟨A2,m+q,a2,k+1,J,rfl,by go_num,?_,aF Z.o (lX HP.o.2) (λj g=>ab.o j g) W.o⟩,by simp[intOf];omega⟩;rw[HT.o,H.o];refine⟨?_,λy P=>?_⟩
     .rw[xI,a3.o,E.o.1,aQo];exact HP.1
     .rcases List.mem_append.1 P with P|P
      .exact K.2 y P
      .exact a4 y P
  .have HE:=zh$ show k=n from J;have HF:=zh$ xA t S;clear t S;go_wp2;go_ret;have C:=HF.1;rw[xG (by rw[HN.o,HE.o];exact aQ)]at C;exact⟨A,m,d,rfl,(eV C).1.symm,C,HF.2⟩
def aKh (w:qw)(R:List Rg)(e:Ending)(w':qw):Prop:=
 ∃A k c,e=.returned (.tuple #[qS A k c,.bool$ decide$ R.length<=8])/\ORg w' w.heap.size (qS A k c) (if R.length<=8 then R else [])/\qY w w'
theorem aWr {w V X:qw}(d:qY w V)(h:k=R.length/\ORg X V.heap.size (qS A k c) R/\qY V X)(f:k<=8):aKh w R (.returned$ .tuple #[qS A k c,.bool true]) X:=by
 have e:R.length<=8:=J
 refine⟨A,k,c,by grind,by rw[if_pos e];exact wN h.2.1 d.size,yT d h.2.2⟩
theorem aWs {w V X:qw}(d:qY w V)(h:k=R.length/\ORg X V.heap.size (qS A k c) R/\qY V X)(f:¬k<=8):aKh w R (.returned$ .tuple #[qS none 0 0,.bool false]) X:=by
 have e:¬R.length<=8:=J
 refine⟨none,0,0,by grind,by rw[if_neg e];exact vK _ _,yT d h.2.2⟩
def wL (a n ap ms L a1 c0 xs a2 c2 a5 c5 ts m b a0 s w)(h:MSD w a n ap ms)(hL:LyT w L a1 c0 xs a2 c2 a5 c5 ts)
 (U:Lok (aI ms) L) (hp:0<=pcq (aI ms) m b) (hs:s=-1\/(b≠-1/\0<=s/\s<(L.slots.length:Int))):
 qC 147 #[qS a n ap,.agg$ qJ L a1 xs c0 a2 c2 a5 ts c5,.agg$ qT m b a0,qI s] w (aKh w$ plR (aI ms) L m b s):=by
 have K:=mR (s:=s) hL U hp;have hn:=h.s.1;have aq:=cF ms;obtain⟨m0,m1,m2,a3,a4,hw,hd,b1,b0⟩:=K;have D:wfi (iU L (xs.getD m.toNat zPB) b s):=aGj hL U hp hs;have ar:=zh$ fL h m b;let⟨W,hW⟩:=aO$ (w.alloc$ .cells (qJ L a1 xs c0 a2 c2 a5 ts c5) 65).alloc$ .cells (qT m b a0) 121;have hB:qY w W:=by rw[hW];exact bal.alloc Jb _
 have k0:Blk W w.heap.size (qJ L a1 xs c0 a2 c2 a5 ts c5) 65:=by rw[hW];exact(Blk.new w _ _).alloc _
 have k1:Blk W (w.heap.size+1) (qT m b a0) 121:=by rw[hW];have:=Blk.new (w.alloc$ .cells (qJ L a1 xs c0 a2 c2 a5 ts c5) 65) (qT m b a0) 121;simpa using this
 have h1:=h.bw hB;have y:=hL.bw hB;obtain⟨gp,op,rfl,q0,q1,q2,q3⟩:=y.p.at m.toNat J;unfold svP at q1;have b5:=y.p.2.1;have d0:=k0.e0;have t0:=k1.e0;let⟨P,hP⟩:=aO$ xs.getD m.toNat zPB;rw[<-hP]at q0 q1 q2 q3 a3 a4 D;rw[<-a3]at hd;obtain⟨⟨tx,bk,dt,sz⟩,pa,pc⟩:=P;dsimp only at q0 q1 q2 q3 a3 a4 hd;have HP:=zh hP;obtain⟨ba,bb,bc,bd⟩:=hd;obtain⟨be,bf⟩:=b1;obtain⟨b8,b9⟩:=b0;let⟨q,hq⟩:=aO$ pcq (aI ms) m b;have HQ:=zh hq
 have Y:=zh (show plR (aI ms) L m b s=(([]++rts true true false (cvL dt sz))++rts true true false (cvL L.stack$ cX L-L.stack)++rts false true false (cvL 131072 32))++rts false false true (cvL (iU L ((⟨tx,bk,dt,sz⟩,pa,pc):PB) b s)$ rnd$ 4*q)by
  unfold plR;rw[<-a3,hq]
  rfl)
 rw[Y.o];rw[<-hq]at hw hp;clear Y;let⟨V,hV,bV,kV⟩:=nwb W #[qI tx,qS pa bk.length pc,qI dt,qI sz] 170;have ak:=k0.bw bV;have ad:=k1.bw bV;have ay:=zh$ yT hB bV;have h2:=h1.bw bV;have aw:=y.bw bV;have HW:=zh hW;have HV:=zh hV;have HM:=zh h2;have ac:=zh aw;have f:=zh$ xA ak$ xA ad kV;clear hW hV k0 k1 h h1 hL y hB bV ak ad kV hP a3 hq
 delta qC;go_in
 go_wp2_with (first|rw[<-HW.o]|rw[<-HV.o])
 obtain⟨gm,om,rfl,v0,v1,v2,v3,v4,v5,v6,v7⟩:=HM.s.at m.toNat J;have H:=HM.s.2.2.2.1 m.toNat J
 have O:pcn (ms.getD m.toNat aM).tn (ms.getD m.toNat aM).bn (ms.getD m.toNat aM).bl b=q:=by
  rw[HQ.o,<-ar.o];unfold pcm;rw[if_pos J]
 generalize ms.getD m.toNat aM=M at *
 have N:=zh (show ∀X,qY V X->qC 195 #[.agg$ qM M.nm M.ta M.tn M.tc M.ba M.bn M.bc M.da M.dn M.dc M.bss M.ra M.rn M.rc M.ia M.im M.ic M.ea M.en M.ec,qI b] X (λe g=>∃xa l xc,e=.returned (.tuple #[qS xa l xc,.bool true])/\(l:Int)=q/\qY V g)from λX Z=>
  (mT M.nm M.ta M.tn M.tc M.ba M.bn M.bc M.bl (qS M.da M.dn M.dc) (qS M.ra M.rn M.rc) (qS M.ia M.im M.ic) (qS M.ea M.en M.ec) M.bss b X H.t.2.1$ H.b.bw Z).mono λe g⟨xa,l,xc,ok,Q,ho,hx,_,hb⟩=>by
    have aj:ok=true:=by rw[ho,O];simp;omega
    exact⟨xa,l,xc,by rw[Q,aj],by rw[hx aj,O],yT Z hb⟩)
 have x0:=f.1.ly6;have y0:=f.2.1.e0;have y1:=f.2.1.e1;have au:=HM.s.2.1;unfold maxLen at au;have b6:m<(n:Int):=J
 clear q0 q1 q2 q3 d0 t0 H O aq hn
 go_region_held3 (λg=>qg g w 0=qj m/\qg g w 1=qj b/\qN g gm (om+m.toNat*8)=some (.string M.nm)/\qN g gm (om+m.toNat*8+1)=qk M.ta M.tn M.tc/\qN g gm (om+m.toNat*8+2)=qk M.ba M.bn M.bc/\qN g gm (om+m.toNat*8+3)=qk M.da M.dn M.dc/\qN g gm (om+m.toNat*8+4)=qj M.bss/\qN g gm (om+m.toNat*8+5)=qk M.ra M.rn M.rc/\qN g gm (om+m.toNat*8+6)=qk M.ia M.im M.ic/\qN g gm (om+m.toNat*8+7)=qk M.ea M.en M.ec) (go_keep)
  (first
    | (go_at_call 195;first
        | with_reducible refine(N.o _ brf).mono ?_
        | with_reducible refine(N.o _ brf.drew).mono ?_
       rintro e w1 ⟨xa,l,xc,rfl,ai,d⟩;have p:=zh d;have ae:=zh ai;have C1:=(f.2.1.bw d).cell 0;have C2:=(f.2.1.bw d).cell 1;have u0:=aB d v0;have u1:=aB d v1;have u2:=aB d v2;have u3:=aB d v3;have u4:=aB d v4;have u5:=aB d v5;have u6:=aB d v6;have u7:=aB d v7
       clear d ai))
 have B:=zh (show ∀X,qY V X->qn X W 2=qj dt/\qn X W 3=qj sz/\(qn X w 0=qk (qe gp op) xs.length c0/\qn X w 1=qj L.stack/\qn X w 2=qk a2 L.slots.length c2/\qn X w 3=qj L.flash/\qn X w 4=qj L.ram/\qn X w 5=qk a5 ts.length c5)/\qg X w 0=qj m/\qg X w 1=qj b/\qg X w 2=qj a0 from λX hz=>
  ⟨(f.2.2.bw hz).cell 2,(f.2.2.bw hz).cell 3,(f.1.bw hz).ly6,(f.2.1.bw hz).cell 0,(f.2.1.bw hz).cell 1,(f.2.1.bw hz).cell 2⟩)
 have an:Zh (∀X,qY V X->qC 197 #[.agg$ qL L (qe gp op) xs.length c0 a2 L.slots.length c2 a5 ts.length c5] X (λe g=>e=.returned (qI$ cX L)/\qY V g)):=λX hz=>(aDm L (qe gp op) c0 xs a2 c2 a5 c5 ts X$ ac.bw hz).mono λe g Q=>⟨Q.1,yT hz Q.2⟩;have ag:Zh (∀X,qY V X->qC 198 #[.agg$ qL L (qe gp op) xs.length c0 a2 L.slots.length c2 a5 ts.length c5,.agg$ qT m b a0,qI s] X (λe g=>e=.returned (qI$ iU L ((⟨tx,bk,dt,sz⟩,pa,pc):PB) b s)/\qY V g)):=λX hz=>(lN L (qe gp op) c0 xs a2 c2 a5 c5 ts m b a0 s X (ac.o.bw hz) m0 m1 (by rw[<-HP.o];exact a4) hs).mono λe g Q=>⟨by rw[HP.o];exact Q.1,yT hz Q.2⟩;have b4:(l:Int)<=200:=by rw[ae.o];exact hw.2
 have ax:=zh λ(X:qw)=>oL xa l xc X J;have b7:=aX (x:=4*(l:Int));have ab:=zh (show rnd (4*q)=rnd (4*(l:Int))by rw[ae.o]);generalize af:iU L ((⟨tx,bk,dt,sz⟩,pa,pc):PB) b s=og at *;generalize hE:cX L=E at *;generalize rnd (4*(l:Int))=C at *;have b3:=zh af;have HE:=zh hE;have az:Zh (IntKind.i64.wrap (E-L.stack)=E-L.stack):=rZ
 have HJ:=zh (show ∀X,qY V X->qC 196 #[qS (qp X) 4 4] (X.alloc$ .cells #[qI dt,qI sz,.bool true,.bool true,.bool false,qI L.stack,qI$ IntKind.i64.wrap$ E-L.stack,.bool true,.bool true,.bool false,qI 131072,qI 32,.bool false,.bool true,.bool false,qI og,qI C,.bool false,.bool false,.bool true] 252) (λe g=>∃A k c,e=.returned (qS A k c)/\k=((([]++rts true true false (cvL dt sz))++rts true true false (cvL L.stack$ E-L.stack)++rts false true false (cvL 131072 32))++rts false false true (cvL og C)).length/\ORg g V.heap.size (qS A k c) ((([]++rts true true false (cvL dt sz))++rts true true false (cvL L.stack$ E-L.stack)++rts false true false (cvL 131072 32))++rts false false true (cvL og C))/\qY V g)from λX Z=>by
  have j:=Blk.new X #[qI dt,qI sz,.bool true,.bool true,.bool false,qI L.stack,qI$ IntKind.i64.wrap$ E-L.stack,.bool true,.bool true,.bool false,qI 131072,qI 32,.bool false,.bool true,.bool false,qI og,qI C,.bool false,.bool false,.bool true] 252;have BX:qY V (X.alloc$ .cells #[qI dt,qI sz,.bool true,.bool true,.bool false,qI L.stack,qI$ IntKind.i64.wrap$ E-L.stack,.bool true,.bool true,.bool false,qI 131072,qI 32,.bool false,.bool true,.bool false,qI og,qI C,.bool false,.bool false,.bool true] 252):=Z.alloc Z.size _;rw[az.o]at j BX⊢;refine(aJi X.heap.size 0 4 4 [(dt,sz,true,true,false),(L.stack,E-L.stack,true,true,false),(131072,32,false,true,false),(og,C,false,false,true)] _ rfl aQ ?_ ?_).mono ?_
  .intro i hi
   match i with
   | 0=>exact⟨by unfold wfi;simp;omega,by unfold wfi;simp;omega⟩
   | 1=>exact⟨by unfold wfi;simp;omega,by unfold wfi;simp;omega⟩
   | 2=>exact⟨by unfold wfi;simp,by unfold wfi;simp⟩
   | 3=>exact⟨D,by unfold wfi;simp;omega⟩
  .intro i hi
   match i with
   | 0=>exact⟨j.cell 0,j.cell 1,j.cell 2,j.cell 3,j.cell 4⟩
   | 1=>exact⟨j.cell 5,j.cell 6,j.cell 7,j.cell 8,j.cell 9⟩
   | 2=>exact⟨j.cell 10,j.cell 11,j.cell 12,j.cell 13,j.cell 14⟩
   | 3=>exact⟨j.cell 15,j.cell 16,j.cell 17,j.cell 18,j.cell 19⟩
  .rintro e g ⟨A,k,c,rfl,U,ho,hb⟩;have er:([(dt,sz,true,true,false),(L.stack,E-L.stack,true,true,false),(131072,32,false,true,false),(og,C,false,false,true)]:List Spn).flatMap spR=(([]++rts true true false (cvL dt sz))++rts true true false (cvL L.stack$ E-L.stack)++rts false true false (cvL 131072 32))++rts false false true (cvL og C):=by simp[spR]
   rw[er]at U ho
   exact⟨A,k,c,rfl,U,wN ho BX.size,yT BX hb⟩)
 clear af hE u0 u1 u2 u3 u4 u5 u6 u7 C1 C2 v0 v1 v2 v3 v4 v5 v6 v7 x0 y0 y1 N a4 hs U;let⟨z2,z3,⟨z4,z5,z6,z7,z8,z9⟩,a6,a7,a8⟩:=B _ p;go_wp2_with fail
 go_region_held3 (λg=>qn g W 2=qj dt/\qn g W 3=qj sz/\qn g w 0=qk (qe gp op) xs.length c0/\qn g w 1=qj L.stack/\qn g w 2=qk a2 L.slots.length c2/\qn g w 3=qj L.flash/\qn g w 4=qj L.ram/\qn g w 5=qk a5 ts.length c5/\qg g w 0=qj m/\qg g w 1=qj b/\qg g w 2=qj a0) (go_keep)
  (first
    | (go_at_call 197;first
        | with_reducible refine(an.o _ p.o).mono ?_
        | with_reducible refine(an.o _ p.o.drew).mono ?_
       rintro e w3 ⟨rfl,ao⟩;have u:=zh ao;clear ao
       let⟨z2,z3,⟨z4,z5,z6,z7,z8,z9⟩,a6,a7,a8⟩:=B _ u)
    | (go_at_call 198;first
        | with_reducible refine(ag.o _ u.o).mono ?_
        | with_reducible refine(ag.o _ u.o.drew).mono ?_
       rintro e w4 ⟨rfl,am⟩;have t:=zh am;clear am
       let⟨z2,z3,⟨z4,z5,z6,z7,z8,z9⟩,a6,a7,a8⟩:=B _ t)
    | (go_at_call 199;with_reducible refine(ax.o _).mono ?_;rintro e w5 ⟨rfl,rfl⟩)
    | (go_at_call 196;first
        | with_reducible refine(HJ.o _ t.o).mono ?_
        | with_reducible refine(HJ.o _ t.o.drew).mono ?_
       rintro e w6 ⟨A,k,c,rfl,ah,aa,a9⟩;have S:=zh$ xA ah$ xA aa a9;clear ah aa a9
       let⟨z2,z3,⟨z4,z5,z6,z7,z8,z9⟩,a6,a7,a8⟩:=B _ S.2.2))
 have G:=zh$ xA ay S;clear S p u t z2 z3 z4 z5 z6 z7 z8 z9 a6 a7 a8;rw[List.nil_append]at G;by_cases h8:k<=8
 .have av:(k:Int)<=8:=J
  have I:=zh$ aWr G.1 G.2 h8;rw[<-ab.o]at I;clear G;go_wp2
  go_ret2
  first
   | exact I
   | (have hx:=I.o
      simp only[List.append_assoc]at hx
      exact hx)
 .have av:¬(k:Int)<=8:=J
  have b2:(8:Int)<(k:Int):=J
  have I:=zh$ aWs G.1 G.2 h8;rw[<-ab.o]at I;clear G;go_wp2
  go_ret2
  first
   | exact I
   | (have hx:=I.o
      simp only[List.append_assoc]at hx
      exact hx)
