import Derived.Test.YtdjdcdnjjmjonaaGreatR03
import Derived.Test.YtdjdcdnjjmjonaaGreatR04
set_option linter.all false
set_option maxHeartbeats 4000000
namespace Go.Proofs.YtdjdcdnjjmjonaaGreat
open Go.RowKit
set_option maxRecDepth 100000
variable {a ba da ea ia ra ta:qO}{b base bc bn cap dc dn ec en g ic im n off rc rn tc tn:Nat}{bl:List Bk}{bss:Int}{gs:List Nat}{nm:ByteArray}{zs:List ByteArray}
def wH {H:Nat}(P:H=287\/H=243)(nm v1 v2 Y a dc U ra rn rc rz v6 v7 w)(hd:a<=maxLen)(h:IS w ra rn rc rz):
 qC H #[.agg #[.string nm,v1,v2,qS Y a dc,qI U,qS ra rn rc,v6,v7]] w (qB w$ .bool$ rlo rn rz a):=by
 rcases P with rfl|rfl
 all_goals
  let⟨W,hW,g,kb⟩:=nwb w #[.string nm,v1,v2,qS Y a dc,qI U,qS ra rn rc,v6,v7] 128;have:=kb.eight;let⟨r,S⟩:=aO$ rlo rn rz a;rw[<-S];unfold rlo at S;have x:=h.bw g;have G:=h.2.1;unfold maxLen at G hd;have I:=zh hW;clear hW;by_cases c1:16<rn
  .have l:=zh (show r=false by rw[S,xS J];rfl);clear S;have E:(16:Int)<(rn:Int):=J
   delta qC;go_in
   go_wp2_with (rw[<-I.o])
   go_ret;exact⟨aA l.symm,g⟩
  .have E:¬(16:Int)<(rn:Int):=J
   have l:=zh (show r=(List.range rn).all (rlk rz a)by rw[S,xR J];rfl);clear S
   delta qC;go_in
   go_wp2_with (rw[<-I.o])
   first|(go_loop [12] (λi=>∃k:Nat,k<=rn/\i=qI k/\Hid (∀j,j<k->rlk rz a j=true)) (λi=>rn-(intOf i).toNat);focus (exact⟨0,xC _,rfl,zh λj B=>J⟩))|(go_loop [3] (λi=>∃k:Nat,k<=rn/\i=qI k/\Hid (∀j,j<k->rlk rz a j=true)) (λi=>rn-(intOf i).toNat);focus (exact⟨0,xC _,rfl,zh λj B=>J⟩))
   .obtain⟨k,Z,rfl,K⟩:=hrel;by_cases t:k<rn
    .have N:(k:Int)<(rn:Int):=J
     obtain⟨bb,off,rfl⟩:=x.addr J;have D:=x.at k t;have q:=zh$ lL (rlk rz a) rn k t
     have M:=zh (show rlk rz a k=true->∀j,j<k+1->rlk rz a j=true from λh j B=>by
      by_cases e:j=k
      .subst e;exact h
      .exact K.out j J)
     have p:Zh (∀b:Bool,(b=true ↔ (0<=rz.getD k 0/\rz.getD k 0%4=0/\rz.getD k 0<=(a:Int)-4/\(k=0\/rz.getD (k-1) 0<rz.getD k 0)))->rlk rz a k=b):=λb O=>by unfold rlk;rw[xJ,O];simp
     have C:=x.range k;obtain⟨g0,g1⟩:=C;have d:=aWd$ rz.getD k 0;have f:=zh λw=>cM (rz.getD k 0) ((a:Int)-4) w;by_cases V:k=0
     .subst V;simp only[Nat.add_zero]at D;generalize rz.getD 0 0=z at *;by_cases s:z%4≠0
      .rw[xR s]at d;go_wp2;all_goals(go_ret;exact⟨aA (by rw[l.o];exact(q.o$ p.o false Jc).symm),g⟩)
      .rw[xS s]at d;by_cases u:0<=z/\z<=(a:Int)-4
       .rw[xR u]at f;go_wp2_with (go_at_call 141;refine(f.o _).mono ?_;rintro e A ⟨rfl,rfl⟩)
        go_round
        .exact⟨1,J,by go_num,zh$ M.o$ p.o true Jc⟩
        .simp[intOf];omega
       .rw[xS u]at f;go_wp2_with (go_at_call 141;refine(f.o _).mono ?_;rintro e A ⟨rfl,rfl⟩)
        all_goals(go_ret;exact⟨aA (by rw[l.o];exact(q.o$ p.o false Jc).symm),g⟩)
     .have Q:=x.at (k-1) J;have:(0:Int)<(k:Int):=J
      have:(0:Int)<=(k:Int)-1:=J
      have:(k:Int)-1<(rn:Int):=J
      generalize rz.getD (k-1) 0=y at *;generalize rz.getD k 0=z at *;by_cases s:z%4≠0
      .rw[xR s]at d;go_wp2;all_goals(go_ret;exact⟨aA (by rw[l.o];exact(q.o$ p.o false Jc).symm),g⟩)
      .rw[xS s]at d;by_cases u:0<=z/\z<=(a:Int)-4
       .rw[xR u]at f;by_cases d4:z<=y
        .go_wp2_with (go_at_call 141;refine(f.o _).mono ?_;rintro e A ⟨rfl,rfl⟩)
         all_goals(go_ret;exact⟨aA (by rw[l.o];exact(q.o$ p.o false Jc).symm),g⟩)
        .go_wp2_with (go_at_call 141;refine(f.o _).mono ?_;rintro e A ⟨rfl,rfl⟩)
         go_round
         .exact⟨k+1,J,by go_num,zh$ M.o$ p.o true Jc⟩
         .simp[intOf];omega
       .rw[xS u]at f;go_wp2_with (go_at_call 141;refine(f.o _).mono ?_;rintro e A ⟨rfl,rfl⟩)
        all_goals(go_ret;exact⟨aA (by rw[l.o];exact(q.o$ p.o false Jc).symm),g⟩)
    .have X:=zh$ kK (rlk rz a) rn λj B=>K.out j J;go_wp2;all_goals(go_ret;exact⟨aA (by rw[l.o];exact X.o.symm),g⟩)
def aD3:=@wH _$ .inl rfl
def zA:=@wH _$ .inr rfl
def zS:ByteArray:=⟨#[]⟩
def SS (w:qw)(a:qO)(n cap:Nat)(ss:List ByteArray):Prop:=
 ss.length=n/\n<=maxLen/\(∀s∈ss,s.size<=1048576)/\(n≠0->∃b off,a=some (qR b off)/\∀i,i<n->w.cell? (qR b$ off+i)=some (.string$ ss.getD i zS))/\n<=cap
def SS.bw {w w':qw}{ss:List ByteArray}(h:SS w a n cap ss)(d:qY w w'):SS w' a n cap ss:=by
 obtain⟨f,g,j,k,l⟩:=h;refine⟨f,g,j,λp=>?_,l⟩;let⟨b,off,e,hc⟩:=k p;exact⟨b,off,e,λi hi=>(d.cell$ xD w _$ hc i hi).trans$ hc i hi⟩
theorem SS.addr {w:qw}{ss:List ByteArray}(h:SS w a n cap ss)(hn:n≠0):∃b off,a=some (qR b off):=by
 let⟨b,off,e,_⟩:=h.2.2.2.1 hn
 grind
theorem SS.at {w:qw}{ss:List ByteArray}(h:SS w (some$ qR b off) n cap ss)(i)(hi:i<n):w.cell? (qR b$ off+i)=some (.string$ ss.getD i zS):=by
 let⟨a,d,e,hc⟩:=h.2.2.2.1 J
 grind
theorem SS.size {w:qw}{ss:List ByteArray}(h:SS w a n cap ss)(i):(ss.getD i zS).size<=1048576:=by
 by_cases hi:i<ss.length
 .have:=h.2.2.1 ss[i] (List.getElem_mem hi)
  grind
 .rw[xB,xO$ Nat.le_of_not_lt hi];exact(by decide:(zS).size<=1048576)
def imo (n:Nat)(ss:List ByteArray):Bool:=decide (n<=16)&&(List.range n).all λk=>gO$ ss.getD k zS
def aBo (N v1 v2 v3 O P G b n g ss w)(h:SS w b n g ss):
 qC 288 #[.agg #[.string N,v1,v2,v3,qI G,O,qS b n g,P]] w (qB w$ .bool$ imo n ss):=by
 let⟨W,M,H,kb⟩:=nwb w #[.string N,v1,v2,v3,qI G,O,qS b n g,P] 128;have:=kb.eight;let⟨r,a⟩:=aO$ imo n ss;rw[<-a];unfold imo at a;have:=h.2.1;have x:=zh M;clear M;by_cases S:16<n
 .have q:=zh (show r=false by rw[a,xS J];rfl);clear a;have u:(16:Int)<(n:Int):=J
  delta qC;go_in
  go_wp2_with (rw[<-x.o])
  go_ret;exact⟨aA q.symm,H⟩
 .have u:¬(16:Int)<(n:Int):=J
  have q:=zh (show r=(List.range n).all (λk=>gO$ ss.getD k zS)by rw[a,xR J];rfl);clear a
  delta qC;go_in
  go_wp2_with (rw[<-x.o])
  go_loopw [15] (λi wr=>∃k:Nat,k<=n/\i=qI k/\Hid (∀j,j<k->gO (ss.getD j zS)=true)/\qY w wr) (qf n)
  .exact⟨0,xC _,rfl,zh λj A=>J,H⟩
  .obtain⟨k,K,rfl,y,p⟩:=hrel;by_cases f:k<n
   .have B:(k:Int)<(n:Int):=J
    obtain⟨Q,off,rfl⟩:=h.addr J;have:=(h.bw p).at k f;have C:=zh$ lL (λk=>gO$ ss.getD k zS) n k f
    have E:=zh (show gO (ss.getD k zS)=true->∀j,j<k+1->gO (ss.getD j zS)=true from λh j A=>by
     by_cases e:j=k
     .subst e;exact h
     .exact y.out j J)
    have t:=zh λw=>oV (ss.getD k zS) w$ h.size k;generalize ss.getD k zS=s at *;cases l:gO s
    .rw[aJy,l,if_neg Jb]at t;go_wp2_with fail
     apply(t _).mono;rintro e D ⟨rfl,d⟩;go_wp2;go_ret;exact⟨aA (by rw[q.o];exact(C.o l).symm),yT p d⟩
    .rw[aJy,l,if_pos rfl]at t;go_wp2_with fail
     apply(t _).mono;rintro e D ⟨rfl,d⟩;go_wp2
     go_roundw
     .exact⟨k+1,J,by go_num,zh$ E l,yT p d⟩
     .simp[qf,intOf];omega
   .have I:=zh$ kK (λk=>gO$ ss.getD k zS) n λj A=>y.out j J;go_wp2;go_ret;exact⟨aA (by rw[q.o];exact I.o.symm),p⟩
def pcn (tn bn:Nat)(bl:List Bk)(b:Int):Int:=if b=-1 then (tn:Int) else if 0<=b/\b<(bn:Int) then ((bl.getD b.toNat zB).2.1:Int) else -1
def aV4 (w:qw)(ta:qO)(tn tc bn:Nat)(bl:List Bk)(b:Int)(e:Ending)(w':qw):Prop:=
 ∃a n c ok,e=.returned (.tuple #[qS a n c,.bool ok])/\ok=decide (0<=pcn tn bn bl b)/\(ok=true->(n:Int)=pcn tn bn bl b)/\n<=maxLen/\qY w w'
def pE {k:Nat}(u:k=118\/k=195)(H y tn A C a D s v3 I K M E b w)(j:tn<=maxLen)(l:BKS w C a D s):
 qC k #[.agg #[.string H,qS y tn A,qS C a D,v3,qI E,I,K,M],qI b] w (aV4 w y tn A a s b):=by
 rcases u with rfl|rfl
 all_goals
  let⟨W,G,g,kb⟩:=nwb w #[.string H,qS y tn A,qS C a D,v3,qI E,I,K,M] 128;have:=kb.eight;have e:=l.bw g;have:=l.2.1;have i:=zh G;clear G;by_cases x:b=-1
  .subst x;have d:Zh (pcn tn a s (-1)=(tn:Int)):=rfl
   delta qC;go_in
   go_wp2_with (rw[<-i.o])
   go_ret2
   exact⟨y,tn,A,true,rfl,by rw[d.o];simp,λ_=>d.o.symm,j,g⟩
  .have p:(b == -1)=false:=by simpa using x
   by_cases c2:b<0
   .have d:=zh (show pcn tn a s b=-1 by unfold pcn;rw[if_neg x,if_neg J])
    delta qC;go_in
    go_wp2_with (rw[<-i.o])
    go_ret2
    exact⟨_,0,0,false,rfl,by rw[d.o];rfl,(by intro h;cases h),xC _,by first|exact g.alloc g.size _|exact g⟩
   .by_cases S:(a:Int)<=b
    .have d:=zh (show pcn tn a s b=-1 by unfold pcn;rw[if_neg x,if_neg J])
     delta qC;go_in
     go_wp2_with (rw[<-i.o])
     go_ret2
     exact⟨_,0,0,false,rfl,by rw[d.o];rfl,(by intro h;cases h),xC _,by first|exact g.alloc g.size _|exact g⟩
    .have q:b<(a:Int):=J
     have d:=zh (show pcn tn a s b=((s.getD b.toNat zB).2.1:Int)by unfold pcn;rw[if_neg x,if_pos J]);obtain⟨Q,off,rfl⟩:=e.addr J;have:=e.at b.toNat J;have f:=e.2.2.2.1 b.toNat J;generalize s.getD b.toNat zB=B at *;obtain⟨N,P,O,U⟩:=B;have t:=zh f.2.1;clear f
     delta qC;go_in
     go_wp2_with (rw[<-i.o])
     go_ret2
     exact⟨N,P,O,true,rfl,by rw[d.o];simp,λ_=>d.o.symm,t.o,g⟩
def nF:=@pE _$ .inl rfl
def mT:=@pE _$ .inr rfl
abbrev Ex:=ByteArray×Int×Int
def zE:Ex:=(zS,0,0)
def ES (w:qw)(a:qO)(n cap:Nat)(es:List Ex):Prop:=
 es.length=n/\n<=maxLen/\(∀e∈es,e.1.size<=1048576)/\(n≠0->∃b off,a=some (qR b off)/\∀i,i<n->w.cell? (qR b$ off+i*3)=some (.string (es.getD i zE).1)/\w.cell? (qR b$ off+i*3+1)=some (qI (es.getD i zE).2.1)/\w.cell? (qR b$ off+i*3+2)=some (qI (es.getD i zE).2.2))/\n<=cap
theorem ES.bw {w w':qw}{es:List Ex}(h:ES w a n cap es)(i:qY w w'):ES w' a n cap es:=by
 obtain⟨f,g,j,k,l⟩:=h;refine⟨f,g,j,λp=>?_,l⟩;let⟨b,off,e,hc⟩:=k p;have:∀o v,qN w b o=some v->qN w' b o=some v:=λo v d=>(i.cell$ xD w _ d).trans d
 grind
theorem ES.addr {w:qw}{es:List Ex}(h:ES w a n cap es)(hn:n≠0):∃b off,a=some (qR b off):=by
 let⟨b,off,e,_⟩:=h.2.2.2.1 hn
 grind
theorem ES.at {w:qw}{es:List Ex}(h:ES w (some$ qR b off) n cap es)(i)(hi:i<n):w.cell? (qR b$ off+i*3)=some (.string (es.getD i zE).1)/\w.cell? (qR b$ off+i*3+1)=some (qI (es.getD i zE).2.1)/\w.cell? (qR b$ off+i*3+2)=some (qI (es.getD i zE).2.2):=by
 let⟨a,d,e,hc⟩:=h.2.2.2.1 J
 grind
theorem ES.size {w:qw}{es:List Ex}(h:ES w a n cap es)(i):(es.getD i zE).1.size<=1048576:=by
 by_cases hi:i<es.length
 .have:=h.2.2.1 es[i] (List.getElem_mem hi)
  grind
 .rw[xB,xO$ Nat.le_of_not_lt hi];exact(by decide:(zE).1.size<=1048576)
def ex1 (tn bn:Nat)(bl:List Bk)(x:Ex):Bool:=nmo x.1&&decide (0<=x.2.2/\x.2.2<pcn tn bn bl x.2.1)
def exn (es:List Ex)(i:Nat):Bool:=(List.range i).all λk=>!((es.getD k zE).1.toList==(es.getD i zE).1.toList)
def exo (tn bn:Nat)(bl:List Bk)(n:Nat)(es:List Ex):Bool:=decide (n<=16)&&(List.range n).all λi=>ex1 tn bn bl (es.getD i zE)&&exn es i
def uW (nm ta tn tc ba a bc b v3 v5 v6 a0 ea n ec es w)(Q:tn<=maxLen)(hb:BKS w ba a bc b)(h:ES w ea n ec es):
 qC 245 #[.agg #[.string nm,qS ta tn tc,qS ba a bc,v3,qI a0,v5,v6,qS ea n ec]] w (qB w$ .bool$ exo tn a b n es):=by
 let⟨W,hW,a1,kb⟩:=nwb w #[.string nm,qS ta tn tc,qS ba a bc,v3,qI a0,v5,v6,qS ea n ec] 128;have P:=kb.eight;let⟨r,hr⟩:=aO$ exo tn a b n es;rw[<-hr];unfold exo at hr;have a6:=h.2.1;have HW:=zh hW;clear hW;by_cases c1:16<n
 .have q:=zh (show r=false by rw[hr,xS J];rfl);clear hr;have Y:(16:Int)<(n:Int):=J
  delta qC;go_in
  go_wp2_with (rw[<-HW.o])
  go_ret;exact⟨aA q.symm,a1⟩
 .have Y:¬(16:Int)<(n:Int):=J
  have q:=zh (show r=(List.range n).all (λi=>ex1 tn a b (es.getD i zE)&&exn es i)by rw[hr,xR J];rfl);clear hr
  delta qC;go_in
  go_wp2_with (rw[<-HW.o])
  clear P;go_loopw [3] (λi wr=>∃k:Nat,k<=n/\i=qI k/\Hid (∀j,j<k->(ex1 tn a b (es.getD j zE)&&exn es j)=true)/\qY w wr/\Blk wr w.heap.size #[.string nm,qS ta tn tc,qS ba a bc,v3,qI a0,v5,v6,qS ea n ec] 128) (qf n)
  .exact⟨0,xC _,rfl,zh λj D=>J,a1,kb⟩
  .obtain⟨k,hk,rfl,HJ,x,O⟩:=hrel;clear kb a1;have P:=O.eight;by_cases A:k<n
   .have a3:(k:Int)<(n:Int):=J
    obtain⟨bb,off,rfl⟩:=h.addr J;let⟨y1,y2,y3⟩:=(h.bw x).at k A;have y:=zh$ lL (λi=>ex1 tn a b (es.getD i zE)&&exn es i) n k A
    have HG:=zh (show(ex1 tn a b (es.getD k zE)&&exn es k)=true->∀j,j<k+1->(ex1 tn a b (es.getD j zE)&&exn es j)=true from λh j D=>by
     by_cases e:j=k
     .subst e;exact h
     .exact HJ.out j J)
    have t:=zh λw=>iC (es.getD k zE).1 w$ h.size k;have HX:Zh (exn es k=(List.range k).all (λj=>!((es.getD j zE).1.toList==(es.getD k zE).1.toList))):=rfl;generalize es.getD k zE=E at *;obtain⟨g,eb,ei⟩:=E;have a5:=O.lt;have C:=hb.bw$ x.alloc x.size$ .cells #[.string g,qI eb,qI ei] 209;have HP:=zh λw h=>nF nm ta tn tc ba a bc b v3 v5 v6 (qS (qe bb off) n ec) a0 eb w Q h;have kE:=Blk.new wr #[.string g,qI eb,qI ei] 209;have V:qY wr (wr.alloc$ .cells #[.string g,qI eb,qI ei] 209):=bal;go_wp2_with fail
    apply(HP _ C).mono;rintro e w1 ⟨pa,pn,px,ok,rfl,H,K,a4,p⟩;have s:=kE.bw p;have I:=(O.bw V).bw p;have d:=(yT x V).trans$ p.mono (by have:=x.size;simp;omega);clear kE O V p C HP P y1 y2 y3 x;have M:=zh$ xA H K;clear H K;have z1:=s.three;have f:Zh (ex1 tn a b (g,eb,ei)=(nmo g&&decide (0<=ei/\ei<pcn tn a b eb))):=rfl;cases hn:nmo g
    .rw[hn]at t;go_wp2_with (go_at_call 241;refine(t.o _).mono ?_;rintro e N ⟨rfl,rfl⟩)
     go_ret;exact⟨aA (by rw[q.o];exact(y.o (by rw[f.o,hn];rfl)).symm),d⟩
    .rw[hn]at t;cases ok
     .have U:¬0<=pcn tn a b eb:=by have:=M.o.1;simpa using this.symm
      go_wp2_with (go_at_call 241;refine(t.o _).mono ?_;rintro e N ⟨rfl,rfl⟩)
      go_ret;exact⟨aA (by rw[q.o];exact(y.o (by rw[f.o,xS J];simp)).symm),d⟩
     .have U:(pn:Int)=pcn tn a b eb:=M.2 rfl;have G:=zh U;clear U;by_cases d1:ei<0
      .go_wp2_with (go_at_call 241;refine(t.o _).mono ?_;rintro e N ⟨rfl,rfl⟩)
       go_ret;exact⟨aA (by rw[q.o];exact(y.o (by rw[f.o,xS J];simp)).symm),d⟩
      .by_cases d2:(pn:Int)<=ei
       .go_wp2_with (go_at_call 241;refine(t.o _).mono ?_;rintro e N ⟨rfl,rfl⟩)
        go_ret;exact⟨aA (by rw[q.o];exact(y.o (by rw[f.o,<-G.o,xS J];simp)).symm),d⟩
       .have Z:=zh (show ex1 tn a b (g,eb,ei)=true by rw[f.o,hn,<-G.o,xR J];rfl);go_wp2_with (go_at_call 241;refine(t.o _).mono ?_;rintro e N ⟨rfl,rfl⟩)
        clear z1;go_loopw [7] (λi wx=>∃m:Nat,m<=k/\i=qI m/\Hid (∀j,j<m->(!((es.getD j zE).1.toList==g.toList))=true)/\qY w wx/\Blk wx w.heap.size #[.string nm,qS ta tn tc,qS ba a bc,v3,qI a0,v5,v6,qS (qe bb off) n ec] 128/\Blk wx wr.heap.size #[.string g,qI eb,qI ei] 209) (qf k)
        .exact⟨0,xC _,rfl,zh λj D=>J,d,I,s⟩
        .obtain⟨m,hm,rfl,HM,l,u,B⟩:=hrel;clear d I s;have P:=u.eight;have z1:=B.three;by_cases X:m<k
         .have a2:(m:Int)<(k:Int):=J
          let⟨y1,y2,y3⟩:=(h.bw l).at m J;have HY:=zh$ lL (λj=>!((es.getD j zE).1.toList==g.toList)) k m X
          have HV:=zh (show(!((es.getD m zE).1.toList==g.toList))=true->∀j,j<m+1->(!((es.getD j zE).1.toList==g.toList))=true from λh j D=>by
           by_cases e:j=m
           .subst e;exact h
           .exact HM.out j J)
          generalize (es.getD m zE).1=sm at *;cases hq:(sm.toList==g.toList)
          .go_wp2_with fail
           go_quiet (fail)
           go_wp2
           go_roundw
           .exact⟨m+1,J,by go_num,zh (HV.o (by rw[hq];rfl)),below_drewN l nq,u.bw$ below_drewN brf nq,B.bw$ below_drewN brf nq⟩
           .simp[qf,intOf];omega
          .go_wp2_with fail
           go_quiet (fail)
           go_wp2;go_ret;exact⟨aA (by rw[q.o];exact(y.o (by rw[HX.o,HY.o (by rw[hq];rfl)];simp)).symm),below_drewN l nq⟩
         .have S:=zh$ kK (λj=>!((es.getD j zE).1.toList==g.toList)) k λj D=>HM.out j J;go_wp2
          go_roundw
          .exact⟨k+1,J,by go_num,zh (HG.o (by rw[Z.o,HX.o,S.o];rfl)),l,u⟩
          .simp[qf,intOf];omega
   .have HE:=zh$ kK (λi=>ex1 tn a b (es.getD i zE)&&exn es i) n λj D=>HJ.out j J;go_wp2;go_ret;exact⟨aA (by rw[q.o];exact HE.o.symm),x⟩
structure MD (w:qw)(nm:ByteArray)(ta:qO)(tn tc:Nat)(tz:qi)(ba:qO)(bn bc:Nat)(bl:List Bk)(da:qO)(dn dc:Nat)(dz:qi)(bss:Int)(ra:qO)(rn rc:Nat)(rz:qi)(ia:qO)(im ic:Nat)(ss:List ByteArray)(ea:qO)(en ec:Nat)(es:List Ex):Prop where
 n:nm.size<=1048576
 t:IS w ta tn tc tz
 b:BKS w ba bn bc bl
 d:BS w da dn dc dz
 s:wfi bss
 r:IS w ra rn rc rz
 i:SS w ia im ic ss
 e:ES w ea en ec es
def MD.bw {w w':qw}{e:qi}{f:qi}{rz:qi}{ss:List ByteArray}{es:List Ex}
 (h:MD w nm ta tn tc e ba bn bc bl da dn dc f bss ra rn rc rz ia im ic ss ea en ec es) (d:qY w w'):MD w' nm ta tn tc e ba bn bc bl da dn dc f bss ra rn rc rz ia im ic ss ea en ec es:=
 ⟨h.n,h.t.bw d,h.b.bw d,h.d.bw d,h.s,h.r.bw d,h.i.bw d,h.e.bw d⟩
def mdo (nm:ByteArray)(tn:Nat)(tz:qi)(bn:Nat)(bl:List Bk)(dn:Nat)(bss:Int)(rn:Nat)(rz:qi)(im:Nat)(ss:List ByteArray)(en:Nat)(es:List Ex):Int:=
 if nmo nm=false then 1 else if cdo tn tz bn bl=false then 2 else if 512<dn\/bss<0\/512<bss then 3 else if rlo rn rz dn=false then 4 else if imo im ss=false then 5 else if exo tn bn bl en es=false then 6 else 0
def aA8 (nm ta tn tc tz ba bn bc bl da b dc dz g ra rn rc rz ia a ic ss ea en ec es w)
 (h:MD w nm ta tn tc tz ba bn bc bl da b dc dz g ra rn rc rz ia a ic ss ea en ec es):
 qC 163 #[.agg$ qM nm ta tn tc ba bn bc da b dc g ra rn rc ia a ic ea en ec] w (qB w$ qI$ mdo nm tn tz bn bl b g rn rz a ss en es):=by
 let⟨W,hW,a0,kb⟩:=nwb w (qM nm ta tn tc ba bn bc da b dc g ra rn rc ia a ic ea en ec) 128;let⟨r,hr⟩:=aO$ mdo nm tn tz bn bl b g rn rz a ss en es;rw[<-hr];unfold mdo at hr;have d:=zh hr;clear hr;have E:=h.bw a0;have P:=h.d.2.1;have:=h.i.2.1;have x:=h.t.2.1;have HN:=zh λw=>iC nm w h.n;have Y:=zh λw ht N=>aEv nm ta tn tc tz ba bn bc bl (qS da b dc) (qS ra rn rc) (qS ia a ic) (qS ea en ec) g w ht N;have Q:=zh λw h=>zA nm (qS ta tn tc) (qS ba bn bc) da b dc g ra rn rc rz (qS ia a ic) (qS ea en ec) w P h;have M:=zh λw N h=>uW nm ta tn tc ba bn bc bl (qS da b dc) (qS ra rn rc) (qS ia a ic) g ea en ec es w x N h;have C:=h.i.size;have O:=zh λk w=>rM (ss.getD k zS) w$ C k;clear h C x;have HW:=zh hW;clear hW;generalize nmo nm=a1 at *;generalize cdo tn tz bn bl=a2 at *;generalize rlo rn rz b=a4 at *;generalize exo tn bn bl en es=a6 at *;have I:=kb.eight
 delta qC;go_in
 go_wp2_with (first|(rw[<-HW.o])|(go_at_call 241;refine(HN.o _).mono ?_;rintro e w1 ⟨rfl,rfl⟩;cases a1))
 .have e:=zh (show r=1 by rw[d.o];simp);go_ret;exact⟨aJ e.symm,a0⟩
 .apply(Y _ E.t E.b).mono;rintro e w2 ⟨rfl,q⟩;have u:=kb.bw q;have U:=E.bw q;have f:=yT a0 q;clear q kb E a0 I;have I:=u.eight;cases a2
  .have e:=zh (show r=2 by rw[d.o];simp);go_wp2;go_ret;exact⟨aJ e.symm,f⟩
  .by_cases c1:512<b
   .have e:=zh (show r=3 by rw[d.o];simp[c1]);have X:(512:Int)<(b:Int):=J
    go_wp2;go_ret;exact⟨aJ e.symm,f⟩
   .have X:¬(512:Int)<(b:Int):=J
    by_cases c2:g<0
    .have e:=zh (show r=3 by rw[d.o];simp[c2]);go_wp2;go_ret;exact⟨aJ e.symm,f⟩
    .by_cases c3:512<g
     .have e:=zh (show r=3 by rw[d.o];simp[c3]);go_wp2;go_ret;exact⟨aJ e.symm,f⟩
     .have l:=zh (show r=if a4=false then 4 else if imo a ss=false then 5 else if a6=false then 6 else 0 by
       rw[d.o]
       simp only[Bool.true_eq_false,if_false,show ¬(512<b\/g<0\/512<g)from J])
      clear d;go_wp2_with fail
      apply(Q _ U.r).mono;rintro e w3 ⟨rfl,t⟩;have V:=u.bw t;have H:=U.bw t;have p:=yT f t;clear t u U f I;have I:=V.eight;cases a4
      .have e:=zh (show r=4 by rw[l.o];simp);go_wp2;go_ret;exact⟨aJ e.symm,p⟩
      .by_cases d1:16<a
       .have e:=zh (show r=5 by rw[l.o,show imo a ss=false by unfold imo;rw[xS J];rfl];simp);have S:(16:Int)<(a:Int):=J
        go_wp2;go_ret;exact⟨aJ e.symm,p⟩
       .have S:¬(16:Int)<(a:Int):=J
        have A:=zh (show imo a ss=(List.range a).all (λk=>gO$ ss.getD k zS)by unfold imo;rw[xR J];rfl);go_wp2_with fail
        go_loop [3] (λi=>∃k:Nat,k<=a/\i=qI k/\Hid (∀j,j<k->gO (ss.getD j zS)=true)) (λi=>a-(intOf i).toNat)
        .exact⟨0,xC _,rfl,zh λj hj=>J⟩
        .obtain⟨k,hk,rfl,Z⟩:=hrel;by_cases y:k<a
         .have a3:(k:Int)<(a:Int):=J
          obtain⟨bb,off,rfl⟩:=H.i.addr J;have:=H.i.at k y;have HZ:=zh$ lL (λk=>gO$ ss.getD k zS) a k y
          have HG:=zh (show gO (ss.getD k zS)=true->∀j,j<k+1->gO (ss.getD j zS)=true from λh j hj=>by
           by_cases e:j=k
           .subst e;exact h
           .exact Z.out j J)
          have D:=zh$ O k;generalize ss.getD k zS=s at *;cases G:gO s
          .rw[G]at D;have e:=zh (show r=5 by rw[l.o,A.o,HZ.o G];simp);go_wp2_with (go_at_call 244;refine(D.o _).mono ?_;rintro e w4 ⟨rfl,rfl⟩)
           go_ret;exact⟨aJ e.symm,p⟩
          .rw[G]at D;go_wp2_with (go_at_call 244;refine(D.o _).mono ?_;rintro e w4 ⟨rfl,rfl⟩)
           go_round
           .exact⟨k+1,J,by go_num,zh$ HG G⟩
           .simp[intOf];omega
         .have HI:=zh (show imo a ss=true by rw[A.o];exact kK (λk=>gO$ ss.getD k zS) a λj hj=>Z.out j J);go_wp2_with fail
          apply(M _ H.b H.e).mono;rintro e w5 ⟨rfl,K⟩;have B:=yT p K;cases a6
          .have e:=zh (show r=6 by rw[l.o,HI.o];simp);go_wp2;go_ret;exact⟨aJ e.symm,B⟩
          .have e:=zh (show r=0 by rw[l.o,HI.o];simp);go_wp2;go_ret;exact⟨aJ e.symm,B⟩
def upS (f:Nat->Nat):Nat->Nat
 | 0=>0
 | k+1=>upS f k+f k
theorem gM (f:Nat->Nat)(k):∀m,k<=m->upS f k<=upS f m
 | 0,h=>by grind
 | m+1,h=>by
   by_cases e:k=m+1
   .grind
   .have:=gM f k m J;show _<=upS f m+f m;omega
def szR (l:Int)(t:Nat):Int:=if l<(t:Int) then -1 else l-t
def aFx (a n I g l w)(h:BKS w a n I g)(V:0<=l)(P:l<=1048576):
 qC 106 #[qS a n I,qI l] w λe w'=>e=.returned (qI$ szR l$ n+upS (λj=>(g.getD j zB).2.1) n)/\w=w':=by
 have M:=h.2.1;unfold maxLen at M;let⟨r,H⟩:=aO$ szR l$ n+upS (λj=>(g.getD j zB).2.1) n;rw[<-H];unfold szR at H;have y:=zh H;clear H;by_cases S:l<(n:Int)
 .have e:=zh (show r=-1 by rw[y.o,if_pos J])
  delta qC;go_in
  go_wp2;go_ret;exact⟨aJ e.symm,rfl⟩
 .delta qC;go_in
  go_wp2_with fail
  go_loop [1,5] (λv i=>∃(k:Nat) (z:Int),k<=n/\i=qI k/\v=qI z/\0<=z/\z<=1048576/\Hid (z=l-n-(upS (λj=>(g.getD j zB).2.1) k:Nat))) (λ_ i=>n-(intOf i).toNat)
  .exact⟨0,l-n,xC _,rfl,rfl,J,J,zh (by simp[upS])⟩
  .obtain⟨k,z,Q,rfl,rfl,N,C,q⟩:=hrel;by_cases d:k<n
   .have B:(k:Int)<(n:Int):=J
    obtain⟨b,off,rfl⟩:=h.addr J;have:=h.at k d;have f:=h.2.2.2.1 k d;have t:=f.2.1;have p:=zh λw=>iR (g.getD k zB).1 (g.getD k zB).2.1 (g.getD k zB).2.2.1 z w N C t;have A:Zh (upS (λj=>(g.getD j zB).2.1) (k+1)=upS (λj=>(g.getD j zB).2.1) k+(g.getD k zB).2.1):=rfl;have D:=zh$ gM (λj=>(g.getD j zB).2.1) (k+1) n J;clear f;generalize (g.getD k zB).1=U at *;generalize G:(g.getD k zB).2.1=u at *;generalize (g.getD k zB).2.2.1=O at *;by_cases c2:z<(u:Int)
    .rw[if_pos c2]at p
     have e:=zh (show r=-1 by
      have x:=q.out;have K:=A.o;have:=D.o
      rw[y.o,if_pos J])
     go_wp2_with (go_at_call 59;refine(p.o _).mono ?_;rintro e E ⟨rfl,rfl⟩)
     go_ret;exact⟨aJ e.symm,rfl⟩
    .rw[if_neg c2]at p;have:¬z-(u:Int)<0:=J
     go_wp2_with (go_at_call 59;refine(p.o _).mono ?_;rintro e E ⟨rfl,rfl⟩)
     go_round
     .exact⟨k+1,z-u,J,by go_num,rfl,J,J,zh (by have x:=q.out;have K:=A.o;omega)⟩
     .simp[intOf];omega
   .have e:=zh (show r=z by
     have x:=q.out;have s:k=n:=J
     rw[s]at x;rw[y.o,if_neg J]
     omega)
    go_wp2;go_ret;exact⟨aJ e.symm,rfl⟩
def TS (w:qw)(a:qO)(n cap:Nat)(ss:List ByteArray):Prop:=
 ss.length=n/\n<=maxLen/\(∀i,(ss.getD i zS).size<=maxLen)/\(n≠0->∃b off,a=some (qR b off)/\∀i,i<n->w.cell? (qR b$ off+i)=some (.string$ ss.getD i zS))/\n<=cap
def TS.bw {w w':qw}{ss:List ByteArray}(h:TS w a n cap ss)(d:qY w w'):TS w' a n cap ss:=by
 obtain⟨f,g,j,k,l⟩:=h;refine⟨f,g,j,λp=>?_,l⟩;let⟨b,off,e,hc⟩:=k p;exact⟨b,off,e,λi hi=>(d.cell$ xD w _$ hc i hi).trans$ hc i hi⟩
theorem TS.at {w:qw}{ss:List ByteArray}(h:TS w a n cap ss)(i)(hi:i<n):∃b off,a=some (qR b off)/\w.cell? (qR b$ off+i)=some (.string$ ss.getD i zS):=by
 let⟨b,off,e,hc⟩:=h.2.2.2.1 J
 grind
theorem TS.ss {w:qw}{a:qO}{n b:Nat}{ss:List ByteArray}(h:TS w a n b ss)(hs:upS (λj=>(ss.getD j zS).size) n<=1048576):SS w a n b ss:=by
 refine⟨h.1,h.2.1,λs d=>?_,h.2.2.2.1,h.2.2.2.2⟩;obtain⟨i,hi,rfl⟩:=List.getElem_of_mem d;have:=gM (λj=>(ss.getD j zS).size) (i+1) n$ jK h.1;have:upS (λj=>(ss.getD j zS).size) (i+1)=upS (λj=>(ss.getD j zS).size) i+(ss.getD i zS).size:=rfl
 grind
def aA1 (a n I ss l w)(h:TS w a n I ss)(M:0<=l)(E:l<=1048576):
 qC 107 #[qS a n I,qI l] w λe w'=>e=.returned (qI$ szR l$ n+upS (λj=>(ss.getD j zS).size) n)/\w=w':=by
 have D:=h.2.1;unfold maxLen at D;let⟨r,g⟩:=aO$ szR l$ n+upS (λj=>(ss.getD j zS).size) n;rw[<-g];unfold szR at g;have q:=zh g;clear g;by_cases N:l<(n:Int)
 .have e:=zh (show r=-1 by rw[q.o,if_pos J])
  delta qC;go_in
  go_wp2;go_ret;exact⟨aJ e.symm,rfl⟩
 .delta qC;go_in
  go_wp2_with fail
  go_loop [1,5] (λv i=>∃(k:Nat) (z:Int),k<=n/\i=qI k/\v=qI z/\0<=z/\z<=1048576/\Hid (z=l-n-(upS (λj=>(ss.getD j zS).size) k:Nat))) (λ_ i=>n-(intOf i).toNat)
  .exact⟨0,l-n,xC _,rfl,rfl,J,J,zh (by simp[upS])⟩
  .obtain⟨k,z,K,rfl,rfl,H,G,f⟩:=hrel;by_cases p:k<n
   .have y:(k:Int)<(n:Int):=J
    obtain⟨b,off,rfl,O⟩:=h.at k p;have x:=h.2.2.1 k;unfold maxLen at x;have A:Zh (upS (λj=>(ss.getD j zS).size) (k+1)=upS (λj=>(ss.getD j zS).size) k+(ss.getD k zS).size):=rfl;have B:=zh$ gM (λj=>(ss.getD j zS).size) (k+1) n J;generalize ss.getD k zS=s at *;by_cases c2:z<(s.size:Int)
    .have d:z-(s.size:Int)<0:=J
     have e:=zh (show r=-1 by
      have t:=f.out;have C:=A.o;have:=B.o
      rw[q.o,if_pos J])
     go_wp2;go_ret;exact⟨aJ e.symm,rfl⟩
    .have d:¬z-(s.size:Int)<0:=J
     go_wp2
     go_round
     .exact⟨k+1,z-s.size,J,by go_num,rfl,J,J,zh (by have t:=f.out;have C:=A.o;omega)⟩
     .simp[intOf];omega
   .have e:=zh (show r=z by
     have t:=f.out;have u:k=n:=J
     rw[u]at t;rw[q.o,if_neg J]
     omega)
    go_wp2;go_ret;exact⟨aJ e.symm,rfl⟩
def TE (w:qw)(a:qO)(n cap:Nat)(es:List Ex):Prop:=
 es.length=n/\n<=maxLen/\(∀i,(es.getD i zE).1.size<=maxLen)/\(n≠0->∃b off,a=some (qR b off)/\∀i,i<n->w.cell? (qR b$ off+i*3)=some (.string (es.getD i zE).1)/\w.cell? (qR b$ off+i*3+1)=some (qI (es.getD i zE).2.1)/\w.cell? (qR b$ off+i*3+2)=some (qI (es.getD i zE).2.2))/\n<=cap
theorem TE.bw {w w':qw}{es:List Ex}(h:TE w a n cap es)(i:qY w w'):TE w' a n cap es:=by
 obtain⟨f,g,j,k,l⟩:=h;refine⟨f,g,j,λp=>?_,l⟩;let⟨b,off,e,hc⟩:=k p;have:∀o v,qN w b o=some v->qN w' b o=some v:=λo v d=>(i.cell$ xD w _ d).trans d
 grind
theorem TE.at {w:qw}{es:List Ex}(h:TE w a n cap es)(i)(hi:i<n):∃b off,a=some (qR b off)/\w.cell? (qR b$ off+i*3)=some (.string (es.getD i zE).1)/\w.cell? (qR b$ off+i*3+1)=some (qI (es.getD i zE).2.1)/\w.cell? (qR b$ off+i*3+2)=some (qI (es.getD i zE).2.2):=by
 let⟨b,off,e,hc⟩:=h.2.2.2.1 J
 grind
theorem TE.es {w:qw}{a:qO}{n b:Nat}{es:List Ex}(h:TE w a n b es)(hs:upS (λj=>(es.getD j zE).1.size) n<=1048576):ES w a n b es:=by
 refine⟨h.1,h.2.1,λs d=>?_,h.2.2.2.1,h.2.2.2.2⟩;obtain⟨i,hi,rfl⟩:=List.getElem_of_mem d;have:=gM (λj=>(es.getD j zE).1.size) (i+1) n$ jK h.1;have:upS (λj=>(es.getD j zE).1.size) (i+1)=upS (λj=>(es.getD j zE).1.size) i+(es.getD i zE).1.size:=rfl
 grind
def aDl (s b i l w)(hs:s.size<=maxLen)(j:0<=l)(k:l<=1048576):
 qC 161 #[.agg #[.string s,qI b,qI i],qI l] w (qB w$ qI$ szR l s.size):=by
 unfold maxLen at hs;have f:=zh$ (Below.refl w.heap.size w).alloc aQ$ .cells #[.string s,qI b,qI i] 223;let⟨r,a⟩:=aO$ szR l s.size;rw[<-a];unfold szR at a;have d:=zh a;clear a;by_cases c:l<(s.size:Int)
 .have e:=zh (show r=-1 by rw[d.o,if_pos c]);have g:l-(s.size:Int)<0:=J
  delta qC;go_in
  go_wp2;go_ret;exact⟨aJ e.symm,f⟩
 .have e:=zh (show r=l-s.size by rw[d.o,if_neg c]);have g:¬l-(s.size:Int)<0:=J
  delta qC;go_in
  go_wp2;go_ret;exact⟨aJ e.symm,f⟩
def aA4 (a n O es l w)(h:TE w a n O es)(P:0<=l)(M:l<=1048576):
 qC 108 #[qS a n O,qI l] w λe w'=>e=.returned (qI$ szR l$ n+upS (λj=>(es.getD j zE).1.size) n)/\qY w w':=by
 have I:=h.2.1;unfold maxLen at I;let⟨r,g⟩:=aO$ szR l$ n+upS (λj=>(es.getD j zE).1.size) n;rw[<-g];unfold szR at g;have A:=zh g;clear g;by_cases V:l<(n:Int)
 .have e:=zh (show r=-1 by rw[A.o,if_pos J])
  delta qC;go_in
  go_wp2;go_ret;exact⟨aJ e.symm,brf⟩
 .delta qC;go_in
  go_wp2_with fail
  go_loopw [1,5] (λv i wr=>∃(k:Nat) (z:Int),k<=n/\i=qI k/\v=qI z/\0<=z/\z<=1048576/\Hid (z=l-n-(upS (λj=>(es.getD j zE).1.size) k:Nat))/\qY w wr) (λ_ i _=>n-(intOf i).toNat)
  .exact⟨0,l-n,xC _,rfl,rfl,J,J,zh (by simp[upS]),brf⟩
  .obtain⟨k,z,N,rfl,rfl,K,C,q,p⟩:=hrel;by_cases u:k<n
   .have B:(k:Int)<(n:Int):=J
    obtain⟨b,off,rfl,Q,S,U⟩:=(h.bw p).at k u;have f:=zh λw=>aDl (es.getD k zE).1 (es.getD k zE).2.1 (es.getD k zE).2.2 z w (h.2.2.1 k) K C;have x:Zh (upS (λj=>(es.getD j zE).1.size) (k+1)=upS (λj=>(es.getD j zE).1.size) k+(es.getD k zE).1.size):=rfl;have D:=zh$ gM (λj=>(es.getD j zE).1.size) (k+1) n J;generalize es.getD k zE=E at *;obtain⟨s,W,X⟩:=E;dsimp only at Q S U f x;unfold szR at f;by_cases c2:z<(s.size:Int)
    .rw[if_pos c2]at f
     have e:=zh (show r=-1 by
      have y:=q.out;have H:=x.o;have:=D.o
      rw[A.o,if_pos J])
     go_wp2_with fail
     apply(f _).mono;rintro e G ⟨rfl,d⟩;go_wp2;go_ret;exact⟨aJ e.symm,yT p d⟩
    .rw[if_neg c2]at f;go_wp2_with fail
     apply(f _).mono;rintro e G ⟨rfl,d⟩;go_wp2
     go_roundw
     .exact⟨k+1,z-s.size,J,by go_num,rfl,J,J,zh (by have y:=q.out;have H:=x.o;omega),yT p d⟩
     .simp[intOf];omega
   .have e:=zh (show r=z by
     have y:=q.out;have t:k=n:=J
     rw[t]at y;rw[A.o,if_neg J]
     omega)
    go_wp2;go_ret;exact⟨aJ e.symm,p⟩
structure MT (w:qw)(nm:ByteArray)(ta:qO)(tn tc:Nat)(tz:qi)(ba:qO)(bn bc:Nat)(bl:List Bk)(da:qO)(dn dc:Nat)(dz:qi)(bss:Int)(ra:qO)(rn rc:Nat)(rz:qi)(ia:qO)(im ic:Nat)(ss:List ByteArray)(ea:qO)(en ec:Nat)(es:List Ex):Prop where
 n:nm.size<=maxLen
 t:IS w ta tn tc tz
 b:BKS w ba bn bc bl
 d:BS w da dn dc dz
 s:wfi bss
 r:IS w ra rn rc rz
 i:TS w ia im ic ss
 e:TE w ea en ec es
def MT.bw {w w':qw}{e:qi}{f:qi}{rz:qi}{ss:List ByteArray}{es:List Ex}(h:MT w nm ta tn tc e ba bn bc bl da dn dc f bss ra rn rc rz ia im ic ss ea en ec es)(d:qY w w'):MT w' nm ta tn tc e ba bn bc bl da dn dc f bss ra rn rc rz ia im ic ss ea en ec es:=
 ⟨h.n,h.t.bw d,h.b.bw d,h.d.bw d,h.s,h.r.bw d,h.i.bw d,h.e.bw d⟩
def dF (nm:ByteArray)(tn bn:Nat)(bl:List Bk)(dn rn im:Nat)(ss:List ByteArray)(en:Nat)(es:List Ex):Nat:=
 nm.size+tn+(bn+upS (λj=>(bl.getD j zB).2.1) bn)+dn+rn+(im+upS (λj=>(ss.getD j zS).size) im)+(en+upS (λj=>(es.getD j zE).1.size) en)
def aDj (g ta tn tc tz ba a bc bl da dn dc dz a1 ra rn rc rz ia im ic ss ea en ec es l w)(h:MT w g ta tn tc tz ba a bc bl da dn dc dz a1 ra rn rc rz ia im ic ss ea en ec es)(l0:0<=l)(l1:l<=1048576):
 qC 58 #[.agg$ qM g ta tn tc ba a bc da dn dc a1 ra rn rc ia im ic ea en ec,qI l] w (qB w$ qI$ szR l$ dF g tn a bl dn rn im ss en es):=by
 let⟨W,hW,a0,kb⟩:=nwb w (qM g ta tn tc ba a bc da dn dc a1 ra rn rc ia im ic ea en ec) 103;have:=kb.eight;have V:=zh hW;clear hW;let⟨r,hr⟩:=aO$ szR l$ dF g tn a bl dn rn im ss en es;rw[<-hr];unfold szR dF at hr;have u:=zh hr;clear hr;have y:=h.bw a0;have N:=h.n;unfold maxLen at N;by_cases c0:l<(g.size:Int)
 .have e:=zh (show r=-1 by rw[u.o,if_pos J]);have S:l-(g.size:Int)<0:=J
  delta qC;go_in
  go_wp2_with (rw[<-V.o])
  go_ret;exact⟨aJ e.symm,a0⟩
 .have S:¬l-(g.size:Int)<0:=J
  obtain⟨z0,a2⟩:∃z:Int,z=l-g.size:=⟨_,rfl⟩;have g0:0<=z0:=J
  have M:z0<=1048576:=J
  delta qC;go_in
  go_wp2_with (rw[<-V.o])
  rw[<-a2];have E:=zh a2;clear a2;have s:=zh λw=>iR ta tn tc z0 w g0 M h.t.2.1;by_cases k0:z0<((tn:Nat):Int)
  .rw[if_pos k0]at s;have e:=zh (show r=-1 by have k:=E.o;rw[u.o,if_pos J]);apply(s _).mono;rintro e t ⟨rfl,rfl⟩;go_wp2;go_ret;exact⟨aJ e.symm,a0⟩
  .rw[if_neg k0]at s;obtain⟨z1,b⟩:∃z:Int,z=z0-((tn:Nat):Int):=⟨_,rfl⟩;rw[<-b]at s;have g1:0<=z1:=J
   have U:z1<=1048576:=J
   have H:Zh (z1=l-g.size-((tn:Nat):Int)):=by have k:=E.o;show _=_;omega
   clear b;apply(s _).mono;rintro e t ⟨rfl,rfl⟩;go_wp2_with fail
   have f:=zh λw A=>aFx ba a bc bl z1 w A g1 U;unfold szR at f;by_cases X:z1<(((a+upS (λj=>(bl.getD j zB).2.1) a):Nat):Int)
   .rw[if_pos X]at f;have e:=zh (show r=-1 by have k:=H.o;rw[u.o,if_pos J]);apply(f _ y.b).mono;rintro e t ⟨rfl,rfl⟩;go_wp2;go_ret;exact⟨aJ e.symm,a0⟩
   .rw[if_neg X]at f;obtain⟨z2,b⟩:∃z:Int,z=z1-(((a+upS (λj=>(bl.getD j zB).2.1) a):Nat):Int):=⟨_,rfl⟩;rw[<-b]at f;have g2:0<=z2:=J
    have P:z2<=1048576:=J
    have C:Zh (z2=l-g.size-((tn:Nat):Int)-(((a+upS (λj=>(bl.getD j zB).2.1) a):Nat):Int)):=by have k:=H.o;show _=_;omega
    clear b;apply(f _ y.b).mono;rintro e t ⟨rfl,rfl⟩;go_wp2_with fail
    have p:=zh λw=>mL da dn dc z2 w g2 P h.d.2.1;by_cases Z:z2<((dn:Nat):Int)
    .rw[if_pos Z]at p;have e:=zh (show r=-1 by have k:=C.o;rw[u.o,if_pos J]);apply(p _).mono;rintro e t ⟨rfl,rfl⟩;go_wp2;go_ret;exact⟨aJ e.symm,a0⟩
    .rw[if_neg Z]at p;obtain⟨z3,b⟩:∃z:Int,z=z2-((dn:Nat):Int):=⟨_,rfl⟩;rw[<-b]at p;have g3:0<=z3:=J
     have O:z3<=1048576:=J
     have B:Zh (z3=l-g.size-((tn:Nat):Int)-(((a+upS (λj=>(bl.getD j zB).2.1) a):Nat):Int)-((dn:Nat):Int)):=by have k:=C.o;show _=_;omega
     clear b;apply(p _).mono;rintro e t ⟨rfl,rfl⟩;go_wp2_with fail
     have q:=zh λw=>iR ra rn rc z3 w g3 O h.r.2.1;by_cases Y:z3<((rn:Nat):Int)
     .rw[if_pos Y]at q;have e:=zh (show r=-1 by have k:=B.o;rw[u.o,if_pos J]);apply(q _).mono;rintro e t ⟨rfl,rfl⟩;go_wp2;go_ret;exact⟨aJ e.symm,a0⟩
     .rw[if_neg Y]at q;obtain⟨z4,b⟩:∃z:Int,z=z3-((rn:Nat):Int):=⟨_,rfl⟩;rw[<-b]at q;have g4:0<=z4:=J
      have I:z4<=1048576:=J
      have G:Zh (z4=l-g.size-((tn:Nat):Int)-(((a+upS (λj=>(bl.getD j zB).2.1) a):Nat):Int)-((dn:Nat):Int)-((rn:Nat):Int)):=by have k:=B.o;show _=_;omega
      clear b;apply(q _).mono;rintro e t ⟨rfl,rfl⟩;have:¬z4<0:=J
      go_wp2_with fail
      have i:=zh λw A=>aA1 ia im ic ss z4 w A g4 I;unfold szR at i;by_cases k4:z4<(((im+upS (λj=>(ss.getD j zS).size) im):Nat):Int)
      .rw[if_pos k4]at i;have e:=zh (show r=-1 by have k:=G.o;rw[u.o,if_pos J]);apply(i _ y.i).mono;rintro e t ⟨rfl,rfl⟩;go_wp2;go_ret;exact⟨aJ e.symm,a0⟩
      .rw[if_neg k4]at i;obtain⟨z5,b⟩:∃z:Int,z=z4-(((im+upS (λj=>(ss.getD j zS).size) im):Nat):Int):=⟨_,rfl⟩;rw[<-b]at i;have g5:0<=z5:=J
       have Q:z5<=1048576:=J
       have D:Zh (z5=l-g.size-((tn:Nat):Int)-(((a+upS (λj=>(bl.getD j zB).2.1) a):Nat):Int)-((dn:Nat):Int)-((rn:Nat):Int)-(((im+upS (λj=>(ss.getD j zS).size) im):Nat):Int)):=by have k:=G.o;show _=_;omega
       clear b;apply(i _ y.i).mono;rintro e t ⟨rfl,rfl⟩;have:¬z5<0:=J
       go_wp2_with fail
       have d:=zh λw A=>aA4 ea en ec es z5 w A g5 Q;unfold szR at d;by_cases k5:z5<(((en+upS (λj=>(es.getD j zE).1.size) en):Nat):Int)
       .rw[if_pos k5]at d;have e:=zh (show r=-1 by have k:=D.o;rw[u.o,if_pos J]);apply(d _ y.e).mono;rintro e t ⟨rfl,x⟩;go_wp2;go_ret;exact⟨aJ e.symm,yT a0 x⟩
       .rw[if_neg k5]at d;obtain⟨z6,b⟩:∃z:Int,z=z5-(((en+upS (λj=>(es.getD j zE).1.size) en):Nat):Int):=⟨_,rfl⟩;rw[<-b]at d;have:0<=z6:=J
        have:z6<=1048576:=J
        have K:Zh (z6=l-g.size-((tn:Nat):Int)-(((a+upS (λj=>(bl.getD j zB).2.1) a):Nat):Int)-((dn:Nat):Int)-((rn:Nat):Int)-(((im+upS (λj=>(ss.getD j zS).size) im):Nat):Int)-(((en+upS (λj=>(es.getD j zE).1.size) en):Nat):Int)):=by have k:=D.o;show _=_;omega
        clear b;apply(d _ y.e).mono;rintro e t ⟨rfl,x⟩;have:¬z6<0:=J
        have e:=zh (show r=z6 by have k:=K.o;rw[u.o,if_neg J];omega);go_wp2;go_ret;exact⟨aJ e.symm,yT a0 x⟩
def RowT (w:qw)(g:Nat)(zs:List ByteArray):Prop:=w.heap[g]?=some (.cells (zs.map$ Value.string).toArray 9 (0,0))
def RowT.cell {w:qw}(h:RowT w g zs)(i)(hi:i<zs.length):w.cell? (qR g i)=some (.string$ zs.getD i zS):=by
 rw[cell_of_row w g i _ _ _ h];simp[xB,hi]
def RowT.frozen {w:qw}(h:RowT w g zs)(i):w.frozen? (qR g i)=false:=frozen_of_row w g i _ _ h
def RowT.set {w:qw}(h:RowT w g zs)(i z):RowT (w.setCell (qR g i)$ .string z) g (zs.set i z):=by
 unfold RowT at *;rw[heap_setCell_same w g i _ _ _ h];simp[List.map_set]
theorem RowT.lt {w:qw}(h:RowT w g zs):g<w.heap.size:=by
 unfold RowT at h
 grind
def aQb:(Tryz.prog.info? 9).map (λi=>(i.zero,i.size,i.bytes))=some (some$ .string ⟨#[]⟩,1,16):=Je
def aW2 (n):(madeCells (Value.cells$ .string ⟨#[]⟩)$ n*1)=((List.replicate n zS).map$ Value.string).toArray:=by
 apply Array.ext
 .simp[size_madeCells]
 .intro i d e;simp[madeCells,Value.cells,Nat.mod_one,zS]
theorem qF {w:qw}(h:w.ownsRow base 9 1 (qS (qP g) n n) n (madeCells (Value.cells$ .string ⟨#[]⟩)$ n*1).toList):RowT w g (List.replicate n zS):=by
 obtain⟨s,h|⟨i,f,a,b,q,d,j,k,l,p⟩⟩:=h
 .grind
 .simp at b;obtain⟨rfl,rfl⟩:=b;unfold RowT;rw[d]
  have e:a.toList=(madeCells (Value.cells$ .string ⟨#[]⟩)$ n*1).toList:=by
   grind
  have e2:a=madeCells (Value.cells$ .string ⟨#[]⟩) (n*1):=Array.toList_inj.1 e;rw[e2,aW2]
def pJ (zs:List ByteArray)(k:Nat):List ByteArray:=(List.range zs.length).map λi=>if i<k then zs.getD i zS else zS
def aPr (a k):(pJ a k).length=a.length:=by simp[pJ]
def aMv (a):pJ a 0=List.replicate a.length zS:=by
 apply List.ext_getElem
 .simp[pJ]
 .intro i d e;simp[pJ]
def aPs (zs):pJ zs zs.length=zs:=by
 apply List.ext_getElem
 .simp[pJ]
 .intro i e d;simp[pJ,d]
theorem aPq (a k)(h:k<a.length):(pJ a k).set k (a.getD k zS)=pJ a (k+1):=by
 apply List.ext_getElem
 .simp[pJ]
 .intro i d e;simp only[pJ,List.getElem_set,List.getElem_map,List.getElem_range]
  grind
def aAu (a n A g w)(h:TS w a n A g)(hn:n<=1048576):
 qC 137 #[qS a n A] w λe w'=>e=.returned (qS (qP w.heap.size) n n)/\RowT w' w.heap.size g/\qY w w':=by
 let⟨M,hi,E,K,N⟩:=info_parts aQb;obtain⟨y,O,P,hc,_⟩:=h;by_cases s:n=0
 .subst s;obtain rfl:g=[]:=xE y
  delta qC;go_in
  go_wp2_with (at_make;refine wpList_make_full _ rfl _ _ 100 rfl (qs w) 9 M (.string ⟨#[]⟩) 1 Tryz.underlying100 hi E K .i64 .i64 _ _ 0 rfl rfl rfl rfl J Jf aQ ?_;intro C j l)
  have f:=qF j;have d:=bH l;go_loop [4] (λi=>i=qI 0) (λ_=>0)
  .rfl
  .obtain rfl:=hrel;go_wp2;go_ret;exact⟨rfl,f,d⟩
 .obtain⟨b,off,rfl,hd⟩:=hc s
  delta qC;go_in
  go_wp2_with (at_make;refine wpList_make_full _ rfl _ _ 100 rfl w.heap.size 9 M (.string ⟨#[]⟩) 1 Tryz.underlying100 hi E K .i64 .i64 _ _ n rfl rfl rfl rfl (by rw[N];omega) Jf aQ ?_;intro C j l)
  have f:=qF j;have d:=bH l;go_loopw [4] (λi wr=>∃k:Nat,k<=n/\i=qI k/\RowT wr (qs w) (pJ g k)/\qY w wr) (qf n)
  .exact⟨0,xC _,rfl,by rw[aMv,y];exact f,d⟩
  .obtain⟨k,H,rfl,p,t⟩:=hrel;by_cases q:k<n
   .have x:(k:Int)<(n:Int):=J
    have:qN wr b (off+k)=some (.string$ g.getD k zS):=(t.cell$ xD w _$ hd k q).trans$ hd k q;have:qn wr w k=some (.string$ (pJ g k).getD k zS):=p.cell k (by rw[aPr];omega);have:wr.frozen? (qh w k)=false:=p.frozen k;have u:=p.set k$ g.getD k zS;rw[aPq g k J]at u;have B:qY w (wr.setCell (qh w k)$ .string$ g.getD k zS):=t.setCell aQ _;have G:=u;have D:=B;generalize g.getD k zS=z at *;generalize (pJ g k).getD k zS=I at *;go_wp2
    go_roundw
    .exact⟨k+1,J,by go_num,G,D⟩
    .simp[qf,intOf];omega
   .have e:Zh (k=n):=by show k=n;omega
    go_wp2;go_ret;exact⟨rfl,by rw[e.o,<-y,aPs]at p;exact p,t⟩
def aAa (a g n q t ss w)(h:TS w a n q ss)(l:TS w g n t ss):
 qC 159 #[qS a n q,qS g n t] w (qB w$ .bool true):=by
 have j:=h.2.1;unfold maxLen at j
 delta qC;go_in
 go_wp2_with fail
 go_loopw [5] (λi wr=>∃k:Nat,k<=n/\i=qI k/\qY w wr) (qf n)
 .exact⟨0,xC _,rfl,brf⟩
 .obtain⟨k,p,rfl,e⟩:=hrel;by_cases d:k<n
  .have f:(k:Int)<(n:Int):=J
   obtain⟨b,off,rfl,y⟩:=(h.bw e).at k d;obtain⟨u,x,rfl,A⟩:=(l.bw e).at k d;generalize ss.getD k zS=s at *;go_wp2_with fail
   go_quiet (fail)
   go_wp2
   go_roundw
   .exact⟨k+1,J,by go_num,below_drewN e nq⟩
   .simp[qf,intOf];omega
  .go_wp2;go_ret;exact⟨rfl,e⟩
def RowB (w:qw)(g n:Nat)(gs:List Nat)(bl:List Bk):Prop:=
 (∃cur,Blk w g cur 25/\cur.size=n/\∀i,i<gs.length->cur[i]?=some (.slice (some$ qR (gs.getD i 0) 0) (bl.getD i zB).2.1 (bl.getD i zB).2.1))/\(∀i,i<gs.length->RowI w (gs.getD i 0) (bl.getD i zB).2.2.2/\g<gs.getD i 0)/\(∀i j,i<j->j<gs.length->gs.getD i 0<gs.getD j 0)
def RowB.bw {w w':qw}(h:RowB w g n gs bl)(d:qY w w'):RowB w' g n gs bl:=by
 obtain⟨⟨b,e,f,j⟩,a,k⟩:=h;exact⟨⟨b,e.bw d,f,j⟩,λi hi=>⟨(a i hi).1.bw d,(a i hi).2⟩,k⟩
theorem RowB.cell {w:qw}(h:RowB w g n gs bl)(k)(d:k<n):∃v,w.cell? (qR g k)=some v:=by
 obtain⟨⟨a,b,e,f⟩,i,j⟩:=h;refine⟨a[k],?_⟩;rw[b.cell]
 grind
def RowB.frozen {w:qw}(h:RowB w g n gs bl)(k):w.frozen? (qR g k)=false:=by
 obtain⟨⟨b,a,d,e⟩,f,i⟩:=h;exact a.frozen k
theorem rS (a x i)(h:i<a.length:=by omega):(a++[x]).getD i 0=a.getD i 0:=by grind
theorem aCu (a x):(a++[x]).getD a.length 0=x:=by grind
theorem RowB.push {w:qw}{x:Nat}(h:RowB w g n gs bl)(s:gs.length<n)(p:RowI w x (bl.getD gs.length zB).2.2.2)(hx:g<x)(hi:∀i,i<gs.length->gs.getD i 0<x):
 RowB (w.setCell (qR g gs.length)$ .slice (qP x) (bl.getD gs.length zB).2.1 (bl.getD gs.length zB).2.1) g n (gs++[x]) bl:=by
 obtain⟨⟨A,b,a,B⟩,C,u⟩:=h
 have k:∀y zs,RowI w y zs->g≠y->RowI (w.setCell (qR g gs.length)$ .slice (qP x) (bl.getD gs.length zB).2.1 (bl.getD gs.length zB).2.1) y zs:=λy zs q l=>by
  unfold RowI at *;rw[heap_setCell_other _ _ _ _ Jd];exact q
 refine⟨⟨_,b.set gs.length _,by simp[a],λi d=>?_⟩,λi d=>?_,λi j f t=>?_⟩
 .simp only[xI,List.length_cons,List.length_nil]at d;by_cases e:i=gs.length
  .subst e;rw[aCu];simp[a,s]
  .grind
 .simp only[xI,List.length_cons,List.length_nil]at d;by_cases e:i=gs.length
  .subst e;rw[aCu];exact⟨k _ _ p J,hx⟩
  .grind
 .simp only[xI,List.length_cons,List.length_nil]at t;by_cases e:j=gs.length
  .subst e
   grind
  .rw[rS _ _ _,rS _ _ _];exact u i j f J
def reb (gs:List Nat)(bl:List Bk):List Bk:=(List.range bl.length).map λi=>(some$ qR (gs.getD i 0) 0,(bl.getD i zB).2.1,(bl.getD i zB).2.1,(bl.getD i zB).2.2.2)
def qH (b a):(reb b a).length=a.length:=by simp[reb]
def jU (b a i)(hi:i<a.length:=by omega):(reb b a).getD i zB=(some$ qR (b.getD i 0) 0,(a.getD i zB).2.1,(a.getD i zB).2.1,(a.getD i zB).2.2.2):=by
 simp[reb,xB,hi]
theorem RowB.bks {w d:qw}(h:RowB w g n gs bl)(e:BKS d a n cap bl)(k:gs.length=n):BKS w (qP g) n n (reb gs bl):=by
 obtain⟨b,p,y,q,A⟩:=e;obtain⟨⟨D,u,E,G⟩,x,H⟩:=h;refine⟨by rw[qH,b],p,λ_=>⟨g,0,rfl,λi hi=>?_⟩,λi hi=>?_,aQ⟩
 .rw[jU _ _ _,Nat.zero_add,u.cell]
  grind
 .rw[jU _ _ _];let⟨s,c2,t,B,C⟩:=q i hi;have f:=(x i J).1;exact⟨s,c2,t,λ_=>⟨gs.getD i 0,0,rfl,λj l=>by rw[Nat.zero_add];exact f.cell j (by grind)⟩,aQ⟩
theorem aR0 (b a):(reb b a).all bko=a.all bko:=by
 have:∀i,i<a.length->bko ((reb b a).getD i zB)=bko (a.getD i zB):=λi hi=>by rw[jU _ _ _ hi];rfl
 cases h:a.all bko
 .have⟨x,hx,e⟩:=List.all_eq_false.1 h;obtain⟨i,hi,rfl⟩:=List.getElem_of_mem hx;exact aLr _ i (by rw[qH];exact hi) (by grind)
 .refine aH2 _ λj d=>?_;rw[qH]at d
  grind
def aRz (d tn b a bl):cdo tn b a (reb d bl)=cdo tn b a bl:=by unfold cdo;rw[aR0]
def aRx (g tn f a b)(h:a.length=f):pcn tn f (reb g a) b=pcn tn f a b:=by
 unfold pcn;split
 .rfl
 .split
  .rename_i d e;rw[jU _ _ _]
  .rfl
def aRy (d tn b a n es)(h:a.length=b):exo tn b (reb d a) n es=exo tn b a n es:=by
 unfold exo ex1;congr 2;funext i;rw[aRx _ _ _ _ _ h]
def aKu (k i tn j b a e d rn rz g ss f es)(h:a.length=b):
 mdo i tn j b (reb k a) e d rn rz g ss f es=mdo i tn j b a e d rn rz g ss f es:=by
 unfold mdo;rw[aRz,aRy _ _ _ _ _ _ h]
def aQd:(Tryz.prog.info? 25).map (λi=>(i.zero,i.size,i.bytes))=some (some$ qS none 0 0,1,24):=Je
theorem aD1 {w:qw}(h:w.ownsRow base 25 1 (qS (qP g) n n) n (madeCells (Value.cells$ qS none 0 0)$ n*1).toList):RowB w g n [] bl:=by
 obtain⟨u,h|⟨k,f,b,a,t,e,l,p,q,s⟩⟩:=h
 .grind
 .simp at a;obtain⟨rfl,rfl⟩:=a;exact⟨⟨b,e,by grind,λi hi=>by grind⟩,λi hi=>by grind,λi j _ d=>by grind⟩
def aFt (a n g bl w)(h:BKS w a n g bl)(hn:n<=1048576)(hs:∀i,i<n->(bl.getD i zB).2.1<=1048576):
 qC 136 #[qS a n g] w λe w'=>e=.returned (qS (qP w.heap.size) n n)/\(∃gs,gs.length=n/\RowB w' w.heap.size n gs bl)/\qY w w':=by
 let⟨i0,hi,a0,a1,a2⟩:=info_parts aQd
 delta qC;go_in
 go_wp2_with (at_make;refine wpList_make_full _ rfl _ _ 99 rfl w.heap.size 25 i0 (qS none 0 0) 1 Tryz.underlying99 hi a0 a1 .i64 .i64 _ _ n rfl rfl rfl rfl (by rw[a2];omega) Jf aQ ?_;intro N u B)
 have s:RowB N w.heap.size n [] bl:=aD1 u;have q:=bH B;go_loopw [4] (λi wr=>∃k:Nat,k<=n/\i=qI k/\(∃gs,gs.length=k/\RowB wr w.heap.size n gs bl)/\qY w wr) (qf n)
 .exact⟨0,xC _,rfl,⟨[],rfl,s⟩,q⟩
 .obtain⟨k,V,rfl,⟨gs,f,l⟩,D⟩:=hrel;by_cases d:k<n
  .have I:(k:Int)<(n:Int):=J
   obtain⟨b,off,rfl⟩:=h.addr J;have t:=h.bw D;have:=t.at k d;have C:=t.2.2.2.1 k d;have A:=hs k d;have S:=zh λw h=>lF (bl.getD k zB).1 (bl.getD k zB).2.1 (bl.getD k zB).2.2.1 (bl.getD k zB).2.2.2 w h A
   have M:=zh (λ(W:qw)(x:qY wr W)(O:RowI W wr.heap.size (bl.getD k zB).2.2.2)=>by
    have H:=RowB.push (l.bw x) J (by rw[f];exact O) (by obtain⟨⟨a3,P,_⟩,_⟩:=l;exact P.lt) λi hi=>(l.2.1 i hi).1.lt;rw[f]at H
    exact H)
   have K:=zb wr λW x=>xA ((l.bw x).cell k d)$ (l.bw x).frozen k;generalize (bl.getD k zB).1=X at *;generalize (bl.getD k zB).2.1=G at *;generalize (bl.getD k zB).2.2.1=U at *;generalize (bl.getD k zB).2.2.2=Y at *;go_wp2_with fail
   apply(S _ C).mono;rintro e Z ⟨rfl,y,j⟩;let⟨⟨v0,a5⟩,a4⟩:=K _ j;have Q:=zh$ M _ j y;have E:=zh$ (yT D j).setCell (p:=(qh w k)) aQ$ qS (qp wr) G G;go_wp2
   go_roundw
   .exact⟨k+1,J,by go_num,⟨gs++[wr.heap.size],by simp[f],Q.o⟩,E.o⟩
   .simp[qf,intOf];omega
  .have e:Zh (k=n):=by show k=n;omega
   go_wp2;go_ret;exact⟨rfl,⟨gs,by rw[f,e.o],l⟩,D⟩
def aE8 (a H n N O g D w)(h:BKS w a n N g)(p:BKS w H n O D)(hz:∀i,i<n->(D.getD i zB).2.1=(g.getD i zB).2.1/\(D.getD i zB).2.2.2=(g.getD i zB).2.2.2):
 qC 158 #[qS a n N,qS H n O] w (qB w$ .bool true):=by
 have q:=h.2.1;unfold maxLen at q
 delta qC;go_in
 go_wp2;go_loopw [5] (λi wr=>∃k:Nat,k<=n/\i=qI k/\qY w wr) (qf n)
 .exact⟨0,xC _,rfl,brf⟩
 .obtain⟨k,K,rfl,j⟩:=hrel;by_cases d:k<n
  .have C:(k:Int)<(n:Int):=J
   obtain⟨b,off,rfl⟩:=h.addr J;obtain⟨S,U,rfl⟩:=p.addr J;have G:=(h.bw j).at k d;have y:=(p.bw j).at k d;have I:=(h.bw j).2.2.2.1 k d;have t:=(p.bw j).2.2.2.1 k d;let⟨Q,V⟩:=hz k d;rw[Q,V]at t;rw[Q]at y;generalize (g.getD k zB).1=u at *;generalize (g.getD k zB).2.1=l at *;generalize (g.getD k zB).2.2.1=s at *;generalize (g.getD k zB).2.2.2=x at *;generalize (D.getD k zB).1=A at *;generalize (D.getD k zB).2.2.1=E at *;have B:=zh λw h k=>lZ u A l s l E x x w h k;rw[xR rfl]at B;go_wp2
   go_region_held3 (λP=>qN P b (off+k)=qk u l s/\qN P S (U+k)=qk A l E) (go_keep)
    (first
      | (go_at_call 94;refine(B _ (by exact I) (by exact t)).mono ?_;rintro e M ⟨rfl,f⟩;replace f:=aU f;obtain⟨W,X⟩:=aQ5 f;have:=xD _ _ G;have:=xD _ _ y))
   go_wp2
   go_roundw
   .exact⟨k+1,J,by go_num,yT j f⟩
   .simp[qf,intOf];omega
  .go_wp2;go_ret;exact⟨rfl,j⟩
