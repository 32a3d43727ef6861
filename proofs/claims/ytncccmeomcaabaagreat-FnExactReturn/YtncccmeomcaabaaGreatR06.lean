import Derived.Test.YtncccmeomcaabaaGreatR03
import Derived.Test.YtncccmeomcaabaaGreatR05
set_option linter.all false
set_option maxHeartbeats 4000000
namespace Go.Proofs.YtncccmeomcaabaaGreat
open Go.RowKit Go.Maps
open Go.Proofs.Tryz
set_option maxRecDepth 100000
variable {S:Nat->Prop}{a:qO}{base base' c cap g k n sz:Nat}{bl:List Bk}{cs:Array Value}{row:Option Nat}{v:Value}
theorem aKw (es:List Ex)(n:Nat):(List.range n).all (exn es)=decide (size (fd (fL es) n)=n):=by
 rw [aAy];congr 1;funext i;unfold exn fL;congr 1;funext j;rw [ByteArray.toList_eq,ByteArray.toList_eq]
theorem aKv (tn bn:Nat)(bl:List Bk)(n:Nat)(es:List Ex)(h:∀ j,j<n->ex1 tn bn bl (es.getD j zE)=true):(List.range n).all (fun i=>ex1 tn bn bl (es.getD i zE)&&exn es i)=decide (size (fd (fL es) n)=n):=by
 rw [<- aKw,xJ,List.all_eq_true,List.all_eq_true];constructor
 .intro H i hi;have:=H i hi;simp only [Bool.and_eq_true] at this;exact this.2
 .intro H i hi;rw [h i (by simpa using hi),H i hi];rfl
theorem vS (nm:ByteArray)(ta:qO)(tn tc:Nat)(ba:qO)(bn bc:Nat)(bl:List Bk)(v3 v5 v6:Value)(bss:Int)(ea:qO)(n ec:Nat)(es:List Ex)(w:qw)(htn:tn<=maxLen)(hb:BKS w ba bn bc bl)(h:ES w ea n ec es):
 qC 230 #[.agg #[.string nm,qS ta tn tc,qS ba bn bc,v3,qI bss,v5,v6,qS ea n ec]] w (qB w (.bool (exo tn bn bl n es))):=by
 obtain ⟨W,hW,hB0,kb⟩:=nwb w #[.string nm,qS ta tn tc,qS ba bn bc,v3,qI bss,v5,v6,qS ea n ec] 138;obtain ⟨q0,q1,q2,q3,q4,q5,q6,q7⟩:=kb.eight;obtain ⟨r,hr⟩:=eqx (exo tn bn bl n es);rw [<- hr];unfold exo at hr;have hm1:=h.2.1;unfold maxLen at hm1;have HW:=zh hW;clear hW;by_cases c1:16<n
 .have HR:=zh (show r=false by rw [hr,xS (by omega)];rfl);clear hr;have c1':(16:Int)<(n:Int):=by omega
  go_enter func230,ntmps230
  go_wp2_with (rw [<- HW.o])
  go_ret;exact ⟨aA HR.o.symm,hB0⟩
 .have c1':¬ (16:Int)<(n:Int):=by omega
  have HR:=zh (show r=(List.range n).all (fun i=>ex1 tn bn bl (es.getD i zE)&&exn es i) by rw [hr,xR (by omega)];rfl);clear hr;go_enter func230,ntmps230
  go_wp2_with (rw [<- HW.o])
  clear q0 q1 q2 q3 q4 q5 q6 q7;go_loopw [14] (fun i wr=>∃ k:Nat,k<=n/\i=qI k/\Hid (∀ j,j<k->ex1 tn bn bl (es.getD j zE)=true)/\qY w wr/\Blk wr w.heap.size #[.string nm,qS ta tn tc,qS ba bn bc,v3,qI bss,v5,v6,qS ea n ec] 138) (qf n)
  .exact ⟨0,xC _,rfl,zh (fun j hj=>by omega),hB0,kb⟩
  .obtain ⟨k,hk,rfl,HJ,hB,kw⟩:=hrel;clear kb hB0;obtain ⟨q0,q1,q2,q3,q4,q5,q6,q7⟩:=kw.eight;by_cases hlt:k<n
   .have hlt':(k:Int)<(n:Int):=by omega
    obtain ⟨bb,off,rfl⟩:=h.addr (by omega);obtain ⟨y1,y2,y3⟩:=(h.bw hB).at k hlt;have HZ:=zh (fR (fun i=>ex1 tn bn bl (es.getD i zE)&&exn es i) n k hlt)
    have HG:=zh (show ex1 tn bn bl (es.getD k zE)=true->∀ j,j<k+1->ex1 tn bn bl (es.getD j zE)=true from fun h j hj=>by
     by_cases e:j=k
     .subst e;exact h
     .exact HJ.out j (by omega))
    have HN:=zh (fun w=>jB (es.getD k zE).1 w (h.size k));generalize es.getD k zE=E at *;obtain ⟨en,eb,ei⟩:=E;dsimp only at y1 y2 y3 HN;have lkw:=kw.lt;have hb1:=hb.bw (hB.alloc hB.size (.cells #[.string en,qI eb,qI ei] 163));have HP:=zh (fun w h=>gQ nm ta tn tc ba bn bc bl v3 v5 v6 (qS (some (qR bb off)) n ec) bss eb w htn h);have kE:=Blk.new wr #[.string en,qI eb,qI ei] 163;have hA:qY wr (wr.alloc (.cells #[.string en,qI eb,qI ei] 163)):=bal;go_wp2_with fail
    refine (HP.o _ hb1).mono ?_;rintro e w1 ⟨pa,pn,px,ok,rfl,hok,hpn,hpm,hbp⟩;have kE1:=kE.bw hbp;have kw1:=(kw.bw hA).bw hbp;have hB1:=(hB.trans (hA.mono hB.size)).trans (hbp.mono (by have:=hB.size;simp;omega));clear kE kw hA hbp hb1 HP q0 q1 q2 q3 q4 q5 q6 q7 y1 y2 y3 hB;unfold maxLen at hpm;have HOK:=zh (xA hok hpn);clear hok hpn;obtain ⟨z1,z2,z3,z4⟩:=kE1.three;have HEX:Zh (ex1 tn bn bl (en,eb,ei)=(nmo en&&decide (0<=ei/\ei<pcn tn bn bl eb))):=rfl;have HU:=zh (fun w=>cX ei ((pn:Int)-1) w);cases hn:nmo en
    .rw [hn] at HN;go_wp2_with (go_at_call 173;refine (HN.o _).mono ?_;rintro e w2 ⟨rfl,rfl⟩)
     go_ret;exact ⟨aA (by rw [HR.o];exact (HZ.o (by rw [HEX.o,hn];rfl)).symm),hB1⟩
    .rw [hn] at HN;cases ok
     .have hp:¬ 0<=pcn tn bn bl eb:=by have:=HOK.o.1;simpa using this.symm
      go_wp2_with (go_at_call 173;refine (HN.o _).mono ?_;rintro e w2 ⟨rfl,rfl⟩)
      go_ret;exact ⟨aA (by rw [HR.o];exact (HZ.o (by rw [HEX.o,xS (by omega)];simp)).symm),hB1⟩
     .have hp:(pn:Int)=pcn tn bn bl eb:=HOK.o.2 rfl;have HPP:=zh hp;clear hp;by_cases d1:0<=ei/\ei<=(pn:Int)-1
      .have HE1:=zh (show ex1 tn bn bl (en,eb,ei)=true by rw [HEX.o,hn,<- HPP.o,xR (by omega)];rfl);rw [xR d1] at HU;go_wp2_with (first|(go_at_call 173;refine (HN.o _).mono ?_;rintro e w2 ⟨rfl,rfl⟩)|(go_at_call 155;refine (HU.o _).mono ?_;rintro e w2 ⟨rfl,rfl⟩))
       go_roundw
       .exact ⟨k+1,by omega,by go_num,zh (HG.o HE1.o),hB1,kw1⟩
       .simp [qf,intOf];omega
      .rw [xS d1] at HU;have HE1:=zh (show ex1 tn bn bl (en,eb,ei)=false by rw [HEX.o,hn,<- HPP.o,xS (by omega)];rfl);go_wp2_with (first|(go_at_call 173;refine (HN.o _).mono ?_;rintro e w2 ⟨rfl,rfl⟩)|(go_at_call 155;refine (HU.o _).mono ?_;rintro e w2 ⟨rfl,rfl⟩))
       go_ret;exact ⟨aA (by rw [HR.o];exact (HZ.o (by rw [HE1.o];rfl)).symm),hB1⟩
   .have e:k=n:=by omega
    subst e;have HE:=zh (aKv tn bn bl k es (fun j hj=>HJ.out j hj));have h':=h.bw hB;have HF:=zh (fun w h=>nE ea k ec es w h (by omega));obtain ⟨S,hS⟩:=eqx (size (fd (fL es) k));have HS:=zh hS;clear hS;go_wp2_with fail
    go_region_with (first
     | (go_at_call 124;refine (HF.o _ (by exact h')).mono ?_;rintro e w1 ⟨rfl,hown,hb1⟩;have hl:∀ ty,(Builtin.len_ #[176] ty #[.map (some wr.heap.size)]).run prog w1=.ok (qI (S:Int)) w1:=(by intro ty;rw [HS.o];exact hown.len underlying176 ty);replace hb1:=dF hb1;obtain ⟨q0,q1,q2,q3,q4,q5,q6,q7⟩:=(kw.bw hb1).eight;clear hown))
    all_goals
     have HB1:=zh (hB.trans (hb1.mono hB.size));go_wp2;go_ret;exact ⟨aA (by rw [HR.o,HE.o,<- HS.o];first|rfl|(rw [xJ];simp;omega)),HB1.o⟩
theorem aC (w:qw)(g i:Nat)(v:Value):Turn (fun j=>j=g) w (w.setCell (qR g i) v):=⟨rfl,rfl,rfl,by rw [aL];exact aN,fun k _ hk=>heap_setCell_other _ _ _ _ hk⟩
def OG {α:Type}(t:TypeId)(sz:Nat)(f:α->List Value)(w:qw)(base:Nat)(v:Value)(xs:List α):Prop:=w.ownsRow base t sz v xs.length (xs.flatMap f)
theorem OG.bw {α:Type}{t:TypeId}{f:α->List Value}{w w':qw}{xs:List α}(h:OG t sz f w base v xs)(hb:qY w w'):OG t sz f w' base v xs:=by
 obtain ⟨hl,h0|⟨g,cap,cur,hv,hg,hh,h1,h2,h3,h4⟩⟩:=h
 .exact ⟨hl,.inl h0⟩
 .exact ⟨hl,.inr ⟨g,cap,cur,hv,hg,Blk.bw (w:=w) hh hb,h1,h2,h3,h4⟩⟩
theorem OG.mono {α:Type}{t:TypeId}{f:α->List Value}{w:qw}{xs:List α}(h:OG t sz f w base v xs)(hb:base'<=base):OG t sz f w base' v xs:=by
 obtain ⟨hl,h0|⟨g,cap,cur,hv,hg,hh,h1,h2,h3,h4⟩⟩:=h
 .exact ⟨hl,.inl h0⟩
 .exact ⟨hl,.inr ⟨g,cap,cur,hv,by omega,hh,h1,h2,h3,h4⟩⟩
theorem OG.turn {α:Type}{t:TypeId}{f:α->List Value}{w w':qw}{xs:List α}(h:OG t sz f w base v xs)(ht:Turn S w w')(hS:∀ k,S k->¬ base<=k):OG t sz f w' base v xs:=by
 obtain ⟨hl,h0|⟨g,cap,cur,hv,hg,hh,h1,h2,h3,h4⟩⟩:=h
 .exact ⟨hl,.inl h0⟩
 .exact ⟨hl,.inr ⟨g,cap,cur,hv,hg,aF (w:=w) ht hh (fun s=>hS g s hg),h1,h2,h3,h4⟩⟩
theorem OG.lt {α:Type}{t:TypeId}{f:α->List Value}{w:qw}{xs:List α}(h:OG t sz f w base v xs):∀ k,v.ownBlock=some k->base<=k/\k<w.heap.size:=World.ownsRow.lt h
theorem fI {α:Type}(t:TypeId)(sz:Nat)(f:α->List Value)(w:qw)(base:Nat):OG t sz f w base (qS none 0 0) []:=⟨by simp,.inl ⟨rfl,rfl⟩⟩
theorem aS {α:Type}{t:TypeId}{f:α->List Value}{w:qw}{xs:List α}(h:OG t sz f w base v xs):∃ a c,v=qS a xs.length c:=by
 obtain ⟨hl,⟨h0,h1⟩|⟨g,cap,cur,hv,_⟩⟩:=h
 .exact ⟨none,0,by rw [h0,h1]⟩
 .exact ⟨_,_,hv⟩
theorem rC {w W W':qw}(h:Turn S w W)(hg:W.grownBy W' row)(hr:∀ k,row=some k->w.heap.size<=k):Turn S w W':=
 ⟨hg.os.trans h.os,hg.tape.trans h.tape,hg.output.trans h.output,xM h.size hg.size,fun k hk hs=>(hg.block k (Nat.lt_of_lt_of_le hk h.size) (fun e=>by have:=hr k e.symm;omega)).trans (h.block k hk hs)⟩
theorem bS (w:qw)(cs:Array Value)(t:TypeId)(xs:List Value)(h:cs=xs.toArray):∀ j u,xs[j]?=some u->(w.alloc (.cells cs t)).cell? (((qR w.heap.size 0):Addr).add j)=some u:=by
 intro j u hj;subst h;rw [bN,Nat.zero_add,Blk.cell (Blk.new w _ _)];simpa using hj
def clI (x:Int):List Value:=[qI x]
def clT (x:ByteArray):List Value:=[.string x]
def clX (x:Ex):List Value:=[.string x.1,qI x.2.1,qI x.2.2]
theorem gY {w W:qw}(h:Turn S w W)(hk:w.heap.size<=k)(i:Nat)(v:Value):Turn S w (W.setCell (qR k i) v):=
 ⟨h.os,h.tape,h.output,by rw [aL];exact h.size,fun j hj hs=>by rw [heap_setCell_other _ _ _ _ (by show j≠k;omega)];exact h.block j hj hs⟩
structure OBk (w:qw)(base:Nat)(v:Value)(bl:List Bk):Prop where
 head:w.ownsRow base 25 1 v bl.length (bl.map fun B=>qS B.1 B.2.1 B.2.2.1)
 rows:∀ B∈bl,B.2.1=B.2.2.2.length/\OG 3 1 clI w base (qS B.1 B.2.1 B.2.2.1) B.2.2.2
 apart:bl.Pairwise fun A B=>∀ k,(qS A.1 A.2.1 A.2.2.1).ownBlock=some k->(qS B.1 B.2.1 B.2.2.1).ownBlock≠some k
theorem aD {w:qw}{t:TypeId}{xs:List Value}(h:w.ownsRow base t sz v n xs)(hk:v.ownBlock=some k):∃ cur,Blk w k cur t:=by
 obtain ⟨hl,⟨h0,_⟩|⟨g,cap,cur,hv,_,hh,_⟩⟩:=h
 .subst h0;simp [Value.ownBlock] at hk
 .subst hv;simp [Value.ownBlock] at hk;subst hk;exact ⟨cur,hh⟩
theorem aI {w:qw}{cs':Array Value}{t t':TypeId}(h:Blk w k cs t)(h':Blk w k cs' t'):t=t':=by
 unfold Blk at h h';rw [h] at h';simp at h';exact h'.2
theorem OG.grown {α:Type}{t:TypeId}{f:α->List Value}{w w':qw}{xs:List α}(h:OG t sz f w base v xs)(hg:w.grownBy w' row)(hk:v.ownBlock=none\/v.ownBlock≠row):OG t sz f w' base v xs:=World.ownsRow.kept h hg hk
theorem OBk.turn {w w':qw}(h:OBk w base v bl)(ht:Turn S w w')(hS:∀ k,S k->¬ base<=k):OBk w' base v bl:=by
 refine ⟨?_,fun B hB=>⟨(h.rows B hB).1,(h.rows B hB).2.turn ht hS⟩,h.apart⟩;obtain ⟨hl,h0|⟨g,cap,cur,hv,hg,hh,h1,h2,h3,h4⟩⟩:=h.head
 .exact ⟨hl,.inl h0⟩
 .exact ⟨hl,.inr ⟨g,cap,cur,hv,hg,aF (w:=w) ht hh (fun s=>hS g s hg),h1,h2,h3,h4⟩⟩
theorem OBk.lt {w:qw}(h:OBk w base v bl):∀ k,v.ownBlock=some k->base<=k/\k<w.heap.size:=h.head.lt
theorem aHm {w:qw}(h:OBk w base v bl):∃ a c,v=qS a bl.length c:=by
 obtain ⟨hl,⟨h0,h1⟩|⟨g,cap,cur,hv,_⟩⟩:=h.head
 .exact ⟨none,0,by rw [h0,h1]⟩
 .exact ⟨_,_,hv⟩
theorem OBk.push {W W':qw}{lo:Nat}{v':Value}{A:qO}{C:Nat}{x:qi}(h:OBk W base (qS a k c) bl)(hl:bl.length=k)(hx:OG 3 1 clI W lo (qS A x.length C) x)(hb:base<=lo)(hlo:∀ B∈bl,∀ j,(qS B.1 B.2.1 B.2.2.1).ownBlock=some j->j<lo)
 (hown:W'.ownsRow base 25 1 v' (k+1) (bl.map (fun B=>qS B.1 B.2.1 B.2.2.1)++[qS A x.length C])) (hg:W.grownBy W' (qS a k c).ownBlock):OBk W' base v' (bl++[(A,x.length,C,x)]):=by
 have hne:∀ (v:Value) (xs:qi) (lo:Nat),OG 3 1 clI W lo v xs->v.ownBlock=none\/v.ownBlock≠(qS a k c).ownBlock:=fun v xs lo ho=>by
  cases e:v.ownBlock with
  | none=>exact .inl rfl
  | some j=>
    refine .inr (fun e'=>?_);obtain ⟨c1,k1⟩:=aD ho e;obtain ⟨c2,k2⟩:=aD h.head e'.symm;exact absurd (aI k1 k2) (by decide)
 refine ⟨?_,?_,?_⟩
 .rw [xI,hl,List.map_append];exact hown
 .intro B hB;rcases List.mem_append.1 hB with hB|hB
  .exact ⟨(h.rows B hB).1,(h.rows B hB).2.grown hg (hne _ _ _ (h.rows B hB).2)⟩
  .simp at hB;subst hB;exact ⟨rfl,(hx.grown hg (hne _ _ _ hx)).mono hb⟩
 .rw [List.pairwise_append];refine ⟨h.apart,by simp,fun B hB X hX j hj e=>?_⟩;simp at hX;subst hX;have h1:=hlo B hB j hj;have h2:=(hx.lt j e).1;omega
theorem OBk.mono {w:qw}(h:OBk w base v bl)(hb:base'<=base):OBk w base' v bl:=by
 refine ⟨?_,fun B hB=>⟨(h.rows B hB).1,(h.rows B hB).2.mono hb⟩,h.apart⟩;obtain ⟨hl,h0|⟨g,cap,cur,hv,hg,hh,h1,h2,h3,h4⟩⟩:=h.head
 .exact ⟨hl,.inl h0⟩
 .exact ⟨hl,.inr ⟨g,cap,cur,hv,by omega,hh,h1,h2,h3,h4⟩⟩
theorem cY {α:Type}(f:α->Value):∀ xs:List α,xs.flatMap (fun x=>[f x])=xs.map f
 | []=>rfl
 | x::xs=>by rw [xT,cY f xs];rfl
theorem aC2 (xs:qi):xs.flatMap clI=xs.map (Value.int .i64):=cY _ xs
theorem tQ (xs:List ByteArray):xs.flatMap clT=xs.map Value.string:=cY _ xs
theorem tP:∀ (xs:List Ex) (i:Nat),i<xs.length->(xs.flatMap clX)[i*3]?=some (.string (xs.getD i zE).1)/\(xs.flatMap clX)[i*3+1]?=some (qI (xs.getD i zE).2.1)/\(xs.flatMap clX)[i*3+2]?=some (qI (xs.getD i zE).2.2)
 | [],i,h=>by simp at h
 | x::xs,0,h=>⟨rfl,rfl,rfl⟩
 | x::xs,i+1,h=>by
   have ih:=tP xs i (by simpa using h)
   have e:∀ d,((x::xs).flatMap clX)[(i+1)*3+d]?=(xs.flatMap clX)[i*3+d]?:=fun d=>by
    rw [xT,List.getElem?_append_right (by simp [clX];omega)];congr 1;simp [clX];omega
   have e0:=e 0;simp only [Nat.add_zero] at e0;refine ⟨e0.trans ih.1,(e 1).trans ih.2.1,(e 2).trans ih.2.2⟩
theorem aQ {α:Type}{t:TypeId}{f:α->List Value}{w:qw}{xs:List α}(h:OG t sz f w base (qS a n c) xs):xs.length=n/\n<=maxLen/\n<=c/\(n≠0->∃ g,a=some (qR g 0)/\∀ j u,(xs.flatMap f)[j]?=some u->w.cell? (qR g j)=some u):=by
 have hc:=fun g hg=>World.ownsRow.cells h (g:=g) hg;obtain ⟨hl,⟨h0,h1⟩|⟨g,cap,cur,hv,hg,hh,h1,h2,h3,h4⟩⟩:=h
 .simp at h0;obtain ⟨rfl,rfl,rfl⟩:=h0;exact ⟨h1,xC _,aN,fun hn=>absurd rfl hn⟩
 .simp at hv;obtain ⟨rfl,rfl,rfl⟩:=hv;refine ⟨rfl,by omega,h1,fun hn=>⟨g,rfl,fun j u hj=>?_⟩⟩;have:=hc g rfl j u hj
  rwa [bN,Nat.zero_add] at this
theorem aCc {w:qw}{xs:qi}(h:OG 3 1 clI w base (qS a n c) xs)(hx:∀ z∈xs,wfi z):IS w a n c xs:=by
 obtain ⟨h1,h2,h3,h4⟩:=aQ h;refine ⟨h1,h2,hx,fun hn=>?_,h3⟩;obtain ⟨g,rfl,hc⟩:=h4 hn;refine ⟨g,0,rfl,fun i hi=>?_⟩;rw [Nat.zero_add];refine hc i _ ?_;rw [aC2];simp [xB,show i<xs.length by omega]
theorem aPh {w:qw}{xs:List ByteArray}(h:OG 9 1 clT w base (qS a n c) xs)(hx:∀ s∈xs,s.size<=1048576):SS w a n c xs:=by
 obtain ⟨h1,h2,h3,h4⟩:=aQ h;refine ⟨h1,h2,hx,fun hn=>?_,h3⟩;obtain ⟨g,rfl,hc⟩:=h4 hn;refine ⟨g,0,rfl,fun i hi=>?_⟩;rw [Nat.zero_add];refine hc i _ ?_;rw [tQ];simp [xB,show i<xs.length by omega]
theorem aPi {w:qw}{xs:List Ex}(h:OG 163 3 clX w base (qS a n c) xs)(hx:∀ s∈xs,s.1.size<=1048576):ES w a n c xs:=by
 obtain ⟨h1,h2,h3,h4⟩:=aQ h;refine ⟨h1,h2,hx,fun hn=>?_,h3⟩;obtain ⟨g,rfl,hc⟩:=h4 hn;refine ⟨g,0,rfl,fun i hi=>?_⟩;rw [Nat.zero_add];obtain ⟨f0,f1,f2⟩:=tP xs i (by omega);exact ⟨hc _ _ f0,hc _ _ f1,hc _ _ f2⟩
theorem aMf {w:qw}(h:OBk w base (qS a n c) bl)(hx:∀ B∈bl,∀ z∈B.2.2.2,wfi z):BKS w a n c bl:=by
 have hh:OG 25 1 (fun B:Bk=>[qS B.1 B.2.1 B.2.2.1]) w base (qS a n c) bl:=by unfold OG;rw [cY];exact h.head
 obtain ⟨h1,h2,h3,h4⟩:=aQ hh;refine ⟨h1,h2,fun hn=>?_,fun i hi=>?_,h3⟩
 .obtain ⟨g,rfl,hc⟩:=h4 hn;refine ⟨g,0,rfl,fun i hi=>?_⟩;rw [Nat.zero_add];refine hc i _ ?_;rw [cY];simp [xB,show i<bl.length by omega]
 .have hm:bl.getD i zB∈bl:=by simp [xB,show i<bl.length by omega]
  obtain ⟨e,o⟩:=h.rows _ hm;exact aCc o (hx _ hm)
theorem OG.kept {α:Type}{t:TypeId}{f:α->List Value}{w w':qw}{xs:List α}(h:OG t sz f w base v xs)(ht:Turn S w w')(hk:∀ k,v.ownBlock=some k->¬ S k):OG t sz f w' base v xs:=by
 obtain ⟨hl,h0|⟨g,cap,cur,hv,hg,hh,h1,h2,h3,h4⟩⟩:=h
 .exact ⟨hl,.inl h0⟩
 .exact ⟨hl,.inr ⟨g,cap,cur,hv,hg,aF (w:=w) ht hh (hk g (by rw [hv];rfl)),h1,h2,h3,h4⟩⟩
theorem fS {α:Type}{t:TypeId}{f:α->List Value}{w:qw}{xs:List α}(h:OG t sz f w base (qS a n c) xs)(hn:n≠0):∃ g,a=some (qR g 0):=by
 obtain ⟨_,_,_,h4⟩:=aQ h;obtain ⟨g,hg,_⟩:=h4 hn;exact ⟨g,hg⟩
theorem aCd {w:qw}{zs:qi}(h:OB w base (qS a n cap) zs)(hn:n≠0:=by omega):∃ g,a=some (qR g 0):=by
 obtain ⟨hl,⟨h0',_⟩|⟨g,cap',cur,hv,_⟩⟩:=h.1
 .simp at h0';exact absurd h0'.2.1 hn
 .simp at hv;exact ⟨g,hv.1⟩
theorem sG {w:qw}{m:Nat}{zs:qi}(h:OB w base (qS (qP g) n cap) zs)(hm:m<=n:=by omega):Room w g m:=by
 obtain ⟨cur,hb,hn⟩:=mV h;exact ⟨cur,hb,by omega⟩
def aO6 (w:qw)(g o:Nat)(cs:Array Value)(t:TypeId)(base:Nat)(v1 v2 v3:Value)(r:List Int×List Int×List Int×Int)(e:Ending)(w':qw):Prop:=
 ∃ a3 m3 d3,e=.returned (qI r.2.2.2)/\Blk w' g (cs.setIfInBounds (o+2) (qS a3 m3 d3)) t/\gL w' base v1 v2 (qS a3 m3 d3) r.1 r.2.1 r.2.2.1/\(qS a3 m3 d3).ownBlock≠some g/\Turn (fun j=>j=g\/v2.ownBlock=some j\/v3.ownBlock=some j) w w'
theorem aIw {i:Nat}(h:cs[i]?=some v):cs.setIfInBounds i v=cs:=by
 apply Array.ext_getElem?;intro j;rw [Array.getElem?_setIfInBounds];split
 .next e=>
  subst e;split
  .exact h.symm
  .next hl=>rw [Array.getElem?_eq_none (by omega)] at h;cases h
 .rfl
theorem aL5 {W W':qw}{gg:Nat}{v1 v3:Value}{x1 x2 y2 x3:qi}(h3:gL W base v1 (qS (qP g) n cap) v3 x1 x2 x3)
 (ho:fF g W W') (hy:OB W' base (qS (qP g) n cap) y2):gL W' base v1 (qS (qP g) n cap) v3 x1 y2 x3/\Turn (fun j=>j=gg\/(qS (qP g) n cap).ownBlock=some j\/v3.ownBlock=some j) W W':=by
 refine ⟨⟨?_,hy,?_,h3.2.2.2⟩,?_⟩
 .exact qH ho h3.1 (fun e=>Nat.lt_irrefl _ (h3.2.2.2.1 g g e rfl))
 .exact qH ho h3.2.2.1 (fun e=>Nat.lt_irrefl _ (h3.2.2.2.2.2 g g rfl e))
 .obtain ⟨e1,e2,e3,e4,e5⟩:=ho;refine ⟨by assumption,by assumption,by assumption,by omega,fun k hk hn=>e2 k (fun e=>hn (Or.inr (Or.inl (by rw [e];rfl))))⟩
theorem sC {a b c:qw}(h:fF g a b)(k:fF g b c):fF g a c:=⟨k.1.trans h.1,fun j hj=>(k.2.1 j hj).trans (h.2.1 j hj),k.2.2.1.trans h.2.2.1,k.2.2.2.1.trans h.2.2.2.1,k.2.2.2.2.trans h.2.2.2.2⟩
theorem sB {w w':qw}(h:fF g w w'):Turn (fun j=>j=g) w w':=⟨h.2.2.1,h.2.2.2.1,h.2.2.2.2,by rw [h.1];exact aN,fun k hk hn=>h.2.1 k hn⟩
def bL (zs:qi)(k:Nat)(ws:qi):Nat->List Int
 | 0=>zs
 | i+1=>put (bL zs k ws i) (k+4*i) (ws.getD i 0) 4
theorem eX (zs:qi)(k:Nat)(ws:qi):∀ i,(bL zs k ws i).length=zs.length
 | 0=>rfl
 | i+1=>by rw [bL,pZ,eX zs k ws i]
theorem mG (g n cap k:Nat)(a:qO)(wn wc:Nat)(ws zs:qi)(base:Nat)(w0 w:qw)(h0:IS w0 a wn wc ws)(hb:qY w0 w)(hg:w0.heap.size<=g)(ho:OB w base (qS (qP g) n cap) zs)(hn:n<=16384)(hk:k+4*wn<=n)(hw:∀ i,i<wn->0<=ws.getD i 0/\ws.getD i 0<=4294967295):
 qC 144 #[qS (qP g) n cap,qI k,qS a wn wc] w fun e w'=>e=.returned (.tuple #[])/\OB w' base (qS (qP g) n cap) (bL zs k ws wn)/\fF g w w':=by
 have HO:=zh ho;have HB:=zh hb;clear ho hb;go_enter func144,ntmps144
 go_wp2;go_loopw [6] (fun i wr=>∃ m:Nat,m<=wn/\i=qI m/\OB wr base (qS (qP g) n cap) (bL zs k ws m)/\fF g w wr) (qf wn)
 .exact ⟨0,xC _,rfl,HO.o,iD _ _⟩
 .obtain ⟨m,hm,rfl,O,T⟩:=hrel;by_cases hlt:m<wn
  .have hlt':(m:Int)<(wn:Int):=by omega
   obtain ⟨b,off,rfl,hc⟩:=(h0.bw (cW HB.o T hg)).2.2.2.1 (by omega);have q:=hc m hlt;obtain ⟨v0,v1⟩:=hw m hlt;have HP:=zh (wS g n cap (k+4*m) 4 (ws.getD m 0) wr (mV O) hn (by omega) (by omega) (by omega) v0 v1);have HX:=zh (xA (aD0 O (k+4*m) (ws.getD m 0) 4 (by omega)) (sC T (sD g (k+4*m) (ws.getD m 0) wr 4)));have HE:Zh (bL zs k ws (m+1)=put (bL zs k ws m) (k+4*m) (ws.getD m 0) 4):=rfl;have hkm:((k+4*m:Nat):Int)=(k:Int)+4*(m:Int):=by omega
   rw [hkm] at HP;clear O T hc;generalize ws.getD m 0=v at *;go_wp2_with fail
   refine HP.o.mono ?_;rintro e w1 ⟨rfl,rfl⟩;go_wp2
   go_roundw
   .exact ⟨m+1,by omega,by go_num,by rw [HE.o];exact HX.o.1,HX.o.2⟩
   .simp [qf,intOf];omega
  .have e:Zh (m=wn):=by show m=wn;omega
   have HX:=zh (xA O T);clear O T;go_wp2
   go_end0
   exact ⟨rfl,by have:=HX.o.1;rw [e.o] at this;exact this,HX.o.2⟩
theorem iY (g n cap k m c:Nat)(a:qO)(wn wc:Nat)(ws zs:qi)(base:Nat)(w0 w:qw)(h0:IS w0 a wn wc ws)(hb:qY w0 w)(hg:w0.heap.size<=g)(ho:OB w base (qS (qP g) n cap) zs)(hn:n<=16384)(hk:k+4*wn<=n)(hm:4*wn<=m)(hc:m<=c)(hc2:c<=16384):
 qC 219 #[qS (some (qR g k)) m c,qS a wn wc] w fun e w'=>e=.returned (.tuple #[])/\OB w' base (qS (qP g) n cap) (bL zs k ws wn)/\fF g w w':=by
 have HO:=zh ho;have HB:=zh hb;clear ho hb;go_enter func219,ntmps219
 go_wp2;go_loopw [8] (fun i wr=>∃ j:Nat,j<=wn/\i=qI j/\OB wr base (qS (qP g) n cap) (bL zs k ws j)/\fF g w wr) (qf wn)
 .exact ⟨0,xC _,rfl,HO.o,iD _ _⟩
 .obtain ⟨j,hj,rfl,O,T⟩:=hrel;by_cases hlt:j<wn
  .have hlt':(j:Int)<(wn:Int):=by omega
   obtain ⟨b,off,rfl,hcc⟩:=(h0.bw (cW HB.o T hg)).2.2.2.1 (by omega);have q:=hcc j hlt;have wv:-9223372036854775808<=ws.getD j 0/\ws.getD j 0<=9223372036854775807:=h0.2.2.1 _ (by have:=h0.1;simp [xB,show j<ws.length by omega]);have HP:=zh (lZ g (m-4*j) (c-4*j) (k+4*j) (ws.getD j 0) wr (sG O) (by omega) wv);have HX:=zh (xA (sH O (k+4*j) (ws.getD j 0)) (sC T (iZ g (k+4*j) (ws.getD j 0) wr)));have HE:Zh (bL zs k ws (j+1)=put (bL zs k ws j) (k+4*j) (ws.getD j 0) 4):=rfl;have t0:(0:Int)<=4*(j:Int):=by omega
   have t1:4*(j:Int)<=(m:Int):=by omega
   have t2:4*(j:Int)<(c:Int):=by omega
   have t3:(4*(j:Int)).toNat=4*j:=by omega
   clear O T hcc wv;generalize ws.getD j 0=v at *;go_wp2_with fail
   refine HP.o.mono ?_;rintro e w1 ⟨rfl,rfl⟩;go_wp2
   go_roundw
   .exact ⟨j+1,by omega,by go_num,by rw [HE.o];exact HX.o.1,HX.o.2⟩
   .simp [qf,intOf];omega
  .have e:Zh (j=wn):=by show j=wn;omega
   have HX:=zh (xA O T);clear O T;go_wp2
   go_end0
   exact ⟨rfl,by have:=HX.o.1;rw [e.o] at this;exact this,HX.o.2⟩
