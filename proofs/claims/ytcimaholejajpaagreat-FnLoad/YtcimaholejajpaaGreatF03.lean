import Derived.Laws.IdiomStrings
import Derived.Defers
import Derived.Recover
import Derived.Test.YtcimaholejajpaaGreatF02
set_option linter.all false
set_option maxHeartbeats 8000000
namespace Go.Proofs.YtcimaholejajpaaGreat
open Go.RowKit Go.Maps
set_option maxRecDepth 100000
variable {S:Nat->Prop}{X:Nat->List Int}{a a1 a2 a3 a5 a6 a7:qO}{b base base' c c1 c2 c3 c5 c6 c7 cap k n s sz:Nat}{bl:List Bk}{cs ms z:Array Value}{e:Ending}{f:Nat->qO×Nat×Nat}{row:Option Nat}{v v1 v3 v5 v6 v7 x:Value}
theorem aH6 (es:List Ex)(n:Nat):(List.range n).all (exn es)=decide (size (fd (eM es) n)=n):=by
 rw [yT];congr 1;funext i;unfold exn eM;congr 1;funext j;rw [ByteArray.toList_eq,ByteArray.toList_eq]
theorem aH5 (tn bn:Nat)(bl:List Bk)(n:Nat)(es:List Ex)(h:∀ j,j<n->ex1 tn bn bl (es.getD j zE)=true):(List.range n).all (fun i=>ex1 tn bn bl (es.getD i zE)&&exn es i)=decide (size (fd (eM es) n)=n):=by
 rw [<- aH6,xJ,List.all_eq_true,List.all_eq_true];constructor
 .intro H i hi;have:=H i hi;simp only [Bool.and_eq_true] at this;exact this.2
 .intro H i hi;rw [h i (by simpa using hi),H i hi];rfl
theorem uI (nm:ByteArray)(ta:qO)(tn tc:Nat)(ba:qO)(bn bc:Nat)(bl:List Bk)(v3 v5 v6:Value)(bss:Int)(ea:qO)(n ec:Nat)(es:List Ex)(w:qw)(htn:tn<=maxLen)(hb:BKS w ba bn bc bl)(h:ES w ea n ec es):
 qC 139 #[.agg #[.string nm,qS ta tn tc,qS ba bn bc,v3,qI bss,v5,v6,qS ea n ec]] w (qB w (.bool (exo tn bn bl n es))):=by
 obtain ⟨W,hW,hB0,kb⟩:=nwb w #[.string nm,qS ta tn tc,qS ba bn bc,v3,qI bss,v5,v6,qS ea n ec] 53;obtain ⟨q0,q1,q2,q3,q4,q5,q6,q7⟩:=kb.eight;obtain ⟨r,hr⟩:=eqx (exo tn bn bl n es);rw [<- hr];unfold exo at hr;have hm1:=h.2.1;unfold maxLen at hm1;have HW:=zh hW;clear hW;by_cases c1:16<n
 .have HR:=zh (show r=false by rw [hr,xS (by omega)];rfl);clear hr;have c1':(16:Int)<(n:Int):=by omega
  go_enter Tryz.func139,Tryz.ntmps139
  go_wp2_with (rw [<- HW.o])
  go_ret;exact ⟨aB HR.o.symm,hB0⟩
 .have c1':¬ (16:Int)<(n:Int):=by omega
  have HR:=zh (show r=(List.range n).all (fun i=>ex1 tn bn bl (es.getD i zE)&&exn es i) by rw [hr,xR (by omega)];rfl);clear hr;go_enter Tryz.func139,Tryz.ntmps139
  go_wp2_with (rw [<- HW.o])
  clear q0 q1 q2 q3 q4 q5 q6 q7;go_loopw [14] (fun i wr=>∃ k:Nat,k<=n/\i=qI k/\Hid (∀ j,j<k->ex1 tn bn bl (es.getD j zE)=true)/\qY w wr/\Blk wr w.heap.size #[.string nm,qS ta tn tc,qS ba bn bc,v3,qI bss,v5,v6,qS ea n ec] 53) (qf n)
  .exact ⟨0,xC _,rfl,zh (fun j hj=>by omega),hB0,kb⟩
  .obtain ⟨k,hk,rfl,HJ,hB,kw⟩:=hrel;clear kb hB0;obtain ⟨q0,q1,q2,q3,q4,q5,q6,q7⟩:=kw.eight;by_cases hlt:k<n
   .have hlt':(k:Int)<(n:Int):=by omega
    obtain ⟨bb,off,rfl⟩:=h.addr (by omega);obtain ⟨y1,y2,y3⟩:=(h.bw hB).at k hlt;have HZ:=zh (eW (fun i=>ex1 tn bn bl (es.getD i zE)&&exn es i) n k hlt)
    have HG:=zh (show ex1 tn bn bl (es.getD k zE)=true->∀ j,j<k+1->ex1 tn bn bl (es.getD j zE)=true from fun h j hj=>by
     by_cases e:j=k
     .subst e;exact h
     .exact HJ.out j (by omega))
    have HN:=zh (fun w=>iO (es.getD k zE).1 w (h.size k));generalize es.getD k zE=E at *;obtain ⟨en,eb,ei⟩:=E;dsimp only at y1 y2 y3 HN;have lkw:=kw.lt;have hb1:=hb.bw (hB.alloc hB.size (.cells #[.string en,qI eb,qI ei] 91));have HP:=zh (fun w h=>gC nm ta tn tc ba bn bc bl v3 v5 v6 (qS (some (qR bb off)) n ec) bss eb w htn h);have kE:=Blk.new wr #[.string en,qI eb,qI ei] 91;have hA:qY wr (wr.alloc (.cells #[.string en,qI eb,qI ei] 91)):=bal;go_wp2_with fail
    refine (HP.o _ hb1).mono ?_;rintro e w1 ⟨pa,pn,px,ok,rfl,hok,hpn,hpm,hbp⟩;have kE1:=kE.bw hbp;have kw1:=(kw.bw hA).bw hbp;have hB1:=(hB.trans (hA.mono hB.size)).trans (hbp.mono (by have:=hB.size;simp;omega));clear kE kw hA hbp hb1 HP q0 q1 q2 q3 q4 q5 q6 q7 y1 y2 y3 hB;unfold maxLen at hpm;have HOK:=zh (xA hok hpn);clear hok hpn;obtain ⟨z1,z2,z3,z4⟩:=kE1.three;have HEX:Zh (ex1 tn bn bl (en,eb,ei)=(nmo en&&decide (0<=ei/\ei<pcn tn bn bl eb))):=rfl;have HU:=zh (fun w=>cU ei ((pn:Int)-1) w);cases hn:nmo en
    .rw [hn] at HN;go_wp2_with (go_at_call 135;refine (HN.o _).mono ?_;rintro e w2 ⟨rfl,rfl⟩)
     go_ret;exact ⟨aB (by rw [HR.o];exact (HZ.o (by rw [HEX.o,hn];rfl)).symm),hB1⟩
    .rw [hn] at HN;cases ok
     .have hp:¬ 0<=pcn tn bn bl eb:=by have:=HOK.o.1;simpa using this.symm
      go_wp2_with (go_at_call 135;refine (HN.o _).mono ?_;rintro e w2 ⟨rfl,rfl⟩)
      go_ret;exact ⟨aB (by rw [HR.o];exact (HZ.o (by rw [HEX.o,xS (by omega)];simp)).symm),hB1⟩
     .have hp:(pn:Int)=pcn tn bn bl eb:=HOK.o.2 rfl;have HPP:=zh hp;clear hp;by_cases d1:0<=ei/\ei<=(pn:Int)-1
      .have HE1:=zh (show ex1 tn bn bl (en,eb,ei)=true by rw [HEX.o,hn,<- HPP.o,xR (by omega)];rfl);rw [xR d1] at HU;go_wp2_with (first|(go_at_call 135;refine (HN.o _).mono ?_;rintro e w2 ⟨rfl,rfl⟩)|(go_at_call 50;refine (HU.o _).mono ?_;rintro e w2 ⟨rfl,rfl⟩))
       go_roundw
       .exact ⟨k+1,by omega,by go_num,zh (HG.o HE1.o),hB1,kw1⟩
       .simp [qf,intOf];omega
      .rw [xS d1] at HU;have HE1:=zh (show ex1 tn bn bl (en,eb,ei)=false by rw [HEX.o,hn,<- HPP.o,xS (by omega)];rfl);go_wp2_with (first|(go_at_call 135;refine (HN.o _).mono ?_;rintro e w2 ⟨rfl,rfl⟩)|(go_at_call 50;refine (HU.o _).mono ?_;rintro e w2 ⟨rfl,rfl⟩))
       go_ret;exact ⟨aB (by rw [HR.o];exact (HZ.o (by rw [HE1.o];rfl)).symm),hB1⟩
   .have e:k=n:=by omega
    subst e;have HE:=zh (aH5 tn bn bl k es (fun j hj=>HJ.out j hj));have h':=h.bw hB;have HF:=zh (fun w h=>mO ea k ec es w h (by omega));obtain ⟨S,hS⟩:=eqx (size (fd (eM es) k));have HS:=zh hS;clear hS;go_wp2_with fail
    go_region_with (first
     | (go_at_call 142;refine (HF.o _ (by exact h')).mono ?_;rintro e w1 ⟨rfl,hown,hb1⟩;have hl:∀ ty,(Builtin.len_ #[148] ty #[.map (some wr.heap.size)]).run Tryz.prog w1=.ok (qI (S:Int)) w1:=(by intro ty;rw [HS.o];exact hown.len Tryz.underlying148 ty);replace hb1:=fE hb1;obtain ⟨q0,q1,q2,q3,q4,q5,q6,q7⟩:=(kw.bw hb1).eight;clear hown))
    all_goals
     have HB1:=zh (hB.trans (hb1.mono hB.size));go_wp2;go_ret;exact ⟨aB (by rw [HR.o,HE.o,<- HS.o];first|rfl|(rw [xJ];simp;omega)),HB1.o⟩
theorem kX (nm:ByteArray)(ta:qO)(tn tc:Nat)(tz:qi)(ba:qO)(bn bc:Nat)(bl:List Bk)(da:qO)(dn dc:Nat)(dz:qi)(bss:Int)(ra:qO)(rn rc:Nat)(rz:qi)(ia:qO)(im ic:Nat)(ss:List ByteArray)(ea:qO)(en ec:Nat)(es:List Ex)(w:qw)
 (h:MD w nm ta tn tc tz ba bn bc bl da dn dc dz bss ra rn rc rz ia im ic ss ea en ec es):
 qC 90 #[.agg (qM nm ta tn tc ba bn bc da dn dc bss ra rn rc ia im ic ea en ec)] w (qB w (qI (mdo nm tn tz bn bl dn bss rn rz im ss en es))):=by
 obtain ⟨W,hW,hB0,kb⟩:=nwb w (qM nm ta tn tc ba bn bc da dn dc bss ra rn rc ia im ic ea en ec) 53;obtain ⟨r,hr⟩:=eqx (mdo nm tn tz bn bl dn bss rn rz im ss en es);rw [<- hr];unfold mdo at hr;have HRR:=zh hr;clear hr;have H0:=h.bw hB0;have hmd:=h.d.2.1;have htn:=h.t.2.1;have HN:=zh (fun w=>iO nm w h.n);have HCd:=zh (fun w ht hb=>aCw nm ta tn tc tz ba bn bc bl (qS da dn dc) (qS ra rn rc) (qS ia im ic) (qS ea en ec) bss w ht hb);have HRl:=zh (fun w h=>wB nm (qS ta tn tc) (qS ba bn bc) da dn dc bss ra rn rc rz (qS ia im ic) (qS ea en ec) w hmd h);have HIm:=zh (fun w h=>uG nm (qS ta tn tc) (qS ba bn bc) (qS da dn dc) (qS ra rn rc) (qS ea en ec) bss ia im ic ss w h);have HEx:=zh (fun w hb h=>uI nm ta tn tc ba bn bc bl (qS da dn dc) (qS ra rn rc) (qS ia im ic) bss ea en ec es w htn hb h);have HU:=zh (fun w=>cU bss 512 w);unfold maxLen at hmd;obtain ⟨s0,s1⟩:=h.s;clear h htn;have HW:=zh hW;clear hW;generalize nmo nm=a1 at *;generalize cdo tn tz bn bl=a2 at *;generalize rlo rn rz dn=a4 at *;generalize imo im ss=a5 at *;generalize exo tn bn bl en es=a6 at *;obtain ⟨q0,q1,q2,q3,q4,q5,q6,q7⟩:=kb.eight;go_enter Tryz.func90,Tryz.ntmps90
 go_wp2_with (first|(rw [<- HW.o])|(go_at_call 135;refine (HN.o _).mono ?_;rintro e w1 ⟨rfl,rfl⟩;cases a1))
 .have e:=zh (show r=1 from by rw [HRR.o];simp);go_ret;exact ⟨aQ e.o.symm,hB0⟩
 .refine (HCd.o _ H0.t H0.b).mono ?_;rintro e w2 ⟨rfl,hb2⟩;have kb2:=kb.bw hb2;have H2:=H0.bw hb2;have hB2:=hB0.trans (hb2.mono hB0.size);clear hb2 kb H0 hB0 q0 q1 q2 q3 q4 q5 q6 q7;obtain ⟨q0,q1,q2,q3,q4,q5,q6,q7⟩:=kb2.eight;cases a2
  .have e:=zh (show r=2 from by rw [HRR.o];simp);go_wp2;go_ret;exact ⟨aQ e.o.symm,hB2⟩
  .by_cases c1:512<dn
   .have e:=zh (show r=3 from by rw [HRR.o];simp [c1]);have c1':(512:Int)<(dn:Int):=by omega
    go_wp2;go_ret;exact ⟨aQ e.o.symm,hB2⟩
   .have c1':¬ (512:Int)<(dn:Int):=by omega
    by_cases c2:0<=bss/\bss<=512
    .have HR2:=zh (show r=if a4=false then 4 else if a5=false then 5 else if a6=false then 6 else 0 from by
      rw [HRR.o]
      simp only [Bool.true_eq_false,if_false,show ¬ (512<dn\/bss<0\/512<bss) by omega])
     clear HRR;rw [xR c2] at HU;go_wp2_with (go_at_call 50;refine (HU.o _).mono ?_;rintro e w1 ⟨rfl,rfl⟩)
     refine (HRl.o _ H2.r).mono ?_;rintro e w3 ⟨rfl,hb3⟩;have kb3:=kb2.bw hb3;have H3:=H2.bw hb3;have hB3:=hB2.trans (hb3.mono hB2.size);clear hb3 kb2 H2 hB2 q0 q1 q2 q3 q4 q5 q6 q7;obtain ⟨q0,q1,q2,q3,q4,q5,q6,q7⟩:=kb3.eight;cases a4
     .have e:=zh (show r=4 from by rw [HR2.o];simp);go_wp2;go_ret;exact ⟨aQ e.o.symm,hB3⟩
     .go_wp2_with fail
      refine (HIm.o _ H3.i).mono ?_;rintro e w4 ⟨rfl,hb4⟩;have kb4:=kb3.bw hb4;have H4:=H3.bw hb4;have hB4:=hB3.trans (hb4.mono hB3.size);clear hb4 kb3 H3 hB3 q0 q1 q2 q3 q4 q5 q6 q7;obtain ⟨q0,q1,q2,q3,q4,q5,q6,q7⟩:=kb4.eight;cases a5
      .have e:=zh (show r=5 from by rw [HR2.o];simp);go_wp2;go_ret;exact ⟨aQ e.o.symm,hB4⟩
      .go_wp2_with fail
       refine (HEx.o _ H4.b H4.e).mono ?_;rintro e w5 ⟨rfl,hb5⟩;have hB5:=hB4.trans (hb5.mono hB4.size);clear hb5 H4 hB4 kb4;cases a6
       .have e:=zh (show r=6 from by rw [HR2.o];simp);go_wp2;go_ret;exact ⟨aQ e.o.symm,hB5⟩
       .have e:=zh (show r=0 from by rw [HR2.o];simp);go_wp2;go_ret;exact ⟨aQ e.o.symm,hB5⟩
    .rw [xS c2] at HU;have e:=zh (show r=3 from by rw [HRR.o];simp only [Bool.true_eq_false,if_false,show (512<dn\/bss<0\/512<bss) by omega,if_true]);go_wp2_with (go_at_call 50;refine (HU.o _).mono ?_;rintro e w1 ⟨rfl,rfl⟩)
     go_ret;exact ⟨aQ e.o.symm,hB2⟩
structure PMod where
 nm:ByteArray
 tz:List Int
 bl:List (List Int)
 dz:List Int
 bss:Int
 rz:List Int
 ss:List ByteArray
 es:List Ex
def dO (bl:List (List Int)):List Bk:=bl.map fun l=>(none,l.length,l.length,l)
def bI (P:PMod):Int:=mdo P.nm P.tz.length P.tz P.bl.length (dO P.bl) P.dz.length P.bss P.rz.length P.rz P.ss.length P.ss P.es.length P.es
theorem aDo {nm:ByteArray}{tn:Nat}{tz:qi}{bl':List Bk}{dn:Nat}{bss:Int}{rn:Nat}{rz:qi}{im:Nat}{ss:List ByteArray}{en:Nat}{es:List Ex}(hl:bl.length=bl'.length)(h:∀ i,i<bl.length->(bl.getD i zB).2.1=(bl'.getD i zB).2.1/\(bl.getD i zB).2.2.2=(bl'.getD i zB).2.2.2):
 mdo nm tn tz bl.length bl dn bss rn rz im ss en es=mdo nm tn tz bl.length bl' dn bss rn rz im ss en es:=by
 have e:reb [] bl=reb [] bl':=by
  unfold reb;rw [<- hl];apply List.map_congr_left;intro i hi;have:=h i (by simpa using hi);rw [this.1,this.2]
 rw [<- aC9 [] nm tn tz bl.length bl dn bss rn rz im ss en es rfl,e,aC9 [] nm tn tz bl.length bl' dn bss rn rz im ss en es hl.symm]
theorem aC (w:qw)(g i:Nat)(v:Value):Turn (fun j=>j=g) w (w.setCell (qR g i) v):=⟨rfl,rfl,rfl,by rw [aG];exact aL,fun k _ hk=>heap_setCell_other _ _ _ _ hk⟩
def OG {α:Type}(t:TypeId)(sz:Nat)(f:α->List Value)(w:qw)(base:Nat)(v:Value)(xs:List α):Prop:=w.ownsRow base t sz v xs.length (xs.flatMap f)
theorem OG.bw {α:Type}{t:TypeId}{f:α->List Value}{w w':qw}{xs:List α}(h:OG t sz f w base v xs)(hb:qY w w'):OG t sz f w' base v xs:=by
 obtain ⟨hl,h0|⟨g,cap,cur,hv,hg,hh,h1,h2,h3,h4⟩⟩:=h
 .exact ⟨hl,.inl h0⟩
 .exact ⟨hl,.inr ⟨g,cap,cur,hv,hg,Blk.bw (w:=w) hh hb,h1,h2,h3,h4⟩⟩
theorem OG.mono {α:Type}{t:TypeId}{f:α->List Value}{w:qw}{xs:List α}(h:OG t sz f w base v xs)(hb:base'<=base):OG t sz f w base' v xs:=by
 obtain ⟨hl,h0|⟨g,cap,cur,hv,hg,hh,h1,h2,h3,h4⟩⟩:=h
 .exact ⟨hl,.inl h0⟩
 .exact ⟨hl,.inr ⟨g,cap,cur,hv,by omega,hh,h1,h2,h3,h4⟩⟩
theorem OG.turn {α:Type}{t:TypeId}{f:α->List Value}{w w':qw}{xs:List α}(h:OG t sz f w base v xs)(ht:Turn S w w')(hS:∀ k,S k->¬ base<=k):OG t sz f w' base v xs:=by
 obtain ⟨hl,h0|⟨g,cap,cur,hv,hg,hh,h1,h2,h3,h4⟩⟩:=h
 .exact ⟨hl,.inl h0⟩
 .exact ⟨hl,.inr ⟨g,cap,cur,hv,hg,aA (w:=w) ht hh (fun s=>hS g s hg),h1,h2,h3,h4⟩⟩
theorem OG.lt {α:Type}{t:TypeId}{f:α->List Value}{w:qw}{xs:List α}(h:OG t sz f w base v xs):∀ k,v.ownBlock=some k->base<=k/\k<w.heap.size:=World.ownsRow.lt h
theorem cE {α:Type}(t:TypeId)(sz:Nat)(f:α->List Value)(w:qw)(base:Nat):OG t sz f w base (qS none 0 0) []:=⟨by simp,.inl ⟨rfl,rfl⟩⟩
theorem aO {α:Type}{t:TypeId}{f:α->List Value}{w:qw}{xs:List α}(h:OG t sz f w base v xs):∃ a c,v=qS a xs.length c:=by
 obtain ⟨hl,⟨h0,h1⟩|⟨g,cap,cur,hv,_⟩⟩:=h
 .exact ⟨none,0,by rw [h0,h1]⟩
 .exact ⟨_,_,hv⟩
theorem bO {w W W':qw}(h:Turn S w W)(hg:W.grownBy W' row)(hr:∀ k,row=some k->w.heap.size<=k):Turn S w W':=
 ⟨hg.os.trans h.os,hg.tape.trans h.tape,hg.output.trans h.output,xM h.size hg.size,fun k hk hs=>(hg.block k (Nat.lt_of_lt_of_le hk h.size) (fun e=>by have:=hr k e.symm;omega)).trans (h.block k hk hs)⟩
theorem aN (w:qw)(cs:Array Value)(t:TypeId)(xs:List Value)(h:cs=xs.toArray):∀ j u,xs[j]?=some u->(w.alloc (.cells cs t)).cell? (((qR w.heap.size 0):Addr).add j)=some u:=by
 intro j u hj;subst h;rw [bZ,Nat.zero_add,Blk.cell (Blk.new w _ _)];simpa using hj
def clI (x:Int):List Value:=[qI x]
def clT (x:ByteArray):List Value:=[.string x]
def clX (x:Ex):List Value:=[.string x.1,qI x.2.1,qI x.2.2]
theorem bB {w W:qw}(h:Turn S w W)(hk:w.heap.size<=k)(i:Nat)(v:Value):Turn S w (W.setCell (qR k i) v):=
 ⟨h.os,h.tape,h.output,by rw [aG];exact h.size,fun j hj hs=>by rw [heap_setCell_other _ _ _ _ (by show j≠k;omega)];exact h.block j hj hs⟩
structure OBk (w:qw)(base:Nat)(v:Value)(bl:List Bk):Prop where
 head:w.ownsRow base 29 1 v bl.length (bl.map fun B=>qS B.1 B.2.1 B.2.2.1)
 rows:∀ B∈bl,B.2.1=B.2.2.2.length/\OG 3 1 clI w base (qS B.1 B.2.1 B.2.2.1) B.2.2.2
 apart:bl.Pairwise fun A B=>∀ k,(qS A.1 A.2.1 A.2.2.1).ownBlock=some k->(qS B.1 B.2.1 B.2.2.1).ownBlock≠some k
theorem aM {w:qw}{t:TypeId}{xs:List Value}(h:w.ownsRow base t sz v n xs)(hk:v.ownBlock=some k):∃ cur,Blk w k cur t:=by
 obtain ⟨hl,⟨h0,_⟩|⟨g,cap,cur,hv,_,hh,_⟩⟩:=h
 .subst h0;simp [Value.ownBlock] at hk
 .subst hv;simp [Value.ownBlock] at hk;subst hk;exact ⟨cur,hh⟩
theorem aW {w:qw}{cs':Array Value}{t t':TypeId}(h:Blk w k cs t)(h':Blk w k cs' t'):t=t':=by
 unfold Blk at h h';rw [h] at h';simp at h';exact h'.2
theorem OG.grown {α:Type}{t:TypeId}{f:α->List Value}{w w':qw}{xs:List α}(h:OG t sz f w base v xs)(hg:w.grownBy w' row)(hk:v.ownBlock=none\/v.ownBlock≠row):OG t sz f w' base v xs:=World.ownsRow.kept h hg hk
theorem OBk.turn {w w':qw}(h:OBk w base v bl)(ht:Turn S w w')(hS:∀ k,S k->¬ base<=k):OBk w' base v bl:=by
 refine ⟨?_,fun B hB=>⟨(h.rows B hB).1,(h.rows B hB).2.turn ht hS⟩,h.apart⟩;obtain ⟨hl,h0|⟨g,cap,cur,hv,hg,hh,h1,h2,h3,h4⟩⟩:=h.head
 .exact ⟨hl,.inl h0⟩
 .exact ⟨hl,.inr ⟨g,cap,cur,hv,hg,aA (w:=w) ht hh (fun s=>hS g s hg),h1,h2,h3,h4⟩⟩
theorem OBk.lt {w:qw}(h:OBk w base v bl):∀ k,v.ownBlock=some k->base<=k/\k<w.heap.size:=h.head.lt
theorem wQ (w:qw)(base:Nat):OBk w base (qS none 0 0) []:=⟨⟨by simp,.inl ⟨rfl,rfl⟩⟩,by simp,by simp⟩
theorem nC {w:qw}(h:OBk w base v bl):∃ a c,v=qS a bl.length c:=by
 obtain ⟨hl,⟨h0,h1⟩|⟨g,cap,cur,hv,_⟩⟩:=h.head
 .exact ⟨none,0,by rw [h0,h1]⟩
 .exact ⟨_,_,hv⟩
theorem OBk.push {W W':qw}{lo:Nat}{v':Value}{A:qO}{C:Nat}{x:qi}(h:OBk W base (qS a k c) bl)(hl:bl.length=k)(hx:OG 3 1 clI W lo (qS A x.length C) x)(hb:base<=lo)(hlo:∀ B∈bl,∀ j,(qS B.1 B.2.1 B.2.2.1).ownBlock=some j->j<lo)
 (hown:W'.ownsRow base 29 1 v' (k+1) (bl.map (fun B=>qS B.1 B.2.1 B.2.2.1)++[qS A x.length C])) (hg:W.grownBy W' (qS a k c).ownBlock):OBk W' base v' (bl++[(A,x.length,C,x)]):=by
 have hne:∀ (v:Value) (xs:qi) (lo:Nat),OG 3 1 clI W lo v xs->v.ownBlock=none\/v.ownBlock≠(qS a k c).ownBlock:=fun v xs lo ho=>by
  cases e:v.ownBlock with
  | none=>exact .inl rfl
  | some j=>
    refine .inr (fun e'=>?_);obtain ⟨c1,k1⟩:=aM ho e;obtain ⟨c2,k2⟩:=aM h.head e'.symm;exact absurd (aW k1 k2) (by decide)
 refine ⟨?_,?_,?_⟩
 .rw [xI,hl,List.map_append];exact hown
 .intro B hB;rcases List.mem_append.1 hB with hB|hB
  .exact ⟨(h.rows B hB).1,(h.rows B hB).2.grown hg (hne _ _ _ (h.rows B hB).2)⟩
  .simp at hB;subst hB;exact ⟨rfl,(hx.grown hg (hne _ _ _ hx)).mono hb⟩
 .rw [List.pairwise_append];refine ⟨h.apart,by simp,fun B hB X hX j hj e=>?_⟩;simp at hX;subst hX;have h1:=hlo B hB j hj;have h2:=(hx.lt j e).1;omega
theorem OBk.mono {w:qw}(h:OBk w base v bl)(hb:base'<=base):OBk w base' v bl:=by
 refine ⟨?_,fun B hB=>⟨(h.rows B hB).1,(h.rows B hB).2.mono hb⟩,h.apart⟩;obtain ⟨hl,h0|⟨g,cap,cur,hv,hg,hh,h1,h2,h3,h4⟩⟩:=h.head
 .exact ⟨hl,.inl h0⟩
 .exact ⟨hl,.inr ⟨g,cap,cur,hv,by omega,hh,h1,h2,h3,h4⟩⟩
theorem dN {α:Type}(f:α->Value):∀ xs:List α,xs.flatMap (fun x=>[f x])=xs.map f
 | []=>rfl
 | x::xs=>by rw [xT,dN f xs];rfl
theorem mM (xs:qi):xs.flatMap clI=xs.map (Value.int .i64):=dN _ xs
theorem aH2 (xs:List ByteArray):xs.flatMap clT=xs.map Value.string:=dN _ xs
theorem aBa:∀ (xs:List Ex) (i:Nat),i<xs.length->(xs.flatMap clX)[i*3]?=some (.string (xs.getD i zE).1)/\(xs.flatMap clX)[i*3+1]?=some (qI (xs.getD i zE).2.1)/\(xs.flatMap clX)[i*3+2]?=some (qI (xs.getD i zE).2.2)
 | [],i,h=>by simp at h
 | x::xs,0,h=>⟨rfl,rfl,rfl⟩
 | x::xs,i+1,h=>by
   have ih:=aBa xs i (by simpa using h)
   have e:∀ d,((x::xs).flatMap clX)[(i+1)*3+d]?=(xs.flatMap clX)[i*3+d]?:=fun d=>by
    rw [xT,List.getElem?_append_right (by simp [clX];omega)];congr 1;simp [clX];omega
   have e0:=e 0;simp only [Nat.add_zero] at e0;refine ⟨e0.trans ih.1,(e 1).trans ih.2.1,(e 2).trans ih.2.2⟩
theorem bG {α:Type}{t:TypeId}{f:α->List Value}{w:qw}{xs:List α}(h:OG t sz f w base (qS a n c) xs):xs.length=n/\n<=maxLen/\n<=c/\(n≠0->∃ g,a=some (qR g 0)/\∀ j u,(xs.flatMap f)[j]?=some u->w.cell? (qR g j)=some u):=by
 have hc:=fun g hg=>World.ownsRow.cells h (g:=g) hg;obtain ⟨hl,⟨h0,h1⟩|⟨g,cap,cur,hv,hg,hh,h1,h2,h3,h4⟩⟩:=h
 .simp at h0;obtain ⟨rfl,rfl,rfl⟩:=h0;exact ⟨h1,xC _,aL,fun hn=>absurd rfl hn⟩
 .simp at hv;obtain ⟨rfl,rfl,rfl⟩:=hv;refine ⟨rfl,by omega,h1,fun hn=>⟨g,rfl,fun j u hj=>?_⟩⟩;have:=hc g rfl j u hj
  rwa [bZ,Nat.zero_add] at this
theorem lV {w:qw}{xs:qi}(h:OG 3 1 clI w base (qS a n c) xs)(hx:∀ z∈xs,wfi z):IS w a n c xs:=by
 obtain ⟨h1,h2,h3,h4⟩:=bG h;refine ⟨h1,h2,hx,fun hn=>?_,h3⟩;obtain ⟨g,rfl,hc⟩:=h4 hn;refine ⟨g,0,rfl,fun i hi=>?_⟩;rw [Nat.zero_add];refine hc i _ ?_;rw [mM];simp [xB,show i<xs.length by omega]
theorem aK7 {w:qw}{xs:List ByteArray}(h:OG 9 1 clT w base (qS a n c) xs)(hx:∀ s∈xs,s.size<=1048576):SS w a n c xs:=by
 obtain ⟨h1,h2,h3,h4⟩:=bG h;refine ⟨h1,h2,hx,fun hn=>?_,h3⟩;obtain ⟨g,rfl,hc⟩:=h4 hn;refine ⟨g,0,rfl,fun i hi=>?_⟩;rw [Nat.zero_add];refine hc i _ ?_;rw [aH2];simp [xB,show i<xs.length by omega]
theorem aLa {w:qw}{xs:List Ex}(h:OG 91 3 clX w base (qS a n c) xs)(hx:∀ s∈xs,s.1.size<=1048576):ES w a n c xs:=by
 obtain ⟨h1,h2,h3,h4⟩:=bG h;refine ⟨h1,h2,hx,fun hn=>?_,h3⟩;obtain ⟨g,rfl,hc⟩:=h4 hn;refine ⟨g,0,rfl,fun i hi=>?_⟩;rw [Nat.zero_add];obtain ⟨f0,f1,f2⟩:=aBa xs i (by omega);exact ⟨hc _ _ f0,hc _ _ f1,hc _ _ f2⟩
theorem aDj {w:qw}(h:OBk w base (qS a n c) bl)(hx:∀ B∈bl,∀ z∈B.2.2.2,wfi z):BKS w a n c bl:=by
 have hh:OG 29 1 (fun B:Bk=>[qS B.1 B.2.1 B.2.2.1]) w base (qS a n c) bl:=by unfold OG;rw [dN];exact h.head
 obtain ⟨h1,h2,h3,h4⟩:=bG hh;refine ⟨h1,h2,fun hn=>?_,fun i hi=>?_,h3⟩
 .obtain ⟨g,rfl,hc⟩:=h4 hn;refine ⟨g,0,rfl,fun i hi=>?_⟩;rw [Nat.zero_add];refine hc i _ ?_;rw [dN];simp [xB,show i<bl.length by omega]
 .have hm:bl.getD i zB∈bl:=by simp [xB,show i<bl.length by omega]
  obtain ⟨e,o⟩:=h.rows _ hm;exact lV o (hx _ hm)
theorem OG.kept {α:Type}{t:TypeId}{f:α->List Value}{w w':qw}{xs:List α}(h:OG t sz f w base v xs)(ht:Turn S w w')(hk:∀ k,v.ownBlock=some k->¬ S k):OG t sz f w' base v xs:=by
 obtain ⟨hl,h0|⟨g,cap,cur,hv,hg,hh,h1,h2,h3,h4⟩⟩:=h
 .exact ⟨hl,.inl h0⟩
 .exact ⟨hl,.inr ⟨g,cap,cur,hv,hg,aA (w:=w) ht hh (hk g (by rw [hv];rfl)),h1,h2,h3,h4⟩⟩
theorem aDi {α:Type}{t:TypeId}{f:α->List Value}{w:qw}{xs:List α}(h:OG t sz f w base (qS a n c) xs)(hn:n≠0):∃ g,a=some (qR g 0):=by
 obtain ⟨_,_,_,h4⟩:=bG h;obtain ⟨g,hg,_⟩:=h4 hn;exact ⟨g,hg⟩
def Sr (f:Nat->qO×Nat×Nat)(n j:Nat):Prop:=∃ i,i<n/\(Value.slice (f i).1 (f i).2.1 (f i).2.2).ownBlock=some j
structure Rr (w:qw)(base:Nat)(a:qO)(n:Nat)(f:Nat->qO×Nat×Nat)(X:Nat->List Int):Prop where
 head:n≠0->∃ g cs,a=some (qR g 0)/\¬ Sr f n g/\Blk w g cs 29/\∀ i,i<n->cs[i]?=some (.slice (f i).1 (f i).2.1 (f i).2.2)
 rows:∀ i,i<n->OI w base (.slice (f i).1 (f i).2.1 (f i).2.2) (X i)
 apart:∀ i j,i<n->j<n->i≠j->∀ k,(Value.slice (f i).1 (f i).2.1 (f i).2.2).ownBlock=some k->(Value.slice (f j).1 (f j).2.1 (f j).2.2).ownBlock≠some k
def aOd (v1 v2 v3:Value)(j:Nat):Prop:=v1.ownBlock=some j\/v2.ownBlock=some j\/v3.ownBlock=some j
def pN (s:Nat)(zs:qi):Option (Int×List Int):=if s<=zs.length then some (low (zs.take s),zs.drop s) else none
def pB (n:Nat)(zs:qi):Option (List Int×List Int):=if n<=zs.length then some (zs.take n,zs.drop n) else none
def eQ (bs:qi):ByteArray:=⟨(bs.map fun z=>UInt8.ofNat z.toNat).toArray⟩
def pT (zs:qi):Option (ByteArray×List Int):=(pN 1 zs).bind fun x=>(pB x.1.toNat x.2).map fun y=>(eQ y.1,y.2)
def pM {α:Type}(p:List Int->Option (α×List Int)):Nat->List Int->Option (List α×List Int)
 | 0,zs=>some ([],zs)
 | k+1,zs=>(pM p k zs).bind fun x=>(p x.2).map fun y=>(x.1++[y.1],y.2)
def pL (zs:qi):Option (List Int×List Int):=(pN 2 zs).bind fun x=>pM (pN 4) x.1.toNat x.2
def pX (zs:qi):Option (Ex×List Int):=(pT zs).bind fun x=>(pN 1 x.2).bind fun y=>(pN 2 y.2).map fun z=>((x.1,y.1-1,z.1),z.2)
def cZ (zs:qi):Option (PMod×List Int):=
 (pT zs).bind fun a=>(pL a.2).bind fun b=>(pN 1 b.2).bind fun nb=>(pM pL nb.1.toNat nb.2).bind fun c=>(pN 2 c.2).bind fun nd=>(pB nd.1.toNat nd.2).bind fun d=>(pN 2 d.2).bind fun e=>(pN 1 e.2).bind fun nr=>(pM (pN 2) nr.1.toNat nr.2).bind fun f=>(pN 1 f.2).bind fun ni=>(pM pT ni.1.toNat ni.2).bind fun g=>(pN 1 g.2).bind fun ne=>(pM pX ne.1.toNat ne.2).map fun h=>(⟨a.1,b.1,c.1,d.1,e.1,f.1,g.1,h.1⟩,h.2)
theorem oX {zs:qi}(h:s<=zs.length):pN s zs=some (low (zs.take s),zs.drop s):=if_pos h
theorem wK {zs:qi}(h:¬ s<=zs.length):pN s zs=none:=if_neg h
theorem lS {zs:qi}(h:s<=zs.length):pB s zs=some (zs.take s,zs.drop s):=if_pos h
theorem wL {zs:qi}(h:¬ s<=zs.length):pB s zs=none:=if_neg h
theorem iJ {α:Type}{p:List Int->Option (α×List Int)}{k:Nat}{zs:qi}(h:pM p k zs=none):∀ j,pM p (k+j) zs=none
 | 0=>h
 | j+1=>by
   show (pM p (k+j) zs).bind _=none;rw [iJ h j];rfl
theorem gD {α:Type}{p:List Int->Option (α×List Int)}{zs r:qi}{xs:List α}(h:pM p k zs=some (xs,r)):pM p (k+1) zs=(p r).map fun y=>(xs++[y.1],y.2):=by
 show (pM p k zs).bind _=_;rw [h];rfl
theorem fI {α:Type}{p:List Int->Option (α×List Int)}:∀ {k:Nat} {zs r:qi} {xs:List α},pM p k zs=some (xs,r)->xs.length=k
 | 0,zs,r,xs,h=>by
   have h':some (([]:List α),zs)=some (xs,r):=h;simp at h';simp [<- h'.1]
 | k+1,zs,r,xs,h=>by
   have h':(pM p k zs).bind (fun x=>(p x.2).map fun y=>(x.1++[y.1],y.2))=some (xs,r):=h;cases e:pM p k zs with
   | none=>rw [e] at h';simp at h'
   | some x=>
     obtain ⟨ys,r'⟩:=x;have ih:=fI e;rw [e] at h';simp only [Option.bind_some,Option.map_eq_some_iff] at h';obtain ⟨y,_,h2⟩:=h';simp at h2;rw [<- h2.1];simp [ih]
def aN9 {α:Type}(p:List Int->Option (α×List Int)):Prop:=∀ zs x r,p zs=some (x,r)->∃ k,k<=zs.length/\r=zs.drop k
theorem aFy (s:Nat):aN9 (pN s):=fun zs x r h=>by
 unfold pN at h;split at h
 .simp at h;exact ⟨s,by assumption,h.2.symm⟩
 .simp at h
def aZ (c:Int):Ending:=.panicked [{ v:=.iface 144 (qI c),recovered:=false }]
structure RdI (W:qw)(g b n cap:Nat)(zs r:qi):Prop where
 pos:∃ k a,k<=n/\r=zs.drop k/\Blk W g #[qS (some (qR b a)) (n-k) (cap-k)] 146/\(cap-k≠0->a=k)
 bs:BS W (qP b) n cap zs
 ne:b≠g
 small:n<=1048576
theorem RdI.bw {W W':qw}{g:Nat}{zs r:qi}(h:RdI W g b n cap zs r)(hb:qY W W'):RdI W' g b n cap zs r:=by
 obtain ⟨k,a,h1,h2,h3,h4⟩:=h.pos;exact ⟨⟨k,a,h1,h2,h3.bw hb,h4⟩,h.bs.bw hb,h.ne,h.small⟩
theorem RdI.range {W:qw}{g:Nat}{zs r:qi}(h:RdI W g b n cap zs r):∀ z∈r,0<=z/\z<=255:=by
 obtain ⟨k,a,h1,rfl,h3,h4⟩:=h.pos;exact fun z hz=>h.bs.2.2.1 z (List.mem_of_mem_drop hz)
def RP {α:Type}(w:qw)(g b n cap:Nat)(zs:qi)(R:α->Value->World->Prop)(p:Option (α×List Int))(e:Ending)(w':qw):Prop:=
 Turn (fun j=>j=g) w w'/\match p with
  | some x=>∃ v,e=.returned v/\R x.1 v w'/\RdI w' g b n cap zs x.2
  | none=>e=aZ 2
def isB (x:qi)(v:Value)(w:qw):Prop:=∃ b k c,v=qS (some (qR b k)) x.length c/\BS w (some (qR b k)) x.length c x
theorem RdI.set {W:qw}{g:Nat}{zs r:qi}(h:RdI W g b n cap zs r)(k a:Nat)(hk:k<=n)(ha:cap-k≠0->a=k)(v:Value)(hv:v=qS (some (qR b a)) (n-k) (cap-k)):RdI (W.setCell (qR g 0) v) g b n cap zs (zs.drop k):=by
 obtain ⟨k',a',h1,h2,h3,h4⟩:=h.pos;refine ⟨⟨k,a,hk,rfl,?_,ha⟩,dK (aC W g 0 v) h.bs (fun j hj b' off e=>by simp at e;rw [hj,<- e.1];exact h.ne),h.ne,h.small⟩;rw [<- hv];simpa using h3.set 0 v
theorem lL (g b n cap:Nat)(zs r:qi)(m:Nat)(w:qw)(h:RdI w g b n cap zs r)(hm:m<=1048576:=by omega):
 qC 124 #[.pointer (qP g),qI m] w (RP w g b n cap zs isB (pB m r)):=by
 obtain ⟨k,a,hk,hr,hb,ha⟩:=h.pos;have hl:=h.bs.1;have hcap:=h.bs.2.2.2.2;have hsm:=h.small;have hrl:r.length=n-k:=by rw [hr,List.length_drop,hl]
 have q0:=hb.cell 0;have f0:=hb.frozen 0;simp at q0;by_cases c:m<=r.length
 .have hc:m<=n-k:=by omega
  have hp:pB m r=some (r.take m,r.drop m):=lS c;rw [hp];have hlt:(r.take m).length=m:=by rw [List.length_take];omega
  have hrd:r.drop m=zs.drop (k+m):=by rw [hr,List.drop_drop]
  have hB1:BS w (some (qR b a)) m (cap-k) (r.take m):=by
   by_cases hz:cap-k=0
   .have:m=0:=by omega
    subst this;exact ⟨by simp,by unfold maxLen;omega,by simp,fun h=>absurd rfl h,by omega⟩
   .have:=(h.bs.drop k hk).take m hc;rw [Nat.zero_add] at this;rw [ha hz,hr];exact this
  have hx1:(m:Int)<=((n-k:Nat):Int):=by omega
  have hx2:((n-k:Nat):Int)<=((cap-k:Nat):Int):=by omega
  have hx0:¬ (((n-k:Nat):Int)<(m:Int)):=by omega
  by_cases hcm:cap-k=m
  .have hck:n-k=m:=by omega
   rw [hcm] at hB1;have HP:=zh (xA hB1 (xA h (xA hrd (xA hlt (show cap-(k+m)=0 by omega)))));have hkm:k+m<=n:=by omega
   have HW:=zh (show n-(k+m)=0 by omega);clear h hp hB1 hb hr hrl c hrd hlt ha hx0 hx1 hx2 hc;rw [hck,hcm] at q0;clear hck hcm;go_enter Tryz.func124,Tryz.ntmps124
   go_wp2;go_ret;obtain ⟨hB1,h,hrd,hlt,hce⟩:=HP.o;refine ⟨aC _ _ _ _,_,rfl,⟨b,a,m,by rw [hlt];rfl,?_⟩,?_⟩
   .rw [hlt];exact dK (aC _ _ _ _) hB1 (fun j hj b' off e=>by simp at e;rw [hj,<- e.1];exact h.ne)
   .rw [hrd];refine h.set (k+m) a hkm (fun e=>absurd hce e) _ ?_;rw [HW.o,hce];try simp
  .have ha':=ha (by omega);subst ha';have HP:=zh (xA hB1 (xA h (xA hrd hlt)));have hkm:a+m<=n:=by omega
   clear h hp hB1 hb hr hrl c hrd hlt ha;go_enter Tryz.func124,Tryz.ntmps124
   go_wp2;go_ret;obtain ⟨hB1,h,hrd,hlt⟩:=HP.o;refine ⟨aC _ _ _ _,_,rfl,⟨b,a,cap-a,by rw [hlt];rfl,?_⟩,?_⟩
   .rw [hlt];exact dK (aC _ _ _ _) hB1 (fun j hj b' off e=>by simp at e;rw [hj,<- e.1];exact h.ne)
   .rw [hrd];refine h.set (a+m) (a+m) hkm (fun e=>rfl) _ ?_;rw [Nat.sub_sub,Nat.sub_sub]
 .have hc:((n-k:Nat):Int)<(m:Int):=by omega
  rw [wL c];clear h hr hb;go_enter Tryz.func124,Tryz.ntmps124
  go_wp2;exact ⟨rfl,Turn.refl _ _,rfl⟩
theorem RP.none {α:Type}{w w':qw}{g:Nat}{zs:qi}{R:α->Value->World->Prop}{p:Option (α×List Int)}(h:RP w g b n cap zs R p e w')(hp:p=none):Turn (fun j=>j=g) w w'/\e=aZ 2:=by
 subst hp;exact h
theorem RP.some {α:Type}{w w':qw}{g:Nat}{zs:qi}{R:α->Value->World->Prop}{p:Option (α×List Int)}{x:α}{r:qi}(h:RP w g b n cap zs R p e w')(hp:p=Option.some (x,r)):Turn (fun j=>j=g) w w'/\∃ v,e=.returned v/\R x v w'/\RdI w' g b n cap zs r:=by
 subst hp;exact h
theorem RP.ofNone {α:Type}{w w':qw}{g:Nat}{zs:qi}{R:α->Value->World->Prop}{p:Option (α×List Int)}(hp:p=Option.none)(h:Turn (fun j=>j=g) w w'):RP w g b n cap zs R p (aZ 2) w':=by
 subst hp;exact ⟨h,rfl⟩
theorem RP.ofSome {α:Type}{w w':qw}{g:Nat}{zs:qi}{R:α->Value->World->Prop}{p:Option (α×List Int)}{x:α}{r:qi}(hp:p=Option.some (x,r))(h:Turn (fun j=>j=g) w w')(hv:R x v w')(hr:RdI w' g b n cap zs r):RP w g b n cap zs R p (.returned v) w':=by
 subst hp;exact ⟨h,v,rfl,hv,hr⟩
def isN (x:Int)(v:Value)(w:qw):Prop:=v=qI x
theorem yQ (b off n cap s:Nat)(zs:qi)(w:qw)(h:BS w (some (qR b off)) n cap zs)(hs:s=1\/s=2\/s=4)(hn:s<=n):
 qC 149 #[qS (some (qR b off)) n cap,qI s] w (qB w (qI (low (zs.take s)))):=by
 rcases hs with rfl|rfl|rfl
 .exact aCr b off n cap zs w h hn
 .exact aCq b off n cap zs w h hn
 .exact sM b off n cap zs w h hn
theorem gT (g b n cap:Nat)(zs r:qi)(s:Nat)(w:qw)(h:RdI w g b n cap zs r)(hs:s=1\/s=2\/s=4):
 qC 128 #[.pointer (qP g),qI s] w (RP w g b n cap zs isN (pN s r)):=by
 have HT:=zh (lL g b n cap zs r s w h);by_cases c:s<=r.length
 .have hlt:(r.take s).length=s:=by rw [List.length_take];omega
  have htt:(r.take s).take s=r.take s:=by rw [List.take_take,Nat.min_self]
  rw [oX c];go_enter Tryz.func128,Tryz.ntmps128
  go_wp2_with fail
  refine HT.o.mono ?_;intro e w1 H;obtain ⟨T1,v,rfl,⟨b',k,c',rfl,hB⟩,R1⟩:=H.some (lS c);rw [hlt] at hB ⊢;have HG:=zh (yQ b' k s c' s (r.take s) w1 hB hs aL);rw [htt] at HG;have HR:=zh (xA T1 R1);clear T1 R1 hB;go_wp2_with fail
  refine HG.o.mono ?_;rintro e w2 ⟨rfl,hb2⟩;have HR2:=zh (xA (HR.o.1.trans (aJ hb2)) (HR.o.2.bw hb2));go_wp2;go_ret;exact ⟨HR2.o.1,_,rfl,rfl,HR2.o.2⟩
 .rw [wK c];go_enter Tryz.func128,Tryz.ntmps128
  go_wp2_with fail
  refine HT.o.mono ?_;intro e w1 H;obtain ⟨T1,rfl⟩:=H.none (wL c);unfold aZ;go_wp2;exact ⟨rfl,T1,rfl⟩
theorem jK (g b n cap:Nat)(zs r:qi)(w:qw)(h:RdI w g b n cap zs r):
 qC 130 #[.pointer (qP g)] w (RP w g b n cap zs isN (pN 2 r)):=by
 have HN:=zh (gT g b n cap zs r 2 w h (Or.inr (Or.inl rfl)));go_enter Tryz.func130,Tryz.ntmps130
 go_wp2_with fail
 refine HN.o.mono ?_;intro e w1 H;cases hp:pN 2 r with
 | none=>
   obtain ⟨T1,rfl⟩:=H.none hp;unfold aZ;go_wp2;exact ⟨rfl,RP.ofNone rfl T1⟩
 | some x=>
   obtain ⟨T1,v,rfl,hv,R1⟩:=H.some hp;go_wp2;go_ret;exact RP.ofSome hp T1 hv R1
theorem aIl (g b n cap:Nat)(zs r:qi)(w:qw)(h:RdI w g b n cap zs r):
 qC 154 #[.pointer (qP g)] w (RP w g b n cap zs isN (pN 4 r)):=by
 have HN:=zh (gT g b n cap zs r 4 w h (Or.inr (Or.inr rfl)));go_enter Tryz.func154,Tryz.ntmps154
 go_wp2_with fail
 refine HN.o.mono ?_;intro e w1 H;cases hp:pN 4 r with
 | none=>
   obtain ⟨T1,rfl⟩:=H.none hp;unfold aZ;go_wp2;exact ⟨rfl,RP.ofNone rfl T1⟩
 | some x=>
   obtain ⟨T1,v,rfl,hv,R1⟩:=H.some hp;go_wp2;go_ret;exact RP.ofSome hp T1 hv R1
def isS (x:ByteArray)(v:Value)(w:qw):Prop:=v=.string x
theorem aNn {zs:qi}(h:1<=zs.length):low (zs.take 1)=zs.getD 0 0:=by
 rw [aK2 zs h];show low []*256+_=_<;>simp [low]
theorem qD (w:qw)(b k c:Nat)(x:qi)(h:BS w (some (qR b k)) x.length c x):(convert 22 9 (qS (some (qR b k)) x.length c)).run Tryz.prog w=.ok (.string (eQ x)) w:=by
 have hl:(x.map fun z=>UInt8.ofNat z.toNat).length=x.length:=by simp
 have:=run_convert_bytes_back (P:=Tryz.prog) w 22 9 5 (qR b k) c (x.map fun z=>UInt8.ofNat z.toNat) Tryz.underlying22 Tryz.underlying5 Tryz.underlying9 (fun j hj=>by
  have hj':j<x.length:=by simpa using hj
  rw [bZ,h.at j hj'];have hz:=h.range j;have e1:x.getD j 0=x[j]:=by simp [xB,hj']
  have e2:(UInt8.ofNat (x[j]).toNat).toNat=(x[j]).toNat%256:=UInt8.toNat_ofNat';rw [List.getElem_map,e2,e1];rw [e1] at hz;congr 2
  omega)
 rw [hl] at this;exact this
theorem vO (g b n cap:Nat)(zs r:qi)(w:qw)(h:RdI w g b n cap zs r):
 qC 125 #[.pointer (qP g)] w (RP w g b n cap zs isS (pT r)):=by
 have HN:=zh (gT g b n cap zs r 1 w h (Or.inl rfl));by_cases c:1<=r.length
 .have hp:=oX (s:=1) c;have hrg:=h.range;have hx:0<=low (r.take 1)/\low (r.take 1)<=4294967295:=gV _ (fun z hz=>hrg z (List.mem_of_mem_take hz)) (by rw [List.length_take];omega)
  have hx2:low (r.take 1)<=255:=by
   rw [aNn c];have:r.getD 0 0∈r:=by simp [xB,show 0<r.length by omega]
   exact (hrg _ this).2
  have hPT:pT r=(pB (low (r.take 1)).toNat (r.drop 1)).map fun y=>(eQ y.1,y.2):=by unfold pT;rw [hp];rfl
  rw [hPT];obtain ⟨m,hm⟩:∃ m:Nat,low (r.take 1)=(m:Int):=⟨(low (r.take 1)).toNat,by omega⟩;rw [hm] at hp hx hx2 ⊢;rw [xY];clear hPT;have hm':m<=255:=by omega
  go_enter Tryz.func125,Tryz.ntmps125
  go_wp2_with fail
  refine HN.o.mono ?_;intro e w1 H;obtain ⟨T1,v,rfl,hv,R1⟩:=H.some hp;obtain rfl:v=qI m:=hv;have HT:=zh (lL g b n cap zs (r.drop 1) m w1 R1);clear H HN;go_wp2_with fail
  refine HT.o.mono ?_;intro e w2 H;cases hq:pB m (r.drop 1) with
  | none=>
    obtain ⟨T2,rfl⟩:=H.none hq;unfold aZ;go_wp2;exact ⟨rfl,RP.ofNone (by rw [hq];rfl) (T1.trans T2)⟩
  | some x=>
    obtain ⟨x,r'⟩:=x;obtain ⟨T2,v,rfl,⟨b',k,c',rfl,hB⟩,R2⟩:=H.some hq;have hcv:=qD w2 b' k c' x hB;have HR:=zh (xA (T1.trans T2) R2);clear T1 T2 R1 R2 hB H HT;go_wp2;go_ret;exact RP.ofSome (x:=eQ x) (r:=r') (by rw [hq];rfl) HR.o.1 rfl HR.o.2
 .have hp:=wK (s:=1) c;have hPT:pT r=none:=by unfold pT;rw [hp];rfl
  rw [hPT];go_enter Tryz.func125,Tryz.ntmps125
  go_wp2_with fail
  refine HN.o.mono ?_;intro e w1 H;obtain ⟨T1,rfl⟩:=H.none hp;unfold aZ;go_wp2;exact ⟨rfl,RP.ofNone rfl T1⟩
theorem RdI.grown {W W':qw}{g:Nat}{zs r:qi}(h:RdI W g b n cap zs r)(hg:W.grownBy W' row)(hr:∀ k,row=some k->base<=k)(h1:g<base)(h2:n≠0->b<base):RdI W' g b n cap zs r:=by
 obtain ⟨k,a,p1,p2,p3,p4⟩:=h.pos;have t:Turn (fun j=>row=some j) W W':=⟨hg.os,hg.tape,hg.output,hg.size,fun j hj hs=>hg.block j hj (fun e=>hs e.symm)⟩;refine ⟨⟨k,a,p1,p2,aA t p3 (fun e=>by have:=hr g e;omega),p4⟩,?_,h.ne,h.small⟩;by_cases hn:n=0
 .subst hn;obtain ⟨b1,b2,b3,b4,b5⟩:=h.bs;exact ⟨b1,b2,b3,fun e=>absurd rfl e,b5⟩
 .exact dK t h.bs (fun j hj b' off e=>by simp at e;have:=hr j hj;have:=h2 hn;omega)
def isL {α:Type}(O:World->Nat->Value->List α->Prop)(base:Nat)(x:List α)(v:Value)(w:qw):Prop:=∃ a c,v=qS a x.length c/\O w base v x
theorem tQ (g b n cap:Nat)(zs:qi)(m:Nat)(r0:qi)(w:qw)(h:RdI w g b n cap zs r0)(hm:m<=1048576):
 qC 131 #[qI m,.func (.func 154) #[.pointer (qP g)] #[]] w (RP w g b n cap zs (isL (OG 3 1 clI) w.heap.size) (pM (pN 4) m r0)):=by
 obtain ⟨i0,hi,hz0,hz1,hz2⟩:=info_parts gG;have hgl:g<w.heap.size:=by obtain ⟨_,_,_,_,hb,_⟩:=h.pos;exact hb.lt
 have hbl:n≠0->b<w.heap.size:=fun hn=>by
  obtain ⟨_,_,_,h4,_⟩:=h.bs;obtain ⟨b',off,e,hc⟩:=h4 hn;simp at e;have:=xD w _ (hc 0 (by omega));simpa [e.1] using this
 have HF:=zh (fun w r h=>aIl g b n cap zs r w h);have HBL:=zh hbl;clear hbl;go_enter Tryz.func131,Tryz.ntmps131
 go_wp2_with fail
 go_loopw [5,7] (fun x i wr=>∃ (k:Nat) (xs:qi) (r:qi),k<=m/\i=qI k/\pM (pN 4) k r0=some (xs,r)/\OG 3 1 clI wr w.heap.size x xs/\RdI wr g b n cap zs r/\Turn (fun j=>j=g) w wr) (fun _ i _=>m-(intOf i).toNat)
 .exact ⟨0,[],r0,xC _,rfl,rfl,cE _ _ _ _ _,h,Turn.refl _ _⟩
 .obtain ⟨k,xs,r,hk,rfl,hp,O,R,T⟩:=hrel;have hxl:=fI hp;by_cases hlt:k<m
  .have hlt':(k:Int)<(m:Int):=by omega
   have hsc:=gD hp;have HC:=zh (HF.o wr r R);have hO:=O;obtain ⟨a,c,rfl⟩:=aO O;rw [hxl] at hO ⊢;have HXL:=zh hxl;clear hxl;go_wp2_with fail
   refine HC.o.mono ?_;intro e w1 H;cases hq:(pN 4) r with
   | none=>
     obtain ⟨T1,rfl⟩:=H.none hq
     have hN:pM (pN 4) m r0=none:=by
      rw [hq] at hsc;have:=iJ (k:=k+1) hsc (m-(k+1))
      rwa [show k+1+(m-(k+1))=m by omega] at this
     unfold aZ;go_wp2;exact ⟨rfl,RP.ofNone hN (T.trans (T1.mono (fun j hj=>hj)))⟩
   | some x=>
     obtain ⟨x,r'⟩:=x;obtain ⟨T1,v,rfl,hv,R1⟩:=H.some hq;rw [hq] at hsc;have hsc':pM (pN 4) (k+1) r0=some (xs++[x],r'):=hsc;have O1:=hO.turn T1 (fun j hj=>by omega);have T2:=T.trans (T1.mono (fun j hj=>hj));obtain rfl:v=qI x:=hv;have HO1:=zh (show (w1.alloc (.cells #[qI x] 3)).ownsRow w.heap.size 3 1 (qS a k c) k (xs.flatMap clI) by have:=O1.bw (brf.alloc aL (.cells #[qI x] 3));unfold OG at this;rw [HXL.o] at this;exact this);have HR1:=zh (xA R1 (xA T2 (xA hsc' hO)));have hsz:=T2.size;clear R1 T1 T2 T R O O1 hsc hsc' H HC hq hp hO;go_wp2_with (at_builtin;refine wpList_append_own _ rfl _ _ 29 rfl w.heap.size 3 i0 (qI 0) 1 8 Tryz.underlying29 hi hz0 hz1 hz2 rfl (by decide) (qS a k c) k (xs.flatMap clI) rfl HO1.o (qR w1.heap.size 0) 1 1 (clI x) rfl rfl (aN w1 _ _ (clI x) rfl) (by intro u hu;simp [clI] at hu;first|(subst hu;rfl)|(rcases hu with rfl|rfl|rfl<;>rfl)) (by unfold maxLen;omega) (by omega) (by simp;omega) ?_;intro v' w3 hown3 hgr3 _)
     obtain ⟨R1,T2,hsc',hO⟩:=HR1.o;have T3:Turn (fun j=>j=g) w (w1.alloc (.cells #[qI x] 3)):=T2.trans (aD _ _);have hrow:∀ j,(qS a k c).ownBlock=some j->w.heap.size<=j:=fun j hj=>(hO.lt j hj).1;have T4:=bO T3 hgr3 hrow;have R4:=(R1.bw (brf.alloc aL (.cells #[qI x] 3))).grown hgr3 hrow hgl HBL.o
     have O4:OG 3 1 clI w3 w.heap.size v' (xs++[x]):=by
      unfold OG;rw [xI,HXL.o,xU,xX];exact hown3
     have HX:=zh (xA hsc' (xA O4 (xA R4 T4)));clear hsc' O4 R4 T4 T3 R1 T2 hO hown3 hgr3 hrow HR1 HO1
     go_roundw
     .exact ⟨k+1,xs++[x],r',by omega,by go_num,HX.o.1,HX.o.2.1,HX.o.2.2.1,HX.o.2.2.2⟩
     .simp [intOf];omega
  .obtain rfl:k=m:=by omega
   obtain ⟨a,c,rfl⟩:=aO O;have HX:=zh (xA hp (xA O (xA R T)));clear hp O R T;go_wp2;go_ret;exact RP.ofSome HX.o.1 HX.o.2.2.2 ⟨a,c,rfl,HX.o.2.1⟩ HX.o.2.2.1
theorem pQ (g b n cap:Nat)(zs:qi)(m:Nat)(r0:qi)(w:qw)(h:RdI w g b n cap zs r0)(hm:m<=1048576):
 qC 131 #[qI m,.func (.func 130) #[.pointer (qP g)] #[]] w (RP w g b n cap zs (isL (OG 3 1 clI) w.heap.size) (pM (pN 2) m r0)):=by
 obtain ⟨i0,hi,hz0,hz1,hz2⟩:=info_parts gG;have hgl:g<w.heap.size:=by obtain ⟨_,_,_,_,hb,_⟩:=h.pos;exact hb.lt
 have hbl:n≠0->b<w.heap.size:=fun hn=>by
  obtain ⟨_,_,_,h4,_⟩:=h.bs;obtain ⟨b',off,e,hc⟩:=h4 hn;simp at e;have:=xD w _ (hc 0 (by omega));simpa [e.1] using this
 have HF:=zh (fun w r h=>jK g b n cap zs r w h);have HBL:=zh hbl;clear hbl;go_enter Tryz.func131,Tryz.ntmps131
 go_wp2_with fail
 go_loopw [5,7] (fun x i wr=>∃ (k:Nat) (xs:qi) (r:qi),k<=m/\i=qI k/\pM (pN 2) k r0=some (xs,r)/\OG 3 1 clI wr w.heap.size x xs/\RdI wr g b n cap zs r/\Turn (fun j=>j=g) w wr) (fun _ i _=>m-(intOf i).toNat)
 .exact ⟨0,[],r0,xC _,rfl,rfl,cE _ _ _ _ _,h,Turn.refl _ _⟩
 .obtain ⟨k,xs,r,hk,rfl,hp,O,R,T⟩:=hrel;have hxl:=fI hp;by_cases hlt:k<m
  .have hlt':(k:Int)<(m:Int):=by omega
   have hsc:=gD hp;have HC:=zh (HF.o wr r R);have hO:=O;obtain ⟨a,c,rfl⟩:=aO O;rw [hxl] at hO ⊢;have HXL:=zh hxl;clear hxl;go_wp2_with fail
   refine HC.o.mono ?_;intro e w1 H;cases hq:(pN 2) r with
   | none=>
     obtain ⟨T1,rfl⟩:=H.none hq
     have hN:pM (pN 2) m r0=none:=by
      rw [hq] at hsc;have:=iJ (k:=k+1) hsc (m-(k+1))
      rwa [show k+1+(m-(k+1))=m by omega] at this
     unfold aZ;go_wp2;exact ⟨rfl,RP.ofNone hN (T.trans (T1.mono (fun j hj=>hj)))⟩
   | some x=>
     obtain ⟨x,r'⟩:=x;obtain ⟨T1,v,rfl,hv,R1⟩:=H.some hq;rw [hq] at hsc;have hsc':pM (pN 2) (k+1) r0=some (xs++[x],r'):=hsc;have O1:=hO.turn T1 (fun j hj=>by omega);have T2:=T.trans (T1.mono (fun j hj=>hj));obtain rfl:v=qI x:=hv;have HO1:=zh (show (w1.alloc (.cells #[qI x] 3)).ownsRow w.heap.size 3 1 (qS a k c) k (xs.flatMap clI) by have:=O1.bw (brf.alloc aL (.cells #[qI x] 3));unfold OG at this;rw [HXL.o] at this;exact this);have HR1:=zh (xA R1 (xA T2 (xA hsc' hO)));have hsz:=T2.size;clear R1 T1 T2 T R O O1 hsc hsc' H HC hq hp hO;go_wp2_with (at_builtin;refine wpList_append_own _ rfl _ _ 29 rfl w.heap.size 3 i0 (qI 0) 1 8 Tryz.underlying29 hi hz0 hz1 hz2 rfl (by decide) (qS a k c) k (xs.flatMap clI) rfl HO1.o (qR w1.heap.size 0) 1 1 (clI x) rfl rfl (aN w1 _ _ (clI x) rfl) (by intro u hu;simp [clI] at hu;first|(subst hu;rfl)|(rcases hu with rfl|rfl|rfl<;>rfl)) (by unfold maxLen;omega) (by omega) (by simp;omega) ?_;intro v' w3 hown3 hgr3 _)
     obtain ⟨R1,T2,hsc',hO⟩:=HR1.o;have T3:Turn (fun j=>j=g) w (w1.alloc (.cells #[qI x] 3)):=T2.trans (aD _ _);have hrow:∀ j,(qS a k c).ownBlock=some j->w.heap.size<=j:=fun j hj=>(hO.lt j hj).1;have T4:=bO T3 hgr3 hrow;have R4:=(R1.bw (brf.alloc aL (.cells #[qI x] 3))).grown hgr3 hrow hgl HBL.o
     have O4:OG 3 1 clI w3 w.heap.size v' (xs++[x]):=by
      unfold OG;rw [xI,HXL.o,xU,xX];exact hown3
     have HX:=zh (xA hsc' (xA O4 (xA R4 T4)));clear hsc' O4 R4 T4 T3 R1 T2 hO hown3 hgr3 hrow HR1 HO1
     go_roundw
     .exact ⟨k+1,xs++[x],r',by omega,by go_num,HX.o.1,HX.o.2.1,HX.o.2.2.1,HX.o.2.2.2⟩
     .simp [intOf];omega
  .obtain rfl:k=m:=by omega
   obtain ⟨a,c,rfl⟩:=aO O;have HX:=zh (xA hp (xA O (xA R T)));clear hp O R T;go_wp2;go_ret;exact RP.ofSome HX.o.1 HX.o.2.2.2 ⟨a,c,rfl,HX.o.2.1⟩ HX.o.2.2.1
theorem tP (g b n cap:Nat)(zs:qi)(m:Nat)(r0:qi)(w:qw)(h:RdI w g b n cap zs r0)(hm:m<=1048576):
 qC 132 #[qI m,.func (.func 125) #[.pointer (qP g)] #[]] w (RP w g b n cap zs (isL (OG 9 1 clT) w.heap.size) (pM (pT) m r0)):=by
 obtain ⟨i0,hi,hz0,hz1,hz2⟩:=info_parts aDw;have hgl:g<w.heap.size:=by obtain ⟨_,_,_,_,hb,_⟩:=h.pos;exact hb.lt
 have hbl:n≠0->b<w.heap.size:=fun hn=>by
  obtain ⟨_,_,_,h4,_⟩:=h.bs;obtain ⟨b',off,e,hc⟩:=h4 hn;simp at e;have:=xD w _ (hc 0 (by omega));simpa [e.1] using this
 have HF:=zh (fun w r h=>vO g b n cap zs r w h);have HBL:=zh hbl;clear hbl;go_enter Tryz.func132,Tryz.ntmps132
 go_wp2_with fail
 go_loopw [5,7] (fun x i wr=>∃ (k:Nat) (xs:List ByteArray) (r:qi),k<=m/\i=qI k/\pM (pT) k r0=some (xs,r)/\OG 9 1 clT wr w.heap.size x xs/\RdI wr g b n cap zs r/\Turn (fun j=>j=g) w wr) (fun _ i _=>m-(intOf i).toNat)
 .exact ⟨0,[],r0,xC _,rfl,rfl,cE _ _ _ _ _,h,Turn.refl _ _⟩
 .obtain ⟨k,xs,r,hk,rfl,hp,O,R,T⟩:=hrel;have hxl:=fI hp;by_cases hlt:k<m
  .have hlt':(k:Int)<(m:Int):=by omega
   have hsc:=gD hp;have HC:=zh (HF.o wr r R);have hO:=O;obtain ⟨a,c,rfl⟩:=aO O;rw [hxl] at hO ⊢;have HXL:=zh hxl;clear hxl;go_wp2_with fail
   refine HC.o.mono ?_;intro e w1 H;cases hq:(pT) r with
   | none=>
     obtain ⟨T1,rfl⟩:=H.none hq
     have hN:pM (pT) m r0=none:=by
      rw [hq] at hsc;have:=iJ (k:=k+1) hsc (m-(k+1))
      rwa [show k+1+(m-(k+1))=m by omega] at this
     unfold aZ;go_wp2;exact ⟨rfl,RP.ofNone hN (T.trans (T1.mono (fun j hj=>hj)))⟩
   | some x=>
     obtain ⟨x,r'⟩:=x;obtain ⟨T1,v,rfl,hv,R1⟩:=H.some hq;rw [hq] at hsc;have hsc':pM (pT) (k+1) r0=some (xs++[x],r'):=hsc;have O1:=hO.turn T1 (fun j hj=>by omega);have T2:=T.trans (T1.mono (fun j hj=>hj));obtain rfl:v=.string x:=hv;have HO1:=zh (show (w1.alloc (.cells #[.string x] 9)).ownsRow w.heap.size 9 1 (qS a k c) k (xs.flatMap clT) by have:=O1.bw (brf.alloc aL (.cells #[.string x] 9));unfold OG at this;rw [HXL.o] at this;exact this);have HR1:=zh (xA R1 (xA T2 (xA hsc' hO)));have hsz:=T2.size;clear R1 T1 T2 T R O O1 hsc hsc' H HC hq hp hO;go_wp2_with (at_builtin;refine wpList_append_own _ rfl _ _ 50 rfl w.heap.size 9 i0 (.string ⟨#[]⟩) 1 16 Tryz.underlying50 hi hz0 hz1 hz2 rfl (by decide) (qS a k c) k (xs.flatMap clT) rfl HO1.o (qR w1.heap.size 0) 1 1 (clT x) rfl rfl (aN w1 _ _ (clT x) rfl) (by intro u hu;simp [clT] at hu;first|(subst hu;rfl)|(rcases hu with rfl|rfl|rfl<;>rfl)) (by unfold maxLen;omega) (by omega) (by simp;omega) ?_;intro v' w3 hown3 hgr3 _)
     obtain ⟨R1,T2,hsc',hO⟩:=HR1.o;have T3:Turn (fun j=>j=g) w (w1.alloc (.cells #[.string x] 9)):=T2.trans (aD _ _);have hrow:∀ j,(qS a k c).ownBlock=some j->w.heap.size<=j:=fun j hj=>(hO.lt j hj).1;have T4:=bO T3 hgr3 hrow;have R4:=(R1.bw (brf.alloc aL (.cells #[.string x] 9))).grown hgr3 hrow hgl HBL.o
     have O4:OG 9 1 clT w3 w.heap.size v' (xs++[x]):=by
      unfold OG;rw [xI,HXL.o,xU,xX];exact hown3
     have HX:=zh (xA hsc' (xA O4 (xA R4 T4)));clear hsc' O4 R4 T4 T3 R1 T2 hO hown3 hgr3 hrow HR1 HO1
     go_roundw
     .exact ⟨k+1,xs++[x],r',by omega,by go_num,HX.o.1,HX.o.2.1,HX.o.2.2.1,HX.o.2.2.2⟩
     .simp [intOf];omega
  .obtain rfl:k=m:=by omega
   obtain ⟨a,c,rfl⟩:=aO O;have HX:=zh (xA hp (xA O (xA R T)));clear hp O R T;go_wp2;go_ret;exact RP.ofSome HX.o.1 HX.o.2.2.2 ⟨a,c,rfl,HX.o.2.1⟩ HX.o.2.2.1
theorem RdI.lts {W:qw}{g:Nat}{zs r:qi}(h:RdI W g b n cap zs r):g<W.heap.size/\(n≠0->b<W.heap.size):=by
 refine ⟨by obtain ⟨_,_,_,_,hb,_⟩:=h.pos;exact hb.lt,fun hn=>?_⟩;obtain ⟨_,_,_,h4,_⟩:=h.bs;obtain ⟨b',off,e,hc⟩:=h4 hn;simp at e;have:=xD W _ (hc 0 (by omega));simpa [e.1] using this
theorem RdI.other {W:qw}{g i:Nat}{zs r:qi}(h:RdI W g b n cap zs r)(hk:k≠g)(hb:n≠0->b≠k):RdI (W.setCell (qR k i) v) g b n cap zs r:=by
 obtain ⟨k',a,p1,p2,p3,p4⟩:=h.pos;refine ⟨⟨k',a,p1,p2,p3.other _ _ (fun e=>hk e.symm),p4⟩,?_,h.ne,h.small⟩;by_cases hn:n=0
 .subst hn;obtain ⟨b1,b2,b3,b4,b5⟩:=h.bs;exact ⟨b1,b2,b3,fun e=>absurd rfl e,b5⟩
 .exact dK (aC W k i v) h.bs (fun j hj b' off e=>by simp at e;rw [hj,<- e.1];exact hb hn)
structure Es (w W:qw)(g b n cap:Nat)(zs r:qi)(t:TypeId)(z cs:Array Value):Prop where
 rd:RdI W g b n cap zs r
 tu:Turn (fun j=>j=g) w W
 k1:Blk W w.heap.size z t
 k2:Blk W (w.heap.size+1) cs t
 lo:g<w.heap.size/\(n≠0->b<w.heap.size)
theorem Es.call {w W W':qw}{g:Nat}{zs r r':qi}{t:TypeId}(h:Es w W g b n cap zs r t z cs)(T:Turn (fun j=>j=g) W W')(R:RdI W' g b n cap zs r'):Es w W' g b n cap zs r' t z cs:=
 ⟨R,h.tu.trans T,aA T h.k1 (by have:=h.lo.1;omega),aA T h.k2 (by have:=h.lo.1;omega),h.lo⟩
theorem Es.set {w W:qw}{g:Nat}{zs r:qi}{t:TypeId}(h:Es w W g b n cap zs r t z cs)(i:Nat)(v:Value):Es w (W.setCell (qR (w.heap.size+1) i) v) g b n cap zs r t z (cs.setIfInBounds i v):=
 ⟨h.rd.other (by have:=h.lo.1;omega) (fun hn=>by have:=h.lo.2 hn;omega),bB h.tu (by omega) _ _,h.k1.other _ _ (by show w.heap.size≠w.heap.size+1;omega),h.k2.set i v,h.lo⟩
theorem Es.new {w:qw}{g:Nat}{zs r:qi}{t:TypeId}(h:RdI w g b n cap zs r):Es w ((w.alloc (.cells z t)).alloc (.cells z t)) g b n cap zs r t z z:=by
 have b1:qY w (w.alloc (.cells z t)):=bal;have b2:Below (w.alloc (.cells z t)).heap.size (w.alloc (.cells z t)) ((w.alloc (.cells z t)).alloc (.cells z t)):=bal;have e:(w.alloc (.cells z t)).heap.size=w.heap.size+1:=by simp
 refine ⟨(h.bw b1).bw b2,aJ (b1.trans (b2.mono b1.size)),(Blk.new w z t).bw b2,?_,h.lts⟩;have:=Blk.new (w.alloc (.cells z t)) z t
 rwa [e] at this
def isX (x:Ex)(v:Value)(w:qw):Prop:=v=.agg #[.string x.1,qI x.2.1,qI x.2.2]
theorem qQ {zs r:qi}{x:Int}(hz:∀ z∈zs,0<=z/\z<=255)(hs:s<=4)(h:pN s zs=some (x,r)):0<=x/\x<=4294967295/\(s<=2->x<=65535):=by
 unfold pN at h;split at h
 .rename_i hl;simp at h;rw [<- h.1];have hr:∀ z∈zs.take s,0<=z/\z<=255:=fun z hz'=>hz z (List.mem_of_mem_take hz');have:=gV _ hr (by rw [List.length_take];omega);refine ⟨this.1,this.2,fun h2=>?_⟩;have h3:=(nD _ hr).2;have h4:(zs.take s).length<=2:=by rw [List.length_take];omega
  have h5:(256:Int)^(zs.take s).length<=65536:=by
   have:(zs.take s).length=0\/(zs.take s).length=1\/(zs.take s).length=2:=by omega
   rcases this with e|e|e<;>rw [e]<;>decide
  omega
 .simp at h
theorem aFl (g b n cap:Nat)(zs r:qi)(w:qw)(h:RdI w g b n cap zs r):
 qC 134 #[.pointer (qP g)] w (RP w g b n cap zs isX (pX r)):=by
 have E0:=Es.new (t:=91) (z:=#[.string ⟨#[]⟩,qI 0,qI 0]) h;clear h;have HN:=zh (fun w r h=>gT g b n cap zs r 1 w h (Or.inl rfl));have HX:Zh (pX r=(pT r).bind fun x=>(pN 1 x.2).bind fun y=>(pN 2 y.2).map fun z=>((x.1,y.1-1,z.1),z.2)):=rfl;go_enter Tryz.func134,Tryz.ntmps134
 go_wp2_with fail
 refine (vO g b n cap zs r _ E0.rd).mono ?_;intro e w1 H;cases hp:pT r with
 | none=>
   obtain ⟨T1,rfl⟩:=H.none hp;have E1:=E0.tu.trans T1;unfold aZ;go_wp2;exact ⟨rfl,RP.ofNone (by rw [HX.o,hp];rfl) E1⟩
 | some x=>
   obtain ⟨x,r1⟩:=x;obtain ⟨T1,v,rfl,hv,R1⟩:=H.some hp;obtain rfl:v=.string x:=hv;have E1:=(E0.call T1 R1).set 0 (.string x);have q0:=(E0.call T1 R1).k2.cell 0;have f0:=(E0.call T1 R1).k2.frozen 0;simp at q0;clear E0 H T1 R1;go_wp2_with fail
   refine (HN.o _ r1 E1.rd).mono ?_;intro e w2 H;cases hq:pN 1 r1 with
   | none=>
     obtain ⟨T2,rfl⟩:=H.none hq;have E2:=E1.tu.trans T2;unfold aZ;go_wp2;exact ⟨rfl,RP.ofNone (by rw [HX.o,hp];show (pN 1 r1).bind _=none;rw [hq];rfl) E2⟩
   | some y=>
     obtain ⟨y,r2⟩:=y;obtain ⟨T2,v,rfl,hv,R2⟩:=H.some hq;obtain rfl:v=qI y:=hv;have hy:=qQ E1.rd.range (by omega) hq;have E2:=(E1.call T2 R2).set 1 (qI (y-1));have q1:=(E1.call T2 R2).k2.cell 1;have f1:=(E1.call T2 R2).k2.frozen 1;simp at q1;clear E1 H T2 R2 q0 f0;obtain ⟨hy0,hy1,_⟩:=hy;go_wp2_with fail
     refine (jK g b n cap zs r2 _ E2.rd).mono ?_;intro e w3 H;cases hs:pN 2 r2 with
     | none=>
       obtain ⟨T3,rfl⟩:=H.none hs;have E3:=E2.tu.trans T3;unfold aZ;go_wp2;exact ⟨rfl,RP.ofNone (by rw [HX.o,hp];show (pN 1 r1).bind _=none;rw [hq];show (pN 2 r2).map _=none;rw [hs];rfl) E3⟩
     | some z=>
       obtain ⟨z,r3⟩:=z;obtain ⟨T3,v,rfl,hv,R3⟩:=H.some hs;obtain rfl:v=qI z:=hv;have E2':=E2.call T3 R3;have E3:=E2'.set 2 (qI z);have q2:=E2'.k2.cell 2;have f2:=E2'.k2.frozen 2;have u0:=E3.k2.cell 0;have u1:=E3.k2.cell 1;have u2:=E3.k2.cell 2;have s0:=E3.k1.cell 0;have s1:=E3.k1.cell 1;have s2:=E3.k1.cell 2;have sf0:=E3.k1.frozen 0;have sf1:=E3.k1.frozen 1;have sf2:=E3.k1.frozen 2;simp at q2 u0 u1 u2 s0 s1 s2;have HE:=zh E3;clear E2 E2' E3 H T3 R3 q1 f1;go_wp2;obtain ⟨lo1,lo2⟩:=HE.o.lo;have F1:=HE.o.rd.other (k:=w.heap.size) (i:=0) (v:=.string x) (by omega) (fun hn=>by have:=lo2 hn;omega);have F2:=F1.other (k:=w.heap.size) (i:=1) (v:=qI (y-1)) (by omega) (fun hn=>by have:=lo2 hn;omega);have F3:=F2.other (k:=w.heap.size) (i:=2) (v:=qI z) (by omega) (fun hn=>by have:=lo2 hn;omega);have T3:=bB (bB (bB HE.o.tu aL 0 (.string x)) aL 1 (qI (y-1))) aL 2 (qI z);have k3:=((HE.o.k1.set 0 (.string x)).set 1 (qI (y-1))).set 2 (qI z);simp at k3;obtain ⟨t0,t1,t2,_⟩:=k3.three;refine bodyPost_ret_by (v:=.agg #[.string x,qI (y-1),qI z]) ?_ rfl (RP.ofSome (x:=(x,y-1,z)) (r:=r3) (by rw [HX.o,hp];show (pN 1 r1).bind _=_;rw [hq];show (pN 2 r2).map _=_;rw [hs];rfl) T3 rfl F3);simp only [results,Tryz.results134];simp [go_sem,t0,t1,t2]
theorem oP (g b n cap:Nat)(zs:qi)(m:Nat)(r0:qi)(w:qw)(h:RdI w g b n cap zs r0)(hm:m<=1048576):
 qC 133 #[qI m,.func (.func 134) #[.pointer (qP g)] #[]] w (RP w g b n cap zs (isL (OG 91 3 clX) w.heap.size) (pM (pX) m r0)):=by
 obtain ⟨i0,hi,hz0,hz1,hz2⟩:=info_parts aDv;have hgl:g<w.heap.size:=by obtain ⟨_,_,_,_,hb,_⟩:=h.pos;exact hb.lt
 have hbl:n≠0->b<w.heap.size:=fun hn=>by
  obtain ⟨_,_,_,h4,_⟩:=h.bs;obtain ⟨b',off,e,hc⟩:=h4 hn;simp at e;have:=xD w _ (hc 0 (by omega));simpa [e.1] using this
 have HF:=zh (fun w r h=>aFl g b n cap zs r w h);have HBL:=zh hbl;clear hbl;go_enter Tryz.func133,Tryz.ntmps133
 go_wp2_with fail
 go_loopw [5,7] (fun x i wr=>∃ (k:Nat) (xs:List Ex) (r:qi),k<=m/\i=qI k/\pM (pX) k r0=some (xs,r)/\OG 91 3 clX wr w.heap.size x xs/\RdI wr g b n cap zs r/\Turn (fun j=>j=g) w wr) (fun _ i _=>m-(intOf i).toNat)
 .exact ⟨0,[],r0,xC _,rfl,rfl,cE _ _ _ _ _,h,Turn.refl _ _⟩
 .obtain ⟨k,xs,r,hk,rfl,hp,O,R,T⟩:=hrel;have hxl:=fI hp;by_cases hlt:k<m
  .have hlt':(k:Int)<(m:Int):=by omega
   have hsc:=gD hp;have HC:=zh (HF.o wr r R);have hO:=O;obtain ⟨a,c,rfl⟩:=aO O;rw [hxl] at hO ⊢;have HXL:=zh hxl;clear hxl;go_wp2_with fail
   refine HC.o.mono ?_;intro e w1 H;cases hq:(pX) r with
   | none=>
     obtain ⟨T1,rfl⟩:=H.none hq
     have hN:pM (pX) m r0=none:=by
      rw [hq] at hsc;have:=iJ (k:=k+1) hsc (m-(k+1))
      rwa [show k+1+(m-(k+1))=m by omega] at this
     unfold aZ;go_wp2;exact ⟨rfl,RP.ofNone hN (T.trans (T1.mono (fun j hj=>hj)))⟩
   | some x=>
     obtain ⟨x,r'⟩:=x;obtain ⟨T1,v,rfl,hv,R1⟩:=H.some hq;rw [hq] at hsc;have hsc':pM (pX) (k+1) r0=some (xs++[x],r'):=hsc;have O1:=hO.turn T1 (fun j hj=>by omega);have T2:=T.trans (T1.mono (fun j hj=>hj));obtain rfl:v=.agg #[.string x.1,qI x.2.1,qI x.2.2]:=hv;have HO1:=zh (show (w1.alloc (.cells #[.string x.1,qI x.2.1,qI x.2.2] 91)).ownsRow w.heap.size 91 3 (qS a k c) k (xs.flatMap clX) by have:=O1.bw (brf.alloc aL (.cells #[.string x.1,qI x.2.1,qI x.2.2] 91));unfold OG at this;rw [HXL.o] at this;exact this);have HR1:=zh (xA R1 (xA T2 (xA hsc' hO)));have hsz:=T2.size;clear R1 T1 T2 T R O O1 hsc hsc' H HC hq hp hO;go_wp2_with (at_builtin;refine wpList_append_own _ rfl _ _ 51 rfl w.heap.size 91 i0 (.agg #[.string ⟨#[]⟩,qI 0,qI 0]) 3 32 Tryz.underlying51 hi hz0 hz1 hz2 rfl (by decide) (qS a k c) k (xs.flatMap clX) rfl HO1.o (qR w1.heap.size 0) 1 1 (clX x) rfl rfl (aN w1 _ _ (clX x) rfl) (by intro u hu;simp [clX] at hu;first|(subst hu;rfl)|(rcases hu with rfl|rfl|rfl<;>rfl)) (by unfold maxLen;omega) (by omega) (by simp;omega) ?_;intro v' w3 hown3 hgr3 _)
     obtain ⟨R1,T2,hsc',hO⟩:=HR1.o;have T3:Turn (fun j=>j=g) w (w1.alloc (.cells #[.string x.1,qI x.2.1,qI x.2.2] 91)):=T2.trans (aD _ _);have hrow:∀ j,(qS a k c).ownBlock=some j->w.heap.size<=j:=fun j hj=>(hO.lt j hj).1;have T4:=bO T3 hgr3 hrow;have R4:=(R1.bw (brf.alloc aL (.cells #[.string x.1,qI x.2.1,qI x.2.2] 91))).grown hgr3 hrow hgl HBL.o
     have O4:OG 91 3 clX w3 w.heap.size v' (xs++[x]):=by
      unfold OG;rw [xI,HXL.o,xU,xX];exact hown3
     have HX:=zh (xA hsc' (xA O4 (xA R4 T4)));clear hsc' O4 R4 T4 T3 R1 T2 hO hown3 hgr3 hrow HR1 HO1
     go_roundw
     .exact ⟨k+1,xs++[x],r',by omega,by go_num,HX.o.1,HX.o.2.1,HX.o.2.2.1,HX.o.2.2.2⟩
     .simp [intOf];omega
  .obtain rfl:k=m:=by omega
   obtain ⟨a,c,rfl⟩:=aO O;have HX:=zh (xA hp (xA O (xA R T)));clear hp O R T;go_wp2;go_ret;exact RP.ofSome HX.o.1 HX.o.2.2.2 ⟨a,c,rfl,HX.o.2.1⟩ HX.o.2.2.1
theorem zR (g b n cap:Nat)(zs r:qi)(w:qw)(h:RdI w g b n cap zs r):
 qC 126 #[.pointer (qP g)] w (RP w g b n cap zs (isL (OG 3 1 clI) w.heap.size) (pL r)):=by
 have HX:Zh (pL r=(pN 2 r).bind fun x=>pM (pN 4) x.1.toNat x.2):=rfl;have hmf:∀ (fn:Fn) (first cap:Array Value) (w:qw),(Instr.makeFunc fn first cap).run Tryz.prog w=.ok (.func fn first cap) w:=fun _ _ _ _=>rfl;have HC:=zh (jK g b n cap zs r w h);have hrg:=h.range;go_enter Tryz.func126,Tryz.ntmps126
 go_wp2_with fail
 refine HC.o.mono ?_;intro e w1 H;cases hp:pN 2 r with
 | none=>
   obtain ⟨T1,rfl⟩:=H.none hp;unfold aZ;go_wp2;exact ⟨rfl,RP.ofNone (by rw [HX.o,hp];rfl) T1⟩
 | some x=>
   obtain ⟨x,r1⟩:=x;obtain ⟨T1,v,rfl,hv,R1⟩:=H.some hp;obtain rfl:v=qI x:=hv;have hx:=qQ hrg (by omega) hp;obtain ⟨m,rfl⟩:∃ m:Nat,x=(m:Int):=⟨x.toNat,by omega⟩;have hm:m<=65535:=by have:=hx.2.2 (by omega);omega
   have HX2:=zh (show pL r=pM (pN 4) m r1 by rw [HX.o,hp];show pM (pN 4) ((m:Int).toNat) r1=_;rw [xY]);have HT:=zh (tQ g b n cap zs m r1 w1 R1 (by omega));clear HC H hp hrg hx;go_wp2_with fail
   refine HT.o.mono ?_;intro e w2 H;cases hq:pM (pN 4) m r1 with
   | none=>
     obtain ⟨T2,rfl⟩:=H.none hq;unfold aZ;go_wp2;exact ⟨rfl,RP.ofNone (HX2.o.trans hq) (T1.trans T2)⟩
   | some y=>
     obtain ⟨y,r2⟩:=y;obtain ⟨T2,v,rfl,⟨a,c,rfl,O⟩,R2⟩:=H.some hq;have HF:=zh (xA (T1.trans T2) (xA (O.mono T1.size) R2));clear T1 T2 O R1 R2 H HT;go_wp2;go_ret;exact RP.ofSome (HX2.o.trans hq) HF.o.1 ⟨a,c,rfl,HF.o.2.1⟩ HF.o.2.2
def aOr (base:Nat)(xs:List (List Int))(v:Value)(w:qw):Prop:=∃ bl:List Bk,bl.map (fun B=>B.2.2.2)=xs/\∃ a c,v=qS a bl.length c/\OBk w base v bl
theorem aEk (g b n cap:Nat)(zs:qi)(m:Nat)(r0:qi)(w:qw)(h:RdI w g b n cap zs r0)(hm:m<=1048576):
 qC 127 #[qI m,.func (.func 126) #[.pointer (qP g)] #[]] w (RP w g b n cap zs (aOr w.heap.size) (pM pL m r0)):=by
 obtain ⟨i0,hi,hz0,hz1,hz2⟩:=info_parts aDy;obtain ⟨hgl,hbl⟩:=h.lts;have HF:=zh (fun w r h=>zR g b n cap zs r w h);have HBL:=zh hbl;clear hbl;go_enter Tryz.func127,Tryz.ntmps127
 go_wp2_with fail
 go_loopw [5,7] (fun x i wr=>∃ (k:Nat) (bl:List Bk) (r:qi),k<=m/\i=qI k/\pM pL k r0=some (bl.map (fun B=>B.2.2.2),r)/\OBk wr w.heap.size x bl/\RdI wr g b n cap zs r/\Turn (fun j=>j=g) w wr) (fun _ i _=>m-(intOf i).toNat)
 .exact ⟨0,[],r0,xC _,rfl,rfl,wQ _ _,h,Turn.refl _ _⟩
 .obtain ⟨k,bl,r,hk,rfl,hp,O,R,T⟩:=hrel;have hxl:bl.length=k:=by have:=fI hp;simpa using this
  by_cases hlt:k<m
  .have hlt':(k:Int)<(m:Int):=by omega
   have hsc:=gD hp;have HC:=zh (HF.o wr r R);have hO:=O;obtain ⟨a,c,rfl⟩:=nC O;rw [hxl] at hO ⊢;have HXL:=zh hxl;clear hxl;go_wp2_with fail
   refine HC.o.mono ?_;intro e w1 H;cases hq:pL r with
   | none=>
     obtain ⟨T1,rfl⟩:=H.none hq
     have hN:pM pL m r0=none:=by
      rw [hq] at hsc;have:=iJ (k:=k+1) hsc (m-(k+1))
      rwa [show k+1+(m-(k+1))=m by omega] at this
     unfold aZ;go_wp2;exact ⟨rfl,RP.ofNone hN (T.trans (T1.mono (fun j hj=>hj)))⟩
   | some x=>
     obtain ⟨x,r'⟩:=x;obtain ⟨T1,v,rfl,⟨A,C,rfl,OX⟩,R1⟩:=H.some hq;rw [hq] at hsc;have hsc':pM pL (k+1) r0=some ((bl++[((A,x.length,C,x):Bk)]).map (fun B=>B.2.2.2),r'):=by rw [List.map_append];exact hsc
     have hlo:∀ B∈bl,∀ j,(qS B.1 B.2.1 B.2.2.1).ownBlock=some j->j<wr.heap.size:=fun B hB j hj=>((hO.rows B hB).2.lt j hj).2;have O1:=hO.turn T1 (fun j hj=>by omega);have T2:=T.trans (T1.mono (fun j hj=>hj));have al:qY w1 (w1.alloc (.cells #[qS A x.length C] 29)):=bal;have O2:OBk (w1.alloc (.cells #[qS A x.length C] 29)) w.heap.size (qS a k c) bl:=O1.turn (S:=fun _=>False) (aJ al) (fun j hj=>absurd hj id);have HO1:=zh (show (w1.alloc (.cells #[qS A x.length C] 29)).ownsRow w.heap.size 29 1 (qS a k c) k (bl.map fun B=>qS B.1 B.2.1 B.2.2.1) by have:=O2.head;rw [HXL.o] at this;exact this);have HR1:=zh (xA R1 (xA T2 (xA hsc' (xA O2 (xA (OX.bw al) (xA hlo T.size))))));have hsz:=T2.size;clear R1 T1 T2 T R O O1 O2 OX hsc hsc' H HC hq hp hO hlo al;go_wp2_with (at_builtin;refine wpList_append_own _ rfl _ _ 49 rfl w.heap.size 29 i0 (qS none 0 0) 1 24 Tryz.underlying49 hi hz0 hz1 hz2 rfl (by decide) (qS a k c) k (bl.map fun B=>qS B.1 B.2.1 B.2.2.1) rfl HO1.o (qR w1.heap.size 0) 1 1 [qS A x.length C] rfl rfl (aN w1 _ _ [qS A x.length C] rfl) (by intro u hu;simp at hu;subst hu;rfl) (by unfold maxLen;omega) (by omega) (by simp;omega) ?_;intro v' w3 hown3 hgr3 _)
     obtain ⟨R1,T2,hsc',O2,OX,hlo,hTs⟩:=HR1.o;have T3:Turn (fun j=>j=g) w (w1.alloc (.cells #[qS A x.length C] 29)):=T2.trans (aD _ _);have hrow:∀ j,(qS a k c).ownBlock=some j->w.heap.size<=j:=fun j hj=>(O2.lt j hj).1;have T4:=bO T3 hgr3 hrow;have R4:=(R1.bw (brf.alloc aL (.cells #[qS A x.length C] 29))).grown hgr3 hrow hgl HBL.o;have O4:=O2.push HXL.o OX hTs hlo hown3 hgr3;have HX:=zh (xA hsc' (xA O4 (xA R4 T4)));clear hsc' O4 R4 T4 T3 R1 T2 O2 OX hown3 hgr3 hrow HR1 HO1 hlo hTs
     go_roundw
     .exact ⟨k+1,bl++[(A,x.length,C,x)],r',by omega,by go_num,HX.o.1,HX.o.2.1,HX.o.2.2.1,HX.o.2.2.2⟩
     .simp [intOf];omega
  .obtain rfl:k=m:=by omega
   obtain ⟨a,c,rfl⟩:=nC O;have HX:=zh (xA hp (xA O (xA R T)));clear hp O R T hxl;go_wp2;go_ret;exact RP.ofSome HX.o.1 HX.o.2.2.2 ⟨bl,rfl,a,c,rfl,HX.o.2.1⟩ HX.o.2.2.1
def Byt (zs:qi):Prop:=∀ z∈zs,0<=z/\z<=255
theorem Byt.drop {zs:qi}(h:Byt zs)(k:Nat):Byt (zs.drop k):=fun z hz=>h z (List.mem_of_mem_drop hz)
theorem Byt.take {zs:qi}(h:Byt zs)(k:Nat):Byt (zs.take k):=fun z hz=>h z (List.mem_of_mem_take hz)
def lA {α:Type}(p:List Int->Option (α×List Int))(Q:α->Prop):Prop:=∀ zs x r,Byt zs->p zs=some (x,r)->Q x/\Byt r
theorem dM (s:Nat)(hs:s<=4):lA (pN s) (fun x=>0<=x/\x<=4294967295/\(s<=2->x<=65535)):=fun zs x r hz h=>by
 refine ⟨qQ hz hs h,?_⟩;obtain ⟨k,_,rfl⟩:=aFy s zs x r h;exact hz.drop k
theorem cG:lA (pN 1) (fun x=>0<=x/\x<=255):=fun zs x r hz h=>by
 refine ⟨?_,((dM 1 (by omega)) zs x r hz h).2⟩;unfold pN at h;split at h
 .rename_i hl;simp at h;rw [<- h.1,aNn hl];have:zs.getD 0 0∈zs:=by simp [xB,show 0<zs.length by omega]
  exact hz _ this
 .simp at h
theorem mH (n:Nat):lA (pB n) (fun x=>x.length=n/\Byt x):=fun zs x r hz h=>by
 unfold pB at h;split at h
 .rename_i hl;simp at h;rw [<- h.1,<- h.2];exact ⟨⟨by rw [List.length_take];omega,hz.take n⟩,hz.drop n⟩
 .simp at h
theorem fO {α β:Type}{p:List Int->Option (α×List Int)}{f:α×List Int->Option (β×List Int)}{Q:α->Prop}{R:β->Prop}(hp:lA p Q)(hf:∀ x r y r',Q x->Byt r->f (x,r)=some (y,r')->R y/\Byt r'):lA (fun zs=>(p zs).bind f) R:=fun zs y r' hz h=>by
 cases e:p zs with
 | none=>simp only [e] at h;simp at h
 | some x=>
   obtain ⟨x,r⟩:=x;simp only [e] at h;obtain ⟨hq,hr⟩:=hp zs x r hz e;exact hf x r y r' hq hr h
theorem gX {α:Type}{p:List Int->Option (α×List Int)}{Q:α->Prop}(hp:lA p Q):∀ k,lA (pM p k) (fun xs=>∀ x∈xs,Q x)
 | 0=>fun zs xs r hz h=>by
   have h':some (([]:List α),zs)=some (xs,r):=h;simp at h';obtain ⟨rfl,rfl⟩:=h';exact ⟨by simp,hz⟩
 | k+1=>fO (gX hp k) fun xs r ys r' hx hr h=>by
   cases e:p r with
   | none=>simp only [e] at h;simp at h
   | some y=>
     obtain ⟨y,r2⟩:=y;simp only [e,Option.map_some] at h;simp at h;obtain ⟨hq,hb⟩:=hp r y r2 hr e;rw [<- h.1,<- h.2];refine ⟨fun z hz=>?_,hb⟩;rcases List.mem_append.1 hz with h'|h'
     .exact hx z h'
     .simp at h';rw [h'];exact hq
theorem pR (x:qi):(eQ x).size=x.length:=by
 show (x.map fun z=>UInt8.ofNat z.toNat).toArray.size=_;simp
theorem sL:lA pT (fun s=>s.size<=255):=fO cG fun n r s r' hn hr h=>by
 cases e:pB n.toNat r with
 | none=>simp only [e] at h;simp at h
 | some y=>
   obtain ⟨y,r2⟩:=y;simp only [e,Option.map_some] at h;simp at h;obtain ⟨⟨hl,_⟩,hb⟩:=mH n.toNat r y r2 hr e;rw [<- h.1,<- h.2];refine ⟨?_,hb⟩;rw [pR];omega
def Wd (x:Int):Prop:=0<=x/\x<=4294967295
theorem aA5:lA pL (fun xs=>xs.length<=65535/\∀ x∈xs,Wd x):=fO (dM 2 (by omega)) fun n r xs r' hn hr h=>by
 obtain ⟨h1,h2⟩:=gX (dM 4 (by omega)) n.toNat r xs r' hr h;have hl:=fI h;have:=hn.2.2 (by omega);exact ⟨⟨by omega,fun x hx=>⟨(h1 x hx).1,(h1 x hx).2.1⟩⟩,h2⟩
theorem aHy:lA pX (fun x=>x.1.size<=255/\-1<=x.2.1/\x.2.1<=254/\0<=x.2.2/\x.2.2<=65535):=fO sL fun s r x r' hs hr h=>by
 refine (fO (R:=fun x:Ex=>x.1.size<=255/\-1<=x.2.1/\x.2.1<=254/\0<=x.2.2/\x.2.2<=65535) (f:=fun y=>(pN 2 y.2).map fun z=>((s,y.1-1,z.1),z.2)) cG (fun y r y2 r2 hy hr h=>?_)) r x r' hr h;cases e:pN 2 r with
 | none=>simp only [e] at h;simp at h
 | some z=>
   obtain ⟨z,r3⟩:=z;simp only [e,Option.map_some] at h;simp at h;obtain ⟨hz,hb⟩:=dM 2 (by omega) r z r3 hr e;rw [<- h.1,<- h.2];exact ⟨⟨hs,by show -1<=y-1;omega,by show y-1<=254;omega,hz.1,hz.2.2 (by omega)⟩,hb⟩
structure PmR (P:PMod):Prop where
 n:P.nm.size<=255
 t:P.tz.length<=65535/\∀ x∈P.tz,Wd x
 b:P.bl.length<=255/\∀ l∈P.bl,l.length<=65535/\∀ x∈l,Wd x
 d:P.dz.length<=65535/\Byt P.dz
 s:0<=P.bss/\P.bss<=65535
 r:P.rz.length<=255/\∀ x∈P.rz,0<=x/\x<=65535
 i:P.ss.length<=255/\∀ s∈P.ss,s.size<=255
 e:P.es.length<=255/\∀ x∈P.es,x.1.size<=255/\-1<=x.2.1/\x.2.1<=254/\0<=x.2.2/\x.2.2<=65535
structure PmG (P:PMod):Prop where
 n:P.nm.size<=1048576
 t:P.tz.length<=1048576/\∀ x∈P.tz,wfi x
 b:P.bl.length<=1048576/\∀ l∈P.bl,l.length<=1048576/\∀ x∈l,wfi x
 d:P.dz.length<=1048576/\Byt P.dz
 s:wfi P.bss
 r:P.rz.length<=1048576/\∀ x∈P.rz,wfi x
 i:P.ss.length<=1048576/\∀ s∈P.ss,s.size<=1048576
 e:P.es.length<=1048576/\∀ x∈P.es,x.1.size<=1048576
theorem PmR.g {P:PMod}(h:PmR P):PmG P:=
 ⟨by have:=h.n;omega,⟨by have:=h.t.1;omega,fun x hx=>by have:=h.t.2 x hx;unfold Wd at this;unfold wfi;omega⟩,⟨by have:=h.b.1;omega,fun l hl=>⟨by have:=(h.b.2 l hl).1;omega,fun x hx=>by have:=(h.b.2 l hl).2 x hx;unfold Wd at this;unfold wfi;omega⟩⟩,⟨by have:=h.d.1;omega,h.d.2⟩,by have:=h.s;unfold wfi;omega,⟨by have:=h.r.1;omega,fun x hx=>by have:=h.r.2 x hx;unfold wfi;omega⟩,⟨by have:=h.i.1;omega,fun x hx=>by have:=h.i.2 x hx;omega⟩,⟨by have:=h.e.1;omega,fun x hx=>by have:=(h.e.2 x hx).1;omega⟩⟩
theorem aGm {zs r:qi}{P:PMod}(hz:Byt zs)(h:cZ zs=some (P,r)):PmR P/\Byt r:=by
 unfold cZ at h;simp only [Option.bind_eq_some_iff,Option.map_eq_some_iff] at h;obtain ⟨⟨a,r1⟩,h1,⟨b,r2⟩,h2,⟨nb,r3⟩,h3,⟨c,r4⟩,h4,⟨nd,r5⟩,h5,⟨d,r6⟩,h6,⟨e,r7⟩,h7,⟨nr,r8⟩,h8,⟨f,r9⟩,h9,⟨ni,r10⟩,h10,⟨i,r11⟩,h11,⟨ne,r12⟩,h12,⟨x,r13⟩,h13,hE⟩:=h;simp only at h2 h3 h4 h5 h6 h7 h8 h9 h10 h11 h12 h13 hE;obtain ⟨q1,z1⟩:=sL _ _ _ hz h1;obtain ⟨q2,z2⟩:=aA5 _ _ _ z1 h2;obtain ⟨q3,z3⟩:=cG _ _ _ z2 h3;obtain ⟨q4,z4⟩:=gX aA5 _ _ _ _ z3 h4;obtain ⟨q5,z5⟩:=dM 2 (by omega) _ _ _ z4 h5;obtain ⟨q6,z6⟩:=mH _ _ _ _ z5 h6;obtain ⟨q7,z7⟩:=dM 2 (by omega) _ _ _ z6 h7;obtain ⟨q8,z8⟩:=cG _ _ _ z7 h8;obtain ⟨q9,z9⟩:=gX (dM 2 (by omega)) _ _ _ _ z8 h9;obtain ⟨q10,z10⟩:=cG _ _ _ z9 h10;obtain ⟨q11,z11⟩:=gX sL _ _ _ _ z10 h11;obtain ⟨q12,z12⟩:=cG _ _ _ z11 h12;obtain ⟨q13,z13⟩:=gX aHy _ _ _ _ z12 h13;have l4:=fI h4;have l9:=fI h9;have l11:=fI h11;have l13:=fI h13;simp at hE;obtain ⟨rfl,rfl⟩:=hE;have b5:=q5.2.2 (by omega);have b7:=q7.2.2 (by omega);exact ⟨⟨q1,q2,⟨by show c.length<=255;omega,q4⟩,⟨by show d.length<=65535;omega,q6.2⟩,⟨q7.1,b7⟩,⟨by show f.length<=255;omega,fun x hx=>⟨(q9 x hx).1,(q9 x hx).2.2 (by omega)⟩⟩,⟨by show i.length<=255;omega,q11⟩,⟨by show x.length<=255;omega,q13⟩⟩,z13⟩
theorem aJn (zs:qi):cZ zs=(pT zs).bind fun a=>(pL a.2).bind fun b=>(pN 1 b.2).bind fun nb=>(pM pL nb.1.toNat nb.2).bind fun c=>(pN 2 c.2).bind fun nd=>(pB nd.1.toNat nd.2).bind fun d=>(pN 2 d.2).bind fun e=>(pN 1 e.2).bind fun nr=>(pM (pN 2) nr.1.toNat nr.2).bind fun f=>(pN 1 f.2).bind fun ni=>(pM pT ni.1.toNat ni.2).bind fun g=>(pN 1 g.2).bind fun ne=>(pM pX ne.1.toNat ne.2).map fun h=>(⟨a.1,b.1,c.1,d.1,e.1,f.1,g.1,h.1⟩,h.2):=rfl
structure Stay (w:qw)(g:Nat)(A:World->Prop):Prop where
 turn:∀ W W',A W->Turn (fun j=>j=g) W W'->A W'
 set:∀ W k i v,k<=w.heap.size+1->A W->A (W.setCell (qR k i) v)
theorem oU {α:Type}{t:TypeId}{f:α->List Value}{w:qw}{g:Nat}{xs:List α}(hg:g<w.heap.size)(hb:w.heap.size+2<=base):Stay w g (fun W=>OG t sz f W base v xs):=
 ⟨fun W W' h t=>h.turn t (fun k hk=>by omega),fun W k i u hk h=>h.turn (aC W k i u) (fun j hj=>by omega)⟩
theorem aF0 {w:qw}{g:Nat}(hg:g<w.heap.size)(hb:w.heap.size+2<=base):Stay w g (fun W=>OBk W base v bl):=
 ⟨fun W W' h t=>h.turn t (fun k hk=>by omega),fun W k i u hk h=>h.turn (aC W k i u) (fun j hj=>by omega)⟩
theorem aIr {w:qw}{g:Nat}{zs:qi}(hg:g<w.heap.size)(hb:w.heap.size+2<=base):Stay w g (fun W=>OB W base v zs):=
 ⟨fun W W' h t=>cC t h (fun k hk e=>by have:=(h.lt k hk).1;omega),fun W k i u hk h=>cC (aC W k i u) h (fun j hj e=>by have:=(h.lt j hj).1;omega)⟩
theorem aLv {w:qw}{g:Nat}{P:Prop}:Stay w g (fun _=>P):=⟨fun _ _ h _=>h,fun _ _ _ _ _ h=>h⟩
def st8 (W:qw)(k:Nat)(v0 v1 v2 v3 v4 v5 v6 v7:Value):World:=(((((((W.setCell (qR k 0) v0).setCell (qR k 1) v1).setCell (qR k 2) v2).setCell (qR k 3) v3).setCell (qR k 4) v4).setCell (qR k 5) v5).setCell (qR k 6) v6).setCell (qR k 7) v7
theorem Stay.st8 {w W:qw}{g:Nat}{A:World->Prop}(a:Stay w g A)(h:A W)(v0 v1 v2 v3 v4 v5 v6 v7:Value):A (st8 W w.heap.size v0 v1 v2 v3 v4 v5 v6 v7):=
 a.set _ _ _ _ (by omega) (a.set _ _ _ _ (by omega) (a.set _ _ _ _ (by omega) (a.set _ _ _ _ (by omega) (a.set _ _ _ _ (by omega) (a.set _ _ _ _ (by omega) (a.set _ _ _ _ (by omega) (a.set _ _ _ _ (by omega) h)))))))
theorem Es.st8 {w W:qw}{g b n cap:Nat}{zs r:qi}{t:TypeId}{z0 z1 z2 z3 z4 z5 z6 z7:Value}{cs:Array Value}(h:Es w W g b n cap zs r t #[z0,z1,z2,z3,z4,z5,z6,z7] cs)(v0 v1 v2 v3 v4 v5 v6 v7:Value):
 RdI (st8 W w.heap.size v0 v1 v2 v3 v4 v5 v6 v7) g b n cap zs r/\Turn (fun j=>j=g) w (st8 W w.heap.size v0 v1 v2 v3 v4 v5 v6 v7)/\Blk (st8 W w.heap.size v0 v1 v2 v3 v4 v5 v6 v7) w.heap.size #[v0,v1,v2,v3,v4,v5,v6,v7] t:=by
 have l1:w.heap.size≠g:=by have:=h.lo.1;omega
 have l2:n≠0->b≠w.heap.size:=fun hn=>by have:=h.lo.2 hn;omega
 refine ⟨(((((((h.rd.other l1 l2).other l1 l2).other l1 l2).other l1 l2).other l1 l2).other l1 l2).other l1 l2).other l1 l2,?_,?_⟩
 .exact bB (bB (bB (bB (bB (bB (bB (bB h.tu aL _ _) aL _ _) aL _ _) aL _ _) aL _ _) aL _ _) aL _ _) aL _ _
 .have k:=(((((((h.k1.set 0 v0).set 1 v1).set 2 v2).set 3 v3).set 4 v4).set 5 v5).set 6 v6).set 7 v7;have e:(((((((#[z0,z1,z2,z3,z4,z5,z6,z7].setIfInBounds 0 v0).setIfInBounds 1 v1).setIfInBounds 2 v2).setIfInBounds 3 v3).setIfInBounds 4 v4).setIfInBounds 5 v5).setIfInBounds 6 v6).setIfInBounds 7 v7=#[v0,v1,v2,v3,v4,v5,v6,v7]:=by simp
  rw [e] at k;exact k
theorem Blk.eight' {w:qw}{g:Nat}{v0 v2 v4:Value}{t:TypeId}(h:Blk w g #[v0,v1,v2,v3,v4,v5,v6,v7] t):w.cell? (qR g 0)=some v0/\w.cell? (qR g 1)=some v1/\w.cell? (qR g 2)=some v2/\w.cell? (qR g 3)=some v3/\w.cell? (qR g 4)=some v4/\w.cell? (qR g 5)=some v5/\w.cell? (qR g 6)=some v6/\w.cell? (qR g 7)=some v7:=
 ⟨h.cell 0,h.cell 1,h.cell 2,h.cell 3,h.cell 4,h.cell 5,h.cell 6,h.cell 7⟩
theorem Blk.froz {w:qw}{g:Nat}{t:TypeId}(h:Blk w g cs t):w.frozen? (qR g 0)=false/\w.frozen? (qR g 1)=false/\w.frozen? (qR g 2)=false/\w.frozen? (qR g 3)=false/\w.frozen? (qR g 4)=false/\w.frozen? (qR g 5)=false/\w.frozen? (qR g 6)=false/\w.frozen? (qR g 7)=false:=
 ⟨h.frozen 0,h.frozen 1,h.frozen 2,h.frozen 3,h.frozen 4,h.frozen 5,h.frozen 6,h.frozen 7⟩
structure ModO (W:qw)(base:Nat)(P:PMod)(a1:qO)(c1:Nat)(a2:qO)(c2:Nat)(bl:List Bk)(a3:qO)(c3:Nat)(a5:qO)(c5:Nat)(a6:qO)(c6:Nat)(a7:qO)(c7:Nat):Prop where
 t:OG 3 1 clI W base (qS a1 P.tz.length c1) P.tz
 b:OBk W base (qS a2 bl.length c2) bl
 bls:bl.map (fun B=>B.2.2.2)=P.bl
 d:OB W base (qS a3 P.dz.length c3) P.dz
 r:OG 3 1 clI W base (qS a5 P.rz.length c5) P.rz
 i:OG 9 1 clT W base (qS a6 P.ss.length c6) P.ss
 e:OG 91 3 clX W base (qS a7 P.es.length c7) P.es
 tb:∀ k,(qS a1 P.tz.length c1).ownBlock=some k->∀ B∈bl,(qS B.1 B.2.1 B.2.2.1).ownBlock≠some k
 tr:∀ k,(qS a1 P.tz.length c1).ownBlock=some k->(qS a5 P.rz.length c5).ownBlock≠some k
 br:∀ k,(qS a5 P.rz.length c5).ownBlock=some k->∀ B∈bl,(qS B.1 B.2.1 B.2.2.1).ownBlock≠some k
def fL (P:PMod)(a1:qO)(c1:Nat)(a2:qO)(c2:Nat)(bl:List Bk)(a3:qO)(c3:Nat)(a5:qO)(c5:Nat)(a6:qO)(c6:Nat)(a7:qO)(c7:Nat):Array Value:=(qM P.nm a1 P.tz.length c1 a2 bl.length c2 a3 P.dz.length c3 P.bss a5 P.rz.length c5 a6 P.ss.length c6 a7 P.es.length c7)
def aNx (base:Nat)(P:PMod)(v:Value)(w:qw):Prop:=∃ a1 c1 a2 c2 bl a3 c3 a5 c5 a6 c6 a7 c7,v=.agg (fL P a1 c1 a2 c2 bl a3 c3 a5 c5 a6 c6 a7 c7)/\ModO w base P a1 c1 a2 c2 bl a3 c3 a5 c5 a6 c6 a7 c7
theorem aE5 (g b n cap:Nat)(zs r:qi)(w:qw)(h:RdI w g b n cap zs r):
 qC 88 #[.pointer (qP g)] w (RP w g b n cap zs (aNx w.heap.size) (cZ r)):=by
 have E:=Es.new (t:=53) (z:=#[.string ⟨#[]⟩,qS none 0 0,qS none 0 0,qS none 0 0,qI 0,qS none 0 0,qS none 0 0,qS none 0 0]) h;have hmf:∀ (fn:Fn) (first cap:Array Value) (w:qw),(Instr.makeFunc fn first cap).run Tryz.prog w=.ok (.func fn first cap) w:=fun _ _ _ _=>rfl;have HN:=zh (fun w r h=>gT g b n cap zs r 1 w h (Or.inl rfl));have HE:=zh (aJn r);have hA:(fun _:World=>True) w:=trivial;have st:Stay w g (fun _=>True):=aLv;have hg:=h.lts.1;have HQ:=zh h.range;clear h;go_enter Tryz.func88,Tryz.ntmps88
 go_wp2_with fail
 refine (vO g b n cap zs r _ E.rd).mono ?_;intro e w1 H;cases hp:pT r with
 | none=>
   obtain ⟨T,rfl⟩:=H.none hp;have ET:=E.tu.trans T;have e0:=HE.o;rw [hp] at e0;have HN0:Zh (cZ r=none):=e0;clear e0;unfold aZ;go_wp2;exact ⟨rfl,RP.ofNone HN0.o ET⟩
 | some xx=>
   obtain ⟨nm,r1⟩:=xx;obtain ⟨T,v,rfl,hv,R⟩:=H.some hp;have e0:=HE.o;rw [hp] at e0;simp only [Option.bind_some,Option.map_some] at e0;obtain rfl:v=.string nm:=hv;have HE0:=zh e0;clear e0 HE;have HE:=HE0;clear HE0;have E1:=E.call T R;clear E T R H hp;have E:=E1;clear E1;have q:=E.k2.cell 0;have f:=E.k2.frozen 0;simp at q;have E1:=E.set 0 (.string nm);clear E;have E:=E1;clear E1;go_wp2_with fail
   refine (zR g b n cap zs r1 _ E.rd).mono ?_;intro e w2 H;cases hp:pL r1 with
   | none=>
     obtain ⟨T,rfl⟩:=H.none hp;have ET:=E.tu.trans T;have e0:=HE.o;rw [hp] at e0;have HN0:Zh (cZ r=none):=e0;clear e0;unfold aZ;go_wp2;exact ⟨rfl,RP.ofNone HN0.o ET⟩
   | some xx=>
     obtain ⟨tz,r2⟩:=xx;obtain ⟨T,v,rfl,hv,R⟩:=H.some hp;have e0:=HE.o;rw [hp] at e0;simp only [Option.bind_some,Option.map_some] at e0;obtain ⟨a1,c1,rfl,o1⟩:=hv;have hb1:w.heap.size+2<=_:=E.k2.lt;have o1:=o1.mono hb1;have HE0:=zh e0;clear e0 HE;have HE:=HE0;clear HE0;have E1:=E.call T R;clear E T R H hp;have E:=E1;clear E1;have o1s:=zh (oU hg aL:Stay w g (fun W=>OG 3 1 clI W (w.heap.size+2) (qS a1 tz.length c1) tz));clear q f;have q:=E.k2.cell 1;have f:=E.k2.frozen 1;simp at q;have E1:=E.set 1 (qS a1 tz.length c1);have o1:=o1s.o.set _ _ 1 (qS a1 tz.length c1) aL o1;clear E;have E:=E1;clear E1;go_wp2_with fail
     refine (HN.o _ r2 E.rd).mono ?_;intro e w3 H;cases hp:pN 1 r2 with
     | none=>
       obtain ⟨T,rfl⟩:=H.none hp;have ET:=E.tu.trans T;have e0:=HE.o;rw [hp] at e0;have HN0:Zh (cZ r=none):=e0;clear e0;unfold aZ;go_wp2;exact ⟨rfl,RP.ofNone HN0.o ET⟩
     | some xx=>
       obtain ⟨xb,r3⟩:=xx;obtain ⟨T,v,rfl,hv,R⟩:=H.some hp;have e0:=HE.o;rw [hp] at e0;simp only [Option.bind_some,Option.map_some] at e0;have hx:=(cG _ _ _ E.rd.range hp).1;obtain ⟨mb,rfl⟩:∃ mb:Nat,xb=(mb:Int):=⟨xb.toNat,by omega⟩;have hmb:mb<=255:=by omega
       clear hx;obtain rfl:v=qI mb:=hv;simp only [xY] at e0;have HE0:=zh e0;clear e0 HE;have HE:=HE0;clear HE0;have E1:=E.call T R;have o1:=o1s.o.turn _ _ o1 T;clear E T R H hp;have E:=E1;clear E1;clear q f;go_wp2_with fail
       refine (aEk g b n cap zs mb r3 _ E.rd (by omega)).mono ?_;intro e w4 H;cases hp:pM pL mb r3 with
       | none=>
         obtain ⟨T,rfl⟩:=H.none hp;have ET:=E.tu.trans T;have e0:=HE.o;rw [hp] at e0;have HN0:Zh (cZ r=none):=e0;clear e0;unfold aZ;go_wp2;exact ⟨rfl,RP.ofNone HN0.o ET⟩
       | some xx=>
         obtain ⟨xs,r4⟩:=xx;obtain ⟨T,v,rfl,hv,R⟩:=H.some hp;have e0:=HE.o;rw [hp] at e0;simp only [Option.bind_some,Option.map_some] at e0;obtain ⟨bl,rfl,a2,c2,rfl,o2⟩:=hv;have hb1:w.heap.size+2<=_:=E.k2.lt;have HTB:=zh (xA (fun k hk=>(o1.lt k hk).2) (fun B (hB:B∈bl) k hk=>((o2.rows B hB).2.lt k hk).1));have o2:=o2.mono hb1;have HE0:=zh e0;clear e0 HE;have HE:=HE0;clear HE0;have E1:=E.call T R;have o1:=o1s.o.turn _ _ o1 T;clear E T R H hp;have E:=E1;clear E1;have o2s:=zh (aF0 hg aL:Stay w g (fun W=>OBk W (w.heap.size+2) (qS a2 bl.length c2) bl));have q:=E.k2.cell 2;have f:=E.k2.frozen 2;simp at q;have E1:=E.set 2 (qS a2 bl.length c2);have o1:=o1s.o.set _ _ 2 (qS a2 bl.length c2) aL o1;have o2:=o2s.o.set _ _ 2 (qS a2 bl.length c2) aL o2;clear E;have E:=E1;clear E1;go_wp2_with fail
         refine (jK g b n cap zs r4 _ E.rd).mono ?_;intro e w5 H;cases hp:pN 2 r4 with
         | none=>
           obtain ⟨T,rfl⟩:=H.none hp;have ET:=E.tu.trans T;have e0:=HE.o;rw [hp] at e0;have HN0:Zh (cZ r=none):=e0;clear e0;unfold aZ;go_wp2;exact ⟨rfl,RP.ofNone HN0.o ET⟩
         | some xx=>
           obtain ⟨xd,r5⟩:=xx;obtain ⟨T,v,rfl,hv,R⟩:=H.some hp;have e0:=HE.o;rw [hp] at e0;simp only [Option.bind_some,Option.map_some] at e0;have hx:=(dM 2 (by omega) _ _ _ E.rd.range hp).1;obtain ⟨md,rfl⟩:∃ md:Nat,xd=(md:Int):=⟨xd.toNat,by omega⟩;have hmd:md<=65535:=by have:=hx.2.2 (by omega);omega
           clear hx;obtain rfl:v=qI md:=hv;simp only [xY] at e0;have HE0:=zh e0;clear e0 HE;have HE:=HE0;clear HE0;have E1:=E.call T R;have o1:=o1s.o.turn _ _ o1 T;have o2:=o2s.o.turn _ _ o2 T;clear E T R H hp;have E:=E1;clear E1;clear q f;go_wp2_with fail
           refine (lL g b n cap zs r5 md _ E.rd).mono ?_;intro e w6 H;cases hp:pB md r5 with
           | none=>
             obtain ⟨T,rfl⟩:=H.none hp;have ET:=E.tu.trans T;have e0:=HE.o;rw [hp] at e0;have HN0:Zh (cZ r=none):=e0;clear e0;unfold aZ;go_wp2;exact ⟨rfl,RP.ofNone HN0.o ET⟩
           | some xx=>
             obtain ⟨dz,r6⟩:=xx;obtain ⟨T,v,rfl,hv,R⟩:=H.some hp;have e0:=HE.o;rw [hp] at e0;simp only [Option.bind_some,Option.map_some] at e0;obtain ⟨db,dk,dc,rfl,hB⟩:=hv;have hdl:dz.length<=1048576:=by have:=(mH md _ _ _ E.rd.range hp).1.1;omega
             have HE0:=zh e0;clear e0 HE;have HE:=HE0;clear HE0;have E1:=E.call T R;have o1:=o1s.o.turn _ _ o1 T;have o2:=o2s.o.turn _ _ o2 T;clear E T R H hp;have E:=E1;clear E1;go_wp2_with fail
             refine (aFo db dk dz.length dc dz _ hB hdl).mono ?_;rintro e w7 ⟨a3,c3,rfl,o3,hb⟩;have hb1:w.heap.size+2<=_:=E.k2.lt;have o3:=o3.mono hb1;have T:Turn (fun j=>j=g) _ _:=aJ hb;have R:=E.rd.bw hb;have E1:=E.call T R;have o1:=o1s.o.turn _ _ o1 T;have o2:=o2s.o.turn _ _ o2 T;clear E T R hb hB;have E:=E1;clear E1;have o3s:=zh (aIr hg aL:Stay w g (fun W=>OB W (w.heap.size+2) (qS a3 dz.length c3) dz));have q:=E.k2.cell 3;have f:=E.k2.frozen 3;simp at q;have E1:=E.set 3 (qS a3 dz.length c3);have o1:=o1s.o.set _ _ 3 (qS a3 dz.length c3) aL o1;have o2:=o2s.o.set _ _ 3 (qS a3 dz.length c3) aL o2;have o3:=o3s.o.set _ _ 3 (qS a3 dz.length c3) aL o3;clear E;have E:=E1;clear E1;go_wp2_with fail
             refine (jK g b n cap zs r6 _ E.rd).mono ?_;intro e w8 H;cases hp:pN 2 r6 with
             | none=>
               obtain ⟨T,rfl⟩:=H.none hp;have ET:=E.tu.trans T;have e0:=HE.o;rw [hp] at e0;have HN0:Zh (cZ r=none):=e0;clear e0;unfold aZ;go_wp2;exact ⟨rfl,RP.ofNone HN0.o ET⟩
             | some xx=>
               obtain ⟨bss,r7⟩:=xx;obtain ⟨T,v,rfl,hv,R⟩:=H.some hp;have e0:=HE.o;rw [hp] at e0;simp only [Option.bind_some,Option.map_some] at e0;obtain rfl:v=qI bss:=hv;have HE0:=zh e0;clear e0 HE;have HE:=HE0;clear HE0;have E1:=E.call T R;have o1:=o1s.o.turn _ _ o1 T;have o2:=o2s.o.turn _ _ o2 T;have o3:=o3s.o.turn _ _ o3 T;clear E T R H hp;have E:=E1;clear E1;clear q f;have q:=E.k2.cell 4;have f:=E.k2.frozen 4;simp at q;have E1:=E.set 4 (qI bss);have o1:=o1s.o.set _ _ 4 (qI bss) aL o1;have o2:=o2s.o.set _ _ 4 (qI bss) aL o2;have o3:=o3s.o.set _ _ 4 (qI bss) aL o3;clear E;have E:=E1;clear E1;go_wp2_with fail
               refine (HN.o _ r7 E.rd).mono ?_;intro e w9 H;cases hp:pN 1 r7 with
               | none=>
                 obtain ⟨T,rfl⟩:=H.none hp;have ET:=E.tu.trans T;have e0:=HE.o;rw [hp] at e0;have HN0:Zh (cZ r=none):=e0;clear e0;unfold aZ;go_wp2;exact ⟨rfl,RP.ofNone HN0.o ET⟩
               | some xx=>
                 obtain ⟨xr,r8⟩:=xx;obtain ⟨T,v,rfl,hv,R⟩:=H.some hp;have e0:=HE.o;rw [hp] at e0;simp only [Option.bind_some,Option.map_some] at e0;have hx:=(cG _ _ _ E.rd.range hp).1;obtain ⟨mr,rfl⟩:∃ mr:Nat,xr=(mr:Int):=⟨xr.toNat,by omega⟩;have hmr:mr<=255:=by omega
                 clear hx;obtain rfl:v=qI mr:=hv;simp only [xY] at e0;have HE0:=zh e0;clear e0 HE;have HE:=HE0;clear HE0;have E1:=E.call T R;have o1:=o1s.o.turn _ _ o1 T;have o2:=o2s.o.turn _ _ o2 T;have o3:=o3s.o.turn _ _ o3 T;clear E T R H hp;have E:=E1;clear E1;clear q f;go_wp2_with fail
                 refine (pQ g b n cap zs mr r8 _ E.rd (by omega)).mono ?_;intro e w10 H;cases hp:pM (pN 2) mr r8 with
                 | none=>
                   obtain ⟨T,rfl⟩:=H.none hp;have ET:=E.tu.trans T;have e0:=HE.o;rw [hp] at e0;have HN0:Zh (cZ r=none):=e0;clear e0;unfold aZ;go_wp2;exact ⟨rfl,RP.ofNone HN0.o ET⟩
                 | some xx=>
                   obtain ⟨rz,r9⟩:=xx;obtain ⟨T,v,rfl,hv,R⟩:=H.some hp;have e0:=HE.o;rw [hp] at e0;simp only [Option.bind_some,Option.map_some] at e0;obtain ⟨a5,c5,rfl,o5⟩:=hv;have hb1:w.heap.size+2<=_:=E.k2.lt;have HTR:=zh (xA (fun k hk=>(o1.lt k hk).2) (xA (fun B (hB:B∈bl) k hk=>((o2.rows B hB).2.lt k hk).2) (fun k hk=>(o5.lt k hk).1)));have o5:=o5.mono hb1;have HE0:=zh e0;clear e0 HE;have HE:=HE0;clear HE0;have E1:=E.call T R;have o1:=o1s.o.turn _ _ o1 T;have o2:=o2s.o.turn _ _ o2 T;have o3:=o3s.o.turn _ _ o3 T;clear E T R H hp;have E:=E1;clear E1;have o5s:=zh (oU hg aL:Stay w g (fun W=>OG 3 1 clI W (w.heap.size+2) (qS a5 rz.length c5) rz));have q:=E.k2.cell 5;have f:=E.k2.frozen 5;simp at q;have E1:=E.set 5 (qS a5 rz.length c5);have o1:=o1s.o.set _ _ 5 (qS a5 rz.length c5) aL o1;have o2:=o2s.o.set _ _ 5 (qS a5 rz.length c5) aL o2;have o3:=o3s.o.set _ _ 5 (qS a5 rz.length c5) aL o3;have o5:=o5s.o.set _ _ 5 (qS a5 rz.length c5) aL o5;clear E;have E:=E1;clear E1;go_wp2_with fail
                   refine (HN.o _ r9 E.rd).mono ?_;intro e w11 H;cases hp:pN 1 r9 with
                   | none=>
                     obtain ⟨T,rfl⟩:=H.none hp;have ET:=E.tu.trans T;have e0:=HE.o;rw [hp] at e0;have HN0:Zh (cZ r=none):=e0;clear e0;unfold aZ;go_wp2;exact ⟨rfl,RP.ofNone HN0.o ET⟩
                   | some xx=>
                     obtain ⟨xi,r10⟩:=xx;obtain ⟨T,v,rfl,hv,R⟩:=H.some hp;have e0:=HE.o;rw [hp] at e0;simp only [Option.bind_some,Option.map_some] at e0;have hx:=(cG _ _ _ E.rd.range hp).1;obtain ⟨mi,rfl⟩:∃ mi:Nat,xi=(mi:Int):=⟨xi.toNat,by omega⟩;have hmi:mi<=255:=by omega
                     clear hx;obtain rfl:v=qI mi:=hv;simp only [xY] at e0;have HE0:=zh e0;clear e0 HE;have HE:=HE0;clear HE0;have E1:=E.call T R;have o1:=o1s.o.turn _ _ o1 T;have o2:=o2s.o.turn _ _ o2 T;have o3:=o3s.o.turn _ _ o3 T;have o5:=o5s.o.turn _ _ o5 T;clear E T R H hp;have E:=E1;clear E1;clear q f;go_wp2_with fail
                     refine (tP g b n cap zs mi r10 _ E.rd (by omega)).mono ?_;intro e w12 H;cases hp:pM pT mi r10 with
                     | none=>
                       obtain ⟨T,rfl⟩:=H.none hp;have ET:=E.tu.trans T;have e0:=HE.o;rw [hp] at e0;have HN0:Zh (cZ r=none):=e0;clear e0;unfold aZ;go_wp2;exact ⟨rfl,RP.ofNone HN0.o ET⟩
                     | some xx=>
                       obtain ⟨ss,r11⟩:=xx;obtain ⟨T,v,rfl,hv,R⟩:=H.some hp;have e0:=HE.o;rw [hp] at e0;simp only [Option.bind_some,Option.map_some] at e0;obtain ⟨a6,c6,rfl,o6⟩:=hv;have hb1:w.heap.size+2<=_:=E.k2.lt;have o6:=o6.mono hb1;have HE0:=zh e0;clear e0 HE;have HE:=HE0;clear HE0;have E1:=E.call T R;have o1:=o1s.o.turn _ _ o1 T;have o2:=o2s.o.turn _ _ o2 T;have o3:=o3s.o.turn _ _ o3 T;have o5:=o5s.o.turn _ _ o5 T;clear E T R H hp;have E:=E1;clear E1;have o6s:=zh (oU hg aL:Stay w g (fun W=>OG 9 1 clT W (w.heap.size+2) (qS a6 ss.length c6) ss));have q:=E.k2.cell 6;have f:=E.k2.frozen 6;simp at q;have E1:=E.set 6 (qS a6 ss.length c6);have o1:=o1s.o.set _ _ 6 (qS a6 ss.length c6) aL o1;have o2:=o2s.o.set _ _ 6 (qS a6 ss.length c6) aL o2;have o3:=o3s.o.set _ _ 6 (qS a6 ss.length c6) aL o3;have o5:=o5s.o.set _ _ 6 (qS a6 ss.length c6) aL o5;have o6:=o6s.o.set _ _ 6 (qS a6 ss.length c6) aL o6;clear E;have E:=E1;clear E1;go_wp2_with fail
                       refine (HN.o _ r11 E.rd).mono ?_;intro e w13 H;cases hp:pN 1 r11 with
                       | none=>
                         obtain ⟨T,rfl⟩:=H.none hp;have ET:=E.tu.trans T;have e0:=HE.o;rw [hp] at e0;have HN0:Zh (cZ r=none):=e0;clear e0;unfold aZ;go_wp2;exact ⟨rfl,RP.ofNone HN0.o ET⟩
                       | some xx=>
                         obtain ⟨xe,r12⟩:=xx;obtain ⟨T,v,rfl,hv,R⟩:=H.some hp;have e0:=HE.o;rw [hp] at e0;simp only [Option.bind_some,Option.map_some] at e0;have hx:=(cG _ _ _ E.rd.range hp).1;obtain ⟨me,rfl⟩:∃ me:Nat,xe=(me:Int):=⟨xe.toNat,by omega⟩;have hme:me<=255:=by omega
                         clear hx;obtain rfl:v=qI me:=hv;simp only [xY] at e0;have HE0:=zh e0;clear e0 HE;have HE:=HE0;clear HE0;have E1:=E.call T R;have o1:=o1s.o.turn _ _ o1 T;have o2:=o2s.o.turn _ _ o2 T;have o3:=o3s.o.turn _ _ o3 T;have o5:=o5s.o.turn _ _ o5 T;have o6:=o6s.o.turn _ _ o6 T;clear E T R H hp;have E:=E1;clear E1;clear q f;go_wp2_with fail
                         refine (oP g b n cap zs me r12 _ E.rd (by omega)).mono ?_;intro e w14 H;cases hp:pM pX me r12 with
                         | none=>
                           obtain ⟨T,rfl⟩:=H.none hp;have ET:=E.tu.trans T;have e0:=HE.o;rw [hp] at e0;have HN0:Zh (cZ r=none):=e0;clear e0;unfold aZ;go_wp2;exact ⟨rfl,RP.ofNone HN0.o ET⟩
                         | some xx=>
                           obtain ⟨es,r13⟩:=xx;obtain ⟨T,v,rfl,hv,R⟩:=H.some hp;have e0:=HE.o;rw [hp] at e0;simp only [Option.bind_some,Option.map_some] at e0;obtain ⟨a7,c7,rfl,o7⟩:=hv;have hb1:w.heap.size+2<=_:=E.k2.lt;have o7:=o7.mono hb1;have HE0:=zh e0;clear e0 HE;have HE:=HE0;clear HE0;have E1:=E.call T R;have o1:=o1s.o.turn _ _ o1 T;have o2:=o2s.o.turn _ _ o2 T;have o3:=o3s.o.turn _ _ o3 T;have o5:=o5s.o.turn _ _ o5 T;have o6:=o6s.o.turn _ _ o6 T;clear E T R H hp;have E:=E1;clear E1;have o7s:=zh (oU hg aL:Stay w g (fun W=>OG 91 3 clX W (w.heap.size+2) (qS a7 es.length c7) es));have q:=E.k2.cell 7;have f:=E.k2.frozen 7;simp at q;have E1:=E.set 7 (qS a7 es.length c7);have o1:=o1s.o.set _ _ 7 (qS a7 es.length c7) aL o1;have o2:=o2s.o.set _ _ 7 (qS a7 es.length c7) aL o2;have o3:=o3s.o.set _ _ 7 (qS a7 es.length c7) aL o3;have o5:=o5s.o.set _ _ 7 (qS a7 es.length c7) aL o5;have o6:=o6s.o.set _ _ 7 (qS a7 es.length c7) aL o6;have o7:=o7s.o.set _ _ 7 (qS a7 es.length c7) aL o7;clear E;have E:=E1;clear E1;have kk:=E.k2;simp at kk;obtain ⟨u0,u1,u2,u3,u4,u5,u6,u7⟩:=kk.eight';obtain ⟨p0,p1,p2,p3,p4,p5,p6,p7⟩:=E.k1.eight';obtain ⟨g0,g1,g2,g3,g4,g5,g6,g7⟩:=E.k1.froz;have HF:=zh (E.st8 (.string nm) (qS a1 tz.length c1) (qS a2 bl.length c2) (qS a3 dz.length c3) (qI bss) (qS a5 rz.length c5) (qS a6 ss.length c6) (qS a7 es.length c7));have o1:=o1s.o.st8 o1 (.string nm) (qS a1 tz.length c1) (qS a2 bl.length c2) (qS a3 dz.length c3) (qI bss) (qS a5 rz.length c5) (qS a6 ss.length c6) (qS a7 es.length c7);have o2:=o2s.o.st8 o2 (.string nm) (qS a1 tz.length c1) (qS a2 bl.length c2) (qS a3 dz.length c3) (qI bss) (qS a5 rz.length c5) (qS a6 ss.length c6) (qS a7 es.length c7);have o3:=o3s.o.st8 o3 (.string nm) (qS a1 tz.length c1) (qS a2 bl.length c2) (qS a3 dz.length c3) (qI bss) (qS a5 rz.length c5) (qS a6 ss.length c6) (qS a7 es.length c7);have o5:=o5s.o.st8 o5 (.string nm) (qS a1 tz.length c1) (qS a2 bl.length c2) (qS a3 dz.length c3) (qI bss) (qS a5 rz.length c5) (qS a6 ss.length c6) (qS a7 es.length c7);have o6:=o6s.o.st8 o6 (.string nm) (qS a1 tz.length c1) (qS a2 bl.length c2) (qS a3 dz.length c3) (qI bss) (qS a5 rz.length c5) (qS a6 ss.length c6) (qS a7 es.length c7);have o7:=o7s.o.st8 o7 (.string nm) (qS a1 tz.length c1) (qS a2 bl.length c2) (qS a3 dz.length c3) (qI bss) (qS a5 rz.length c5) (qS a6 ss.length c6) (qS a7 es.length c7);have HO:=zh (xA o1 (xA o2 (xA o3 (xA o5 (xA o6 o7)))));clear E kk o1 o2 o3 o5 o6 o7;go_wp2;obtain ⟨FR,FT,FK⟩:=HF.o;obtain ⟨o1,o2,o3,o5,o6,o7⟩:=HO.o;obtain ⟨t0,t1,t2,t3,t4,t5,t6,t7⟩:=FK.eight';refine bodyPost_ret_by (v:=.agg (fL ⟨nm,tz,bl.map (fun B=>B.2.2.2),dz,bss,rz,ss,es⟩ a1 c1 a2 c2 bl a3 c3 a5 c5 a6 c6 a7 c7)) ?_ rfl (RP.ofSome (x:=⟨nm,tz,bl.map (fun B=>B.2.2.2),dz,bss,rz,ss,es⟩) (r:=r13) HE.o FT ⟨a1,c1,a2,c2,bl,a3,c3,a5,c5,a6,c6,a7,c7,rfl,⟨o1.mono (by omega),o2.mono (by omega),rfl,o3.mono (by omega),o5.mono (by omega),o6.mono (by omega),o7.mono (by omega),?_,?_,?_⟩⟩ FR)
                           .unfold st8 at t0 t1 t2 t3 t4 t5 t6 t7;simp only [results,Tryz.results88];simp [go_sem,t0,t1,t2,t3,t4,t5,t6,t7,fL]
                           .exact fun k hk B hB e=>by have h1:=HTB.o.1 k hk;have h2:=HTB.o.2 B hB k e;omega
                           .exact fun k hk e=>by have h1:=HTR.o.1 k hk;have h2:=HTR.o.2.2 k e;omega
                           .exact fun k hk B hB e=>by have h1:=HTR.o.2.1 B hB k e;have h2:=HTR.o.2.2 k hk;omega
def z8:Array Value:=#[.string ⟨#[]⟩,qS none 0 0,qS none 0 0,qS none 0 0,qI 0,qS none 0 0,qS none 0 0,qS none 0 0]
theorem aEb (h:cs.size=8):∃ c0 c1 c2 c3 c4 c5 c6 c7,cs=#[c0,c1,c2,c3,c4,c5,c6,c7]:=by
 obtain ⟨l⟩:=cs
 match l,h with
 | [a,b,c,d,e,f,g,i],_=>exact ⟨a,b,c,d,e,f,g,i,rfl⟩
def lI (W:qw)(m k:Nat)(c:Int):World:=(st8 W m (.string ⟨#[]⟩) (qS none 0 0) (qS none 0 0) (qS none 0 0) (qI 0) (qS none 0 0) (qS none 0 0) (qS none 0 0)).setCell (qR k 0) (qI c)
theorem aB0 (c:Int)(t:TypeId)(W:qw):(Instr.typeAssert (.iface 144 (qI c)) t 144 false).run Tryz.prog W=.ok (qI c) W:=by
 simp [Instr.typeAssert,run_underlying Tryz.underlying144]
theorem aCy (m k:Nat)(w:qw):
 CallsD Tryz.prog 86 #[.pointer (qP m),.pointer (qP k)] .returning w fun e u' w'=>e=.returned (.tuple #[])/\u'=.returning/\w'=w:=by
 refine callsD_of_wpS Tryz.func86 rfl fun c₀ cs hu=>?_;apply wpS_seq;apply wpS_region;simp [wpOpsS,go_sem,recoverD,hu,Tryz.ntmps86,Exit.thenS];apply wpS_seq;apply wpS_region;simp [wpOpsS,go_sem,recoverD,hu,Tryz.ntmps86,Exit.thenS];refine wpS_cond (t:=false) (by simp [Act.eval,Array.replicate]) ?_;simp only [Bool.false_eq_true,if_false];refine wpS_of_wp (wp_skip ?_);cases c₀
 simp_all [bodyPostS,results,Tryz.results86]
theorem oL (m k:Nat)(c:Int)(older:List PanicEntry)(ms:Array Value)(x:Value)(w:qw)(hm:Blk w m ms 53)(hs:ms.size=8)(hk:Blk w k #[x] 3):
 CallsD Tryz.prog 86 #[.pointer (qP m),.pointer (qP k)] (.panicking ({ v:=.iface 144 (qI c),recovered:=false } :: older)) w fun e u' w'=>
  e=.returned (.tuple #[])/\u'=.panicking ({ v:=.iface 144 (qI c),recovered:=true } :: older)/\w'=(lI w m k c).drew:=by
 refine callsD_of_wpS Tryz.func86 rfl fun c₀ cs hu=>?_;apply wpS_seq;apply wpS_region;simp [wpOpsS,go_sem,recoverD,hu,Tryz.ntmps86,Exit.thenS];apply wpS_seq;apply wpS_region;simp [wpOpsS,go_sem,recoverD,hu,Tryz.ntmps86,Exit.thenS];refine wpS_cond (t:=true) (by simp [Act.eval,Array.replicate]) ?_;simp only [if_true];refine wpS_of_wp ?_;have hmk:m≠k:=fun e=>by rw [e] at hm;exact absurd (aW hm hk) (by decide)
 have hkm:k≠m:=fun e=>hmk e.symm;obtain ⟨y0,y1,y2,y3,y4,y5,y6,y7,rfl⟩:=aEb hs;obtain ⟨p0,p1,p2,p3,p4,p5,p6,p7⟩:=hm.eight';obtain ⟨f0,f1,f2,f3,f4,f5,f6,f7⟩:=hm.froz;have r0:=hk.cell 0;have r1:=hk.frozen 0;simp at r0;clear hm hk hs;change Code.wp _ _ _ ⟨#[.pointer (qP m),.pointer (qP k),.iface 144 (qI c),.iface 144 (qI c),.iface 144 (qI c),.bool true,undef,undef,undef],[]⟩ _;have hta:=fun (t:TypeId) (W:qw)=>aB0 c t W
 go_region
 cases c₀
 simp_all [bodyPostS,results,Tryz.results86,lI,st8]
def xm:ByteArray:=⟨#[88,77]⟩
def lY (zs:qi):Bool:=decide (2<=zs.length)&&decide (eQ (zs.take 2)=xm)
def aNa (w:qw)(g b n cap:Nat)(zs:qi)(e:Ending)(w':qw):Prop:=Turn (fun j=>j=g) w w'/\((20000<n/\e=aZ 3)\/(n<=20000/\lY zs=false/\e=aZ 1)\/(n<=20000/\lY zs=true/\e=.returned (.tuple #[])/\RdI w' g b n cap zs (zs.drop 2)))
theorem aIh (g b n cap:Nat)(zs:qi)(w:qw)(h:RdI w g b n cap zs zs):
 qC 87 #[.pointer (qP g)] w (aNa w g b n cap zs):=by
 obtain ⟨k,a,hk,hr,hb,ha⟩:=h.pos;have hl:=h.bs.1
 obtain rfl:k=0:=by
  have:=congrArg List.length hr;rw [List.length_drop,hl] at this;omega
 have q0:=hb.cell 0;simp at q0;clear hr hb ha hk;have hsm:=h.small;by_cases c1:20000<n
 .have c1':(20000:Int)<(n:Int):=by omega
  clear h;go_enter Tryz.func87,Tryz.ntmps87
  go_wp2;exact ⟨rfl,Turn.refl _ _,.inl ⟨c1,rfl⟩⟩
 .have c1':¬ (20000:Int)<(n:Int):=by omega
  by_cases c2:n<2
  .have c2':(n:Int)<2:=by omega
   have HM:=zh (show lY zs=false by unfold lY;rw [xS (by omega)];rfl);clear h;go_enter Tryz.func87,Tryz.ntmps87
   go_wp2;exact ⟨rfl,Turn.refl _ _,.inr (.inl ⟨by omega,HM.o,rfl⟩)⟩
  .have c2':¬ (n:Int)<2:=by omega
   have HT:=zh (lL g b n cap zs zs 2 w h);have hp:pB 2 zs=some (zs.take 2,zs.drop 2):=lS (by omega);have HM:=zh (show lY zs=decide (eQ (zs.take 2)=xm) by unfold lY;rw [xR (by omega)];rfl);clear h;go_enter Tryz.func87,Tryz.ntmps87
   go_wp2_with fail
   refine HT.o.mono ?_;intro e w1 H;obtain ⟨T1,v,rfl,⟨b',k,c',rfl,hB⟩,R1⟩:=H.some hp;have hcv:=qD w1 b' k c' (zs.take 2) hB;have hlt:(zs.take 2).length=2:=by rw [List.length_take];omega
   rw [hlt] at hcv ⊢;clear hlt;have HR:=zh (xA T1 R1);clear T1 R1 hB H HT hp;by_cases c3:eQ (zs.take 2)=xm
   .rw [c3] at hcv;rw [xR c3] at HM;clear c3;unfold xm at hcv;go_wp2
    go_end0
    exact ⟨HR.o.1,.inr (.inr ⟨by omega,HM.o,rfl,HR.o.2⟩)⟩
   .rw [xS c3] at HM;generalize eQ (zs.take 2)=S at *
    have c4:(S.toList == [88,77])=false:=by
     rw [beq_eq_false_iff_ne];intro e;rw [ByteArray.toList_eq] at e;exact c3 (by cases S;rename_i d;cases d;simp at e;subst e;rfl)
    go_wp2;exact ⟨rfl,HR.o.1,.inr (.inl ⟨by omega,HM.o,rfl⟩)⟩
theorem aMx (g b n cap:Nat)(zs r:qi)(w:qw)(h:RdI w g b n cap zs r):
 qC 89 #[.pointer (qP g)] w (fun e w'=>w=w'/\((r=[]/\e=.returned (.tuple #[]))\/(r≠[]/\e=aZ 3))):=by
 obtain ⟨k,a,hk,hr,hb,ha⟩:=h.pos;have hl:=h.bs.1;have q0:=hb.cell 0;simp at q0;have hrl:r.length=n-k:=by rw [hr,List.length_drop,hl]
 by_cases c1:n-k=0
 .have HM:=zh (xE (hrl.trans c1));rw [c1] at q0;clear h hr hb ha hrl;go_enter Tryz.func89,Tryz.ntmps89
  go_wp2
  go_end0
  exact ⟨rfl,.inl ⟨HM.o,rfl⟩⟩
 .have HM:Zh (r≠[]):=fun e=>by rw [e] at hrl;simp at hrl;omega
  have c1':(0:Int)<((n-k:Nat):Int):=by omega
  clear h hr hb ha hrl;go_enter Tryz.func89,Tryz.ntmps89
  go_wp2;exact ⟨rfl,rfl,.inr ⟨HM.o,rfl⟩⟩
theorem ModO.mdG {W:qw}{P:PMod}(h:ModO W base P a1 c1 a2 c2 bl a3 c3 a5 c5 a6 c6 a7 c7)(R:PmG P):
 MD W P.nm a1 P.tz.length c1 P.tz a2 bl.length c2 bl a3 P.dz.length c3 P.dz P.bss a5 P.rz.length c5 P.rz a6 P.ss.length c6 P.ss a7 P.es.length c7 P.es where
 n:=R.n
 t:=lV h.t R.t.2
 b:=aDj h.b (fun B hB z hz=>by
  have hm:B.2.2.2∈P.bl:=by rw [<- h.bls];exact List.mem_map.2 ⟨B,hB,rfl⟩
  exact (R.b.2 _ hm).2 z hz)
 d:=h.d.bs
 s:=R.s
 r:=lV h.r R.r.2
 i:=aK7 h.i R.i.2
 e:=aLa h.e R.e.2
theorem ModO.md {W:qw}{P:PMod}(h:ModO W base P a1 c1 a2 c2 bl a3 c3 a5 c5 a6 c6 a7 c7)(R:PmR P):
 MD W P.nm a1 P.tz.length c1 P.tz a2 bl.length c2 bl a3 P.dz.length c3 P.dz P.bss a5 P.rz.length c5 P.rz a6 P.ss.length c6 P.ss a7 P.es.length c7 P.es:=h.mdG R.g
theorem ModO.mdo {W:qw}{base:Nat}{P:PMod}{a1:qO}{c1:Nat}{a2:qO}{c2:Nat}{bl:List Bk}{a3:qO}{c3:Nat}{a5:qO}{c5:Nat}{a6:qO}{c6:Nat}{a7:qO}{c7:Nat}(h:ModO W base P a1 c1 a2 c2 bl a3 c3 a5 c5 a6 c6 a7 c7):
 mdo P.nm P.tz.length P.tz bl.length bl P.dz.length P.bss P.rz.length P.rz P.ss.length P.ss P.es.length P.es=bI P:=by
 have hl:bl.length=P.bl.length:=by rw [<- h.bls,xH]
 unfold bI;rw [<- hl];refine aDo (by rw [hl];simp [dO]) (fun i hi=>?_);have hm:bl.getD i zB∈bl:=by simp [xB,hi]
 have e:(dO P.bl).getD i zB=(none,(bl.getD i zB).2.2.2.length,(bl.getD i zB).2.2.2.length,(bl.getD i zB).2.2.2):=by
  rw [<- h.bls];simp [dO,xB,hi]
 rw [e];exact ⟨(h.b.rows _ hm).1,rfl⟩
def prs (zs:qi):Int×Option PMod:=
 if 20000<zs.length then (3,none) else if lY zs=false then (1,none) else match cZ (zs.drop 2) with
  | none=>(2,none)
  | some x=>if x.2≠[] then (3,none) else if bI x.1≠0 then (10+bI x.1,none) else (0,some x.1)
theorem ModO.turn {W W':qw}{P:PMod}(h:ModO W base P a1 c1 a2 c2 bl a3 c3 a5 c5 a6 c6 a7 c7)(t:Turn S W W')(hS:∀ k,S k->¬ base<=k):ModO W' base P a1 c1 a2 c2 bl a3 c3 a5 c5 a6 c6 a7 c7:=
 ⟨h.t.turn t hS,h.b.turn t hS,h.bls,cC t h.d (fun k hk s=>hS k s (h.d.lt k hk).1),h.r.turn t hS,h.i.turn t hS,h.e.turn t hS,h.tb,h.tr,h.br⟩
theorem ModO.mono {W:qw}{P:PMod}(h:ModO W base P a1 c1 a2 c2 bl a3 c3 a5 c5 a6 c6 a7 c7)(hb:base'<=base):ModO W base' P a1 c1 a2 c2 bl a3 c3 a5 c5 a6 c6 a7 c7:=
 ⟨h.t.mono hb,h.b.mono hb,h.bls,h.d.mono hb,h.r.mono hb,h.i.mono hb,h.e.mono hb,h.tb,h.tr,h.br⟩
theorem cS (W:qw)(k:Nat)(v0 v1 v2 v3 v4 v5 v6 v7:Value):Turn (fun j=>j=k) W (st8 W k v0 v1 v2 v3 v4 v5 v6 v7):=
 ((((((((aC W k 0 v0).trans (aC _ k 1 v1)).trans (aC _ k 2 v2)).trans (aC _ k 3 v3)).trans (aC _ k 4 v4)).trans (aC _ k 5 v5)).trans (aC _ k 6 v6)).trans (aC _ k 7 v7))
theorem kD {W:qw}{t:TypeId}(h:Blk W k cs t)(hs:cs.size=8)(v0 v1 v2 v3 v4 v5 v6 v7:Value):Blk (st8 W k v0 v1 v2 v3 v4 v5 v6 v7) k #[v0,v1,v2,v3,v4,v5,v6,v7] t:=by
 obtain ⟨z0,z1,z2,z3,z4,z5,z6,z7,rfl⟩:=aEb hs;have k:=(((((((h.set 0 v0).set 1 v1).set 2 v2).set 3 v3).set 4 v4).set 5 v5).set 6 v6).set 7 v7;have e:(((((((#[z0,z1,z2,z3,z4,z5,z6,z7].setIfInBounds 0 v0).setIfInBounds 1 v1).setIfInBounds 2 v2).setIfInBounds 3 v3).setIfInBounds 4 v4).setIfInBounds 5 v5).setIfInBounds 6 v6).setIfInBounds 7 v7=#[v0,v1,v2,v3,v4,v5,v6,v7]:=by simp
 rw [e] at k;exact k
theorem RdI.turn {W W':qw}{g:Nat}{zs r:qi}(h:RdI W g b n cap zs r)(t:Turn S W W')(hg:¬ S g)(hb:¬ S b):RdI W' g b n cap zs r:=by
 obtain ⟨k',a,p1,p2,p3,p4⟩:=h.pos;exact ⟨⟨k',a,p1,p2,aA t p3 hg,p4⟩,dK t h.bs (fun j hj b' off e=>by simp at e;intro e';apply hb;rw [e.1,e'];exact hj),h.ne,h.small⟩
def dP (w:qw)(p:Int×Option PMod)(e:Ending)(w':qw):Prop:=qY w w'/\match p.2 with
 | none=>e=.returned (.tuple #[.agg z8,qI p.1])
 | some P=>∃ a1 c1 a2 c2 bl a3 c3 a5 c5 a6 c6 a7 c7,e=.returned (.tuple #[.agg (fL P a1 c1 a2 c2 bl a3 c3 a5 c5 a6 c6 a7 c7),qI p.1])/\ModO w' w.heap.size P a1 c1 a2 c2 bl a3 c3 a5 c5 a6 c6 a7 c7
structure Pf (w W:qw)(ms:Array Value)(x:Value):Prop where
 m:Blk W w.heap.size ms 53
 s:ms.size=8
 c:Blk W (w.heap.size+1) #[x] 3
 b:qY w W
theorem Pf.turn {w W W':qw}(h:Pf w W ms x)(t:Turn (fun j=>j=w.heap.size+2) W W'):Pf w W' ms x:=
 ⟨aA t h.m (by omega),h.s,aA t h.c (by omega),aI h.b t (fun k hk=>by omega) h.b.size⟩
theorem Pf.bw {w W W':qw}(h:Pf w W ms x)(hb:qY W W'):Pf w W' ms x:=
 ⟨h.m.bw hb,h.s,h.c.bw hb,h.b.trans (hb.mono h.b.size)⟩
theorem Pf.laid {w W:qw}(h:Pf w W ms x)(c:Int):qY w (lI W w.heap.size (w.heap.size+1) c)/\Blk (lI W w.heap.size (w.heap.size+1) c) w.heap.size z8 53/\Blk (lI W w.heap.size (w.heap.size+1) c) (w.heap.size+1) #[qI c] 3:=by
 unfold lI;have t1:=cS W w.heap.size (.string ⟨#[]⟩) (qS none 0 0) (qS none 0 0) (qS none 0 0) (qI 0) (qS none 0 0) (qS none 0 0) (qS none 0 0);have m1:=kD h.m h.s (.string ⟨#[]⟩) (qS none 0 0) (qS none 0 0) (qS none 0 0) (qI 0) (qS none 0 0) (qS none 0 0) (qS none 0 0);have c1:=aA t1 h.c (by omega);have b1:=aI h.b t1 (fun k hk=>by omega) h.b.size;refine ⟨aI b1 (aC _ (w.heap.size+1) 0 _) (fun k hk=>by omega) b1.size,m1.other _ _ (by show w.heap.size≠w.heap.size+1;omega),?_⟩;simpa using c1.set 0 (qI c)
theorem aY {W:qw}(h:Blk W k z8 53):W.cell? (qR k 0)=some (.string ⟨#[]⟩)/\W.cell? (qR k 1)=some (qS none 0 0)/\W.cell? (qR k 2)=some (qS none 0 0)/\W.cell? (qR k 3)=some (qS none 0 0)/\W.cell? (qR k 4)=some (qI 0)/\W.cell? (qR k 5)=some (qS none 0 0)/\W.cell? (qR k 6)=some (qS none 0 0)/\W.cell? (qR k 7)=some (qS none 0 0):=Blk.eight' h
theorem fR (w W:qw)(ms:Array Value)(x:Value)(c:Int)(p:Int×Option PMod)(tmps:Array Value)(h2:tmps[2]?=some (.pointer (qP w.heap.size)))(h3:tmps[3]?=some (.pointer (some (qR (w.heap.size+1) 0))))(F:Pf w W ms x)(hp:p=(c,none)):
 bodyPostD Tryz.prog Tryz.f51 (dP w p) (Exit.panic [{ v:=.iface 144 (qI c),recovered:=false }]) ⟨tmps,[{ target:=.fn (.func 86) #[.pointer (qP w.heap.size),.pointer (some (qR (w.heap.size+1) 0))],args:=#[] }]⟩ W:=by
 obtain ⟨l1,l2,l3⟩:=F.laid c;refine leaves_cons (f:=86) (args:=#[.pointer (qP w.heap.size),.pointer (some (qR (w.heap.size+1) 0))]) (by simp) (by simp [go_sem]) ?_;refine (oL w.heap.size (w.heap.size+1) c [] ms x W F.m F.s F.c).mono ?_;rintro e u' w'' ⟨rfl,rfl,rfl⟩;subst hp;generalize lI W w.heap.size (w.heap.size+1) c=V at *;obtain ⟨t0,t1,t2,t3,t4,t5,t6,t7⟩:=aY l2;have u0:=l3.cell 0;simp at u0;have HB:=zh l1;simp [Leaves,settle,results,Tryz.results51,go_sem,h2,h3,t0,t1,t2,t3,t4,t5,t6,t7,u0];exact ⟨HB.o.drew,rfl⟩
theorem aH9 (w W:qw)(v0 v1 v2 v3 v4 v5 v6 v7:Value)(c:Int)(Q:Ending->World->Prop)(tmps:Array Value)(h2:tmps[2]?=some (.pointer (qP w.heap.size)))(h3:tmps[3]?=some (.pointer (some (qR (w.heap.size+1) 0))))(hm:Blk W w.heap.size #[v0,v1,v2,v3,v4,v5,v6,v7] 53)(hc:Blk W (w.heap.size+1) #[qI c] 3)(hQ:Q (.returned (.tuple #[.agg #[v0,v1,v2,v3,v4,v5,v6,v7],qI c])) W):
 bodyPostD Tryz.prog Tryz.f51 Q Exit.ret ⟨tmps,[{ target:=.fn (.func 86) #[.pointer (qP w.heap.size),.pointer (some (qR (w.heap.size+1) 0))],args:=#[] }]⟩ W:=by
 refine leaves_cons (f:=86) (args:=#[.pointer (qP w.heap.size),.pointer (some (qR (w.heap.size+1) 0))]) (by simp) (by simp [go_sem]) ?_;refine (aCy w.heap.size (w.heap.size+1) W).mono ?_;rintro e u' w'' ⟨rfl,rfl,rfl⟩;obtain ⟨t0,t1,t2,t3,t4,t5,t6,t7⟩:=hm.eight';have u0:=hc.cell 0;simp at u0;simp [Leaves,settle,results,Tryz.results51,go_sem,h2,h3,t0,t1,t2,t3,t4,t5,t6,t7,u0];exact hQ
theorem jU (nm:ByteArray)(tn:Nat)(tz:qi)(bn:Nat)(bl:List Bk)(dn:Nat)(bss:Int)(rn:Nat)(rz:qi)(im:Nat)(ss:List ByteArray)(en:Nat)(es:List Ex):0<=mdo nm tn tz bn bl dn bss rn rz im ss en es/\mdo nm tn tz bn bl dn bss rn rz im ss en es<=6:=by
 unfold mdo;split
 .omega
 split
 .omega
 split
 .omega
 split
 .omega
 split
 .omega
 split<;>omega
theorem nI (b n cap:Nat)(zs:qi)(w:qw)(h:BS w (qP b) n cap zs)(hn:n<=1048576)(hb:b<w.heap.size):
 qC 51 #[qS (qP b) n cap] w (dP w (prs zs)):=by
 have hmf:∀ (fn:Fn) (first cap:Array Value) (w:qw),(Instr.makeFunc fn first cap).run Tryz.prog w=.ok (.func fn first cap) w:=fun _ _ _ _=>rfl;have hl:=h.1;obtain ⟨W0,hW0⟩:=eqx (((w.alloc (.cells #[.string ⟨#[]⟩,qS none 0 0,qS none 0 0,qS none 0 0,qI 0,qS none 0 0,qS none 0 0,qS none 0 0] 53)).alloc (.cells #[qI 0] 3)).alloc (.cells #[qS (qP b) n cap] 146))
 have F0:Pf w W0 z8 (qI 0)/\RdI W0 (w.heap.size+2) b n cap zs zs:=by
  subst hW0;have b1:qY w (w.alloc (.cells #[.string ⟨#[]⟩,qS none 0 0,qS none 0 0,qS none 0 0,qI 0,qS none 0 0,qS none 0 0,qS none 0 0] 53)):=bal;have k1:=Blk.new w #[.string ⟨#[]⟩,qS none 0 0,qS none 0 0,qS none 0 0,qI 0,qS none 0 0,qS none 0 0,qS none 0 0] 53;have hs1:(w.alloc (.cells #[.string ⟨#[]⟩,qS none 0 0,qS none 0 0,qS none 0 0,qI 0,qS none 0 0,qS none 0 0,qS none 0 0] 53)).heap.size=w.heap.size+1:=by simp
  generalize w.alloc (.cells #[.string ⟨#[]⟩,qS none 0 0,qS none 0 0,qS none 0 0,qI 0,qS none 0 0,qS none 0 0,qS none 0 0] 53)=W1 at *;have b2:qY W1 (W1.alloc (.cells #[qI 0] 3)):=bal;have k2:=Blk.new W1 #[qI 0] 3;have hs2:(W1.alloc (.cells #[qI 0] 3)).heap.size=w.heap.size+2:=by simp [hs1]
  rw [hs1] at k2;have k1:=k1.bw b2;have b1:=b1.trans (b2.mono (by omega));generalize W1.alloc (.cells #[qI 0] 3)=W2 at *;have b3:qY W2 (W2.alloc (.cells #[qS (qP b) n cap] 146)):=bal;have k3:=Blk.new W2 #[qS (qP b) n cap] 146;rw [hs2] at k3;have hB:=b1.trans (b3.mono (by omega));exact ⟨⟨k1.bw b3,rfl,k2.bw b3,hB⟩,⟨⟨0,0,xC _,rfl,k3,fun _=>rfl⟩,h.bw hB,by omega,hn⟩⟩
 obtain ⟨P0,R0⟩:=F0;have HB0:=zh (aIh (w.heap.size+2) b n cap zs W0 R0)
 have HPR:Zh (prs zs=if 20000<zs.length then (3,none) else if lY zs=false then (1,none) else match cZ (zs.drop 2) with
  | none=>(2,none)
  | some x=>if x.2≠[] then (3,none) else if bI x.1≠0 then (10+bI x.1,none) else (0,some x.1)):=rfl
 have HBY:Zh (Byt zs):=h.2.2.1;have HPAN:=zh (fun (W:qw) (ms:Array Value) (x:Value) (c:Int) (F:Pf w W ms x)=>oL w.heap.size (w.heap.size+1) c [] ms x W F.m F.s F.c);clear h
 go_enter_defers Tryz.func51,Tryz.ntmps51
 go_wp2_with fail
 rw [<- hW0];refine HB0.o.mono ?_;rintro e w1 ⟨T1,H⟩;have P1:=P0.turn T1;rcases H with ⟨c1,rfl⟩|⟨c1,c2,rfl⟩|⟨c1,c2,rfl,R1⟩
 .have HP:=zh (show prs zs=(3,none) by rw [HPR.o,if_pos (by omega)]);have HF:=zh P1;unfold aZ;clear P0 R0 T1 P1 HB0 hW0 HPR;go_wp2;exact fR w w1 _ _ 3 _ _ rfl rfl HF.o HP.o
 .have HP:=zh (show prs zs=(1,none) by rw [HPR.o,if_neg (by omega),if_pos c2]);have HF:=zh P1;unfold aZ;clear P0 R0 T1 P1 HB0 hW0 HPR;go_wp2;exact fR w w1 _ _ 1 _ _ rfl rfl HF.o HP.o
 .have hP:=HPR.o;rw [if_neg (by omega),if_neg (by rw [c2];decide)] at hP;have HP1:=zh hP;clear hP HPR P0 R0 T1 HB0 hW0;go_wp2_with fail
  refine (aE5 (w.heap.size+2) b n cap zs (zs.drop 2) w1 R1).mono ?_;intro e w2 H;cases hp:cZ (zs.drop 2) with
  | none=>
    obtain ⟨T2,rfl⟩:=H.none hp;have HP:=zh (show prs zs=(2,none) by rw [HP1.o,hp]);have HF:=zh (P1.turn T2);unfold aZ;clear H T2 P1 R1 HP1;go_wp2;exact fR w w2 _ _ 2 _ _ rfl rfl HF.o HP.o
  | some x=>
    obtain ⟨P,r⟩:=x;obtain ⟨T2,v,rfl,⟨a1,d1,a2,d2,bl,a3,d3,a5,d5,a6,d6,a7,d7,rfl,MO⟩,R2⟩:=H.some hp;have hP:=HP1.o;rw [hp] at hP;dsimp only at hP;have HP2:=zh hP;have hR:=(aGm (HBY.o.drop 2) hp).1;have P2:=P1.turn T2;have hb1:w.heap.size<w1.heap.size:=P1.m.lt;have hb2:w.heap.size+1<w1.heap.size:=P1.c.lt;obtain ⟨p0,p1,p2,p3,p4,p5,p6,p7⟩:=aY P2.m;obtain ⟨f0,f1,f2,f3,f4,f5,f6,f7⟩:=P2.m.froz;have t3:=cS w2 w.heap.size (.string P.nm) (qS a1 P.tz.length d1) (qS a2 bl.length d2) (qS a3 P.dz.length d3) (qI P.bss) (qS a5 P.rz.length d5) (qS a6 P.ss.length d6) (qS a7 P.es.length d7);have P3:Pf w (st8 w2 w.heap.size (.string P.nm) (qS a1 P.tz.length d1) (qS a2 bl.length d2) (qS a3 P.dz.length d3) (qI P.bss) (qS a5 P.rz.length d5) (qS a6 P.ss.length d6) (qS a7 P.es.length d7)) (qM P.nm a1 P.tz.length d1 a2 bl.length d2 a3 P.dz.length d3 P.bss a5 P.rz.length d5 a6 P.ss.length d6 a7 P.es.length d7) (qI 0):=⟨kD P2.m P2.s _ _ _ _ _ _ _ _,rfl,aA t3 P2.c (by omega),aI P2.b t3 (fun k hk=>by omega) P2.b.size⟩;have R3:=R2.turn t3 (by omega) (by omega);have MO3:=MO.turn t3 (fun k hk=>by omega);have HE:=zh (aMx (w.heap.size+2) b n cap zs r _ R3);clear H T2 P1 R1 R2 R3 P2 MO t3 HP1 hP;unfold fL;go_wp2_with fail
    refine HE.o.mono ?_;rintro e w3 ⟨rfl,H⟩;rcases H with ⟨hr,rfl⟩|⟨hr,rfl⟩
    .subst hr;have hP:=HP2.o;rw [if_neg (by simp)] at hP;have HP3:=zh hP;have md:=MO3.md hR;have HMD:=zh MO3.mdo;obtain ⟨s0,s1,s2,s3,s4,s5,s6,s7⟩:=P3.m.eight';have HOK:=zh (kX _ _ _ _ _ _ _ _ _ _ _ _ _ _ _ _ _ _ _ _ _ _ _ _ _ _ _ md);clear HE HP2 hP p0 p1 p2 p3 p4 p5 p6 p7 f0 f1 f2 f3 f4 f5 f6 f7 md;have hmr:=jU P.nm P.tz.length P.tz bl.length bl P.dz.length P.bss P.rz.length P.rz P.ss.length P.ss P.es.length P.es;rw [HMD.o] at HOK hmr;generalize st8 w2 w.heap.size (.string P.nm) (qS a1 P.tz.length d1) (qS a2 bl.length d2) (qS a3 P.dz.length d3) (qI P.bss) (qS a5 P.rz.length d5) (qS a6 P.ss.length d6) (qS a7 P.es.length d7)=W3 at *;go_wp2_with fail
     refine HOK.o.mono ?_;rintro e w4 ⟨rfl,hb4⟩;have P4:=P3.bw hb4;have MO4:=MO3.turn (S:=fun _=>False) (aJ hb4) (fun k hk=>absurd hk id);clear hb4 P3 MO3 HOK s0 s1 s2 s3 s4 s5 s6 s7 HMD;by_cases hz:bI P=0
     .have HP:=zh (show prs zs=(0,some P) by rw [HP3.o,if_neg (by simp [hz])]);rw [hz];obtain ⟨s0,s1,s2,s3,s4,s5,s6,s7⟩:=P4.m.eight';obtain ⟨f0,f1,f2,f3,f4,f5,f6,f7⟩:=P4.m.froz;have q0:=P4.c.cell 0;have q1:=P4.c.frozen 0;simp at q0;have t5:=cS w4 w.heap.size (.string P.nm) (qS a1 P.tz.length d1) (qS a2 bl.length d2) (qS a3 P.dz.length d3) (qI P.bss) (qS a5 P.rz.length d5) (qS a6 P.ss.length d6) (qS a7 P.es.length d7);have m5:=kD P4.m P4.s (.string P.nm) (qS a1 P.tz.length d1) (qS a2 bl.length d2) (qS a3 P.dz.length d3) (qI P.bss) (qS a5 P.rz.length d5) (qS a6 P.ss.length d6) (qS a7 P.es.length d7);have c5:=aA t5 P4.c (by omega);have b5:=aI P4.b t5 (fun k hk=>by omega) P4.b.size;have MO5:=MO4.turn t5 (fun k hk=>by omega);have t6:=aC (st8 w4 w.heap.size (.string P.nm) (qS a1 P.tz.length d1) (qS a2 bl.length d2) (qS a3 P.dz.length d3) (qI P.bss) (qS a5 P.rz.length d5) (qS a6 P.ss.length d6) (qS a7 P.es.length d7)) (w.heap.size+1) 0 (qI 0);have m6:=aA t6 m5 (by omega);have c6:=c5.set 0 (qI 0);have b6:=aI b5 t6 (fun k hk=>by omega) b5.size;have MO6:=(MO5.turn t6 (fun k hk=>by omega)).mono (Nat.le_of_lt hb1);simp at c6;have HF:=zh (xA m6 (xA c6 (xA b6 MO6)));clear t5 m5 c5 b5 MO5 t6 m6 c6 b6 MO6 P4 MO4 HP3;go_wp2;refine aH9 w _ _ _ _ _ _ _ _ _ 0 _ _ rfl rfl HF.o.1 HF.o.2.1 ?_;rw [HP.o];exact ⟨HF.o.2.2.1,a1,d1,a2,d2,bl,a3,d3,a5,d5,a6,d6,a7,d7,rfl,HF.o.2.2.2⟩
     .have HP:=zh (show prs zs=(10+bI P,none) by rw [HP3.o,if_pos hz]);have HF:=zh P4;generalize bI P=V at *;obtain ⟨hv0,hv1⟩:=hmr;clear P4 MO4 HP3;go_wp2;exact fR w _ _ _ _ _ _ rfl rfl HF.o HP.o
    .have HP:=zh (show prs zs=(3,none) by rw [HP2.o,if_pos hr]);have HF:=zh P3;unfold aZ;clear P3 MO3 HP2 HE p0 p1 p2 p3 p4 p5 p6 p7 f0 f1 f2 f3 f4 f5 f6 f7;go_wp2;exact fR w _ _ _ 3 _ _ rfl rfl HF.o HP.o
structure M6 (W:qw)(base:Nat)(v1 v3 v5 v6 v7:Value)(a2:qO)(bn:Nat)(f:Nat->qO×Nat×Nat)(T:qi)(X:Nat->List Int)(D R:qi)(I:List ByteArray)(E:List Ex):Prop where
 t:OI W base v1 T
 b:Rr W base a2 bn f X
 d:OB W base v3 D
 r:OI W base v5 R
 i:OG 9 1 clT W base v6 I
 e:OG 91 3 clX W base v7 E
 tr:∀ k,v1.ownBlock=some k->v5.ownBlock≠some k
 tb:∀ k,v1.ownBlock=some k->¬ Sr f bn k
 rb:∀ k,v5.ownBlock=some k->¬ Sr f bn k
theorem Rr.kind {w:qw}(h:Rr w base a n f X){j:Nat}(hj:Sr f n j):∃ cs,Blk w j cs 3:=by
 obtain ⟨i,hi,e⟩:=hj;exact aM (h.rows i hi).1 e
theorem M6.lt {W:qw}{bn:Nat}{T:qi}{D R:qi}{I:List ByteArray}{E:List Ex}(h:M6 W base v1 v3 v5 v6 v7 a2 bn f T X D R I E):(∀ j,v1.ownBlock=some j->base<=j/\j<W.heap.size)/\(∀ j,Sr f bn j->base<=j/\j<W.heap.size)/\(∀ j,v3.ownBlock=some j->base<=j/\j<W.heap.size)/\(∀ j,v5.ownBlock=some j->base<=j/\j<W.heap.size)/\(∀ j,v6.ownBlock=some j->base<=j/\j<W.heap.size)/\(∀ j,v7.ownBlock=some j->base<=j/\j<W.heap.size):=
 ⟨h.t.lt,fun j hj=>by obtain ⟨i,hi,e⟩:=hj;exact (h.b.rows i hi).lt j e,h.d.lt,h.r.lt,h.i.lt,h.e.lt⟩
structure Md where
 nm:ByteArray
 ta:qO
 tn:Nat
 tc:Nat
 tz:List Int
 ba:qO
 bn:Nat
 bc:Nat
 bl:List Bk
 da:qO
 dn:Nat
 dc:Nat
 dz:List Int
 bss:Int
 ra:qO
 rn:Nat
 rc:Nat
 rz:List Int
 ia:qO
 im:Nat
 ic:Nat
 ss:List ByteArray
 ea:qO
 en:Nat
 ec:Nat
 es:List Ex
def zMd:Md:=⟨⟨#[]⟩,none,0,0,[],none,0,0,[],none,0,0,[],0,none,0,0,[],none,0,0,[],none,0,0,[]⟩
def Md.mt (m:Md)(w:qw):Prop:=MT w m.nm m.ta m.tn m.tc m.tz m.ba m.bn m.bc m.bl m.da m.dn m.dc m.dz m.bss m.ra m.rn m.rc m.rz m.ia m.im m.ic m.ss m.ea m.en m.ec m.es
def Md.cells (m:Md):Array Value:=(qM m.nm m.ta m.tn m.tc m.ba m.bn m.bc m.da m.dn m.dc m.bss m.ra m.rn m.rc m.ia m.im m.ic m.ea m.en m.ec)
def At8 (w:qw)(b o:Nat)(m:Md):Prop:=
 w.cell? (qR b o)=some (.string m.nm)/\w.cell? (qR b (o+1))=some (qS m.ta m.tn m.tc)/\w.cell? (qR b (o+2))=some (qS m.ba m.bn m.bc)/\w.cell? (qR b (o+3))=some (qS m.da m.dn m.dc)/\w.cell? (qR b (o+4))=some (qI m.bss)/\w.cell? (qR b (o+5))=some (qS m.ra m.rn m.rc)/\w.cell? (qR b (o+6))=some (qS m.ia m.im m.ic)/\w.cell? (qR b (o+7))=some (qS m.ea m.en m.ec)
theorem At8.bw {w w':qw}{o:Nat}{m:Md}(h:At8 w b o m)(hb:qY w w'):At8 w' b o m:=by
 have key:∀ o v,w.cell? (qR b o)=some v->w'.cell? (qR b o)=some v:=fun o v hv=>(hb.cell (xD w _ hv)).trans hv;obtain ⟨h0,h1,h2,h3,h4,h5,h6,h7⟩:=h;exact ⟨key _ _ h0,key _ _ h1,key _ _ h2,key _ _ h3,key _ _ h4,key _ _ h5,key _ _ h6,key _ _ h7⟩
theorem Md.bw {m:Md}{w w':qw}(h:m.mt w)(hb:qY w w'):m.mt w':=MT.bw h hb
def MS (w:qw)(a:qO)(n cap:Nat)(ms:List Md):Prop:=
 ms.length=n/\n<=maxLen/\(n≠0->∃ b off,a=some (qR b off)/\∀ i,i<n->At8 w b (off+i*8) (ms.getD i zMd))/\(∀ i,i<n->(ms.getD i zMd).mt w)/\n<=cap
theorem MS.bw {w w':qw}{ms:List Md}(h:MS w a n cap ms)(hb:qY w w'):MS w' a n cap ms:=by
 obtain ⟨h1,h2,h3,h4,h5⟩:=h;refine ⟨h1,h2,fun hn=>?_,fun i hi=>Md.bw (h4 i hi) hb,h5⟩;obtain ⟨b,off,e,hc⟩:=h3 hn;exact ⟨b,off,e,fun i hi=>(hc i hi).bw hb⟩
theorem MS.at {w:qw}{ms:List Md}(h:MS w a n cap ms)(i:Nat)(hi:i<n):∃ b off,a=some (qR b off)/\At8 w b (off+i*8) (ms.getD i zMd):=by
 obtain ⟨b,off,e,hc⟩:=h.2.2.1 (by omega);exact ⟨b,off,e,hc i hi⟩
theorem aHt:(Tryz.prog.info? 53).map (fun i=>(i.zero,i.size,i.bytes))=some (some (.agg #[.string ⟨#[]⟩,qS none 0 0,qS none 0 0,qS none 0 0,qI 0,qS none 0 0,qS none 0 0,qS none 0 0]),8,168):=by kernel_rfl
end Go.Proofs.YtcimaholejajpaaGreat
namespace Go.Proofs.YtcimaholejajpaaGreat
open Go.RowKit Go.Maps
set_option maxRecDepth 100000
def aM7 (m m':Md):Prop:=m.nm=m'.nm/\m.tn=m'.tn/\m.tz=m'.tz/\m.bn=m'.bn/\(∀ i,i<m.bn->(m'.bl.getD i zB).2.1=(m.bl.getD i zB).2.1/\(m'.bl.getD i zB).2.2.2=(m.bl.getD i zB).2.2.2)/\m.dn=m'.dn/\m.dz=m'.dz/\m.bss=m'.bss/\m.rn=m'.rn/\m.rz=m'.rz/\m.im=m'.im/\m.ss=m'.ss/\m.en=m'.en/\m.es=m'.es
theorem rS (m:Md)(w:qw):qC 92 #[.agg m.cells] w (qB w (.string m.nm)):=by
 unfold Md.cells;go_enter Tryz.func92,Tryz.ntmps92
 go_wp2;go_ret;exact ⟨rfl,bal⟩
def cQ (ms:List Md)(i:Nat):List UInt8:=(ms.getD i zMd).nm.data.toList
theorem mN (a:qO)(n cap:Nat)(ms:List Md)(w:qw)(h:MS w a n cap ms)(hn:n<=1048576):
 qC 91 #[qS a n cap,.func (.func 92) #[] #[]] w fun e w'=>e=.returned (.map (some w.heap.size))/\w'.ownsMap Tryz.prog 9 (plainElem Tryz.prog 3) w.heap.size n (fd (cQ ms) n)/\qY w w':=by
 have hmm:=gP;have hm1:=h.2.1;unfold maxLen at hm1;go_enter Tryz.func91,Tryz.ntmps91
 go_wp2;go_loopw [16] (fun i wr=>∃ k:Nat,k<=n/\i=qI k/\wr.ownsMap Tryz.prog 9 (plainElem Tryz.prog 3) w.heap.size k (fd (cQ ms) k)/\qY w wr) (qf n)
 .exact ⟨0,xC _,rfl,World.ownsMap_made _ _ _ _,bal⟩
 .obtain ⟨k,hk,rfl,hown,hB⟩:=hrel;by_cases hlt:k<n
  .have hlt':(k:Int)<(n:Int):=by omega
   obtain ⟨bb,off,rfl,q0,q1,q2,q3,q4,q5,q6,q7⟩:=(h.bw hB).at k hlt;have hsz:=(h.2.2.2.1 k hlt).n;have HX:=zh (iR (cQ ms) k);have hkl:cQ ms k=(ms.getD k zMd).nm.data.toList:=rfl;rw [hkl] at HX;clear hkl;generalize ms.getD k zMd=m at *;obtain ⟨nm,ta,tn,tc,tz,ba,bn,bc,bl,da,dn,dc,dz,bss,ra,rn,rc,rz,ia,im,ic,ss,ea,en,ec,es⟩:=m;dsimp only at q0 q1 q2 q3 q4 q5 q6 q7 hsz HX;have HKEY:Zh (keyOf Tryz.prog 9 (.string nm)=some (.string nm.data.toList)):=Go.WideMaps.keyOf_string_mk Tryz.underlying9 hsz;have HMN:=zh (fun w=>rS ⟨nm,ta,tn,tc,tz,ba,bn,bc,bl,da,dn,dc,dz,bss,ra,rn,rc,rz,ia,im,ic,ss,ea,en,ec,es⟩ w);have hA:qY wr (wr.alloc (.cells (qM nm ta tn tc ba bn bc da dn dc bss ra rn rc ia im ic ea en ec) 53)):=bal;go_wp2_with fail
   refine (HMN.o _).mono ?_;rintro e w1 ⟨rfl,hb1⟩;have hb1':=hA.trans (hb1.mono hA.size);have hB1:=hB.trans (hb1'.mono hB.size)
   have hown1:w1.ownsMap Tryz.prog 9 (plainElem Tryz.prog 3) w.heap.size k (fd (cQ ms) k):=by
    obtain ⟨es',cl,hh,r⟩:=hown;refine ⟨es',cl,?_,r⟩
    have hl:w.heap.size<wr.heap.size:=by
     rcases Nat.lt_or_ge w.heap.size wr.heap.size with h'|h'
     .exact h'
     .rw [Array.getElem?_eq_none h'] at hh;cases hh
    rw [hb1'.block _ hl];exact hh
   clear hown hA hb1 hb1' q0 q1 q2 q3 q4 q5 q6 q7;cases hh:has (fd (cQ ms) k) (.string nm.data.toList)
   .rw [hh] at HX
    go_wp2_with (first
     | (at_lookup;refine wpList_lookup_own_ok_int _ rfl _ _ 148 rfl 9 3 .i64 uA Tryz.underlying148 Tryz.underlying3 (nX _) w.heap.size k _ rfl hown1 _ _ rfl HKEY.o ?_;intro c hat hwc;clear hat;rw [hh])
     | (at_mapUpdate;refine wpList_mapUpdate_own _ rfl _ _ _ 148 rfl 9 3 uA Tryz.underlying148 _ w.heap.size k _ rfl hown1 (by unfold maxLen;omega) _ _ _ rfl rfl HKEY.o _ [] (plainElem_int Tryz.underlying3 (WalkArith.wf_i64 (by omega))) ?_;intro w2 hown2 hgr2))
    have HO:=zh hown2;have HB2:=zh (hB1.grown hgr2 hB1.size (fun j hj=>by cases hj;exact aL));clear hown2 hgr2 hown1;go_wp2
    go_roundw
    .exact ⟨k+1,by omega,by go_num,by have:=HO.o;rw [HX.o,if_neg (by simp)];exact this,HB2.o⟩
    .simp [qf,intOf];omega
   .rw [hh] at HX
    go_wp2_with (first
     | (at_lookup;refine wpList_lookup_own_ok_int _ rfl _ _ 148 rfl 9 3 .i64 uA Tryz.underlying148 Tryz.underlying3 (nX _) w.heap.size k _ rfl hown1 _ _ rfl HKEY.o ?_;intro c hat hwc;clear hat;rw [hh]))
    have HO:=zh hown1;clear hown1;go_wp2
    go_roundw
    .exact ⟨k+1,by omega,by go_num,by have:=HO.o;rw [HX.o,if_pos trivial];exact this.mono (by omega),hB1⟩
    .simp [qf,intOf];omega
  .have e:Zh (k=n):=by show k=n;omega
   go_wp2;go_ret;exact ⟨rfl,by rw [e.o] at hown;exact hown,hB⟩
def tbf (n:Nat)(ms:List Md):Bool:=decide (n<=4)&&(List.range n).all fun i=>decide ((ms.getD i zMd).en<=16)
theorem tS (a:qO)(n cap:Nat)(ms:List Md)(w:qw)(h:MS w a n cap ms):
 qC 141 #[qS a n cap] w (qB w (.bool (tbf n ms))):=by
 have hm1:=h.2.1;unfold maxLen at hm1;obtain ⟨r,hr⟩:=eqx (tbf n ms);rw [<- hr];unfold tbf at hr;by_cases c1:4<n
 .have HR:=zh (show r=false by rw [hr,xS (by omega)];rfl);clear hr;have c1':(4:Int)<(n:Int):=by omega
  go_enter Tryz.func141,Tryz.ntmps141
  go_wp2;go_ret;exact ⟨aB HR.o.symm,brf⟩
 .have c1':¬ (4:Int)<(n:Int):=by omega
  have HR:=zh (show r=(List.range n).all (fun i=>decide ((ms.getD i zMd).en<=16)) by rw [hr,xR (by omega)];rfl);clear hr;go_enter Tryz.func141,Tryz.ntmps141
  go_wp2_with fail
  go_loopw [10] (fun i wr=>∃ k:Nat,k<=n/\i=qI k/\Hid (∀ j,j<k->decide ((ms.getD j zMd).en<=16)=true)/\qY w wr) (qf n)
  .exact ⟨0,xC _,rfl,zh (fun j hj=>by omega),brf⟩
  .obtain ⟨k,hk,rfl,HJ,hB⟩:=hrel;by_cases hlt:k<n
   .have hlt':(k:Int)<(n:Int):=by omega
    obtain ⟨bb,off,rfl,q0,q1,q2,q3,q4,q5,q6,q7⟩:=(h.bw hB).at k hlt;have HZ:=zh (eW (fun i=>decide ((ms.getD i zMd).en<=16)) n k hlt)
    have HG:=zh (show decide ((ms.getD k zMd).en<=16)=true->∀ j,j<k+1->decide ((ms.getD j zMd).en<=16)=true from fun h j hj=>by
     by_cases e:j=k
     .subst e;exact h
     .exact HJ.out j (by omega))
    generalize ms.getD k zMd=m at *;obtain ⟨nm,ta,tn,tc,tz,ba,bn,bc,bl,da,dn,dc,dz,bss,ra,rn,rc,rz,ia,im,ic,ss,ea,en,ec,es⟩:=m;dsimp only at q0 q1 q2 q3 q4 q5 q6 q7 HZ HG;have HB1:=zh (hB.alloc hB.size (.cells (qM nm ta tn tc ba bn bc da dn dc bss ra rn rc ia im ic ea en ec) 53));by_cases d:16<en
    .have d':(16:Int)<(en:Int):=by omega
     go_wp2;go_ret;exact ⟨aB (by rw [HR.o];exact (HZ.o (xS (by omega))).symm),HB1.o⟩
    .have d':¬ (16:Int)<(en:Int):=by omega
     go_wp2
     go_roundw
     .exact ⟨k+1,by omega,by go_num,zh (HG.o (xR (by omega))),HB1.o⟩
     .simp [qf,intOf];omega
   .have HE:=zh (eA (fun i=>decide ((ms.getD i zMd).en<=16)) n (fun j hj=>HJ.out j (by omega)));go_wp2;go_ret;exact ⟨aB (by rw [HR.o];exact HE.o.symm),hB⟩
def rsT (n:Nat)(ms:List Md)(s:ByteArray):Option (Nat×Nat):=
 if eJ s=true/\tbf n ms=true then (fst? (cQ ms) (dC s).data.toList n).bind fun i=>(fst? (eM (ms.getD i zMd).es) (dU s).data.toList (ms.getD i zMd).en).map fun k=>(i,k) else none
def rsv (n:Nat)(ms:List Md)(s:ByteArray):Value:=
 match rsT n ms s with
 | some (i,k)=>.tuple #[.agg #[qI i,qI ((ms.getD i zMd).es.getD k zE).2.1,qI ((ms.getD i zMd).es.getD k zE).2.2],.bool true]
 | none=>.tuple #[.agg (qT 0 0 0),.bool false]
