import Derived.Defers
import Derived.Recover
import Derived.Test.YtncccmeomcaabaaGreatR04
import Derived.Test.YtncccmeomcaabaaGreatR06
set_option linter.all false
set_option maxHeartbeats 4000000
namespace Go.Proofs.YtncccmeomcaabaaGreat
open Go.RowKit
open Go.Proofs.Tryz
set_option maxRecDepth 100000
variable {E es xs:List Ex}{I ss:List ByteArray}{X:Nat->List Int}{a a2 ba da ea ia ra ta:qO}{b base bc bn c cap dc dn ec en g ic im n o rc rn tc tn:Nat}{bl:List Bk}{bss:Int}{f:Nat->qO×Nat×Nat}{nm:ByteArray}{v1 v3 v5 v6 v7:Value}
theorem vN (nm:ByteArray)(ta:qO)(tn tc:Nat)(tz:qi)(ba:qO)(bn bc:Nat)(bl:List Bk)(da:qO)(dn dc:Nat)(dz:qi)(bss:Int)(ra:qO)(rn rc:Nat)(rz:qi)(ia:qO)(im ic:Nat)(ss:List ByteArray)(ea:qO)(en ec:Nat)(es:List Ex)(w:qw)
 (h:MD w nm ta tn tc tz ba bn bc bl da dn dc dz bss ra rn rc rz ia im ic ss ea en ec es):
 qC 211 #[.agg (qM nm ta tn tc ba bn bc da dn dc bss ra rn rc ia im ic ea en ec)] w (qB w (qI (mdo nm tn tz bn bl dn bss rn rz im ss en es))):=by
 obtain ⟨W,hW,hB0,kb⟩:=nwb w (qM nm ta tn tc ba bn bc da dn dc bss ra rn rc ia im ic ea en ec) 138;obtain ⟨r,hr⟩:=eqx (mdo nm tn tz bn bl dn bss rn rz im ss en es);rw [<- hr];unfold mdo at hr;have HRR:=zh hr;clear hr;have H0:=h.bw hB0;have hmd:=h.d.2.1;have htn:=h.t.2.1;have HN:=zh (fun w=>jB nm w h.n);have HCd:=zh (fun w ht hb=>aE5 nm ta tn tc tz ba bn bc bl (qS da dn dc) (qS ra rn rc) (qS ia im ic) (qS ea en ec) bss w ht hb);have HRl:=zh (fun w h=>zQ nm (qS ta tn tc) (qS ba bn bc) da dn dc bss ra rn rc rz (qS ia im ic) (qS ea en ec) w hmd h);have HIm:=zh (fun w h=>vM nm (qS ta tn tc) (qS ba bn bc) (qS da dn dc) (qS ra rn rc) (qS ea en ec) bss ia im ic ss w h);have HEx:=zh (fun w hb h=>vS nm ta tn tc ba bn bc bl (qS da dn dc) (qS ra rn rc) (qS ia im ic) bss ea en ec es w htn hb h);have HU:=zh (fun w=>cX bss 512 w);unfold maxLen at hmd;obtain ⟨s0,s1⟩:=h.s;clear h htn;have HW:=zh hW;clear hW;generalize nmo nm=a1 at *;generalize cdo tn tz bn bl=a2 at *;generalize rlo rn rz dn=a4 at *;generalize imo im ss=a5 at *;generalize exo tn bn bl en es=a6 at *;obtain ⟨q0,q1,q2,q3,q4,q5,q6,q7⟩:=kb.eight;go_enter func211,ntmps211
 go_wp2_with (first|(rw [<- HW.o])|(go_at_call 173;refine (HN.o _).mono ?_;rintro e w1 ⟨rfl,rfl⟩;cases a1))
 .have e:=zh (show r=1 from by rw [HRR.o];simp);go_ret;exact ⟨aH e.o.symm,hB0⟩
 .refine (HCd.o _ H0.t H0.b).mono ?_;rintro e w2 ⟨rfl,hb2⟩;have kb2:=kb.bw hb2;have H2:=H0.bw hb2;have hB2:=hB0.trans (hb2.mono hB0.size);clear hb2 kb H0 hB0 q0 q1 q2 q3 q4 q5 q6 q7;obtain ⟨q0,q1,q2,q3,q4,q5,q6,q7⟩:=kb2.eight;cases a2
  .have e:=zh (show r=2 from by rw [HRR.o];simp);go_wp2;go_ret;exact ⟨aH e.o.symm,hB2⟩
  .by_cases c1:512<dn
   .have e:=zh (show r=3 from by rw [HRR.o];simp [c1]);have c1':(512:Int)<(dn:Int):=by omega
    go_wp2;go_ret;exact ⟨aH e.o.symm,hB2⟩
   .have c1':¬ (512:Int)<(dn:Int):=by omega
    by_cases c2:0<=bss/\bss<=512
    .have HR2:=zh (show r=if a4=false then 4 else if a5=false then 5 else if a6=false then 6 else 0 from by
      rw [HRR.o]
      simp only [Bool.true_eq_false,if_false,show ¬ (512<dn\/bss<0\/512<bss) by omega])
     clear HRR;rw [xR c2] at HU;go_wp2_with (go_at_call 155;refine (HU.o _).mono ?_;rintro e w1 ⟨rfl,rfl⟩)
     refine (HRl.o _ H2.r).mono ?_;rintro e w3 ⟨rfl,hb3⟩;have kb3:=kb2.bw hb3;have H3:=H2.bw hb3;have hB3:=hB2.trans (hb3.mono hB2.size);clear hb3 kb2 H2 hB2 q0 q1 q2 q3 q4 q5 q6 q7;obtain ⟨q0,q1,q2,q3,q4,q5,q6,q7⟩:=kb3.eight;cases a4
     .have e:=zh (show r=4 from by rw [HR2.o];simp);go_wp2;go_ret;exact ⟨aH e.o.symm,hB3⟩
     .go_wp2_with fail
      refine (HIm.o _ H3.i).mono ?_;rintro e w4 ⟨rfl,hb4⟩;have kb4:=kb3.bw hb4;have H4:=H3.bw hb4;have hB4:=hB3.trans (hb4.mono hB3.size);clear hb4 kb3 H3 hB3 q0 q1 q2 q3 q4 q5 q6 q7;obtain ⟨q0,q1,q2,q3,q4,q5,q6,q7⟩:=kb4.eight;cases a5
      .have e:=zh (show r=5 from by rw [HR2.o];simp);go_wp2;go_ret;exact ⟨aH e.o.symm,hB4⟩
      .go_wp2_with fail
       refine (HEx.o _ H4.b H4.e).mono ?_;rintro e w5 ⟨rfl,hb5⟩;have hB5:=hB4.trans (hb5.mono hB4.size);clear hb5 H4 hB4 kb4;cases a6
       .have e:=zh (show r=6 from by rw [HR2.o];simp);go_wp2;go_ret;exact ⟨aH e.o.symm,hB5⟩
       .have e:=zh (show r=0 from by rw [HR2.o];simp);go_wp2;go_ret;exact ⟨aH e.o.symm,hB5⟩
    .rw [xS c2] at HU;have e:=zh (show r=3 from by rw [HRR.o];simp only [Bool.true_eq_false,if_false,show (512<dn\/bss<0\/512<bss) by omega,if_true]);go_wp2_with (go_at_call 155;refine (HU.o _).mono ?_;rintro e w1 ⟨rfl,rfl⟩)
     go_ret;exact ⟨aH e.o.symm,hB2⟩
theorem yU (xs ys:qi)(k:Nat)(h:xs.take k=ys.take k)(hx:k<xs.length)(hy:k<ys.length)(he:xs.getD k 0=ys.getD k 0):xs.take (k+1)=ys.take (k+1):=by
 rw [List.take_succ_eq_append_getElem hx,List.take_succ_eq_append_getElem hy,h];simp [xB,hx,hy] at he;rw [he]
theorem gT (a a':qO)(n cap n' cap':Nat)(xs ys:qi)(w:qw)(h:BS w a n cap xs)(h':BS w a' n' cap' ys):
 qC 100 #[qS a n cap,qS a' n' cap'] w (qB w (.bool (decide (xs=ys)))):=by
 obtain ⟨hl,hmx,hr,hc,_⟩:=h;obtain ⟨hl',hmx',hr',hc',_⟩:=h';unfold maxLen at hmx hmx';by_cases hn:n=n'
 .subst hn;have hne:((n:Int) !=(n:Int))=false:=by simp
  by_cases hn0:n=0
  .subst hn0;obtain rfl:xs=[]:=xE hl;obtain rfl:ys=[]:=xE hl';clear hc hc';go_enter func100,ntmps100
   go_wp2;go_loop [5] (fun i=>i=qI 0) (fun _=>0)
   .rfl
   .obtain rfl:=hrel;go_wp2;go_ret;exact ⟨rfl,brf⟩
  .obtain ⟨b,off,rfl,hd⟩:=hc hn0;obtain ⟨b',off',rfl,hd'⟩:=hc' hn0;clear hc hc';go_enter func100,ntmps100
   go_wp2;go_loopw [5] (fun i wr=>∃ k:Nat,k<=n/\i=qI k/\xs.take k=ys.take k/\qY w wr) (qf n)
   .exact ⟨0,xC _,rfl,by simp,brf⟩
   .obtain ⟨k,hk,rfl,hT,hB⟩:=hrel;by_cases hlt:k<n
    .have hlt':(k:Int)<(n:Int):=by omega
     have hck:wr.cell? (qR b (off+k))=some (.int .u8 (xs.getD k 0)):=(hB.cell (xD w _ (hd k hlt))).trans (hd k hlt);have hck':wr.cell? (qR b' (off'+k))=some (.int .u8 (ys.getD k 0)):=(hB.cell (xD w _ (hd' k hlt))).trans (hd' k hlt);by_cases he:xs.getD k 0=ys.getD k 0
     .have hS:=yU xs ys k hT (by omega) (by omega) he;have HS:Zh (xs.take (k+1)=ys.take (k+1)):=hS;rw [he] at hck;clear hS hT hd hd' he;generalize ys.getD k 0=z at *;have hz:(z !=z)=false:=by simp
      go_wp2
      go_quiet (fail)
      go_wp2
      go_roundw
      .exact ⟨k+1,by omega,by go_num,HS.o,below_drewN hB _⟩
      .simp [qf,intOf];omega
     .have hf:Zh (decide (xs=ys)=false):=by
       show _=_;simp;intro e;exact he (by rw [e])
      have hz:(xs.getD k 0 !=ys.getD k 0)=true:=by simpa using he
      clear hT hd hd' he;generalize ys.getD k 0=z at *;generalize xs.getD k 0=z' at *;go_wp2
      go_quiet (fail)
      go_wp2;go_ret;exact ⟨aA hf.o.symm,below_drewN hB _⟩
    .have hf:Zh (decide (xs=ys)=true):=by
      show _=_;simp;rw [xG (by omega),xG (by omega)] at hT;exact hT
     clear hT hd hd';go_wp2;go_ret;exact ⟨aA hf.o.symm,hB⟩
 .have hf:Zh (decide (xs=ys)=false):=by
   show _=_;simp;intro e;rw [e] at hl;omega
  have hne:((n:Int) !=(n':Int))=true:=by simp;omega
  clear hc hc';go_enter func100,ntmps100
  go_wp2;go_ret;exact ⟨aA hf.o.symm,brf⟩
theorem vT (nm:ByteArray)(ta ta':qO)(tn tc tc':Nat)(tz:qi)(ba ba':qO)(bn bc bc':Nat)(bl bl':List Bk)(da da':qO)(dn dc dc':Nat)(dz:qi)(bss:Int)(ra ra':qO)(rn rc rc':Nat)(rz:qi)(ia ia':qO)(im ic ic':Nat)(ss:List ByteArray)(ea ea':qO)(en ec ec':Nat)(es:List Ex)(w:qw)(h:MT w nm ta tn tc tz ba bn bc bl da dn dc dz bss ra rn rc rz ia im ic ss ea en ec es)(h':MT w nm ta' tn tc' tz ba' bn bc' bl' da' dn dc' dz bss ra' rn rc' rz ia' im ic' ss ea' en ec' es)(hz:∀ i,i<bn->(bl'.getD i zB).2.1=(bl.getD i zB).2.1/\(bl'.getD i zB).2.2.2=(bl.getD i zB).2.2.2):
 qC 99 #[.agg (qM nm ta tn tc ba bn bc da dn dc bss ra rn rc ia im ic ea en ec),.agg (qM nm ta' tn tc' ba' bn bc' da' dn dc' bss ra' rn rc' ia' im ic' ea' en ec')] w (qB w (.bool true)):=by
 have hB0:qY w ((w.alloc (.cells (qM nm ta tn tc ba bn bc da dn dc bss ra rn rc ia im ic ea en ec) 138)).alloc (.cells (qM nm ta' tn tc' ba' bn bc' da' dn dc' bss ra' rn rc' ia' im ic' ea' en ec') 138)):=bal.alloc (by simp) _;have u0:=(Blk.new w (qM nm ta tn tc ba bn bc da dn dc bss ra rn rc ia im ic ea en ec) 138).alloc (.cells (qM nm ta' tn tc' ba' bn bc' da' dn dc' bss ra' rn rc' ia' im ic' ea' en ec') 138);have v0:=Blk.new (w.alloc (.cells (qM nm ta tn tc ba bn bc da dn dc bss ra rn rc ia im ic ea en ec) 138)) (qM nm ta' tn tc' ba' bn bc' da' dn dc' bss ra' rn rc' ia' im ic' ea' en ec') 138;try unfold qY at *
 simp only [xF] at v0;have hn:(nm.toList !=nm.toList)=false:=by simp
 have hs:(bss !=bss)=false:=by simp
 go_enter func99,ntmps99
 go_wp2_with fail
 refine (jF ta ta' tn tc tn tc' tz tz _ (h.t.bw hB0) (h'.t.bw hB0)).mono ?_;rw [xR rfl];rintro e w1 ⟨rfl,hb⟩;have hB1:=hB0.trans (hb.mono (by have:=hB0.size;simp;omega));have u1:=u0.bw hb;have v1:=v0.bw hb;clear hb u0 v0;obtain ⟨q0,q1,q2,q3,q4,q5,q6,q7⟩:=u1.eight;obtain ⟨p0,p1,p2,p3,p4,p5,p6,p7⟩:=v1.eight;go_wp2_with fail
 refine (aA2 ba ba' bn bc bc' bl bl' _ (h.b.bw hB1) (h'.b.bw hB1) hz).mono ?_;rintro e w2 ⟨rfl,hb⟩;have hB2:=hB1.trans (hb.mono (by have:=hB1.size;omega));have u2:=u1.bw hb;have v2:=v1.bw hb;clear hb u1 v1 q0 q1 q2 q3 q4 q5 q6 q7 p0 p1 p2 p3 p4 p5 p6 p7;obtain ⟨q0,q1,q2,q3,q4,q5,q6,q7⟩:=u2.eight;obtain ⟨p0,p1,p2,p3,p4,p5,p6,p7⟩:=v2.eight;go_wp2_with fail
 refine (gT da da' dn dc dn dc' dz dz _ (h.d.bw hB2) (h'.d.bw hB2)).mono ?_;rw [xR rfl];rintro e w3 ⟨rfl,hb⟩;have hB3:=hB2.trans (hb.mono (by have:=hB2.size;omega));have u3:=u2.bw hb;have v3:=v2.bw hb;clear hb u2 v2 q0 q1 q2 q3 q4 q5 q6 q7 p0 p1 p2 p3 p4 p5 p6 p7;obtain ⟨q0,q1,q2,q3,q4,q5,q6,q7⟩:=u3.eight;obtain ⟨p0,p1,p2,p3,p4,p5,p6,p7⟩:=v3.eight;go_wp2_with fail
 refine (jF ra ra' rn rc rn rc' rz rz _ (h.r.bw hB3) (h'.r.bw hB3)).mono ?_;rw [xR rfl];rintro e w4 ⟨rfl,hb⟩;have hB4:=hB3.trans (hb.mono (by have:=hB3.size;omega));have u4:=u3.bw hb;have v4:=v3.bw hb;clear hb u3 v3 q0 q1 q2 q3 q4 q5 q6 q7 p0 p1 p2 p3 p4 p5 p6 p7;obtain ⟨q0,q1,q2,q3,q4,q5,q6,q7⟩:=u4.eight;obtain ⟨p0,p1,p2,p3,p4,p5,p6,p7⟩:=v4.eight;go_wp2_with fail
 refine (tU ia ia' im ic ic' ss _ (h.i.bw hB4) (h'.i.bw hB4)).mono ?_;rintro e w5 ⟨rfl,hb⟩;have hB5:=hB4.trans (hb.mono (by have:=hB4.size;omega));have u5:=u4.bw hb;have v5:=v4.bw hb;clear hb u4 v4 q0 q1 q2 q3 q4 q5 q6 q7 p0 p1 p2 p3 p4 p5 p6 p7;obtain ⟨q0,q1,q2,q3,q4,q5,q6,q7⟩:=u5.eight;obtain ⟨p0,p1,p2,p3,p4,p5,p6,p7⟩:=v5.eight;go_wp2_with fail
 refine (tW ea ea' en ec ec' es _ (h.e.bw hB5) (h'.e.bw hB5)).mono ?_;rintro e w6 ⟨rfl,hb⟩;have hB6:=hB5.trans (hb.mono (by have:=hB5.size;omega));have u6:=u5.bw hb;have v6:=v5.bw hb;clear hb u5 v5 q0 q1 q2 q3 q4 q5 q6 q7 p0 p1 p2 p3 p4 p5 p6 p7;obtain ⟨q0,q1,q2,q3,q4,q5,q6,q7⟩:=u6.eight;obtain ⟨p0,p1,p2,p3,p4,p5,p6,p7⟩:=v6.eight;go_wp2;go_ret;exact ⟨rfl,hB6⟩
theorem aD1 {tz:qi}{dz:qi}{rz:qi}{w W:qw}{g1 g2 g3 g5 g6 g7:Nat}{gs:List Nat}(h:MT w nm ta tn tc tz ba bn bc bl da dn dc dz bss ra rn rc rz ia im ic ss ea en ec es)(hg:gs.length=bn)
 (r1:RowI W g1 tz) (r2:RowB W g2 bn gs bl) (r3:Row8 W g3 dz) (r5:RowI W g5 rz) (r6:RowT W g6 ss) (r7:RowX W g7 es):MT W nm (qP g1) tn tn tz (qP g2) bn bn (reb gs bl) (qP g3) dn dn dz bss (qP g5) rn rn rz (qP g6) im im ss (qP g7) en en es where
 n:=h.n
 t:=r1.is (by rw [h.t.1];exact h.t.2.1) h.t.2.2.1 _ _ h.t.1
 b:=r2.bks h.b hg
 d:=r3.bs (by rw [h.d.1];exact h.d.2.1) h.d.2.2.1 _ _ h.d.1
 s:=h.s
 r:=r5.is (by rw [h.r.1];exact h.r.2.1) h.r.2.2.1 _ _ h.r.1
 i:=⟨h.i.1,h.i.2.1,h.i.2.2.1,fun _=>⟨g6,0,rfl,fun i hi=>by rw [Nat.zero_add];exact r6.cell i (by rw [h.i.1];exact hi)⟩,aN⟩
 e:=r7.te h.e
theorem aJ3 {tz:qi}{dz:qi}{rz:qi}{w:qw}(h:MT w nm ta tn tc tz ba bn bc bl da dn dc dz bss ra rn rc rz ia im ic ss ea en ec es)(hs:cR nm tn bn bl dn rn im ss en es<=1048576):MD w nm ta tn tc tz ba bn bc bl da dn dc dz bss ra rn rc rz ia im ic ss ea en ec es where
 n:=by unfold cR at hs;omega
 t:=h.t
 b:=h.b
 d:=h.d
 s:=h.s
 r:=h.r
 i:=h.i.ss (by unfold cR at hs;omega)
 e:=h.e.es (by unfold cR at hs;omega)
theorem aI9 (gs:List Nat)(nm:ByteArray)(tn bn:Nat)(bl:List Bk)(dn rn im:Nat)(ss:List ByteArray)(en:Nat)(es:List Ex)(h:bl.length=bn):cR nm tn bn (reb gs bl) dn rn im ss en es=cR nm tn bn bl dn rn im ss en es:=by
 have key:∀ k,k<=bn->upS (fun j=>((reb gs bl).getD j zB).2.1) k=upS (fun j=>(bl.getD j zB).2.1) k:=by
  intro k
  induction k with
  | zero=>intro _;rfl
  | succ k ih=>
    intro hk;show upS _ k+_=upS _ k+_;rw [ih (by omega)];congr 1;simp only;rw [gW _ _ _]
 unfold cR;rw [key bn aN]
structure PMod where
 nm:ByteArray
 tz:List Int
 bl:List (List Int)
 dz:List Int
 bss:Int
 rz:List Int
 ss:List ByteArray
 es:List Ex
def lM (bl:List (List Int)):List Bk:=bl.map fun l=>(none,l.length,l.length,l)
def fA (P:PMod):Int:=mdo P.nm P.tz.length P.tz P.bl.length (lM P.bl) P.dz.length P.bss P.rz.length P.rz P.ss.length P.ss P.es.length P.es
theorem aMi {tz:qi}{bl':List Bk}{rz:qi}(hl:bl.length=bl'.length)(h:∀ i,i<bl.length->(bl.getD i zB).2.1=(bl'.getD i zB).2.1/\(bl.getD i zB).2.2.2=(bl'.getD i zB).2.2.2):
 mdo nm tn tz bl.length bl dn bss rn rz im ss en es=mdo nm tn tz bl.length bl' dn bss rn rz im ss en es:=by
 have e:reb [] bl=reb [] bl':=by
  unfold reb;rw [<- hl];apply List.map_congr_left;intro i hi;have:=h i (by simpa using hi);rw [this.1,this.2]
 rw [<- aFu [] nm tn tz bl.length bl dn bss rn rz im ss en es rfl,e,aFu [] nm tn tz bl.length bl' dn bss rn rz im ss en es hl.symm]
theorem aMe {w:qw}(h:OG 9 1 clT w base (qS (qP g) n c) ss)(i:Nat)(hi:i<n)(s:ByteArray):OG 9 1 clT (w.setCell (qR g i) (.string s)) base (qS (qP g) n c) (ss.set i s):=by
 unfold OG at *;rw [tQ] at *;obtain ⟨hl,⟨h0,_⟩|⟨g',cap',cur,hv,hg,hh,h1,h2,h3,h4⟩⟩:=h
 .simp at h0
 .simp at hv;obtain ⟨rfl,rfl,rfl⟩:=hv;refine ⟨by simp,.inr ⟨g,c,cur.setIfInBounds i (.string s),by simp,hg,Blk.set (w:=w) hh i _,by simpa using h1,h2,by simpa using h3,?_⟩⟩;rw [List.length_set,xW,List.take_set,h4,List.map_set]
def fJ (k n:Nat):List ByteArray:=(List.range n).map fun i=>mtx (k+i)
def gE (zs:List ByteArray)(k m:Nat):List ByteArray:=(List.range zs.length).map fun i=>if i<m then mtx (k+i) else zs.getD i zS
theorem aCg (zs:List ByteArray)(k:Nat):gE zs k 0=zs:=by
 apply List.ext_getElem
 .simp [gE]
 .intro i h1 h2;simp [gE,h2]
theorem aD8 (zs:List ByteArray)(k:Nat):gE zs k zs.length=fJ k zs.length:=by
 apply List.ext_getElem
 .simp [gE,fJ]
 .intro i h1 h2;simp [fJ] at h2;simp [gE,fJ,h2]
theorem aD7 (zs:List ByteArray)(k m:Nat)(h:m<zs.length):(gE zs k m).set m (mtx (k+m))=gE zs k (m+1):=by
 apply List.ext_getElem
 .simp [gE]
 .intro i h1 h2;simp only [gE,List.getElem_set,List.getElem_map,List.getElem_range];by_cases hik:m=i
  .subst hik;simp
  .by_cases h3:i<m
   .simp [hik,h3,show i<m+1 by omega]
   .simp [hik,h3,show ¬ i<m+1 by omega]
theorem nX (g n cap base:Nat)(zs:List ByteArray)(k:Nat)(w:qw)(h:OG 9 1 clT w base (qS (qP g) n cap) zs)(hn:n<=5000000)(h0:0<k)(hk:k<=20000000):
 qC 106 #[qS (qP g) n cap,qI k] w fun e w'=>e=.returned (qI ((k+n:Nat):Int))/\OG 9 1 clT w' base (qS (qP g) n cap) (fJ k n)/\Turn (fun j=>j=g) w w':=by
 have hl:=(aQ h).1;go_enter func106,ntmps106
 go_wp2;go_loopw [1,5] (fun x i wr=>∃ m:Nat,m<=n/\i=qI m/\x=qI ((k+m:Nat):Int)/\OG 9 1 clT wr base (qS (qP g) n cap) (gE zs k m)/\Turn (fun j=>j=g) w wr) (fun _ i _=>n-(intOf i).toNat)
 .exact ⟨0,xC _,rfl,rfl,by rw [aCg];exact h,Turn.refl _ _⟩
 .obtain ⟨m,hm,rfl,rfl,O,T⟩:=hrel;by_cases hlt:m<n
  .have hlt':(m:Int)<(n:Int):=by omega
   have HT:=zh (dK (k+m) wr);go_wp2_with fail
   refine HT.o.mono ?_;rintro e w1 ⟨rfl,hb⟩;have O1:=O.bw hb;have T1:=T.trans (aJ hb)
   have hsl:Sl (fun j=>j=g) w1 (qP g) n 1:=by
    obtain ⟨_,⟨h0',_⟩|⟨g',cap',cur,hv,_,hh,h1,_,h3,_⟩⟩:=O1
    .simp at h0'
    .simp at hv;obtain ⟨rfl,rfl,rfl⟩:=hv;refine Sl.ofBlk (c:=0) hh rfl ?_;simp at h1 h3;omega
   obtain ⟨⟨u,c0⟩,f0,_⟩:=hsl.cell (by omega) m (by omega);rw [Nat.zero_add] at c0 f0;have O2:=aMe O1 m hlt (mtx (k+m));rw [aD7 zs k m (by omega)] at O2;have T2:=T1.trans (aC w1 g m (.string (mtx (k+m))));have HX:=zh (xA O2 T2);clear O T O1 T1 O2 T2 hb HT hsl;go_wp2
   go_roundw
   .exact ⟨m+1,by omega,by go_num,by go_num,HX.o.1,HX.o.2⟩
   .simp [intOf];omega
  .have e:Zh (m=n):=by show m=n;omega
   have HX:=zh (xA O T);clear O T;go_wp2;go_ret;refine ⟨aH (by rw [e.o]),?_,HX.o.2⟩;have:=HX.o.1;rw [e.o,<- hl,aD8] at this;rw [hl] at this;exact this
theorem nW (a:qO)(cap k:Nat)(w:qw):
 qC 106 #[qS a 0 cap,qI k] w fun e w'=>e=.returned (qI k)/\w=w':=by
 go_enter func106,ntmps106
 go_wp2;go_loop [1,5] (fun x i=>i=qI 0/\x=qI k) (fun _ _=>0)
 .exact ⟨rfl,rfl⟩
 .obtain ⟨rfl,rfl⟩:=hrel;go_wp2;go_ret;exact ⟨rfl,rfl⟩
theorem pL (a:qO)(n cap base:Nat)(zs:List ByteArray)(k:Nat)(w:qw)(h:OG 9 1 clT w base (qS a n cap) zs)(hn:n<=5000000)(h0:0<k)(hk:k<=20000000):
 qC 106 #[qS a n cap,qI k] w fun e w'=>e=.returned (qI ((k+n:Nat):Int))/\OG 9 1 clT w' base (qS a n cap) (fJ k n)/\Turn (fun j=>(qS a n cap).ownBlock=some j) w w':=by
 by_cases h1:n=0
 .subst h1;refine (nW a cap k w).mono fun e w' he=>?_;obtain ⟨rfl,rfl⟩:=he;have hz:zs=[]:=xE (aQ h).1;subst hz;exact ⟨rfl,h,Turn.refl _ _⟩
 .obtain ⟨g,rfl⟩:=fS h h1;refine (nX g n cap base zs k w h hn h0 hk).mono fun e w' he=>⟨he.1,he.2.1,he.2.2.mono ?_⟩;intro j hj;subst hj;rfl
theorem aHt (k n m:Nat)(h:m<n):((fJ k n).flatMap clT)[m]?=some (.string (mtx (k+m))):=by
 rw [tQ];simp [fJ,h]
theorem aOn {w:qw}{xs:List ByteArray}(h:OG 9 1 clT w base (qS (qP g) n c) xs)(m:Nat)(u:Value)(hu:(xs.flatMap clT)[m]?=some u):∀ W,qY w W->W.cell? (qR g m)=some u:=fun W hb=>by
 have O:=OG.bw h hb;obtain ⟨hl,_,_,h4⟩:=aQ O
 have hn:n≠0:=fun e=>by
  subst e;have:xs=[]:=xE hl;subst this;simp at hu
 obtain ⟨g',hg',hc⟩:=h4 hn;simp at hg';subst hg';exact hc m u hu
theorem pS (a:qO)(n cap base:Nat)(k:Nat)(w:qw)(h:OG 9 1 clT w base (qS a n cap) (fJ k n))(hn:n<=5000000)(h0:0<k)(hk:k<=20000000):
 qC 111 #[qS a n cap,qI k] w (qB w (qI ((k+n:Nat):Int))):=by
 have HO:=zh h;clear h;go_enter func111,ntmps111
 go_wp2;go_loopw [1,5] (fun x i wr=>∃ m:Nat,m<=n/\i=qI m/\x=qI ((k+m:Nat):Int)/\qY w wr) (fun _ i _=>n-(intOf i).toNat)
 .exact ⟨0,xC _,rfl,rfl,brf⟩
 .obtain ⟨m,hm,rfl,rfl,B⟩:=hrel;by_cases hlt:m<n
  .have hlt':(m:Int)<(n:Int):=by omega
   obtain ⟨g,rfl⟩:=fS HO.o (by omega);have HC0:=aOn HO.o m _ (aHt k n m hlt);have HT:=zh (fun W=>dK (k+m) W);have HKM:=zh (show (((k+m:Nat):Int))+1=((k+(m+1):Nat):Int) by omega);obtain ⟨s,hs⟩:=eqx (mtx (k+m));rw [<- hs] at HC0 HT;have HC:=zh HC0;clear hs HC0;have c0:=HC.o wr B;have hne:(s.toList !=s.toList)=false:=by simp
   have HB:=zh B;clear B;go_wp2_with fail
   go_region_held3 (fun w'=>w'.cell? (qR g m)=some (.string s)) (go_keep) (first
    | (go_at_call 103;refine (HT.o _).mono ?_;rintro e w1 ⟨rfl,hb⟩;replace hb:=HB.o.trans ((dF hb).mono HB.o.size);have c1:=HC.o w1 hb;have HB1:=zh hb;clear hb))
   clear c0 HB HC HT;go_wp2
   go_roundw
   .exact ⟨m+1,by omega,by go_num,by go_num,HB1.o⟩
   .simp [intOf];omega
  .have e:Zh (m=n):=by show m=n;omega
   have HX:=zh B;clear B;go_wp2;go_ret;exact ⟨aH (by rw [e.o]),HX.o⟩
theorem oK:∀ (xs:List Ex) (i:Nat) (x:Ex),i<xs.length->(((xs.flatMap clX).set (i*3) (.string x.1)).set (i*3+1) (qI x.2.1)).set (i*3+2) (qI x.2.2)=(xs.set i x).flatMap clX
 | [],i,x,h=>by simp at h
 | y::ys,0,x,h=>by simp [clX]
 | y::ys,i+1,x,h=>by
   have ih:=oK ys i x (by simpa using h);rw [show (i+1)*3=i*3+1+1+1 by omega];simp only [xT,clX,List.cons_append,List.nil_append,List.set_cons_succ];rw [<- ih]
theorem aMd {w:qw}(h:OG 163 3 clX w base (qS (qP g) n c) xs)(i:Nat)(hi:i<n)(s:ByteArray)(p q:Int):OG 163 3 clX (((w.setCell (qR g (i*3)) (.string s)).setCell (qR g (i*3+1)) (qI p)).setCell (qR g (i*3+2)) (qI q)) base (qS (qP g) n c) (xs.set i (s,p,q)):=by
 obtain ⟨hl,⟨h0,_⟩|⟨g',cap',cur,hv,hg,hh,h1,h2,h3,h4⟩⟩:=h
 .simp at h0
 .simp at hv;obtain ⟨rfl,rfl,rfl⟩:=hv;refine ⟨?_,.inr ⟨g,c,((cur.setIfInBounds (i*3) (.string s)).setIfInBounds (i*3+1) (qI p)).setIfInBounds (i*3+2) (qI q),by simp,hg,Blk.set (Blk.set (Blk.set (w:=w) hh _ _) _ _) _ _,by simpa using h1,h2,by simpa using h3,?_⟩⟩
  .rw [<- oK xs i (s,p,q) hi];simpa using hl
  .rw [List.length_set,xW,xW,xW,List.take_set,List.take_set,List.take_set,h4];exact oK xs i (s,p,q) hi
def gG (k n:Nat):List Ex:=(List.range n).map fun i=>(mtx (k+3*i),((k+3*i+1:Nat):Int),((k+3*i+2:Nat):Int))
def eC (zs:List Ex)(k m:Nat):List Ex:=(List.range zs.length).map fun i=>if i<m then (mtx (k+3*i),((k+3*i+1:Nat):Int),((k+3*i+2:Nat):Int)) else zs.getD i zE
theorem aD5 (zs:List Ex)(k m:Nat):(eC zs k m).length=zs.length:=by simp [eC]
theorem aCf (zs:List Ex)(k:Nat):eC zs k 0=zs:=by
 apply List.ext_getElem
 .simp [eC]
 .intro i h1 h2;simp [eC,h2]
theorem aD6 (zs:List Ex)(k:Nat):eC zs k zs.length=gG k zs.length:=by
 apply List.ext_getElem
 .simp [eC,gG]
 .intro i h1 h2;simp [gG] at h2;simp [eC,gG,h2]
theorem aD4 (zs:List Ex)(k m:Nat)(h:m<zs.length):(eC zs k m).set m (mtx (k+3*m),((k+3*m+1:Nat):Int),((k+3*m+2:Nat):Int))=eC zs k (m+1):=by
 apply List.ext_getElem
 .simp [eC]
 .intro i h1 h2;simp only [eC,List.getElem_set,List.getElem_map,List.getElem_range];by_cases hik:m=i
  .subst hik;simp
  .by_cases h3:i<m
   .simp [hik,h3,show i<m+1 by omega]
   .simp [hik,h3,show ¬ i<m+1 by omega]
theorem oB (g n cap base:Nat)(zs:List Ex)(k:Nat)(w:qw)(h:OG 163 3 clX w base (qS (qP g) n cap) zs)(hn:n<=5000000)(h0:0<k)(hk:k<=20000000):
 qC 107 #[qS (qP g) n cap,qI k] w fun e w'=>e=.returned (qI ((k+3*n:Nat):Int))/\OG 163 3 clX w' base (qS (qP g) n cap) (gG k n)/\Turn (fun j=>j=g) w w':=by
 have hl:=(aQ h).1;go_enter func107,ntmps107
 go_wp2;go_loopw [1,5] (fun x i wr=>∃ m:Nat,m<=n/\i=qI m/\x=qI ((k+3*m:Nat):Int)/\OG 163 3 clX wr base (qS (qP g) n cap) (eC zs k m)/\Turn (fun j=>j=g) w wr) (fun _ i _=>n-(intOf i).toNat)
 .exact ⟨0,xC _,rfl,rfl,by rw [aCf];exact h,Turn.refl _ _⟩
 .obtain ⟨m,hm,rfl,rfl,O,T⟩:=hrel;by_cases hlt:m<n
  .have hlt':(m:Int)<(n:Int):=by omega
   have HT:=zh (dK (k+3*m) wr);go_wp2_with fail
   refine HT.o.mono ?_;rintro e w1 ⟨rfl,hb⟩;have O1:=O.bw hb;have T1:=T.trans (aJ hb)
   have hsl:Sl (fun j=>j=g) w1 (qP g) n 3:=by
    obtain ⟨_,⟨h0',_⟩|⟨g',cap',cur,hv,_,hh,h1,_,h3,_⟩⟩:=O1
    .simp at h0'
    .simp at hv;obtain ⟨rfl,rfl,rfl⟩:=hv;refine Sl.ofBlk (c:=0) hh rfl ?_;rw [aD5] at h1;omega
   obtain ⟨⟨u,c0⟩,f0,_⟩:=hsl.cell (by omega) (m*3) (by omega);obtain ⟨⟨u1,c1⟩,f1,_⟩:=hsl.cell (by omega) (m*3+1) (by omega);obtain ⟨⟨u2,c2⟩,f2,_⟩:=hsl.cell (by omega) (m*3+2) (by omega);rw [Nat.zero_add] at c0 f0 c1 f1 c2 f2
   have HX:=zh (fun (p q:Int) (hp:p=((k+3*m+1:Nat):Int)) (hq:q=((k+3*m+2:Nat):Int))=>by
    have O2:=aMd O1 m hlt (mtx (k+3*m)) p q;rw [hp,hq,aD4 zs k m (by omega),<- hp,<- hq] at O2;have T2:=((T1.trans (aC w1 g (m*3) (.string (mtx (k+3*m))))).trans (aC _ g (m*3+1) (qI p))).trans (aC _ g (m*3+2) (qI q))
    exact xA O2 T2)
   clear O T O1 T1 hb HT hsl;go_wp2
   go_roundw
   .exact ⟨m+1,by omega,by go_num,by go_num,(HX.o _ _ (by go_num) (by go_num)).1,(HX.o _ _ (by go_num) (by go_num)).2⟩
   .simp [intOf];omega
  .have e:Zh (m=n):=by show m=n;omega
   have HX:=zh (xA O T);clear O T;go_wp2;go_ret;refine ⟨aH (by rw [e.o]),?_,HX.o.2⟩;have:=HX.o.1;rw [e.o,<- hl,aD6] at this;rw [hl] at this;exact this
theorem oA (a:qO)(cap k:Nat)(w:qw):
 qC 107 #[qS a 0 cap,qI k] w fun e w'=>e=.returned (qI k)/\w=w':=by
 go_enter func107,ntmps107
 go_wp2;go_loop [1,5] (fun x i=>i=qI 0/\x=qI k) (fun _ _=>0)
 .exact ⟨rfl,rfl⟩
 .obtain ⟨rfl,rfl⟩:=hrel;go_wp2;go_ret;exact ⟨rfl,rfl⟩
theorem pQ (a:qO)(n cap base:Nat)(zs:List Ex)(k:Nat)(w:qw)(h:OG 163 3 clX w base (qS a n cap) zs)(hn:n<=5000000)(h0:0<k)(hk:k<=20000000):
 qC 107 #[qS a n cap,qI k] w fun e w'=>e=.returned (qI ((k+3*n:Nat):Int))/\OG 163 3 clX w' base (qS a n cap) (gG k n)/\Turn (fun j=>(qS a n cap).ownBlock=some j) w w':=by
 by_cases h1:n=0
 .subst h1;refine (oA a cap k w).mono fun e w' he=>?_;obtain ⟨rfl,rfl⟩:=he;have hz:zs=[]:=xE (aQ h).1;subst hz;exact ⟨rfl,h,Turn.refl _ _⟩
 .obtain ⟨g,rfl⟩:=fS h h1;refine (oB g n cap base zs k w h hn h0 hk).mono fun e w' he=>⟨he.1,he.2.1,he.2.2.mono ?_⟩;intro j hj;subst hj;rfl
theorem aOm {w:qw}(h:OG 163 3 clX w base (qS (qP g) n c) xs)(m:Nat)(hm:m<n):∀ W,qY w W->W.cell? (qR g (m*3))=some (.string (xs.getD m zE).1)/\W.cell? (qR g (m*3+1))=some (qI (xs.getD m zE).2.1)/\W.cell? (qR g (m*3+2))=some (qI (xs.getD m zE).2.2):=fun W hb=>by
 have O:=OG.bw h hb;obtain ⟨hl,_,_,h4⟩:=aQ O;obtain ⟨g',hg',hc⟩:=h4 (by omega);simp at hg';subst hg';obtain ⟨e0,e1,e2⟩:=tP xs m (by omega);exact ⟨hc _ _ e0,hc _ _ e1,hc _ _ e2⟩
theorem aHs (k n m:Nat)(h:m<n):(gG k n).getD m zE=(mtx (k+3*m),((k+3*m+1:Nat):Int),((k+3*m+2:Nat):Int)):=by simp [gG,xB,h]
theorem pV (a:qO)(n cap base:Nat)(k:Nat)(w:qw)(h:OG 163 3 clX w base (qS a n cap) (gG k n))(hn:n<=5000000)(h0:0<k)(hk:k<=20000000):
 qC 112 #[qS a n cap,qI k] w (qB w (qI ((k+3*n:Nat):Int))):=by
 have HO:=zh h;clear h;go_enter func112,ntmps112
 go_wp2;go_loopw [1,5] (fun x i wr=>∃ m:Nat,m<=n/\i=qI m/\x=qI ((k+3*m:Nat):Int)/\qY w wr) (fun _ i _=>n-(intOf i).toNat)
 .exact ⟨0,xC _,rfl,rfl,brf⟩
 .obtain ⟨m,hm,rfl,rfl,B⟩:=hrel;by_cases hlt:m<n
  .have hlt':(m:Int)<(n:Int):=by omega
   obtain ⟨g,rfl⟩:=fS HO.o (by omega);have HC0:=aOm HO.o m hlt;rw [aHs k n m hlt] at HC0;have HT:=zh (fun W=>dK (k+3*m) W);obtain ⟨K,hK⟩:∃ K:Nat,K=k+3*m:=⟨_,rfl⟩;have HK:=zh hK;have hKb:K<=67108000:=by omega
   rw [<- hK] at HC0 HT ⊢;obtain ⟨s,hs⟩:=eqx (mtx K);rw [<- hs] at HC0 HT;have HC:=zh HC0;clear hs HC0 hK;obtain ⟨c0,c1,c2⟩:=HC.o wr B;have hne:(s.toList !=s.toList)=false:=by simp
   have HB:=zh B;clear B;go_wp2_with fail
   go_region_held3 (fun w'=>w'.cell? (qR g (m*3))=some (.string s)) (go_keep) (first
    | (go_at_call 103;refine (HT.o _).mono ?_;rintro e w1 ⟨rfl,hb⟩;replace hb:=HB.o.trans ((dF hb).mono HB.o.size);obtain ⟨d0,d1,d2⟩:=HC.o w1 hb;have HB1:=zh hb;clear hb))
   clear c0 c1 c2 HB HC HT;have e1:((K:Int)+1 !=((K+1:Nat):Int))=false:=by simp
   have e2:((K:Int)+1+1 !=((K+2:Nat):Int))=false:=by simp;omega
   go_wp2
   go_roundw
   .exact ⟨m+1,by omega,by go_num,by rw [HK.o];go_num,HB1.o⟩
   .simp [intOf];omega
  .have e:Zh (m=n):=by show m=n;omega
   have HX:=zh B;clear B;go_wp2;go_ret;exact ⟨aH (by rw [e.o]),HX.o⟩
theorem sT (a:qO)(cap k:Nat)(w:qw):
 qC 105 #[qS a 0 cap,qI k] w fun e w'=>e=.returned (qI k)/\w=w':=by
 go_enter func105,ntmps105
 go_wp2;go_loop [1,5] (fun x i=>i=qI 0/\x=qI k) (fun _ _=>0)
 .exact ⟨rfl,rfl⟩
 .obtain ⟨rfl,rfl⟩:=hrel;go_wp2;go_ret;exact ⟨rfl,rfl⟩
theorem eN (a:qO)(n cap base:Nat)(zs:qi)(k:Nat)(w:qw)(h:OB w base (qS a n cap) zs)(hn:n<=5000000:=by omega)(hk:k<=20000000:=by omega):
 qC 105 #[qS a n cap,qI k] w fun e w'=>e=.returned (qI ((k+n:Nat):Int))/\OB w' base (qS a n cap) (cH k n)/\Turn (fun j=>(qS a n cap).ownBlock=some j) w w':=by
 by_cases h0:n=0
 .subst h0;refine (sT a cap k w).mono fun e w' he=>?_;obtain ⟨rfl,rfl⟩:=he;have hz:zs=[]:=xE h.bs.1;subst hz;exact ⟨rfl,h,Turn.refl _ _⟩
 .obtain ⟨g,rfl⟩:∃ g,a=some ⟨g,0,none⟩:=by
   obtain ⟨hl,⟨h0',_⟩|⟨g,cap',cur,hv,_⟩⟩:=h.1
   .simp at h0';exact absurd h0'.2.1 h0
   .simp at hv;exact ⟨g,hv.1⟩
  refine (sV g n cap base zs k w h hn hk).mono fun e w' he=>⟨he.1,he.2.1,he.2.2.mono ?_⟩;intro j hj;subst hj;rfl
theorem aEb (k n m:Nat)(h:m<n):(cH k n).getD m 0=((k+m:Nat):Int)%256:=by simp [cH,xB,h]
theorem eP (a:qO)(n cap:Nat)(k:Nat)(w:qw)(h:BS w a n cap (cH k n))(hn:n<=5000000:=by omega)(hk:k<=20000000:=by omega):
 qC 110 #[qS a n cap,qI k] w fun e w'=>e=.returned (qI ((k+n:Nat):Int))/\w=w':=by
 go_enter func110,ntmps110
 go_wp2;go_loop [1,5] (fun x i=>∃ m:Nat,m<=n/\i=qI m/\x=qI ((k+m:Nat):Int)) (fun _ i=>n-(intOf i).toNat)
 .exact ⟨0,xC _,rfl,rfl⟩
 .obtain ⟨m,hm,rfl,rfl⟩:=hrel;by_cases hlt:m<n
  .have hlt':(m:Int)<(n:Int):=by omega
   obtain ⟨b,off,rfl⟩:=h.some (by omega);have hc:=h.at m hlt;rw [aEb k n m hlt] at hc;obtain ⟨K,hK⟩:∃ K:Int,K=((k+m:Nat):Int):=⟨_,rfl⟩;have hK0:0<=K:=by omega
   have hK1:K<=67108864:=by omega
   have HK:=zh (show K+1=((k+(m+1):Nat):Int) by omega);rw [<- hK] at hc ⊢;have hne:(K%256 !=K%256)=false:=by simp
   clear hK;go_wp2
   go_round
   .exact ⟨m+1,by omega,by go_num,by rw [HK.o]⟩
   .simp [intOf];omega
  .have e:Zh (m=n):=by show m=n;omega
   go_wp2;go_ret;exact ⟨aH (by rw [e.o]),rfl⟩
def pX (v1 v2 v3:Value)(j:Nat):Prop:=v1.ownBlock=some j\/v2.ownBlock=some j\/v3.ownBlock=some j
def Byt (zs:qi):Prop:=∀ z∈zs,0<=z/\z<=255
structure PmG (P:PMod):Prop where
 n:P.nm.size<=1048576
 t:P.tz.length<=1048576/\∀ x∈P.tz,wfi x
 b:P.bl.length<=1048576/\∀ l∈P.bl,l.length<=1048576/\∀ x∈l,wfi x
 d:P.dz.length<=1048576/\Byt P.dz
 s:wfi P.bss
 r:P.rz.length<=1048576/\∀ x∈P.rz,wfi x
 i:P.ss.length<=1048576/\∀ s∈P.ss,s.size<=1048576
 e:P.es.length<=1048576/\∀ x∈P.es,x.1.size<=1048576
theorem Blk.eight' {w:qw}{v0 v2 v4:Value}{t:TypeId}(h:Blk w g #[v0,v1,v2,v3,v4,v5,v6,v7] t):w.cell? (qR g 0)=some v0/\w.cell? (qR g 1)=some v1/\w.cell? (qR g 2)=some v2/\w.cell? (qR g 3)=some v3/\w.cell? (qR g 4)=some v4/\w.cell? (qR g 5)=some v5/\w.cell? (qR g 6)=some v6/\w.cell? (qR g 7)=some v7:=
 ⟨h.cell 0,h.cell 1,h.cell 2,h.cell 3,h.cell 4,h.cell 5,h.cell 6,h.cell 7⟩
structure ModO (W:qw)(base:Nat)(P:PMod)(a1:qO)(c1:Nat)(a2:qO)(c2:Nat)(bl:List Bk)(a3:qO)(c3:Nat)(a5:qO)(c5:Nat)(a6:qO)(c6:Nat)(a7:qO)(c7:Nat):Prop where
 t:OG 3 1 clI W base (qS a1 P.tz.length c1) P.tz
 b:OBk W base (qS a2 bl.length c2) bl
 bls:bl.map (fun B=>B.2.2.2)=P.bl
 d:OB W base (qS a3 P.dz.length c3) P.dz
 r:OG 3 1 clI W base (qS a5 P.rz.length c5) P.rz
 i:OG 9 1 clT W base (qS a6 P.ss.length c6) P.ss
 e:OG 163 3 clX W base (qS a7 P.es.length c7) P.es
 tb:∀ k,(qS a1 P.tz.length c1).ownBlock=some k->∀ B∈bl,(qS B.1 B.2.1 B.2.2.1).ownBlock≠some k
 tr:∀ k,(qS a1 P.tz.length c1).ownBlock=some k->(qS a5 P.rz.length c5).ownBlock≠some k
 br:∀ k,(qS a5 P.rz.length c5).ownBlock=some k->∀ B∈bl,(qS B.1 B.2.1 B.2.2.1).ownBlock≠some k
theorem ModO.mdG {W:qw}{P:PMod}{a1:qO}{c1:Nat}{c2:Nat}{a3:qO}{c3:Nat}{a5:qO}{c5:Nat}{a6:qO}{c6:Nat}{a7:qO}{c7:Nat}(h:ModO W base P a1 c1 a2 c2 bl a3 c3 a5 c5 a6 c6 a7 c7)(R:PmG P):
 MD W P.nm a1 P.tz.length c1 P.tz a2 bl.length c2 bl a3 P.dz.length c3 P.dz P.bss a5 P.rz.length c5 P.rz a6 P.ss.length c6 P.ss a7 P.es.length c7 P.es where
 n:=R.n
 t:=aCc h.t R.t.2
 b:=aMf h.b (fun B hB z hz=>by
  have hm:B.2.2.2∈P.bl:=by rw [<- h.bls];exact List.mem_map.2 ⟨B,hB,rfl⟩
  exact (R.b.2 _ hm).2 z hz)
 d:=h.d.bs
 s:=R.s
 r:=aCc h.r R.r.2
 i:=aPh h.i R.i.2
 e:=aPi h.e R.e.2
structure M6 (W:qw)(base:Nat)(v1 v3 v5 v6 v7:Value)(a2:qO)(bn:Nat)(f:Nat->qO×Nat×Nat)(T:qi)(X:Nat->List Int)(D R:qi)(I:List ByteArray)(E:List Ex):Prop where
 t:OI W base v1 T
 b:Rr W base a2 bn f X
 d:OB W base v3 D
 r:OI W base v5 R
 i:OG 9 1 clT W base v6 I
 e:OG 163 3 clX W base v7 E
 tr:∀ k,v1.ownBlock=some k->v5.ownBlock≠some k
 tb:∀ k,v1.ownBlock=some k->¬ Sr f bn k
 rb:∀ k,v5.ownBlock=some k->¬ Sr f bn k
theorem aX {w:qw}{sz:Nat}{t t':TypeId}{v:Value}{xs:List Value}{k:Nat}{cs:Array Value}(h:w.ownsRow base t sz v n xs)(hk:v.ownBlock=some k)(hb:Blk w k cs t')(hne:t≠t'):False:=by
 obtain ⟨c1,k1⟩:=aD h hk;exact hne (aI k1 hb)
theorem Rr.kind {w:qw}(h:Rr w base a n f X){j:Nat}(hj:Sr f n j):∃ cs,Blk w j cs 3:=by
 obtain ⟨i,hi,e⟩:=hj;exact aD (h.rows i hi).1 e
theorem M6.set_t {W W':qw}{T:qi}{D R:qi}{T':qi}(h:M6 W base v1 v3 v5 v6 v7 a2 bn f T X D R I E)(O:OI W' base v1 T')(t:Turn (fun j=>v1.ownBlock=some j) W W'):M6 W' base v1 v3 v5 v6 v7 a2 bn f T' X D R I E:=
 ⟨O,(h.b.kept t (fun i hi k hk s=>h.tb k s ⟨i,hi,hk⟩) (fun hn g cs ha hb s=>by obtain ⟨c,kb⟩:=(aD h.t.1 s);exact absurd (aI hb kb) (by decide))),(aU t h.d (fun k hk s=>by obtain ⟨c,kb⟩:=(aD h.t.1 s);exact aX h.d.1 hk kb (by decide))),(aW t h.r (fun k hk s=>h.tr k s hk)),(h.i.kept t (fun k hk s=>by obtain ⟨c,kb⟩:=(aD h.t.1 s);exact aX h.i hk kb (by decide))),(h.e.kept t (fun k hk s=>by obtain ⟨c,kb⟩:=(aD h.t.1 s);exact aX h.e hk kb (by decide))),h.tr,h.tb,h.rb⟩
theorem M6.set_b {W W':qw}{T:qi}{D R:qi}{X':Nat->List Int}(h:M6 W base v1 v3 v5 v6 v7 a2 bn f T X D R I E)(O:Rr W' base a2 bn f X')(t:Turn (fun j=>Sr f bn j) W W'):M6 W' base v1 v3 v5 v6 v7 a2 bn f T X' D R I E:=
 ⟨(aW t h.t (fun k hk s=>h.tb k hk s)),O,(aU t h.d (fun k hk s=>by obtain ⟨c,kb⟩:=(h.b.kind s);exact aX h.d.1 hk kb (by decide))),(aW t h.r (fun k hk s=>h.rb k hk s)),(h.i.kept t (fun k hk s=>by obtain ⟨c,kb⟩:=(h.b.kind s);exact aX h.i hk kb (by decide))),(h.e.kept t (fun k hk s=>by obtain ⟨c,kb⟩:=(h.b.kind s);exact aX h.e hk kb (by decide))),h.tr,h.tb,h.rb⟩
theorem M6.set_d {W W':qw}{T:qi}{D R:qi}{D':qi}(h:M6 W base v1 v3 v5 v6 v7 a2 bn f T X D R I E)(O:OB W' base v3 D')(t:Turn (fun j=>v3.ownBlock=some j) W W'):M6 W' base v1 v3 v5 v6 v7 a2 bn f T X D' R I E:=
 ⟨(aW t h.t (fun k hk s=>by obtain ⟨c,kb⟩:=(aD h.d.1 s);exact aX h.t.1 hk kb (by decide))),(h.b.kept t (fun i hi k hk s=>by obtain ⟨c,kb⟩:=(aD h.d.1 s);exact aX (h.b.rows i hi).1 hk kb (by decide)) (fun hn g cs ha hb s=>by obtain ⟨c,kb⟩:=(aD h.d.1 s);exact absurd (aI hb kb) (by decide))),O,(aW t h.r (fun k hk s=>by obtain ⟨c,kb⟩:=(aD h.d.1 s);exact aX h.r.1 hk kb (by decide))),(h.i.kept t (fun k hk s=>by obtain ⟨c,kb⟩:=(aD h.d.1 s);exact aX h.i hk kb (by decide))),(h.e.kept t (fun k hk s=>by obtain ⟨c,kb⟩:=(aD h.d.1 s);exact aX h.e hk kb (by decide))),h.tr,h.tb,h.rb⟩
theorem M6.set_r {W W':qw}{T:qi}{D R:qi}{R':qi}(h:M6 W base v1 v3 v5 v6 v7 a2 bn f T X D R I E)(O:OI W' base v5 R')(t:Turn (fun j=>v5.ownBlock=some j) W W'):M6 W' base v1 v3 v5 v6 v7 a2 bn f T X D R' I E:=
 ⟨(aW t h.t (fun k hk s=>h.tr k hk s)),(h.b.kept t (fun i hi k hk s=>h.rb k s ⟨i,hi,hk⟩) (fun hn g cs ha hb s=>by obtain ⟨c,kb⟩:=(aD h.r.1 s);exact absurd (aI hb kb) (by decide))),(aU t h.d (fun k hk s=>by obtain ⟨c,kb⟩:=(aD h.r.1 s);exact aX h.d.1 hk kb (by decide))),O,(h.i.kept t (fun k hk s=>by obtain ⟨c,kb⟩:=(aD h.r.1 s);exact aX h.i hk kb (by decide))),(h.e.kept t (fun k hk s=>by obtain ⟨c,kb⟩:=(aD h.r.1 s);exact aX h.e hk kb (by decide))),h.tr,h.tb,h.rb⟩
theorem M6.set_i {W W':qw}{T:qi}{D R:qi}{I':List ByteArray}(h:M6 W base v1 v3 v5 v6 v7 a2 bn f T X D R I E)(O:OG 9 1 clT W' base v6 I')(t:Turn (fun j=>v6.ownBlock=some j) W W'):M6 W' base v1 v3 v5 v6 v7 a2 bn f T X D R I' E:=
 ⟨(aW t h.t (fun k hk s=>by obtain ⟨c,kb⟩:=(aD h.i s);exact aX h.t.1 hk kb (by decide))),(h.b.kept t (fun i hi k hk s=>by obtain ⟨c,kb⟩:=(aD h.i s);exact aX (h.b.rows i hi).1 hk kb (by decide)) (fun hn g cs ha hb s=>by obtain ⟨c,kb⟩:=(aD h.i s);exact absurd (aI hb kb) (by decide))),(aU t h.d (fun k hk s=>by obtain ⟨c,kb⟩:=(aD h.i s);exact aX h.d.1 hk kb (by decide))),(aW t h.r (fun k hk s=>by obtain ⟨c,kb⟩:=(aD h.i s);exact aX h.r.1 hk kb (by decide))),O,(h.e.kept t (fun k hk s=>by obtain ⟨c,kb⟩:=(aD h.i s);exact aX h.e hk kb (by decide))),h.tr,h.tb,h.rb⟩
theorem M6.set_e {W W':qw}{T:qi}{D R:qi}{E':List Ex}(h:M6 W base v1 v3 v5 v6 v7 a2 bn f T X D R I E)(O:OG 163 3 clX W' base v7 E')(t:Turn (fun j=>v7.ownBlock=some j) W W'):M6 W' base v1 v3 v5 v6 v7 a2 bn f T X D R I E':=
 ⟨(aW t h.t (fun k hk s=>by obtain ⟨c,kb⟩:=(aD h.e s);exact aX h.t.1 hk kb (by decide))),(h.b.kept t (fun i hi k hk s=>by obtain ⟨c,kb⟩:=(aD h.e s);exact aX (h.b.rows i hi).1 hk kb (by decide)) (fun hn g cs ha hb s=>by obtain ⟨c,kb⟩:=(aD h.e s);exact absurd (aI hb kb) (by decide))),(aU t h.d (fun k hk s=>by obtain ⟨c,kb⟩:=(aD h.e s);exact aX h.d.1 hk kb (by decide))),(aW t h.r (fun k hk s=>by obtain ⟨c,kb⟩:=(aD h.e s);exact aX h.r.1 hk kb (by decide))),(h.i.kept t (fun k hk s=>by obtain ⟨c,kb⟩:=(aD h.e s);exact aX h.i hk kb (by decide))),O,h.tr,h.tb,h.rb⟩
theorem M6.bw {W W':qw}{T:qi}{D R:qi}(h:M6 W base v1 v3 v5 v6 v7 a2 bn f T X D R I E)(hb:qY W W'):M6 W' base v1 v3 v5 v6 v7 a2 bn f T X D R I E:=
 ⟨h.t.bw hb,h.b.kept (S:=fun _=>False) (aJ hb) (fun _ _ _ _ s=>s) (fun _ _ _ _ _ s=>s),h.d.bw hb,h.r.bw hb,h.i.bw hb,h.e.bw hb,h.tr,h.tb,h.rb⟩
theorem M6.lt {W:qw}{T:qi}{D R:qi}(h:M6 W base v1 v3 v5 v6 v7 a2 bn f T X D R I E):(∀ j,v1.ownBlock=some j->base<=j/\j<W.heap.size)/\(∀ j,Sr f bn j->base<=j/\j<W.heap.size)/\(∀ j,v3.ownBlock=some j->base<=j/\j<W.heap.size)/\(∀ j,v5.ownBlock=some j->base<=j/\j<W.heap.size)/\(∀ j,v6.ownBlock=some j->base<=j/\j<W.heap.size)/\(∀ j,v7.ownBlock=some j->base<=j/\j<W.heap.size):=
 ⟨h.t.lt,fun j hj=>by obtain ⟨i,hi,e⟩:=hj;exact (h.b.rows i hi).lt j e,h.d.lt,h.r.lt,h.i.lt,h.e.lt⟩
structure Md where
 nm:ByteArray
 ta:qO
 tn:Nat
 tc:Nat
 tz:List Int
 ba:qO
 bn:Nat
 bc:Nat
 bl:List Bk
 da:qO
 dn:Nat
 dc:Nat
 dz:List Int
 bss:Int
 ra:qO
 rn:Nat
 rc:Nat
 rz:List Int
 ia:qO
 im:Nat
 ic:Nat
 ss:List ByteArray
 ea:qO
 en:Nat
 ec:Nat
 es:List Ex
def aK:Md:=⟨⟨#[]⟩,none,0,0,[],none,0,0,[],none,0,0,[],0,none,0,0,[],none,0,0,[],none,0,0,[]⟩
def Md.mt (m:Md)(w:qw):Prop:=MT w m.nm m.ta m.tn m.tc m.tz m.ba m.bn m.bc m.bl m.da m.dn m.dc m.dz m.bss m.ra m.rn m.rc m.rz m.ia m.im m.ic m.ss m.ea m.en m.ec m.es
def Md.size (m:Md):Nat:=cR m.nm m.tn m.bn m.bl m.dn m.rn m.im m.ss m.en m.es
def Md.cells (m:Md):Array Value:=(qM m.nm m.ta m.tn m.tc m.ba m.bn m.bc m.da m.dn m.dc m.bss m.ra m.rn m.rc m.ia m.im m.ic m.ea m.en m.ec)
def At8 (w:qw)(b o:Nat)(m:Md):Prop:=
 w.cell? (qR b o)=some (.string m.nm)/\w.cell? (qR b (o+1))=some (qS m.ta m.tn m.tc)/\w.cell? (qR b (o+2))=some (qS m.ba m.bn m.bc)/\w.cell? (qR b (o+3))=some (qS m.da m.dn m.dc)/\w.cell? (qR b (o+4))=some (qI m.bss)/\w.cell? (qR b (o+5))=some (qS m.ra m.rn m.rc)/\w.cell? (qR b (o+6))=some (qS m.ia m.im m.ic)/\w.cell? (qR b (o+7))=some (qS m.ea m.en m.ec)
theorem At8.bw {w w':qw}{m:Md}(h:At8 w b o m)(hb:qY w w'):At8 w' b o m:=by
 have key:∀ o v,w.cell? (qR b o)=some v->w'.cell? (qR b o)=some v:=fun o v hv=>(hb.cell (xD w _ hv)).trans hv;obtain ⟨h0,h1,h2,h3,h4,h5,h6,h7⟩:=h;exact ⟨key _ _ h0,key _ _ h1,key _ _ h2,key _ _ h3,key _ _ h4,key _ _ h5,key _ _ h6,key _ _ h7⟩
theorem Md.bw {m:Md}{w w':qw}(h:m.mt w)(hb:qY w w'):m.mt w':=MT.bw h hb
def MS (w:qw)(a:qO)(n cap:Nat)(ms:List Md):Prop:=
 ms.length=n/\n<=maxLen/\(n≠0->∃ b off,a=some (qR b off)/\∀ i,i<n->At8 w b (off+i*8) (ms.getD i aK))/\(∀ i,i<n->(ms.getD i aK).mt w)/\n<=cap
theorem MS.bw {w w':qw}{ms:List Md}(h:MS w a n cap ms)(hb:qY w w'):MS w' a n cap ms:=by
 obtain ⟨h1,h2,h3,h4,h5⟩:=h;refine ⟨h1,h2,fun hn=>?_,fun i hi=>Md.bw (h4 i hi) hb,h5⟩;obtain ⟨b,off,e,hc⟩:=h3 hn;exact ⟨b,off,e,fun i hi=>(hc i hi).bw hb⟩
theorem MS.at {w:qw}{ms:List Md}(h:MS w a n cap ms)(i:Nat)(hi:i<n):∃ b off,a=some (qR b off)/\At8 w b (off+i*8) (ms.getD i aK):=by
 obtain ⟨b,off,e,hc⟩:=h.2.2.1 (by omega);exact ⟨b,off,e,hc i hi⟩
theorem uS (a:qO)(n cap:Nat)(ms:List Md)(l:Int)(w:qw)(h:MS w a n cap ms)(l0:0<=l)(l1:l<=1048576):
 qC 24 #[qS a n cap,qI l] w fun e w'=>e=.returned (qI (szR l (n+upS (fun j=>(ms.getD j aK).size) n)))/\qY w w':=by
 have hm:=h.2.1;unfold maxLen at hm;obtain ⟨r,hr⟩:=eqx (szR l (n+upS (fun j=>(ms.getD j aK).size) n));rw [<- hr];unfold szR at hr;have HR:=zh hr;clear hr;by_cases c1:l<(n:Int)
 .have e:=zh (show r=-1 from by rw [HR.o,if_pos (by omega)]);go_enter func24,ntmps24
  go_wp2;go_ret;exact ⟨aH e.o.symm,brf⟩
 .go_enter func24,ntmps24
  go_wp2_with fail
  go_loopw [1,5] (fun v i wr=>∃ (k:Nat) (z:Int),k<=n/\i=qI k/\v=qI z/\0<=z/\z<=1048576/\Hid (z=l-n-(upS (fun j=>(ms.getD j aK).size) k:Nat))/\qY w wr) (fun _ i _=>n-(intOf i).toNat)
  .exact ⟨0,l-n,xC _,rfl,rfl,by omega,by omega,zh (by simp [upS]),brf⟩
  .obtain ⟨k,z,hk,rfl,rfl,z0,z1,HZ,hB⟩:=hrel;by_cases hlt:k<n
   .have hlt':(k:Int)<(n:Int):=by omega
    obtain ⟨b,off,rfl,y0,y1,y2,y3,y4,y5,y6,y7⟩:=(h.bw hB).at k hlt;have HT:=zh ((h.bw hB).2.2.2.1 k hlt);have HU:Zh (upS (fun j=>(ms.getD j aK).size) (k+1)=upS (fun j=>(ms.getD j aK).size) k+(ms.getD k aK).size):=rfl;have HM:=zh (eU (fun j=>(ms.getD j aK).size) (k+1) n (by omega));generalize ms.getD k aK=m at *;obtain ⟨nm,ta,tn,tc,tz,ba,bn,bc,bl,da,dn,dc,dz,bss,ra,rn,rc,rz,ia,im,ic,ss,ea,en,ec,es⟩:=m;dsimp only at y0 y1 y2 y3 y4 y5 y6 y7;have HS:=zh (yV nm ta tn tc tz ba bn bc bl da dn dc dz bss ra rn rc rz ia im ic ss ea en ec es z wr HT.o z0 z1);have HE:Zh (Md.size ⟨nm,ta,tn,tc,tz,ba,bn,bc,bl,da,dn,dc,dz,bss,ra,rn,rc,rz,ia,im,ic,ss,ea,en,ec,es⟩=cR nm tn bn bl dn rn im ss en es):=rfl;rw [HE.o] at HU;generalize cR nm tn bn bl dn rn im ss en es=q at *;unfold szR at HS;by_cases c2:z<(q:Int)
    .rw [if_pos c2] at HS
     have e:=zh (show r=-1 from by
      have h1:=HZ.out;have h2:=HU.o;have h3:=HM.o
      rw [HR.o,if_pos (by omega)])
     go_wp2_with fail
     refine HS.o.mono ?_;rintro e w1 ⟨rfl,hb1⟩;go_wp2;go_ret;exact ⟨aH e.o.symm,hB.trans (hb1.mono hB.size)⟩
    .rw [if_neg c2] at HS;have hz2:¬ z-(q:Int)<0:=by omega
     go_wp2_with fail
     refine HS.o.mono ?_;rintro e w1 ⟨rfl,hb1⟩;clear y0 y1 y2 y3 y4 y5 y6 y7;go_wp2
     go_roundw
     .exact ⟨k+1,z-q,by omega,by go_num,rfl,by omega,by omega,zh (by have h1:=HZ.out;have h2:=HU.o;omega),hB.trans (hb1.mono hB.size)⟩
     .simp [intOf];omega
   .have e:=zh (show r=z from by
     have h1:=HZ.out;have hkn:k=n:=by omega
     rw [hkn] at h1;rw [HR.o,if_neg (by omega)]
     omega)
    go_wp2;go_ret;exact ⟨aH e.o.symm,hB⟩
def zF (w:qw)(g o:Nat)(m:Md):World:=((((((((w.setCell (qR g o) (.string m.nm)).setCell (qR g (o+1)) (qS m.ta m.tn m.tc)).setCell (qR g (o+2)) (qS m.ba m.bn m.bc)).setCell (qR g (o+3)) (qS m.da m.dn m.dc)).setCell (qR g (o+4)) (qI m.bss)).setCell (qR g (o+5)) (qS m.ra m.rn m.rc)).setCell (qR g (o+6)) (qS m.ia m.im m.ic)).setCell (qR g (o+7)) (qS m.ea m.en m.ec))
theorem cV (w:qw)(g o b o':Nat)(m:Md)(h:b≠g\/o'<o\/o+8<=o':=by omega):(zF w g o m).cell? (qR b o')=w.cell? (qR b o'):=by
 unfold zF;rw [aP,aP,aP,aP,aP,aP,aP,aP]
theorem aFr {w:qw}{q:Md}(h:At8 w g o q)(m:Md):At8 (zF w g o m) g o m:=by
 obtain ⟨h0,h1,h2,h3,h4,h5,h6,h7⟩:=h;unfold zF;refine ⟨?_,?_,?_,?_,?_,?_,?_,?_⟩
 .rw [aP,aP,aP,aP,aP,aP,aP];exact kN (u:=_) (by exact h0)
 .rw [aP,aP,aP,aP,aP,aP];exact kN (u:=_) (by rw [aP];exact h1)
 .rw [aP,aP,aP,aP,aP];exact kN (u:=_) (by rw [aP,aP];exact h2)
 .rw [aP,aP,aP,aP];exact kN (u:=_) (by rw [aP,aP,aP];exact h3)
 .rw [aP,aP,aP];exact kN (u:=_) (by rw [aP,aP,aP,aP];exact h4)
 .rw [aP,aP];exact kN (u:=_) (by rw [aP,aP,aP,aP,aP];exact h5)
 .rw [aP];exact kN (u:=_) (by rw [aP,aP,aP,aP,aP,aP];exact h6)
 .exact kN (u:=_) (by rw [aP,aP,aP,aP,aP,aP,aP];exact h7)
theorem aBv {w:qw}{o':Nat}{q:Md}(h:At8 w b o' q)(m:Md)(hf:b≠g\/o'+8<=o\/o+8<=o'):At8 (zF w g o m) b o' q:=by
 unfold At8;rw [cV _ _ _ _ _ _,cV _ _ _ _ _ _,cV _ _ _ _ _ _,cV _ _ _ _ _ _,cV _ _ _ _ _ _,cV _ _ _ _ _ _,cV _ _ _ _ _ _,cV _ _ _ _ _ _];exact h
theorem aIx {w:qw}{cur:Array Value}{t:TypeId}(h:Blk w g cur t)(o:Nat)(m:Md):∃ cur',Blk (zF w g o m) g cur' t/\cur'.size=cur.size:=
 ⟨_,((((((((h.set (o) _).set (o+1) _).set (o+2) _).set (o+3) _).set (o+4) _).set (o+5) _).set (o+6) _).set (o+7) _),by simp⟩
theorem aDo {B:Nat}{a w:qw}(h:Below B a w)(hg:B<=g)(o:Nat)(m:Md):Below B a (zF w g o m):=
 ((((((((h.setCell (p:=(qR g o)) hg _).setCell (p:=(qR g (o+1))) hg _).setCell (p:=(qR g (o+2))) hg _).setCell (p:=(qR g (o+3))) hg _).setCell (p:=(qR g (o+4))) hg _).setCell (p:=(qR g (o+5))) hg _).setCell (p:=(qR g (o+6))) hg _).setCell (p:=(qR g (o+7))) hg _)
theorem aG2 (c:Nat)(w:qw)(g o:Nat)(m:Md)(h:g<=c):Turn (fun j=>j<=c) w (zF w g o m):=
 ((((((((bP c w g o _ h).trans (bP c _ g (o+1) _ h)).trans (bP c _ g (o+2) _ h)).trans (bP c _ g (o+3) _ h)).trans (bP c _ g (o+4) _ h)).trans (bP c _ g (o+5) _ h)).trans (bP c _ g (o+6) _ h)).trans (bP c _ g (o+7) _ h))
def eK (c:Nat)(m m':Md)(W:qw):Prop:=∃ g1 g2 g3 g5 g6 g7 gs,m'=⟨m.nm,some (qR g1 0),m.tn,m.tn,m.tz,some (qR g2 0),m.bn,m.bn,reb gs m.bl,some (qR g3 0),m.dn,m.dn,m.dz,m.bss,some (qR g5 0),m.rn,m.rn,m.rz,some (qR g6 0),m.im,m.im,m.ss,some (qR g7 0),m.en,m.en,m.es⟩/\c<g1/\g1<g2/\g2<g3/\g3<g5/\g5<g6/\g6<g7/\gs.length=m.bn/\RowI W g1 m.tz/\RowB W g2 m.bn gs m.bl/\Row8 W g3 m.dz/\RowI W g5 m.rz/\RowT W g6 m.ss/\RowX W g7 m.es
theorem lG (c:Nat)(m m':Md):Stab c (eK c m m'):=fun W W' t h=>by
 obtain ⟨g1,g2,g3,g5,g6,g7,gs,e,l1,l2,l3,l4,l5,l6,hg,r1,r2,r3,r5,r6,r7⟩:=h
 have key:RowB W' g2 m.bn gs m.bl:=by
  obtain ⟨⟨cur,h2,h3⟩,h4,h5⟩:=r2;exact ⟨⟨cur,aF t h2 (by show ¬ g2<=c;omega),h3⟩,fun i hi=>⟨aF t (h4 i hi).1 (by show ¬ gs.getD i 0<=c;have:=(h4 i hi).2;omega),(h4 i hi).2⟩,h5⟩
 exact ⟨g1,g2,g3,g5,g6,g7,gs,e,l1,l2,l3,l4,l5,l6,hg,rH (by omega) W W' t r1,key,rI (by omega) W W' t r3,rH (by omega) W W' t r5,aIk (by omega) W W' t r6,aIj (by omega) W W' t r7⟩
theorem aE4 {m m':Md}{W W':qw}(h:eK c m m' W)(hb:qY W W'):eK c m m' W':=lG c m m' W W' (aJ hb) h
theorem aGh {m m':Md}{w W:qw}(hm:m.mt w)(h:eK c m m' W):m'.mt W:=by
 obtain ⟨g1,g2,g3,g5,g6,g7,gs,rfl,_,_,_,_,_,_,hg,r1,r2,r3,r5,r6,r7⟩:=h;exact aD1 hm hg r1 r2 r3 r5 r6 r7
def RowM (W:qw)(c n:Nat)(ms ms':List Md):Prop:=
 (∃ cur,Blk W c cur 138/\cur.size=n*8)/\(∀ i,i<n->∃ q,At8 W c (i*8) q)/\∀ i,i<ms'.length->At8 W c (i*8) (ms'.getD i aK)/\eK c (ms.getD i aK) (ms'.getD i aK) W
theorem RowM.bw {W W':qw}{ms ms':List Md}(h:RowM W c n ms ms')(hb:qY W W'):RowM W' c n ms ms':=by
 obtain ⟨⟨cur,hc,hs⟩,hq,hr⟩:=h;exact ⟨⟨cur,hc.bw hb,hs⟩,fun i hi=>by obtain ⟨q,h⟩:=hq i hi;exact ⟨q,h.bw hb⟩,fun i hi=>⟨(hr i hi).1.bw hb,aE4 (hr i hi).2 hb⟩⟩
theorem aMy (ms:List Md)(x:Md)(i:Nat)(h:i<ms.length):(ms++[x]).getD i aK=ms.getD i aK:=by
 simp [xB,List.getElem?_append_left h]
theorem aH2 (ms:List Md)(x:Md):(ms++[x]).getD ms.length aK=x:=by
 simp [xB]
theorem RowM.push {W:qw}{ms ms':List Md}(h:RowM W c n ms ms')(hk:ms'.length<n)(x:Md)(hx:eK c (ms.getD ms'.length aK) x W):RowM (zF W c (ms'.length*8) x) c n ms (ms'++[x]):=by
 obtain ⟨⟨cur,hc,hs⟩,hq,hr⟩:=h;obtain ⟨cur',hc',hs'⟩:=aIx hc (ms'.length*8) x;have T:=aG2 c W c (ms'.length*8) x aN;refine ⟨⟨cur',hc',by rw [hs',hs]⟩,fun i hi=>?_,fun i hi=>?_⟩
 .obtain ⟨q,h⟩:=hq i hi;by_cases e:i=ms'.length
  .subst e;exact ⟨x,aFr h x⟩
  .exact ⟨q,aBv h x (by omega)⟩
 .simp only [xI,List.length_cons,List.length_nil] at hi;by_cases e:i=ms'.length
  .subst e;rw [aH2];obtain ⟨q,h⟩:=hq _ hk;exact ⟨aFr h x,lG _ _ _ _ _ T hx⟩
  .rw [aMy _ _ _ (by omega)];exact ⟨aBv (hr i (by omega)).1 x (by omega),lG _ _ _ _ _ T (hr i (by omega)).2⟩
theorem aKh:(prog.info? 138).map (fun i=>(i.zero,i.size,i.bytes))=some (some (.agg #[.string ⟨#[]⟩,qS none 0 0,qS none 0 0,qS none 0 0,qI 0,qS none 0 0,qS none 0 0,qS none 0 0]),8,168):=by kernel_rfl
theorem zJ {w:qw}{ms:List Md}(h:w.ownsRow base 138 8 (qS (qP g) n n) n (madeCells (Value.cells (.agg #[.string ⟨#[]⟩,qS none 0 0,qS none 0 0,qS none 0 0,qI 0,qS none 0 0,qS none 0 0,qS none 0 0])) (n*8)).toList):RowM w g n ms []:=by
 obtain ⟨hl,h|⟨g',cap,cur,hv,hb,hh,h1,h2,h3,h4⟩⟩:=h
 .simp at h
 .simp at hv;obtain ⟨rfl,rfl⟩:=hv
  have e:cur.toList=(madeCells (Value.cells (.agg #[.string ⟨#[]⟩,qS none 0 0,qS none 0 0,qS none 0 0,qI 0,qS none 0 0,qS none 0 0,qS none 0 0])) (n*8)).toList:=by
   rw [<- h4,xG (by simp [h3])]
  have e2:cur=madeCells (Value.cells (.agg #[.string ⟨#[]⟩,qS none 0 0,qS none 0 0,qS none 0 0,qI 0,qS none 0 0,qS none 0 0,qS none 0 0])) (n*8):=Array.toList_inj.1 e;have hB:Blk w g cur 138:=hh;refine ⟨⟨cur,hB,by simp [h3]⟩,fun i hi=>⟨aK,?_⟩,fun i hi=>by simp at hi⟩
  have hcell:∀ j,j<8->w.cell? (qR g (i*8+j))=#[Value.string ⟨#[]⟩,qS none 0 0,qS none 0 0,qS none 0 0,qI 0,qS none 0 0,qS none 0 0,qS none 0 0][j]?:=by
   intro j hj;rw [hB.cell,e2];have hm:(i*8+j)%8=j:=by omega
   simp [madeCells,Value.cells,show i*8+j<n*8 by omega,hm]
   match j,hj with
   | 0,_=>rfl
   | 1,_=>rfl
   | 2,_=>rfl
   | 3,_=>rfl
   | 4,_=>rfl
   | 5,_=>rfl
   | 6,_=>rfl
   | 7,_=>rfl
  exact ⟨hcell 0 (by omega),hcell 1 (by omega),hcell 2 (by omega),hcell 3 (by omega),hcell 4 (by omega),hcell 5 (by omega),hcell 6 (by omega),hcell 7 (by omega)⟩
theorem uL (a:qO)(n cap:Nat)(ms:List Md)(w:qw)(h:MS w a n cap ms)(hn:n<=1048576)(hs:∀ i,i<n->(ms.getD i aK).size<=1048576):
 qC 32 #[qS a n cap] w fun e w'=>e=.returned (qS (qP w.heap.size) n n)/\(∃ ms',ms'.length=n/\RowM w' w.heap.size n ms ms')/\qY w w':=by
 obtain ⟨i0,hi,hz0,hz1,hz2⟩:=info_parts aKh;go_enter func32,ntmps32
 go_wp2_with (at_make;refine wpList_make_full _ rfl _ _ 36 rfl w.heap.size 138 i0 (.agg #[.string ⟨#[]⟩,qS none 0 0,qS none 0 0,qS none 0 0,qI 0,qS none 0 0,qS none 0 0,qS none 0 0]) 8 underlying36 hi hz0 hz1 .i64 .i64 _ _ n rfl rfl rfl rfl (by rw [hz2];omega) (by unfold maxLen;omega) aN ?_;intro w1 hown hgr)
 have hrow:RowM w1 w.heap.size n ms []:=zJ hown;have hbel:=aV hgr;clear hown hgr hi hz0 hz1 hz2;go_loopw [4] (fun i wr=>∃ k:Nat,k<=n/\i=qI k/\(∃ ms',ms'.length=k/\RowM wr w.heap.size n ms ms')/\qY w wr) (qf n)
 .exact ⟨0,xC _,rfl,⟨[],rfl,hrow⟩,hbel⟩
 .obtain ⟨k,hk,rfl,⟨ms',hl,hR⟩,hB⟩:=hrel;clear hrow hbel;by_cases hlt:k<n
  .have hlt':(k:Int)<(n:Int):=by omega
   obtain ⟨b,off,rfl,y0,y1,y2,y3,y4,y5,y6,y7⟩:=(h.bw hB).at k hlt;have HT:=zh ((h.bw hB).2.2.2.1 k hlt);have hsk:=hs k hlt
   have HP:=zh (fun (W:qw) (x:Md) (hW:qY wr W) (hx:eK w.heap.size (ms.getD k aK) x W)=>by
    have hp:=(hR.bw hW).push (by omega) x (by rw [hl];exact hx);rw [hl] at hp
    exact hp)
   have HF:=zh (fun (W:qw) (hW:qY wr W)=>show (∃ q,At8 W w.heap.size (k*8) q)/\∀ i,W.frozen? (qR w.heap.size i)=false from ⟨(hR.bw hW).2.1 k hlt,by obtain ⟨⟨cur,hc,_⟩,_⟩:=hR.bw hW;exact hc.frozen⟩);have hcl:w.heap.size<wr.heap.size:=by obtain ⟨⟨cur,hc,_⟩,_⟩:=hR;exact hc.lt
   clear hR;generalize ms.getD k aK=m at *;obtain ⟨nm,ta,tn,tc,tz,ba,bn,bc,bl,da,dn,dc,dz,bss,ra,rn,rc,rz,ia,im,ic,ss,ea,en,ec,es⟩:=m;dsimp only at y0 y1 y2 y3 y4 y5 y6 y7;have HS:=zh (yQ nm ta tn tc tz ba bn bc bl da dn dc dz bss ra rn rc rz ia im ic ss ea en ec es wr HT.o hsk);clear hsk;go_wp2_with fail
   refine HS.o.mono ?_;rintro e w2 ⟨g1,g2,g3,g5,g6,g7,rfl,l1,l2,l3,l4,l5,l6,r1,⟨gs,hg,r2⟩,r3,r5,r6,r7,hb2⟩;have HX:=zh (HP.o w2 ⟨nm,some (qR g1 0),tn,tn,tz,some (qR g2 0),bn,bn,reb gs bl,some (qR g3 0),dn,dn,dz,bss,some (qR g5 0),rn,rn,rz,some (qR g6 0),im,im,ss,some (qR g7 0),en,en,es⟩ hb2 ⟨g1,g2,g3,g5,g6,g7,gs,rfl,by omega,l2,l3,l4,l5,l6,hg,r1,r2,r3,r5,r6,r7⟩);obtain ⟨⟨q,p0,p1,p2,p3,p4,p5,p6,p7⟩,hfz⟩:=HF.o w2 hb2;have HB2:=zh (aDo (hB.trans (hb2.mono hB.size)) (Nat.le_refl w.heap.size) (k*8) ⟨nm,some (qR g1 0),tn,tn,tz,some (qR g2 0),bn,bn,reb gs bl,some (qR g3 0),dn,dn,dz,bss,some (qR g5 0),rn,rn,rz,some (qR g6 0),im,im,ss,some (qR g7 0),en,en,es⟩);clear HP HF HS HT y0 y1 y2 y3 y4 y5 y6 y7 r1 r2 r3 r5 r6 r7 hb2 hB;go_wp2
   go_roundw
   .exact ⟨k+1,by omega,by go_num,⟨_,by rw [xI,hl];rfl,HX.o⟩,HB2.o⟩
   .simp [qf,intOf];omega
  .have e:Zh (k=n):=by show k=n;omega
   go_wp2;go_ret;exact ⟨rfl,⟨ms',by rw [hl,e.o],hR⟩,hB⟩
