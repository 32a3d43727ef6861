import Derived.Test.YtcimaholejajpaaGreatF07
import Derived.Test.YtcimaholejajpaaGreatF08
set_option linter.all false
set_option maxHeartbeats 8000000
namespace Go.Proofs.YtcimaholejajpaaGreat
open Go.RowKit
set_option maxRecDepth 100000
variable {base:Nat}
theorem nJ (a:qO)(n cap:Nat)(ms:List Md)(s c k d:Int)(w:qw)(h:MSD w a n cap ms):
 qC 24 #[qS a n cap,.agg (qW s c k d)] w (LkM w (aF ms) s c k d):=by
 have K0:=aKh w s c k d;have hl:=h.s.1;have hpl:(aF ms).length=n:=by rw [bQ,hl]
 have HH:=zh h;have HSND:=zh (fun (W:qw) (hb:qY w W)=>tZ a n cap ms s c k d W (h.bw hb));obtain ⟨V,hV⟩:=eqx (dB (aF ms) s c k d);rw [<- hV] at HSND;have HV:=zh hV;have HK:=zh K0;clear h K0 hV;go_enter Tryz.func24,Tryz.ntmps24
 go_wp2_with fail
 refine (HSND.o _ HK.o.be).mono ?_;rintro e w1 ⟨rfl,hb1⟩;have S1:=HK.o.bw hb1;clear hb1 HK;by_cases hV0:V=0
 .have hs4:=HV.o;rw [hV0] at hs4;obtain ⟨hcf,h4,hvl⟩:=pV hs4.symm;obtain ⟨hs0,hs1,hc0,hc1,_⟩:=of_decide_eq_true hcf;have HS4:=zh hs4.symm;have HVL:=zh hvl;have HCF:=zh hcf;rw [hpl] at h4;subst hV0;have HTA:=zh (tO a n cap ms w1 (HH.o.bw S1.be) hvl h4);have HS1:=zh S1;clear hs4 hvl hcf S1;go_wp2_with fail
  refine HTA.o.mono ?_;rintro e w2 ⟨hb2,H2⟩;have S2:=HS1.o.bw hb2;have hs1w:=HS1.o.be.size;rcases H2 with ⟨hno,v,rfl⟩|⟨hyes,f,rfl,TF,hfe⟩
  .have HP:=zh (aLg (d:=d) (k:=k) (w:=c) (s:=s) HS4.o hno);have HS:=zh S2;obtain ⟨p0,p1,p2,p3,p4,p5⟩:=S2.k1.z6;have y0:=S2.k1.frozen;clear S2 hno hb2 HTA HS1;go_wp2;exact jH HS.o HP.o (by decide) _ rfl rfl
  .have HI:=zh hyes;have HFE:=zh hfe;obtain ⟨gt,hgt0⟩:=eqx (w1.heap.size);rw [<- hgt0] at TF hs1w ⊢;have HTF0:=zh TF;have HS2:=zh S2;obtain ⟨c0,c1,c2,c3⟩:=S2.k0.z4;clear hyes hfe TF S2 hb2 HTA HS1 hgt0;by_cases hsz:s=0
   focus
    subst hsz;have HN6:Zh (¬ ((0:Int)<0/\¬ lB (aF ms) c)):=fun e=>absurd e.1 (by omega);go_wp2_with fail
    go_quiet (fail)
    have HS:Zh (Kin w (w2.drewN nq) 0 c k d):=zh ⟨iC HS2.o.be nq,HS2.o.k0,HS2.o.k1⟩;have HTF:Zh (Tf (w2.drewN nq) gt gt n f):=zh ⟨HTF0.o.head,HTF0.o.rows,HTF0.o.apart⟩;clear HS2 HTF0 c0 c1 c2 c3;generalize w2.drewN nq=w3 at *;have HLA:=zh (rZ a n cap ms 0 c k d w3 (HH.o.bw HS.o.be) h4 HCF.o HVL.o);obtain ⟨c0,c1,c2,c3⟩:=HS.o.k0.z4;go_wp2_with fail
    refine HLA.o.mono ?_;rintro e w4 ⟨hb4,a0,d0,xs,a2,d2,rfl,LO⟩;have S4:=HS.o.bw hb4;have TF4:=HTF.o.bw hb4;obtain ⟨L,hL⟩:=eqx (lay (aF ms) 0 c k)
   rotate_left
   focus
    have hsn:(s !=0)=true:=by simp [hsz]
    have HGB:=zh (fun (W:qw) (hb:qY w W)=>nK a n cap ms W (HH.o.bw hb) HVL.o h4);go_wp2_with fail
    go_region_law (first
     | (go_simp;go_at_call 54;refine (HGB.o _ (by first|exact HS2.o.be|exact HS2.o.drew.be)).mono ?_;rintro e wa ⟨R,rfl,hG,hba⟩;have HSA:=zh (show Kin w wa s c k d from (by first|exact HS2.o.bw hba|exact HS2.o.drew.bw hba));have HTB:=zh (show Tf wa gt gt n f from (by first|exact HTF0.o.bw hba|exact Tf.bw (w:=w2.drew) ⟨HTF0.o.head,HTF0.o.rows,HTF0.o.apart⟩ hba));have e1:wa.cell? (qR w.heap.size 1)=some (qI c):=HSA.o.k0.cell 1;have HG:=zh hG;clear hba hG))
    all_goals
     have HS:=HSA;have HTF:=HTB;clear HS2 HTF0 c0 c1 c2 c3 HSA HTB e1 HGB;generalize wa=w3 at *;by_cases h6:c<(R:Int)
     .have HP:=zh (aLf (d:=d) (k:=k) HS4.o HI.o ⟨by omega,(aD0 HG.o c hc0).1 h6⟩);have S3:=HS.o;obtain ⟨p0,p1,p2,p3,p4,p5⟩:=S3.k1.z6;have y0:=S3.k1.frozen;clear S3;go_wp2;exact jH HS.o HP.o (by decide) _ rfl rfl
     have HN6:Zh (¬ (0<s/\¬ lB (aF ms) c)):=fun e=>h6 ((aD0 HG.o c hc0).2 e.2);have h6':¬ c<(R:Int):=h6;have HLA:=zh (rZ a n cap ms s c k d w3 (HH.o.bw HS.o.be) h4 HCF.o HVL.o);obtain ⟨c0,c1,c2,c3⟩:=HS.o.k0.z4;go_wp2_with fail
     refine HLA.o.mono ?_;rintro e w4 ⟨hb4,a0,d0,xs,a2,d2,rfl,LO⟩;have S4:=HS.o.bw hb4;have TF4:=HTF.o.bw hb4;obtain ⟨L,hL⟩:=eqx (lay (aF ms) s c k)
   all_goals
    rw [<- hL] at LO ⊢;have HLL:=zh hL;have al:qY w4 (w4.alloc (.cells (qL L a0 xs.length d0 a2 L.slots.length d2 none 0 0) 64)):=bal;have kL:=Blk.new w4 (qL L a0 xs.length d0 a2 L.slots.length d2 none 0 0) 64;have S5:=S4.bw al;have TF5:=TF4.bw al;have hs34:=hb4.size;have hs3:=HS.o.k1.lt;have hgt:=HTF.o.lt.1;have LO5:LayO (w4.alloc (.cells (qL L a0 xs.length d0 a2 L.slots.length d2 none 0 0) 64)) w3.heap.size ⟨L.places,L.stack,L.slots,L.flash,L.ram,[]⟩ a0 d0 xs a2 d2 none 0 []:=⟨LO.p.bw al,LO.ps,LO.s.bw al,LO.t.bw al,LO.tt,LO.sp⟩;have alM:qY w4 (w4.alloc (.cells (qL L a0 xs.length d0 a2 L.slots.length d2 (qP gt) n n) 64)):=bal;have kM:=Blk.new w4 (qL L a0 xs.length d0 a2 L.slots.length d2 (qP gt) n n) 64;have S6:=S4.bw alM;have TF6:=TF4.bw alM;have LO6:LayO (w4.alloc (.cells (qL L a0 xs.length d0 a2 L.slots.length d2 (qP gt) n n) 64)) w3.heap.size ⟨L.places,L.stack,L.slots,L.flash,L.ram,[]⟩ a0 d0 xs a2 d2 none 0 []:=⟨LO.p.bw alM,LO.ps,LO.s.bw alM,LO.t.bw alM,LO.tt,LO.sp⟩;obtain ⟨l0,l1,l2,l3,l4,l5⟩:=kL.z6;have n5:=kL.frozen 5;have HKL:=zh kM;obtain ⟨m0,m1,m2,m3,m4,m5⟩:=kM.z6;have HS5:=zh (xA S5 (xA LO6 (xA TF6 S6)));clear hb4 S4 TF4 LO al kL hL HS HTF HLA c0 c1 c2 c3 alM kM TF5 LO5;unfold mC;by_cases h7:16384<L.flash
    .have HP:=zh (aLe (d:=d) HS4.o HI.o HN6.o (by rw [<- HLL.o];exact h7));obtain ⟨p0,p1,p2,p3,p4,p5⟩:=S5.k1.z6;have y0:=S5.k1.frozen;clear S5 S6 LO6 TF6;go_wp2;exact jH HS5.o.1 HP.o (by decide) _ rfl rfl
    .have h7':¬ 16384<L.flash:=h7;by_cases h8:16384<L.ram
     .have HP:=zh (aLd (d:=d) HS4.o HI.o HN6.o (by rw [<- HLL.o];exact h7) (by rw [<- HLL.o];exact h8));obtain ⟨p0,p1,p2,p3,p4,p5⟩:=S5.k1.z6;have y0:=S5.k1.frozen;clear S5 S6 LO6 TF6;go_wp2;exact jH HS5.o.1 HP.o (by decide) _ rfl rfl
     .have HP:=zh (aLi (d:=d) HS4.o HI.o HN6.o (by rw [<- HLL.o];exact h7) (by rw [<- HLL.o];exact h8));obtain ⟨p0,p1,p2,p3,p4,p5⟩:=S6.k1.z6;have y0:=S6.k1.frozen;clear S5 S6 LO6 TF6;go_wp2;refine uX HS5.o.2.2.2.k1 _ _ _ _ _ _ 0 _ _ rfl rfl ?_;obtain ⟨S5,LO5,TF5,S6⟩:=HS5.o;have t:=dI (w4.alloc (.cells (qL L a0 xs.length d0 a2 L.slots.length d2 (qP gt) n n) 64)) (w.heap.size+1) (qS a0 xs.length d0) (qI L.stack) (qS a2 L.slots.length d2) (qI L.flash) (qI L.ram) (qS (qP gt) n n);have OT:=TF5.otg (c:=n) aL (by unfold maxLen;omega) rfl
      have key:∀ (base sz nn:Nat) (ty:TypeId) (v:Value) (ys:List Value),(w4.alloc (.cells (qL L a0 xs.length d0 a2 L.slots.length d2 (qP gt) n n) 64)).ownsRow base ty sz v nn ys->ty≠64->∀ j,v.ownBlock=some j->¬ (fun j=>j=w.heap.size+1) j:=fun base sz nn ty v ys ho hne j hj e=>by
       have e':j=w.heap.size+1:=e;subst e';exact aP ho hj S6.k1 hne
      refine ⟨aI S6.be (dI _ _ _ _ _ _ _ _) (fun j hj=>by have e:j=w.heap.size+1:=hj;omega) S6.be.size,a0,d0,xs,a2,d2,some (qR gt 0),n,(List.range n).map f,?_,?_⟩
      .unfold lkL mC;rw [if_pos HP.o,HP.o,<- HLL.o];simp
      .unfold lkL;rw [if_pos HP.o,<- HLL.o];exact ⟨(LO5.p.kept t (key _ _ _ _ _ _ LO5.p.head (by decide)) (fun x hx=>key _ _ _ _ _ _ (LO5.p.rows x hx) (by decide))).mono (by omega) (by omega),LO5.ps,(LO5.s.kept t (key _ _ _ _ _ _ LO5.s (by decide))).mono (by omega),(OT.kept t (key _ _ _ _ _ _ OT.head (by decide)) (fun x hx=>key _ _ _ _ _ _ (OT.rows x hx) (by decide))).mono (by omega) (by omega),by rw [HLL.o];unfold lay;rw [hpl,List.map_map];exact List.map_congr_left (fun i hi=>HFE.o i (by simpa using hi)),LO5.sp⟩
 .have hV0':(V !=0)=true:=by simp [hV0]
  have HP:=zh (aLh (ps:=aF ms) HV.o.symm hV0);have HS:=zh S1;obtain ⟨p0,p1,p2,p3,p4,p5⟩:=S1.k1.z6;have y0:=S1.k1.frozen;clear S1;go_wp2;exact jH HS.o HP.o hV0 _ rfl rfl
structure Hd where
 a1:qO
 tn:Nat
 c1:Nat
 a2:qO
 bn:Nat
 c2:Nat
 f:Nat->qO×Nat×Nat
 a3:qO
 dn:Nat
 c3:Nat
 a5:qO
 rn:Nat
 c5:Nat
 a6:qO
 im:Nat
 c6:Nat
 a7:qO
 en:Nat
 c7:Nat
structure Ct where
 nm:ByteArray
 T:List Int
 X:Nat->List Int
 D:List Int
 s:Int
 R:List Int
 I:List ByteArray
 E:List Ex
def clH (x:Hd×Ct):List Value:=[.string x.2.nm,qS x.1.a1 x.1.tn x.1.c1,qS x.1.a2 x.1.bn x.1.c2,qS x.1.a3 x.1.dn x.1.c3,qI x.2.s,qS x.1.a5 x.1.rn x.1.c5,qS x.1.a6 x.1.im x.1.c6,qS x.1.a7 x.1.en x.1.c7]
abbrev M6h (W:qw)(base:Nat)(x:Hd×Ct):Prop:=M6 W base (qS x.1.a1 x.1.tn x.1.c1) (qS x.1.a3 x.1.dn x.1.c3) (qS x.1.a5 x.1.rn x.1.c5) (qS x.1.a6 x.1.im x.1.c6) (qS x.1.a7 x.1.en x.1.c7) x.1.a2 x.1.bn x.1.f x.2.T x.2.X x.2.D x.2.R x.2.I x.2.E
def Sh (h:Hd)(j:Nat):Prop:=(qS h.a1 h.tn h.c1).ownBlock=some j\/Sr h.f h.bn j\/(qS h.a3 h.dn h.c3).ownBlock=some j\/(qS h.a5 h.rn h.c5).ownBlock=some j\/(qS h.a6 h.im h.c6).ownBlock=some j\/(qS h.a7 h.en h.c7).ownBlock=some j
theorem M6h.sh {W:qw}{x:Hd×Ct}(h:M6h W base x){j:Nat}(hj:Sh x.1 j):(base<=j/\j<W.heap.size)/\∃ cs t,Blk W j cs t/\(t=3\/t=5\/t=9\/t=91):=by
 rcases hj with e|e|e|e|e|e
 .obtain ⟨cs,k⟩:=aM h.t.1 e;exact ⟨h.t.lt j e,cs,_,k,.inl rfl⟩
 .obtain ⟨cs,k⟩:=h.b.kind e;exact ⟨h.lt.2.1 j e,cs,_,k,.inl rfl⟩
 .obtain ⟨cs,k⟩:=aM h.d.1 e;exact ⟨h.d.lt j e,cs,_,k,.inr (.inl rfl)⟩
 .obtain ⟨cs,k⟩:=aM h.r.1 e;exact ⟨h.r.lt j e,cs,_,k,.inl rfl⟩
 .obtain ⟨cs,k⟩:=aM h.i e;exact ⟨h.i.lt j e,cs,_,k,.inr (.inr (.inl rfl))⟩
 .obtain ⟨cs,k⟩:=aM h.e e;exact ⟨h.e.lt j e,cs,_,k,.inr (.inr (.inr rfl))⟩
structure OMs (W:qw)(base:Nat)(v:Value)(L:List (Hd×Ct))(β:Nat->Nat):Prop where
 o:OG 53 8 clH W base v L
 m:∀ (i:Nat) (x:Hd×Ct),L[i]?=some x->M6h W (β i) x/\∀ j,Sh x.1 j->j<β (i+1)
 mono:∀ i k,i<=k->k<=L.length->β i<=β k
theorem yH {α:Type}{L:List α}{i:Nat}{x:α}(h:L[i]?=some x):i<L.length:=by
 rcases Nat.lt_or_ge i L.length with h'|h'
 .exact h'
 .rw [xO h'] at h;simp at h
theorem yR {α:Type}{f:α->List Value}(hf:∀ x,(f x).length=8):∀ (L:List α) (i:Nat) (x:α),L[i]?=some x->∀ j,j<8->(L.flatMap f)[i*8+j]?=(f x)[j]?
 | [],i,x,h,j,hj=>by simp at h
 | y::L,0,x,h,j,hj=>by
   simp at h;subst h;rw [xT,Nat.zero_mul,Nat.zero_add,List.getElem?_append_left (by rw [hf];exact hj)]
 | y::L,i+1,x,h,j,hj=>by
   rw [xT,List.getElem?_append_right (by rw [hf];omega),hf,show (i+1)*8+j-8=i*8+j by omega];exact yR hf L i x (by simpa using h) j hj
theorem OMs.at {W:qw}{base g n cap:Nat}{L:List (Hd×Ct)}{β:Nat->Nat}{i:Nat}{x:Hd×Ct}(H:OMs W base (qS (qP g) n cap) L β)(hx:L[i]?=some x):(W.cell? (qR g (i*8))=some (.string x.2.nm)/\W.cell? (qR g (i*8+1))=some (qS x.1.a1 x.1.tn x.1.c1)/\W.cell? (qR g (i*8+2))=some (qS x.1.a2 x.1.bn x.1.c2)/\W.cell? (qR g (i*8+3))=some (qS x.1.a3 x.1.dn x.1.c3)/\W.cell? (qR g (i*8+4))=some (qI x.2.s)/\W.cell? (qR g (i*8+5))=some (qS x.1.a5 x.1.rn x.1.c5)/\W.cell? (qR g (i*8+6))=some (qS x.1.a6 x.1.im x.1.c6)/\W.cell? (qR g (i*8+7))=some (qS x.1.a7 x.1.en x.1.c7))/\∀ j,W.frozen? (qR g j)=false:=by
 have k:∀ j,j<8->∀ u,(clH x)[j]?=some u->W.cell? (qR g (i*8+j))=some u:=fun j hj u hu=>by
  have q:=World.ownsRow.cells H.o (g:=g) rfl _ _ ((yR (fun _=>rfl) L i x hx j hj).trans hu)
  rwa [bZ,Nat.zero_add] at q
 obtain ⟨cs,kb⟩:=aM H.o (k:=g) rfl;exact ⟨⟨k 0 (by omega) _ rfl,k 1 (by omega) _ rfl,k 2 (by omega) _ rfl,k 3 (by omega) _ rfl,k 4 (by omega) _ rfl,k 5 (by omega) _ rfl,k 6 (by omega) _ rfl,k 7 (by omega) _ rfl⟩,fun j=>kb.frozen j⟩
theorem sP {α:Type}(f:α->List Value)(sz:Nat)(hf:∀ x,(f x).length=sz):∀ xs:List α,(xs.flatMap f).length=xs.length*sz
 | []=>by simp
 | x::xs=>by simp only [xT,xI,List.length_cons,sP f sz hf xs,hf x];rw [Nat.add_mul];omega
theorem sQ {α:Type}(f:α->List Value)(sz:Nat)(hf:∀ x,(f x).length=sz)(z:α):∀ (xs:List α) (i j:Nat),i<xs.length->j<sz->(xs.flatMap f)[i*sz+j]?=(f (xs.getD i z))[j]?
 | [],i,j,h,_=>by simp at h
 | x::xs,0,j,h,hj=>by simp [List.getElem?_append_left (show j<(f x).length by rw [hf];exact hj)]
 | x::xs,i+1,j,h,hj=>by
   have ih:=sQ f sz hf z xs i j (by simpa using h) hj;have e:(i+1)*sz+j=(f x).length+(i*sz+j):=by rw [hf,Nat.add_mul];omega
   rw [xT,e,List.getElem?_append_right (by omega),Nat.add_sub_cancel_left,ih];simp
theorem aEl {α:Type}(f:α->List Value)(sz:Nat)(hf:∀ x,(f x).length=sz)(z:α){cs:Array Value}{xs:List α}(h:cs.size=xs.length*sz)(hs:0<sz)(hc:∀ i,i<xs.length->∀ j,j<sz->cs[i*sz+j]?=(f (xs.getD i z))[j]?):cs.toList.take (xs.length*sz)=xs.flatMap f:=by
 apply List.ext_getElem?;intro k;by_cases hk:k<xs.length*sz
 .have e:k=k/sz*sz+k%sz:=by rw [Nat.mul_comm];exact (Nat.div_add_mod k sz).symm
  have h1:k/sz<xs.length:=by rw [Nat.div_lt_iff_lt_mul hs];exact hk
  have h2:k%sz<sz:=Nat.mod_lt _ hs;rw [List.getElem?_take,if_pos hk,Array.getElem?_toList];rw [e,hc _ h1 _ h2,sQ f sz hf z xs _ _ h1 h2]
 .rw [xO (by simp;omega),xO (by rw [sP f sz hf];omega)]
def RowF {α:Type}(t:TypeId)(sz:Nat)(f:α->List Value)(w:qw)(g n:Nat)(F:Nat->α):Prop:=
 ∃ cs,Blk w g cs t/\cs.size=n*sz/\∀ i,i<n->∀ j,j<sz->cs[i*sz+j]?=(f (F i))[j]?
section
variable {α:Type}{t:TypeId}{sz:Nat}{f:α->List Value}{w w':qw}{g n:Nat}{F:Nat->α}
theorem RowF.og (h:RowF t sz f w g n F)(hf:∀ x,(f x).length=sz)(hs:0<sz)(hg:base<=g)(hn:n<=maxLen){xs:List α}(hl:xs.length=n)(z:α)(he:∀ i,i<n->F i=xs.getD i z):OG t sz f w base (qS (qP g) n n) xs:=by
 obtain ⟨cs,h1,h2,h3⟩:=h;subst hl;refine ⟨sP f sz hf xs,.inr ⟨g,xs.length,cs,rfl,hg,h1,aL,hn,h2,aEl f sz hf z h2 hs (fun i hi j hj=>?_)⟩⟩;rw [h3 i hi j hj,he i hi]
theorem uQ (z0:α)(v:Value)(hv:v.cells.toList=f z0)(hs:sz=v.cells.size)(h:w.ownsRow base t sz (qS (qP g) n n) n (madeCells v.cells (n*sz)).toList):RowF t sz f w g n (fun _=>z0):=by
 obtain ⟨hl,h|⟨g',cap,cur,hv',hb,hh,h1,h2,h3,h4⟩⟩:=h
 .simp at h
 .simp at hv';obtain ⟨rfl,rfl⟩:=hv'
  have e:cur.toList=(madeCells v.cells (n*sz)).toList:=by
   rw [<- h4,xG (by simp [h3])]
  have e2:cur=madeCells v.cells (n*sz):=Array.toList_inj.1 e;refine ⟨cur,hh,h3,fun i hi j hj=>?_⟩
  have hlt:i*sz+j<n*sz:=by
   have:(i+1)*sz<=n*sz:=Nat.mul_le_mul_right _ (by omega);rw [Nat.add_mul] at this;omega
  have hm:(i*sz+j)%v.cells.size=j:=by rw [<- hs,Nat.mul_comm,Nat.mul_add_mod];exact Nat.mod_eq_of_lt hj
  rw [e2,<- hv];simp [madeCells,hlt,hm,show j<v.cells.size by omega]
end
section
variable {α β:Type}{th:TypeId}{hs:Nat}{hc:α->List Value}{tr:TypeId}{rs:Nat}{rc:β->List Value}{sv:α->Value}{ct:α->List β}{w w':qw}{base g n:Nat}{f:Nat->α}
end
abbrev SlT:=Bool×Int×Int×Int
abbrev FrT:=Int×Int×Int×Int
def zSl:SlT:=(false,0,0,0)
def zFr:FrT:=(0,0,0,0)
def aCx (x:SlT):List Value:=[.bool x.1,qI x.2.1,qI x.2.2.1,qI x.2.2.2]
def aMy (x:FrT):List Value:=[qI x.1,qI x.2.1,qI x.2.2.1,qI x.2.2.2]
def QS {α:Type}(f:α->List Value)(z:α)(w:qw)(a:qO)(n cap:Nat)(xs:List α):Prop:=
 xs.length=n/\n<=maxLen/\(n≠0->∃ b off,a=some (qR b off)/\∀ i,i<n->∀ j v,(f (xs.getD i z))[j]?=some v->w.cell? (qR b (off+i*4+j))=some v)/\n<=cap
section
variable {α:Type}{f:α->List Value}{z:α}{w w':qw}{a:qO}{n cap:Nat}{xs:List α}
theorem QS.bw (h:QS f z w a n cap xs)(hb:qY w w'):QS f z w' a n cap xs:=by
 obtain ⟨h1,h2,h3,h4⟩:=h;refine ⟨h1,h2,fun hn=>?_,h4⟩;obtain ⟨b,off,e,hc⟩:=h3 hn;exact ⟨b,off,e,fun i hi j v hv=>aE hb (hc i hi j v hv)⟩
theorem QS.at (h:QS f z w a n cap xs)(i:Nat)(hi:i<n)(v0 v1 v2 v3:Value)(hf:f (xs.getD i z)=[v0,v1,v2,v3]):∃ b off,a=some (qR b off)/\w.cell? (qR b (off+i*4))=some v0/\w.cell? (qR b (off+i*4+1))=some v1/\w.cell? (qR b (off+i*4+2))=some v2/\w.cell? (qR b (off+i*4+3))=some v3:=by
 obtain ⟨b,off,e,hc⟩:=h.2.2.1 (by omega);have k:=hc i hi;rw [hf] at k;exact ⟨b,off,e,k 0 _ rfl,k 1 _ rfl,k 2 _ rfl,k 3 _ rfl⟩
theorem aK8 {t:TypeId}(hf:∀ x,(f x).length=4)(h:OG t 4 f w base (qS a n cap) xs):QS f z w a n cap xs:=by
 obtain ⟨h1,h2,h3,h4⟩:=bG h;refine ⟨h1,h2,fun hn=>?_,h3⟩;obtain ⟨g,rfl,hc⟩:=h4 hn;refine ⟨g,0,rfl,fun i hi j v hv=>?_⟩
 have hj:j<4:=by
  rcases Nat.lt_or_ge j 4 with h|h
  .exact h
  .rw [xO (by rw [hf];exact h)] at hv;cases hv
 rw [Nat.zero_add];exact hc _ _ (by rw [sQ f 4 hf z xs i j (by omega) hj];exact hv)
end
theorem aMt:(Tryz.prog.info? 77).map (fun i=>(i.zero,i.size,i.bytes))=some (some (.agg #[.bool false,qI 0,qI 0,qI 0]),4,32):=by kernel_rfl
structure Mn where
 ma:qO
 mn:Nat
 mc:Nat
 ms:List Md
 cs:Int
 cw:Int
 ck:Int
 cd:Int
 pc:Int
 ka:qO
 kn:Nat
 kc:Nat
 kz:List Int
 fa:qO
 fn:Nat
 fc:Nat
 fz:List Int
 ra:qO
 rn:Nat
 rc:Nat
 rz:List Int
 oa:qO
 on:Nat
 oc:Nat
 oz:List Int
 md:Int
 bk:Int
 la:qO
 ln:Nat
 lc:Nat
 lz:List SlT
 ha:qO
 hn:Nat
 hc:Nat
 hz:List FrT
 tn:Int
abbrev qA (M:Mn):Array Value:=#[.slice M.ma M.mn M.mc,.int .i64 M.cs,.int .i64 M.cw,.int .i64 M.ck,.int .i64 M.cd,.int .i64 M.pc,.slice M.ka M.kn M.kc,.slice M.fa M.fn M.fc,.slice M.ra M.rn M.rc,.slice M.oa M.on M.oc,.int .i64 M.md,.int .i64 M.bk,.slice M.la M.ln M.lc,.slice M.ha M.hn M.hc,.int .i64 M.tn]
abbrev qX (M:Mn)(a:Option Addr)(b c:Nat)(d:Option Addr)(e f:Nat)(g:Option Addr)(h i:Nat)(j:Option Addr)(k l:Nat)(m:Option Addr)(n o:Nat)(p:Option Addr)(q r:Nat)(s:Option Addr)(t u:Nat):Array Value:=#[.slice a b c,.int .i64 M.cs,.int .i64 M.cw,.int .i64 M.ck,.int .i64 M.cd,.int .i64 M.pc,.slice d e f,.slice g h i,.slice j k l,.slice m n o,.int .i64 M.md,.int .i64 M.bk,.slice p q r,.slice s t u,.int .i64 M.tn]
theorem Blk.mc {w:qw}{b:Nat}{t:TypeId}{v0 v1 v2 v3 v4 v5 v6 v7 v8 v9 v10 v11 v12 v13 v14:Value}(h:Blk w b #[v0,v1,v2,v3,v4,v5,v6,v7,v8,v9,v10,v11,v12,v13,v14] t):w.cell? (qR b 0)=some v0/\w.cell? (qR b 1)=some v1/\w.cell? (qR b 2)=some v2/\w.cell? (qR b 3)=some v3/\w.cell? (qR b 4)=some v4/\w.cell? (qR b 5)=some v5/\w.cell? (qR b 6)=some v6/\w.cell? (qR b 7)=some v7/\w.cell? (qR b 8)=some v8/\w.cell? (qR b 9)=some v9/\w.cell? (qR b 10)=some v10/\w.cell? (qR b 11)=some v11/\w.cell? (qR b 12)=some v12/\w.cell? (qR b 13)=some v13/\w.cell? (qR b 14)=some v14:=⟨h.cell 0,h.cell 1,h.cell 2,h.cell 3,h.cell 4,h.cell 5,h.cell 6,h.cell 7,h.cell 8,h.cell 9,h.cell 10,h.cell 11,h.cell 12,h.cell 13,h.cell 14⟩
end Go.Proofs.YtcimaholejajpaaGreat
namespace Go.Proofs.YtcimaholejajpaaGreat
open Go.RowKit Classical
set_option maxRecDepth 100000
variable {c d:Int}{q:Nat}
theorem yI (a:qO)(n cap:Nat)(ms:List Md)(L:Lay)(a0:qO)(c0:Nat)(xs:List PB)(a2:qO)(c2:Nat)(a5:qO)(c5:Nat)(ts:List TB)(w:qw)(h:MSD w a n cap ms)(hL:LyT w L a0 c0 xs a2 c2 a5 c5 ts):
 qC 103 #[qS a n cap,.agg (qJ L a0 xs c0 a2 c2 a5 ts c5)] w fun e w'=>e=.returned (.bool (decide (Lok (aF ms) L)))/\qY w w':=by
 obtain ⟨r,hr⟩:=eqx (decide (Lok (aF ms) L));rw [<- hr];replace hr:r=true ↔ Lok (aF ms) L:=by rw [hr];simp
 unfold Lok at hr;have HLB:=zh (mE (aF ms) (L.slots.length:Int) (cfW L) (cfK L) 0);have HLV:=zh (aAr (aF ms) (L.slots.length:Int) (cfW L) (cfK L) 0)
 have HIM:=zh (fun (W:qw) (hb:qY w W)=>by
  have:=nJ a n cap ms (L.slots.length:Int) (cfW L) (cfK L) 0 W (h.bw hb);unfold LkM mC at this
  exact this)
 generalize lkL (aF ms) (L.slots.length:Int) (cfW L) (cfK L) 0=LY at *;generalize lkc (aF ms) (L.slots.length:Int) (cfW L) (cfK L) 0=C at *;have HR:=zh hr;have HCF:=zh (fun (W:qw) (hb:qY w W)=>zC L a0 c0 xs a2 c2 a5 c5 ts W (hL.bw hb));have B0:qY w (w.alloc (.cells (qJ L a0 xs c0 a2 c2 a5 ts c5) 64)):=bal;have k0:=Blk.new w (qJ L a0 xs c0 a2 c2 a5 ts c5) 64;have HL:=zh hL;clear h hL hr;go_enter Tryz.func103,Tryz.ntmps103
 go_wp2_with fail
 refine (HCF.o _ B0).mono ?_;rintro e w1 ⟨rfl,hb1⟩;have B1:=B0.trans (hb1.mono B0.size);have k1:=k0.bw hb1;clear hb1 B0 k0;go_wp2_with fail
 refine (HIM.o _ B1).mono ?_;rintro e w2 ⟨hb2,b0,d0,ys,b2,d2,b5,d5,us,rfl,O2⟩;have hA:qY w2 (w2.alloc (.cells (qL LY b0 ys.length d0 b2 LY.slots.length d2 b5 us.length d5) 64)):=bal;have kt:=Blk.new w2 (qL LY b0 ys.length d0 b2 LY.slots.length d2 b5 us.length d5) 64;have B2:=B1.trans (hb2.mono B1.size);have B3:=B2.trans (hA.mono B2.size);have k3:=(k1.bw hb2).bw hA;have O3:=O2.below' hA;have HSM:=zh (pZ LY b0 d0 ys b2 d2 b5 d5 us L a0 c0 xs a2 c2 a5 c5 ts _ (O3.lyt HLB.o.r HLV.o) (HL.o.bw B3));have HB3:=zh B3;obtain ⟨p0,p1,p2,p3,p4,p5⟩:=k3.ly6;obtain ⟨q0,q1,q2,q3,q4,q5⟩:=kt.ly6;clear hb2 O2 O3 hA B1 B2 B3 k1 k3 kt;by_cases hC:C=0
 .have g:(C==0)=true:=by simpa using hC
  have HV:=zh (show decide (LY=L)=r by rw [xJ,HR.o];simp [hC]);rw [HV.o] at HSM;clear hC HR;go_wp2_with fail
  refine HSM.o.mono ?_;rintro e w4 ⟨rfl,hb4⟩;have HB4:=zh (HB3.o.trans (hb4.mono HB3.o.size));clear hb4;cases r
  all_goals
   go_wp2;go_ret;exact ⟨rfl,HB4.o⟩
 .have g:(C==0)=false:=by simpa using hC
  have HV:=zh (show r=false by cases r;rfl;exact absurd (HR.o.1 rfl).1 hC);clear hC HR;go_wp2;go_ret;exact ⟨aB HV.o.symm,HB3.o⟩
def z15:Array Value:=qZ
def jE (W:qw)(k:Nat)(v0 v1 v2 v3 v4 v5 v6 v7 v8 v9 v10 v11 v12 v13 v14:Value):World:=((((((((((((((W.setCell (qR k 0) v0).setCell (qR k 1) v1).setCell (qR k 2) v2).setCell (qR k 3) v3).setCell (qR k 4) v4).setCell (qR k 5) v5).setCell (qR k 6) v6).setCell (qR k 7) v7).setCell (qR k 8) v8).setCell (qR k 9) v9).setCell (qR k 10) v10).setCell (qR k 11) v11).setCell (qR k 12) v12).setCell (qR k 13) v13).setCell (qR k 14) v14
theorem cP (W:qw)(k:Nat)(v0 v1 v2 v3 v4 v5 v6 v7 v8 v9 v10 v11 v12 v13 v14:Value):Turn (fun j=>j=k) W (jE W k v0 v1 v2 v3 v4 v5 v6 v7 v8 v9 v10 v11 v12 v13 v14):=((((((((((((((aC W k 0 v0).trans (aC _ k 1 v1)).trans (aC _ k 2 v2)).trans (aC _ k 3 v3)).trans (aC _ k 4 v4)).trans (aC _ k 5 v5)).trans (aC _ k 6 v6)).trans (aC _ k 7 v7)).trans (aC _ k 8 v8)).trans (aC _ k 9 v9)).trans (aC _ k 10 v10)).trans (aC _ k 11 v11)).trans (aC _ k 12 v12)).trans (aC _ k 13 v13)).trans (aC _ k 14 v14)
theorem jM {W:qw}{k:Nat}{t:TypeId}(h:Blk W k z15 t)(v0 v1 v2 v3 v4 v5 v6 v7 v8 v9 v10 v11 v12 v13 v14:Value):Blk (jE W k v0 v1 v2 v3 v4 v5 v6 v7 v8 v9 v10 v11 v12 v13 v14) k #[v0,v1,v2,v3,v4,v5,v6,v7,v8,v9,v10,v11,v12,v13,v14] t:=by
 have k:=((((((((((((((h.set 0 v0).set 1 v1).set 2 v2).set 3 v3).set 4 v4).set 5 v5).set 6 v6).set 7 v7).set 8 v8).set 9 v9).set 10 v10).set 11 v11).set 12 v12).set 13 v13).set 14 v14;have e:((((((((((((((z15.setIfInBounds 0 v0).setIfInBounds 1 v1).setIfInBounds 2 v2).setIfInBounds 3 v3).setIfInBounds 4 v4).setIfInBounds 5 v5).setIfInBounds 6 v6).setIfInBounds 7 v7).setIfInBounds 8 v8).setIfInBounds 9 v9).setIfInBounds 10 v10).setIfInBounds 11 v11).setIfInBounds 12 v12).setIfInBounds 13 v13).setIfInBounds 14 v14=#[v0,v1,v2,v3,v4,v5,v6,v7,v8,v9,v10,v11,v12,v13,v14]:=by unfold z15;simp
 rw [e] at k;exact k
theorem aMi {W:qw}(k1:Blk W q z15 37)(v0 v1 v2 v3 v4 v5 v6 v7 v8 v9 v10 v11 v12 v13 v14:Value)(Q:Ending->World->Prop)(tmps:Array Value)(h6:tmps[6]?=some (.pointer (qP q)))(hQ:Q (.returned (.agg #[v0,v1,v2,v3,v4,v5,v6,v7,v8,v9,v10,v11,v12,v13,v14])) (jE W q v0 v1 v2 v3 v4 v5 v6 v7 v8 v9 v10 v11 v12 v13 v14).drew):
 bodyPost Tryz.prog Tryz.f26 Q Exit.ret ⟨tmps,[]⟩ (jE W q v0 v1 v2 v3 v4 v5 v6 v7 v8 v9 v10 v11 v12 v13 v14).drew:=by
 obtain ⟨t0,t1,t2,t3,t4,t5,t6,t7,t8,t9,t10,t11,t12,t13,t14⟩:=((jM k1 v0 v1 v2 v3 v4 v5 v6 v7 v8 v9 v10 v11 v12 v13 v14).bw brf.drew).mc;refine bodyPost_ret_by (v:=(.agg #[v0,v1,v2,v3,v4,v5,v6,v7,v8,v9,v10,v11,v12,v13,v14])) ?_ rfl hQ;simp [results,Tryz.results26,go_sem,h6,t0,t1,t2,t3,t4,t5,t6,t7,t8,t9,t10,t11,t12,t13,t14]
theorem lF {W:qw}(k1:Blk W q z15 37)(v0 v1 v2 v3 v4 v5 v6 v7 v8 v9 v10 v11 v12 v13 v14:Value)(Q:Ending->World->Prop)(tmps:Array Value)(h4:tmps[4]?=some (.pointer (qP q)))(h5:tmps[5]?=some (qI c))(h6:tmps[6]?=some (qI d))(hQ:Q (.returned (.tuple #[.agg #[v0,v1,v2,v3,v4,v5,v6,v7,v8,v9,v10,v11,v12,v13,v14],qI c,qI d])) (jE W q v0 v1 v2 v3 v4 v5 v6 v7 v8 v9 v10 v11 v12 v13 v14)):
 bodyPost Tryz.prog Tryz.f6 Q Exit.ret ⟨tmps,[]⟩ (jE W q v0 v1 v2 v3 v4 v5 v6 v7 v8 v9 v10 v11 v12 v13 v14):=by
 obtain ⟨t0,t1,t2,t3,t4,t5,t6,t7,t8,t9,t10,t11,t12,t13,t14⟩:=(jM k1 v0 v1 v2 v3 v4 v5 v6 v7 v8 v9 v10 v11 v12 v13 v14).mc;refine bodyPost_ret_by (v:=(.tuple #[.agg #[v0,v1,v2,v3,v4,v5,v6,v7,v8,v9,v10,v11,v12,v13,v14],qI c,qI d])) ?_ rfl hQ;simp [results,Tryz.results6,go_sem,h4,h5,h6,t0,t1,t2,t3,t4,t5,t6,t7,t8,t9,t10,t11,t12,t13,t14]
theorem lE {W:qw}(k1:Blk W q z15 37)(v0 v1 v2 v3 v4 v5 v6 v7 v8 v9 v10 v11 v12 v13 v14:Value)(Q:Ending->World->Prop)(tmps:Array Value)(h4:tmps[4]?=some (.pointer (qP q)))(h5:tmps[5]?=some (qI c))(h6:tmps[6]?=some (qI d))(hQ:Q (.returned (.tuple #[.agg #[v0,v1,v2,v3,v4,v5,v6,v7,v8,v9,v10,v11,v12,v13,v14],qI c,qI d])) (jE W q v0 v1 v2 v3 v4 v5 v6 v7 v8 v9 v10 v11 v12 v13 v14)):
 bodyPost Tryz.prog Tryz.f5 Q Exit.ret ⟨tmps,[]⟩ (jE W q v0 v1 v2 v3 v4 v5 v6 v7 v8 v9 v10 v11 v12 v13 v14):=by
 obtain ⟨t0,t1,t2,t3,t4,t5,t6,t7,t8,t9,t10,t11,t12,t13,t14⟩:=(jM k1 v0 v1 v2 v3 v4 v5 v6 v7 v8 v9 v10 v11 v12 v13 v14).mc;refine bodyPost_ret_by (v:=(.tuple #[.agg #[v0,v1,v2,v3,v4,v5,v6,v7,v8,v9,v10,v11,v12,v13,v14],qI c,qI d])) ?_ rfl hQ;simp [results,Tryz.results5,go_sem,h4,h5,h6,t0,t1,t2,t3,t4,t5,t6,t7,t8,t9,t10,t11,t12,t13,t14]
structure Pd (w0 w:qw)(cm:Array Value)(g n base:Nat)(zs:qi)(W:qw):Prop where
 be:qY w0 W
 km:Blk W w.heap.size cm 53
 o:OB W base (qS (qP g) n n) zs
 t:Turn (fun j=>j=g) w W
section
variable {w0 w:qw}{cm:Array Value}{g n base:Nat}{zs:qi}{W W':qw}
theorem Pd.bw (h:Pd w0 w cm g n base zs W)(hb:qY W W'):Pd w0 w cm g n base zs W':=⟨h.be.trans (hb.mono h.be.size),h.km.bw hb,h.o.bw hb,h.t.trans (aJ hb)⟩
theorem Pd.drew (h:Pd w0 w cm g n base zs W):Pd w0 w cm g n base zs W.drew:=h.bw brf.drew
theorem Pd.set (h:Pd w0 w cm g n base zs W){zs':qi}(hg:w0.heap.size<=g)(O:OB W' base (qS (qP g) n n) zs')(T:eP g W W'):Pd w0 w cm g n base zs' W':=by
 obtain ⟨c1,k1⟩:=gK h.o;exact ⟨cT h.be T hg,bY T h.km (fun e=>absurd (aW (show Blk W g cm 53 from e ▸ h.km) k1) (by decide)),O,h.t.trans (rE T)⟩
end
theorem aMg {W:qw}{base g n A:Nat}{zs:qi}(h:OB W base (qS (qP g) n n) zs)(hA:A<=n):BS W (some (qR g A)) (n-A) (n-A) (zs.drop A):=by
 have hl:=(pA h).2.1;have hm:=(pA h).2.2.2;have hb:=h.bs;refine ⟨by simp;omega,by omega,fun z hz=>h.2 z (List.mem_of_mem_drop hz),fun _=>⟨g,A,rfl,fun i hi=>?_⟩,aL⟩;have h1:=hb.at (A+i) (by omega);rw [Nat.zero_add] at h1;rw [h1];congr 2;simp [xB,List.getElem?_drop]
theorem aAc (g R f:Nat)(bp:qO)(bl':Nat)(nm:ByteArray)(ta:qO)(tn tc:Nat)(ba:qO)(bn bc:Nat)(da:qO)(dn dc:Nat)(dz:qi)(bss:Int)(ra:qO)(rn rc:Nat)(rrz:qi)(ia:qO)(im ic:Nat)(ea:qO)(en ec:Nat)(rz:qi)(base:Nat)(w w0:qw)(hD:BS w0 da dn dc dz)(hRl:IS w0 ra rn rc rrz)(hb:qY w0 w)(hg:w0.heap.size<=g)(ho:OB w base (qS (qP g) R R) rz)(hR:R<=16384)(hrn:rn<=16)(hfd:f+dn<=R)(hrl:∀ q,q<rn->0<=rrz.getD q 0/\rrz.getD q 0+4<=(dn:Int))
 (hbp:(f<R/\bp=some (qR g f)/\bl'=R-f)\/(f=R/\bp=some (qR g 0)/\bl'=0)):
 qC 105 #[qS bp bl' bl',.agg (qM nm ta tn tc ba bn bc da dn dc bss ra rn rc ia im ic ea en ec),qI (65536+(f:Int))] w fun e w'=>e=.returned (.tuple #[])/\OB w' base (qS (qP g) R R) (gQ (ovr rz f dz) f rrz (65536+(f:Int)) rn)/\Turn (fun j=>j=g) w w':=by
 have bb:qY w (w.alloc (.cells (qM nm ta tn tc ba bn bc da dn dc bss ra rn rc ia im ic ea en ec) 53)):=bal;have S0:Pd w0 w (qM nm ta tn tc ba bn bc da dn dc bss ra rn rc ia im ic ea en ec) g R base rz (w.alloc (.cells (qM nm ta tn tc ba bn bc da dn dc bss ra rn rc ia im ic ea en ec) 53)):=⟨hb.trans (bb.mono hb.size),Blk.new _ _ _,ho.bw bb,aJ bb⟩;have HBR:=zh (xA hbp (xA hD (xA hRl hrl)));obtain ⟨w1,hrun,O1,T1⟩:=tE (f:=f) S0.o 3 bp da bl' bl' dn dc (hD.bw S0.be) (by rcases hbp with h|h<;>omega) (by omega) (fun h0=>by rcases hbp with h|h;exact h.2.1;omega);have HS1:=zh (S0.set hg O1 T1);have x3:=S0.km.cell 3;simp only [List.getElem?_toArray,List.getElem?_cons_zero,List.getElem?_cons_succ] at x3;clear O1 T1 S0 bb ho hb hD hRl hrl hbp;obtain ⟨cm,hcm⟩:∃ cm:Array Value,cm=(qM nm ta tn tc ba bn bc da dn dc bss ra rn rc ia im ic ea en ec):=⟨_,rfl⟩;rw [<- hcm] at HS1
 have HCL:=zh (fun (zs:qi) (X:qw) (S:Pd w0 w cm g R base zs X)=>show X.cell? (qR w.heap.size 5)=some (qS ra rn rc) from by
  have h1:=S.km;rw [hcm] at h1
  exact h1.cell 5)
 clear hcm;go_enter Tryz.func105,Tryz.ntmps105
 have z5:=HCL.o _ _ HS1.o;go_wp2;clear hrun x3 z5;go_loopw [15] (fun i wr=>∃ q:Nat,q<=rn/\i=qI q/\Pd w0 w cm g R base (gQ (ovr rz f dz) f rrz (65536+(f:Int)) q) wr) (qf rn)
 .exact ⟨0,xC _,rfl,HS1.o⟩
 .clear HS1;obtain ⟨q,hq,rfl,hQ⟩:=hrel;generalize wr=wq at *;have HQ:=zh hQ;by_cases hqr:q<rn
  .have hqr':(q:Int)<(rn:Int):=by omega
   obtain ⟨hbp,hD,hRl,hrl⟩:=HBR.o;obtain ⟨rb,ro,rfl,hrc⟩:=hRl.2.2.2.1 (show rn≠0 by omega);obtain ⟨h1,h2⟩:=hrl q hqr;have hfR:f<R:=by omega
   obtain ⟨_,hb1,hb2⟩:f<R/\bp=some ⟨g,f,none⟩/\bl'=R-f:=by rcases hbp with h|h;exact h;omega
   subst hb1 hb2;have s6:=aE hQ.be (hrc q hqr);have HRE:Zh (gQ (ovr rz f dz) f rrz (65536+(f:Int)) (q+1)=put (gQ (ovr rz f dz) f rrz (65536+(f:Int)) q) (f+(rrz.getD q 0).toNat) (low (((gQ (ovr rz f dz) f rrz (65536+(f:Int)) q).drop (f+(rrz.getD q 0).toNat)).take 4)+(65536+(f:Int))) 4):=rfl;clear hrc hQ hD hRl hrl hbp;generalize hRQ1:gQ (ovr rz f dz) f rrz (65536+(f:Int)) (q+1)=RQ1 at HRE;have HRQ1:=zh hRQ1;clear hRQ1;generalize gQ (ovr rz f dz) f rrz (65536+(f:Int)) q=RQ at *;obtain ⟨x,hx⟩:∃ x:Nat,rrz.getD q 0=(x:Int):=⟨(rrz.getD q 0).toNat,by omega⟩;rw [hx] at s6 HRE h1 h2;rw [xY] at HRE;clear hx;have HLR:=zh (gV ((RQ.drop (f+x)).take 4) (fun z hz=>HQ.o.o.2 z (List.mem_of_mem_drop (List.mem_of_mem_take hz))) (by simp;omega));obtain ⟨lw,hlw⟩:=eqx (low ((RQ.drop (f+x)).take 4));rw [<- hlw] at HLR HRE;obtain ⟨VV,hVV⟩:=eqx (lw+(65536+(f:Int)));rw [<- hVV] at HRE;have hwV:IntKind.i64.wrap (lw+(65536+(f:Int)))=VV:=by rw [hVV,xP,xQ _ (by have:=HLR.o;omega)]
   have HVR:=zh (show -9223372036854775808<=VV/\VV<=9223372036854775807 by have:=HLR.o;omega)
   have HGB:=zh (fun (X:qw) (S:Pd w0 w cm g R base RQ X)=>show qC 149 #[qS (some (qR g (f+x))) (R-f-x) (R-f-x),qI 4] X fun e w'=>e=.returned (qI lw)/\Pd w0 w cm g R base RQ w' from by
    have hbs:=aMg S.o (show f+x<=R by omega);rw [show R-(f+x)=R-f-x by omega] at hbs;have:=sM g (f+x) (R-f-x) (R-f-x) _ X hbs (by omega);rw [<- hlw] at this
    exact this.mono (fun e w' he=>⟨he.1,S.bw he.2⟩))
   have HPB:=zh (fun (X:qw) (S:Pd w0 w cm g R base RQ X)=>show qC 148 #[qS (some (qR g (f+x))) (R-f-x) (R-f-x),qI 4,qI VV] X fun e w'=>e=.returned (.tuple #[])/\Pd w0 w cm g R base RQ1 w' from
    (qF g (R-f-x) (R-f-x) (f+x) VV X (aAk S.o) (by omega) HVR.o).mono (fun e w' he=>⟨he.1,by
      rw [he.2,HRE.o]
      exact S.set hg (aAl S.o (f+x) VV) (rH g (f+x) VV X)⟩))
   have t0:(0:Int)<=(x:Int):=by omega
   have t1:(x:Int)<=((R-f:Nat):Int):=by omega
   have t2:(x:Int)<((R-f:Nat):Int):=by omega
   have t3:¬ (R-f=x):=by omega
   have t4:x<=R-f:=by omega
   have t5:x<R-f:=by omega
   clear hlw hVV h1 h2;go_wp2_with fail
   go_region_held3 (fun w'=>True) (exact True.intro)
    (first
      | (go_at_call 149;first
          | with_reducible refine (HGB.o _ HQ.o).mono ?_
          | with_reducible refine (HGB.o _ HQ.o.drew).mono ?_
         rintro e w5 ⟨rfl,hS5⟩;have HS5:=zh hS5
         clear hS5)
      | (go_at_call 148;first
          | with_reducible refine (HPB.o _ HS5.o).mono ?_
          | (rw [hwV];with_reducible refine (HPB.o _ HS5.o).mono ?_)
         rintro e w6 ⟨rfl,hS6⟩;have HS6:=zh hS6
         clear hS6))
   clear hwV s6;go_wp2
   go_roundw
   .exact ⟨q+1,by omega,by go_num,by rw [HRQ1.o];exact HS6.o⟩
   .simp [qf,intOf];omega
  .have e:Zh (q=rn):=by show q=rn;omega
   clear hQ;go_wp2
   go_end0
   exact ⟨rfl,by rw [<- e.o];exact HQ.o.o,HQ.o.t⟩
