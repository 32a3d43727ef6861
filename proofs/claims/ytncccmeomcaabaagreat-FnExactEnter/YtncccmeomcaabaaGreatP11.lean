import Derived.Test.YtncccmeomcaabaaGreatP10
set_option maxHeartbeats 8000000
namespace Go.Proofs.YtncccmeomcaabaaGreat
open Go.RowKit Classical
open Go.Proofs.Tryz
set_option linter.all false
set_option maxRecDepth 100000
variable {L:List (Hd×Ct)}{Q:Nat->Prop}{a0 a2 a5:qO}{base c0 c2 c5 cap g i k m n:Nat}{c c':Ct}{hs:List Hd}{ts:List TB}{x:Hd}{xs:List PB}{β:Nat->Nat}
theorem yP (a:qO)(n cap:Nat)(ms:List Md)(s c k d:Int)(w:qw)(h:MSD w a n cap ms):
 qC 153 #[qS a n cap,.agg (qW s c k d)] w (LkM w (aD ms) s c k d):=by
 have K0:=aM9 w s c k d;have hl:=h.s.1;have hpl:(aD ms).length=n:=by rw [bR,hl]
 have HH:=zh h;have HSND:=zh (fun (W:qw) (hb:qY w W)=>vS a n cap ms s c k d W (h.bw hb));obtain ⟨V,hV⟩:=eqx (dT (aD ms) s c k d);rw [<- hV] at HSND;have HV:=zh hV;have HK:=zh K0;clear h K0 hV;go_enter func153,ntmps153
 go_wp2_with fail
 refine (HSND.o _ HK.o.be).mono ?_;rintro e w1 ⟨rfl,hb1⟩;have S1:=HK.o.bw hb1;clear hb1 HK;by_cases hV0:V=0
 .have hs4:=HV.o;rw [hV0] at hs4;obtain ⟨hcf,h4,hvl⟩:=rV hs4.symm;obtain ⟨hs0,hs1,hc0,hc1,_⟩:=of_decide_eq_true hcf;have HS4:=zh hs4.symm;have HVL:=zh hvl;have HCF:=zh hcf;rw [hpl] at h4;subst hV0;have HTA:=zh (vA a n cap ms w1 (HH.o.bw S1.be) hvl h4);have HS1:=zh S1;clear hs4 hvl hcf S1;go_wp2_with fail
  refine HTA.o.mono ?_;rintro e w2 ⟨hb2,H2⟩;have S2:=HS1.o.bw hb2;have hs1w:=HS1.o.be.size;rcases H2 with ⟨hno,v,rfl⟩|⟨hyes,f,rfl,TF,hfe⟩
  .have HP:=zh (aN4 (d:=d) (k:=k) (w:=c) (s:=s) HS4.o hno);have HS:=zh S2;obtain ⟨p0,p1,p2,p3,p4,p5⟩:=S2.k1.z6;have y0:=S2.k1.frozen;clear S2 hno hb2 HTA HS1;go_wp2;exact kJ HS.o HP.o (by decide) _ rfl rfl
  .have HI:=zh hyes;have HFE:=zh hfe;obtain ⟨gt,hgt0⟩:=eqx (w1.heap.size);rw [<- hgt0] at TF hs1w ⊢;have HTF0:=zh TF;have HS2:=zh S2;obtain ⟨c0,c1,c2,c3⟩:=S2.k0.z4;clear hyes hfe TF S2 hb2 HTA HS1 hgt0;by_cases hsz:s=0
   focus
    subst hsz;have HN6:Zh (¬ ((0:Int)<0/\¬ jV (aD ms) c)):=fun e=>absurd e.1 (by omega);go_wp2_with fail
    go_quiet (fail)
    have HS:Zh (Kin w (w2.drewN nq) 0 c k d):=zh ⟨iO HS2.o.be nq,HS2.o.k0,HS2.o.k1⟩;have HTF:Zh (Tf (w2.drewN nq) gt gt n f):=zh ⟨HTF0.o.head,HTF0.o.rows,HTF0.o.apart⟩;clear HS2 HTF0 c0 c1 c2 c3;generalize w2.drewN nq=w3 at *;have HLA:=zh (tN a n cap ms 0 c k d w3 (HH.o.bw HS.o.be) h4 HCF.o HVL.o);obtain ⟨c0,c1,c2,c3⟩:=HS.o.k0.z4;go_wp2_with fail
    refine HLA.o.mono ?_;rintro e w4 ⟨hb4,a0,d0,xs,a2,d2,rfl,LO⟩;have S4:=HS.o.bw hb4;have TF4:=HTF.o.bw hb4;obtain ⟨L,hL⟩:=eqx (lay (aD ms) 0 c k)
   rotate_left
   focus
    have hsn:(s !=0)=true:=by simp [hsz]
    have HGB:=zh (fun (W:qw) (hb:qY w W)=>oN a n cap ms W (HH.o.bw hb) HVL.o h4);go_wp2_with fail
    go_region_law (first
     | (go_simp;go_at_call 187;refine (HGB.o _ (by first|exact HS2.o.be|exact HS2.o.drew.be)).mono ?_;rintro e wa ⟨R,rfl,hG,hba⟩;have HSA:=zh (show Kin w wa s c k d from (by first|exact HS2.o.bw hba|exact HS2.o.drew.bw hba));have HTB:=zh (show Tf wa gt gt n f from (by first|exact HTF0.o.bw hba|exact Tf.bw (w:=w2.drew) ⟨HTF0.o.head,HTF0.o.rows,HTF0.o.apart⟩ hba));have e1:wa.cell? (qR w.heap.size 1)=some (qI c):=HSA.o.k0.cell 1;have HG:=zh hG;clear hba hG))
    all_goals
     have HS:=HSA;have HTF:=HTB;clear HS2 HTF0 c0 c1 c2 c3 HSA HTB e1 HGB;generalize wa=w3 at *;by_cases h6:c<(R:Int)
     .have HP:=zh (aN3 (d:=d) (k:=k) HS4.o HI.o ⟨by omega,(aGp HG.o c hc0).1 h6⟩);have S3:=HS.o;obtain ⟨p0,p1,p2,p3,p4,p5⟩:=S3.k1.z6;have y0:=S3.k1.frozen;clear S3;go_wp2;exact kJ HS.o HP.o (by decide) _ rfl rfl
     have HN6:Zh (¬ (0<s/\¬ jV (aD ms) c)):=fun e=>h6 ((aGp HG.o c hc0).2 e.2);have h6':¬ c<(R:Int):=h6;have HLA:=zh (tN a n cap ms s c k d w3 (HH.o.bw HS.o.be) h4 HCF.o HVL.o);obtain ⟨c0,c1,c2,c3⟩:=HS.o.k0.z4;go_wp2_with fail
     refine HLA.o.mono ?_;rintro e w4 ⟨hb4,a0,d0,xs,a2,d2,rfl,LO⟩;have S4:=HS.o.bw hb4;have TF4:=HTF.o.bw hb4;obtain ⟨L,hL⟩:=eqx (lay (aD ms) s c k)
   all_goals
    rw [<- hL] at LO ⊢;have HLL:=zh hL;have al:qY w4 (w4.alloc (.cells (qL L a0 xs.length d0 a2 L.slots.length d2 none 0 0) 71)):=bal;have kL:=Blk.new w4 (qL L a0 xs.length d0 a2 L.slots.length d2 none 0 0) 71;have S5:=S4.bw al;have TF5:=TF4.bw al;have hs34:=hb4.size;have hs3:=HS.o.k1.lt;have hgt:=HTF.o.lt.1;have LO5:LayO (w4.alloc (.cells (qL L a0 xs.length d0 a2 L.slots.length d2 none 0 0) 71)) w3.heap.size ⟨L.places,L.stack,L.slots,L.flash,L.ram,[]⟩ a0 d0 xs a2 d2 none 0 []:=⟨LO.p.bw al,LO.ps,LO.s.bw al,LO.t.bw al,LO.tt,LO.sp⟩;have alM:qY w4 (w4.alloc (.cells (qL L a0 xs.length d0 a2 L.slots.length d2 (qP gt) n n) 71)):=bal;have kM:=Blk.new w4 (qL L a0 xs.length d0 a2 L.slots.length d2 (qP gt) n n) 71;have S6:=S4.bw alM;have TF6:=TF4.bw alM;have LO6:LayO (w4.alloc (.cells (qL L a0 xs.length d0 a2 L.slots.length d2 (qP gt) n n) 71)) w3.heap.size ⟨L.places,L.stack,L.slots,L.flash,L.ram,[]⟩ a0 d0 xs a2 d2 none 0 []:=⟨LO.p.bw alM,LO.ps,LO.s.bw alM,LO.t.bw alM,LO.tt,LO.sp⟩;obtain ⟨l0,l1,l2,l3,l4,l5⟩:=kL.z6;have n5:=kL.frozen 5;have HKL:=zh kM;obtain ⟨m0,m1,m2,m3,m4,m5⟩:=kM.z6;have HS5:=zh (xA S5 (xA LO6 (xA TF6 S6)));clear hb4 S4 TF4 LO al kL hL HS HTF HLA c0 c1 c2 c3 alM kM TF5 LO5;unfold mG;by_cases h7:16384<L.flash
    .have HP:=zh (aN2 (d:=d) HS4.o HI.o HN6.o (by rw [<- HLL.o];exact h7));obtain ⟨p0,p1,p2,p3,p4,p5⟩:=S5.k1.z6;have y0:=S5.k1.frozen;clear S5 S6 LO6 TF6;go_wp2;exact kJ HS5.o.1 HP.o (by decide) _ rfl rfl
    .have h7':¬ 16384<L.flash:=h7;by_cases h8:16384<L.ram
     .have HP:=zh (aN1 (d:=d) HS4.o HI.o HN6.o (by rw [<- HLL.o];exact h7) (by rw [<- HLL.o];exact h8));obtain ⟨p0,p1,p2,p3,p4,p5⟩:=S5.k1.z6;have y0:=S5.k1.frozen;clear S5 S6 LO6 TF6;go_wp2;exact kJ HS5.o.1 HP.o (by decide) _ rfl rfl
     .have HP:=zh (aN6 (d:=d) HS4.o HI.o HN6.o (by rw [<- HLL.o];exact h7) (by rw [<- HLL.o];exact h8));obtain ⟨p0,p1,p2,p3,p4,p5⟩:=S6.k1.z6;have y0:=S6.k1.frozen;clear S5 S6 LO6 TF6;go_wp2;refine yI HS5.o.2.2.2.k1 _ _ _ _ _ _ 0 _ _ rfl rfl ?_;obtain ⟨S5,LO5,TF5,S6⟩:=HS5.o;have t:=cE (w4.alloc (.cells (qL L a0 xs.length d0 a2 L.slots.length d2 (qP gt) n n) 71)) (w.heap.size+1) (qS a0 xs.length d0) (qI L.stack) (qS a2 L.slots.length d2) (qI L.flash) (qI L.ram) (qS (qP gt) n n);have OT:=TF5.otg (c:=n) aN (by unfold maxLen;omega) rfl
      have key:∀ (base sz nn:Nat) (ty:TypeId) (v:Value) (ys:List Value),(w4.alloc (.cells (qL L a0 xs.length d0 a2 L.slots.length d2 (qP gt) n n) 71)).ownsRow base ty sz v nn ys->ty≠71->∀ j,v.ownBlock=some j->¬ (fun j=>j=w.heap.size+1) j:=fun base sz nn ty v ys ho hne j hj e=>by
       have e':j=w.heap.size+1:=e;subst e';exact aM ho hj S6.k1 hne
      refine ⟨aG S6.be (cE _ _ _ _ _ _ _ _) (fun j hj=>by have e:j=w.heap.size+1:=hj;omega) S6.be.size,a0,d0,xs,a2,d2,some (qR gt 0),n,(List.range n).map f,?_,?_⟩
      .unfold lkL mG;rw [if_pos HP.o,HP.o,<- HLL.o];simp
      .unfold lkL;rw [if_pos HP.o,<- HLL.o];exact ⟨(LO5.p.kept t (key _ _ _ _ _ _ LO5.p.head (by decide)) (fun x hx=>key _ _ _ _ _ _ (LO5.p.rows x hx) (by decide))).mono (by omega) (by omega),LO5.ps,(LO5.s.kept t (key _ _ _ _ _ _ LO5.s (by decide))).mono (by omega),(OT.kept t (key _ _ _ _ _ _ OT.head (by decide)) (fun x hx=>key _ _ _ _ _ _ (OT.rows x hx) (by decide))).mono (by omega) (by omega),by rw [HLL.o];unfold lay;rw [hpl,List.map_map];exact List.map_congr_left (fun i hi=>HFE.o i (by simpa using hi)),LO5.sp⟩
 .have hV0':(V !=0)=true:=by simp [hV0]
  have HP:=zh (aN5 (ps:=aD ms) HV.o.symm hV0);have HS:=zh S1;obtain ⟨p0,p1,p2,p3,p4,p5⟩:=S1.k1.z6;have y0:=S1.k1.frozen;clear S1;go_wp2;exact kJ HS.o HP.o hV0 _ rfl rfl
structure Mkg (w W:qw)(base:Nat)(Q:Nat->Prop)(v:Value)(hs:List Hd)(L:List (Hd×Ct))(β:Nat->Nat)(k m:Nat):Prop where
 o:OMs W base v L β
 h:L.map (fun x=>x.1)=hs
 d:∀ i,i<m->L[i]?=some (hs.getD i zHd,mkC (hs.getD i zHd) (k+upS (fun j=>aZ (hs.getD j zHd)) i))
 t:Turn Q w W
theorem aOc (h:L.map (fun x=>x.1)=hs)(hm:m<hs.length):∃ c,L[m]?=some (hs.getD m zHd,c):=by
 subst h;rw [xH] at hm;exact ⟨L[m].2,by simp [xB,hm]⟩
theorem aKl (h:L.map (fun x=>x.1)=hs)(hx:L[i]?=some (x,c)):(L.set i (x,c')).map (fun x=>x.1)=hs:=by
 subst h;apply List.ext_getElem?;intro n;rw [List.getElem?_map,List.getElem?_map,List.getElem?_set];by_cases e:i=n
 .subst e;rw [if_pos rfl,if_pos (dJ hx),hx];rfl
 .rw [if_neg e]
theorem aK2 {α:Type}{L:List α}{x x':α}(h:L[i]?=some x):(L.set i x')[i]?=some x':=by rw [List.getElem?_set_self (dJ h)]
structure Mkm (w W:qw)(base:Nat)(Q:Nat->Prop)(g n cap:Nat)(hs:List Hd)(L:List (Hd×Ct))(β:Nat->Nat)(k m:Nat)(x:Hd)(c:Ct):Prop where
 o:OMs W base (qS (qP g) n cap) L β
 h:L.map (fun x=>x.1)=hs
 d:∀ i,i<m->L[i]?=some (hs.getD i zHd,mkC (hs.getD i zHd) (k+upS (fun j=>aZ (hs.getD j zHd)) i))
 t:Turn Q w W
 x:L[m]?=some (x,c)
theorem Mkm.bw {w W W':qw}(H:Mkm w W base Q g n cap hs L β k m x c)(hb:qY W W'):Mkm w W' base Q g n cap hs L β k m x c:=⟨H.o.bw hb,H.h,H.d,H.t.trans (aJ hb),H.x⟩
theorem Mkm.mod {w W W':qw}(H:Mkm w W base Q g n cap hs L β k m x c)(M':M6h W' (β m) (x,c'))(e:clH (x,c')=clH (x,c)){S:Nat->Prop}(hS:∀ j,S j->Sh x j)(hb:∀ j,Sh x j->Q j)(T:Turn S W W'):Mkm w W' base Q g n cap hs (L.set m (x,c')) β k m x c':=
 ⟨H.o.mod H.x M' e hS T,aKl H.h H.x,fun i hi=>by rw [List.getElem?_set_ne (by omega)];exact H.d i hi,H.t.trans (T.mono (fun j s=>hb j (hS j s))),aK2 H.x⟩
theorem Mkm.cell {w W:qw}(H:Mkm w W base Q g n cap hs L β k m x c)(hn:L.length=n)(j:Nat)(hj:j<8)(u:Value)(e:clH (x,c')=(clH (x,c)).set j u)(hM:M6h W (β m) (x,c'))(hg:Q g):Mkm w (W.setCell (qR g (m*8+j)) u) base Q g n cap hs (L.set m (x,c')) β k m x c':=
 ⟨H.o.cell hn H.x j hj u e hM,aKl H.h H.x,fun i hi=>by rw [List.getElem?_set_ne (by omega)];exact H.d i hi,H.t.trans ((aC W g _ u).mono (fun j s=>by subst s;exact hg)),aK2 H.x⟩
theorem oE (g n cap base k:Nat)(Q:Nat->Prop)(hs:List Hd)(L:List (Hd×Ct))(β:Nat->Nat)(w:qw)(H:OMs w base (qS (qP g) n cap) L β)(hL:L.map (fun x=>x.1)=hs)(hl:L.length=n)(h0:0<k)(hz:k+upS (fun j=>aZ (hs.getD j zHd)) n<=4194305)(hb:∀ i,i<n->(hs.getD i zHd).bn<=1048576)(hn:n<=1048576)(hg:Q g)(hsh:∀ i,i<n->∀ j,Sh (hs.getD i zHd) j->Q j):
 qC 48 #[qS (qP g) n cap,qI k] w fun e w'=>e=.returned (qI ((k+upS (fun j=>aZ (hs.getD j zHd)) n:Nat):Int))/\∃ L',Mkg w w' base Q (qS (qP g) n cap) hs L' β k n:=by
 have hsl:hs.length=n:=by rw [<- hL,xH,hl]
 have HH:=zh (xA H hL);clear H hL hl;go_enter func48,ntmps48
 go_wp2;go_loopw [1,5] (fun x i wr=>∃ m:Nat,m<=n/\i=qI m/\x=qI ((k+upS (fun j=>aZ (hs.getD j zHd)) m:Nat):Int)/\∃ L',Mkg w wr base Q (qS (qP g) n cap) hs L' β k m) (fun _ i _=>n-(intOf i).toNat)
 .exact ⟨0,xC _,rfl,rfl,L,HH.o.1,HH.o.2,fun i hi=>absurd hi (Nat.not_lt_zero _),Turn.refl _ _⟩
 .obtain ⟨m,hm,rfl,rfl,L',R⟩:=hrel;by_cases hlt:m<n
  .have hlt':(m:Int)<(n:Int):=by omega
   obtain ⟨c,hc⟩:=aOc R.h (show m<hs.length by omega);have y7:=hb m hlt;have hle:aZ (hs.getD m zHd)+upS (fun j=>aZ (hs.getD j zHd)) m<=upS (fun j=>aZ (hs.getD j zHd)) n:=yZ (fun j=>aZ (hs.getD j zHd)) n m hlt;have HSU:Zh (upS (fun j=>aZ (hs.getD j zHd)) (m+1)=upS (fun j=>aZ (hs.getD j zHd)) m+aZ (hs.getD m zHd)):=rfl;have HSH:=zh (hsh m hlt);have HCN:Zh (aZ (hs.getD m zHd)=2+(hs.getD m zHd).tn+bJ (hs.getD m zHd).f (hs.getD m zHd).bn+(hs.getD m zHd).dn+(hs.getD m zHd).rn+(hs.getD m zHd).im+3*(hs.getD m zHd).en):=rfl;have HX:Zh (Mkm w wr base Q g n cap hs L' β k m (hs.getD m zHd) c):=zh ⟨R.o,R.h,R.d,R.t,hc⟩;have HLN:Zh (∀ (L:List (Hd×Ct)),L.map (fun x=>x.1)=hs->L.length=n):=fun L h=>by rw [<- hsl,<- h,xH]
   have HFI:=zh (fun (W:qw) (L2:List (Hd×Ct)) (c2:Ct) (Z:Mkm w W base Q g n cap hs L2 β k m (hs.getD m zHd) c2) (e:c2=mkC (hs.getD m zHd) (k+upS (fun j=>aZ (hs.getD j zHd)) m))=>(⟨Z.o,Z.h,fun i hi=>by
    by_cases q:i=m
    .subst q;rw [Z.x,e]
    .exact Z.d i (by omega),Z.t⟩:Mkg w W base Q (qS (qP g) n cap) hs L2 β k (m+1)))
   have HMK:Zh (mkC (hs.getD m zHd) (k+upS (fun j=>aZ (hs.getD j zHd)) m)=mkC (hs.getD m zHd) (k+upS (fun j=>aZ (hs.getD j zHd)) m)):=rfl;clear R hc hsh HH;generalize upS (fun j=>aZ (hs.getD j zHd)) m=sm at *;generalize hs.getD m zHd=q at *;have hC:=HCN.o;clear HMK HCN;generalize hsb:bJ q.f q.bn=sb at *;have HSB:=zh hsb;generalize aZ q=cm at *;obtain ⟨nm,T,X,D,s,R,I,E⟩:=c;go_wp2_with fail
   refine (dL (k+sm) wr).mono ?_;rintro e w1 ⟨rfl,hb1⟩;have Z1:=HX.o.bw hb1;obtain ⟨⟨p0,p1,p2,p3,p4,p5,p6,p7⟩,pf⟩:=Z1.o.at Z1.x;have f0:=pf (m*8);have Z2:=Z1.cell (c':=⟨mtx (k+sm),T,X,D,s,R,I,E⟩) (HLN.o _ Z1.h) 0 (by omega) (.string (mtx (k+sm))) rfl (Z1.o.m m _ Z1.x).1 hg;simp only [Nat.add_zero] at Z2;clear HX Z1 hb1 p1 p2 p3 p4 p5 p6 p7 pf hsb;obtain ⟨⟨_,q1,_⟩,_⟩:=Z2.o.at Z2.x;go_wp2_with fail
   refine (fT q.a1 q.tn q.c1 (β m) _ (k+sm+1) _ (Z2.o.m m _ Z2.x).1.t).mono ?_;rintro e w2 ⟨rfl,O,U⟩;have Z3:=Z2.mod (c':=⟨mtx (k+sm),bE (k+sm+1) q.tn,X,D,s,R,I,E⟩) ((Z2.o.m m _ Z2.x).1.set_t O U) rfl (fun j s=>.inl s) HSH.o U;clear Z2 O U q1 p0 f0;obtain ⟨⟨_,_,q2,_⟩,_⟩:=Z3.o.at Z3.x;go_wp2_with fail
   refine (vR q.a2 q.bn q.c2 (k+sm+1+q.tn) (β m) q.f _ _ (Z3.o.m m _ Z3.x).1.b (by omega) (by rw [HSB.o];omega) (by omega)).mono ?_;rw [HSB.o];rintro e w3 ⟨rfl,O,U⟩;have Z4:=Z3.mod (c':=⟨mtx (k+sm),bE (k+sm+1) q.tn,mrk (k+sm+1+q.tn) q.f,D,s,R,I,E⟩) ((Z3.o.m m _ Z3.x).1.set_b O U) rfl (fun j s=>.inr (.inl s)) HSH.o U;clear Z3 O U q2;obtain ⟨⟨_,_,_,q3,_⟩,_⟩:=Z4.o.at Z4.x;go_wp2_with fail
   refine (eP q.a3 q.dn q.c3 (β m) _ (k+sm+1+q.tn+sb) _ (Z4.o.m m _ Z4.x).1.d).mono ?_;rintro e w4 ⟨rfl,O,U⟩;have Z5:=Z4.mod (c':=⟨mtx (k+sm),bE (k+sm+1) q.tn,mrk (k+sm+1+q.tn) q.f,cI (k+sm+1+q.tn+sb) q.dn,s,R,I,E⟩) ((Z4.o.m m _ Z4.x).1.set_d O U) rfl (fun j s=>.inr (.inr (.inl s))) HSH.o U;clear Z4 O U q3;obtain ⟨⟨_,_,_,_,q4,_⟩,qf⟩:=Z5.o.at Z5.x;have f4:=qf (m*8+4);have Z6:=Z5.cell (c':=⟨mtx (k+sm),bE (k+sm+1) q.tn,mrk (k+sm+1+q.tn) q.f,cI (k+sm+1+q.tn+sb) q.dn,((k+sm+1+q.tn+sb+q.dn:Nat):Int),R,I,E⟩) (HLN.o _ Z5.h) 4 (by omega) (qI ((k+sm+1+q.tn+sb+q.dn:Nat):Int)) rfl (Z5.o.m m _ Z5.x).1 hg;clear Z5 qf;obtain ⟨⟨_,_,_,_,_,q5,_⟩,_⟩:=Z6.o.at Z6.x;go_wp2_with fail
   refine (fT q.a5 q.rn q.c5 (β m) _ (k+sm+1+q.tn+sb+q.dn+1) _ (Z6.o.m m _ Z6.x).1.r).mono ?_;rintro e w5 ⟨rfl,O,U⟩;have Z7:=Z6.mod (c':=⟨mtx (k+sm),bE (k+sm+1) q.tn,mrk (k+sm+1+q.tn) q.f,cI (k+sm+1+q.tn+sb) q.dn,((k+sm+1+q.tn+sb+q.dn:Nat):Int),bE (k+sm+1+q.tn+sb+q.dn+1) q.rn,I,E⟩) ((Z6.o.m m _ Z6.x).1.set_r O U) rfl (fun j s=>.inr (.inr (.inr (.inl s)))) HSH.o U;clear Z6 O U q5 q4 f4;obtain ⟨⟨_,_,_,_,_,_,q6,_⟩,_⟩:=Z7.o.at Z7.x;go_wp2_with fail
   refine (pR q.a6 q.im q.c6 (β m) _ (k+sm+1+q.tn+sb+q.dn+1+q.rn) _ (Z7.o.m m _ Z7.x).1.i (by omega) (by omega) (by omega)).mono ?_;rintro e w6 ⟨rfl,O,U⟩;have Z8:=Z7.mod (c':=⟨mtx (k+sm),bE (k+sm+1) q.tn,mrk (k+sm+1+q.tn) q.f,cI (k+sm+1+q.tn+sb) q.dn,((k+sm+1+q.tn+sb+q.dn:Nat):Int),bE (k+sm+1+q.tn+sb+q.dn+1) q.rn,fK (k+sm+1+q.tn+sb+q.dn+1+q.rn) q.im,E⟩) ((Z7.o.m m _ Z7.x).1.set_i O U) rfl (fun j s=>.inr (.inr (.inr (.inr (.inl s))))) HSH.o U;clear Z7 O U q6;obtain ⟨⟨_,_,_,_,_,_,_,q7⟩,_⟩:=Z8.o.at Z8.x;go_wp2_with fail
   refine (pW q.a7 q.en q.c7 (β m) _ (k+sm+1+q.tn+sb+q.dn+1+q.rn+q.im) _ (Z8.o.m m _ Z8.x).1.e (by omega) (by omega) (by omega)).mono ?_;rintro e w7 ⟨rfl,O,U⟩;have Z9:=zh (Z8.mod (c':=⟨mtx (k+sm),bE (k+sm+1) q.tn,mrk (k+sm+1+q.tn) q.f,cI (k+sm+1+q.tn+sb) q.dn,((k+sm+1+q.tn+sb+q.dn:Nat):Int),bE (k+sm+1+q.tn+sb+q.dn+1) q.rn,fK (k+sm+1+q.tn+sb+q.dn+1+q.rn) q.im,gF (k+sm+1+q.tn+sb+q.dn+1+q.rn+q.im) q.en⟩) ((Z8.o.m m _ Z8.x).1.set_e O U) rfl (fun j s=>.inr (.inr (.inr (.inr (.inr s))))) HSH.o U);clear Z8 O U q7;go_wp2
   go_roundw
   .exact ⟨m+1,by omega,by go_num,by rw [HSU.o];go_num,_,HFI.o _ _ _ Z9.o (by unfold mkC;rw [HSB.o])⟩
   .simp [intOf];omega
  .have e:Zh (m=n):=by show m=n;omega
   have HX:=zh R;clear R HH;go_wp2;go_ret;exact ⟨aH (by rw [e.o]),L',by have:=HX.o;rw [e.o] at this;exact this⟩
theorem oM (g n cap base k:Nat)(hs:List Hd)(L:List (Hd×Ct))(β:Nat->Nat)(w:qw)(H:OMs w base (qS (qP g) n cap) L β)(hd:∀ i,i<n->L[i]?=some (hs.getD i zHd,mkC (hs.getD i zHd) (k+upS (fun j=>aZ (hs.getD j zHd)) i)))(h0:0<k)(hz:k+upS (fun j=>aZ (hs.getD j zHd)) n<=4194305)(hb:∀ i,i<n->(hs.getD i zHd).bn<=1048576)(hn:n<=1048576):
 qC 53 #[qS (qP g) n cap,qI k] w fun e w'=>e=.returned (qI ((k+upS (fun j=>aZ (hs.getD j zHd)) n:Nat):Int))/\qY w w':=by
 go_enter func53,ntmps53
 go_wp2;go_loopw [1,5] (fun x i wr=>∃ m:Nat,m<=n/\i=qI m/\x=qI ((k+upS (fun j=>aZ (hs.getD j zHd)) m:Nat):Int)/\qY w wr) (fun _ i _=>n-(intOf i).toNat)
 .exact ⟨0,xC _,rfl,rfl,brf⟩
 .obtain ⟨m,hm,rfl,rfl,B⟩:=hrel;by_cases hlt:m<n
  .have hlt':(m:Int)<(n:Int):=by omega
   have y7:=hb m hlt;have hle:aZ (hs.getD m zHd)+upS (fun j=>aZ (hs.getD j zHd)) m<=upS (fun j=>aZ (hs.getD j zHd)) n:=yZ (fun j=>aZ (hs.getD j zHd)) n m hlt;have HSU:Zh (upS (fun j=>aZ (hs.getD j zHd)) (m+1)=upS (fun j=>aZ (hs.getD j zHd)) m+aZ (hs.getD m zHd)):=rfl;have HCN:Zh (aZ (hs.getD m zHd)=2+(hs.getD m zHd).tn+bJ (hs.getD m zHd).f (hs.getD m zHd).bn+(hs.getD m zHd).dn+(hs.getD m zHd).rn+(hs.getD m zHd).im+3*(hs.getD m zHd).en):=rfl;have HZ:=zh (fun (X:qw) (hX:qY w X)=>xA ((H.bw hX).at (hd m hlt)) ((H.bw hX).m m _ (hd m hlt)).1);generalize upS (fun j=>aZ (hs.getD j zHd)) m=sm at *;generalize hs.getD m zHd=q at *;unfold mkC at HZ;have hC:=HCN.o;clear HCN;generalize hsb:bJ q.f q.bn=sb at *;have HSB:=zh hsb;generalize aZ q=cm at *;have HB:=zh B;clear B hsb hd;dsimp only at HZ;obtain ⟨⟨p0,_⟩,_⟩:=(HZ.o wr HB.o).1;have HT:=zh (fun W=>dL (k+sm) W);obtain ⟨s,hs⟩:=eqx (mtx (k+sm));rw [<- hs] at HT HZ p0;clear hs;have hne:(s.toList !=s.toList)=false:=by simp
   go_wp2_with fail
   go_region_held3 (fun w'=>w'.cell? (qR g (m*8))=some (.string s)) (go_keep) (first
    | (go_at_call 103;refine (HT.o _).mono ?_;rintro e w1 ⟨rfl,hb⟩;replace hb:=HB.o.trans ((dG hb).mono HB.o.size);have c1:=(HZ.o w1 hb).1.1.1;have HB1:=zh hb;clear hb))
   clear p0 HB HT c1;obtain ⟨⟨_,q1,q2,q3,q4,q5,q6,q7⟩,_⟩:=(HZ.o w1 HB1.o).1;have M1:=(HZ.o w1 HB1.o).2;have n1:¬ (((k+sm+1+q.tn:Nat):Int)<0):=by omega
   have n2:¬ (((k+sm+1+q.tn+sb:Nat):Int)<0):=by omega
   have n3:¬ (((k+sm+1+q.tn+sb+q.dn:Nat):Int)<0):=by omega
   have n5:¬ (((k+sm+1+q.tn+sb+q.dn+1+q.rn:Nat):Int)<0):=by omega
   have n6:¬ (((k+sm+1+q.tn+sb+q.dn+1+q.rn+q.im:Nat):Int)<0):=by omega
   have n7:¬ (((k+sm+1+q.tn+sb+q.dn+1+q.rn+q.im+3*q.en:Nat):Int)<0):=by omega
   have H1:=zh (fW q.a1 q.tn q.c1 (k+sm+1) w1 M1.t.is);go_wp2_with fail
   refine H1.o.mono ?_;rintro e w2 ⟨rfl,rfl⟩;have H2:=zh (wD q.a2 q.bn q.c2 (k+sm+1+q.tn) (β m) q.f w1 M1.b (by omega) (by rw [HSB.o];omega) (by omega));rw [HSB.o] at H2;have H3:=zh (eU q.a3 q.dn q.c3 (k+sm+1+q.tn+sb) w1 M1.d.bs);have H5:=zh (fW q.a5 q.rn q.c5 (k+sm+1+q.tn+sb+q.dn+1) w1 M1.r.is);have H6:=zh (pY q.a6 q.im q.c6 (β m) (k+sm+1+q.tn+sb+q.dn+1+q.rn) w1 M1.i (by omega) (by omega) (by omega));clear H1 M1;go_wp2_with fail
   refine H2.o.mono ?_;rintro e w2 ⟨rfl,rfl⟩;go_wp2_with fail
   refine H3.o.mono ?_;rintro e w2 ⟨rfl,rfl⟩;go_wp2_with fail
   refine H5.o.mono ?_;rintro e w2 ⟨rfl,rfl⟩;go_wp2_with fail
   refine H6.o.mono ?_;rintro e w2 ⟨rfl,hb⟩;have HB2:=zh (HB1.o.trans (hb.mono HB1.o.size));have H7:=zh (qE q.a7 q.en q.c7 (β m) (k+sm+1+q.tn+sb+q.dn+1+q.rn+q.im) w2 (HZ.o w2 HB2.o).2.e (by omega) (by omega) (by omega));clear H2 H3 H5 H6 hb q1 q2 q3 q4 q5 q6 q7;obtain ⟨⟨_,q1,q2,q3,q4,q5,q6,q7⟩,_⟩:=(HZ.o w2 HB2.o).1;go_wp2_with fail
   refine H7.o.mono ?_;rintro e w4 ⟨rfl,hb⟩;have HB4:=zh (HB2.o.trans (hb.mono HB2.o.size));clear hb H7 q1 q2 q3 q4 q5 q6 q7 HB1 HB2;go_wp2
   go_roundw
   .exact ⟨m+1,by omega,by go_num,by rw [HSU.o];go_num,HB4.o⟩
   .simp [intOf];omega
  .have e:Zh (m=n):=by show m=n;omega
   have HX:=zh B;clear B;go_wp2;go_ret;exact ⟨aH (by rw [e.o]),HX.o⟩
theorem oD (a:qO)(cap k:Nat)(w:qw):
 qC 48 #[qS a 0 cap,qI k] w fun e w'=>e=.returned (qI (k:Nat))/\w=w':=by
 go_enter func48,ntmps48
 go_wp2;go_loopw [1,5] (fun x i wr=>x=qI (k:Nat)/\i=qI 0/\w=wr) (fun _ _ _=>0)
 .exact ⟨rfl,rfl,rfl⟩
 .obtain ⟨rfl,rfl,rfl⟩:=hrel;go_wp2;go_ret;exact ⟨rfl,rfl⟩
theorem oL (a:qO)(cap k:Nat)(w:qw):
 qC 53 #[qS a 0 cap,qI k] w fun e w'=>e=.returned (qI (k:Nat))/\w=w':=by
 go_enter func53,ntmps53
 go_wp2;go_loopw [1,5] (fun x i wr=>x=qI (k:Nat)/\i=qI 0/\w=wr) (fun _ _ _=>0)
 .exact ⟨rfl,rfl,rfl⟩
 .obtain ⟨rfl,rfl,rfl⟩:=hrel;go_wp2;go_ret;exact ⟨rfl,rfl⟩
theorem aPd {W:qw}{L:Lay}(hp:OPl W base base (qS a0 xs.length c0) xs)(hps:xs.map (fun x=>x.1)=L.places)(hs:OG 3 1 clI W base (qS a2 L.slots.length c2) L.slots)(ht:OTg W base base (qS a5 ts.length c5) ts)(htt:ts.map (fun x=>x.1)=L.targets)(R:LayR L)(hv:wfi L.stack/\wfi L.flash/\wfi L.ram):LyT W L a0 c0 xs a2 c2 a5 c5 ts where
 p:=by
  obtain ⟨_,h2,h3,h4⟩:=aT hp.head;refine ⟨rfl,by omega,fun hn=>?_,fun i hi=>?_,by omega⟩
  .obtain ⟨g,hg,_⟩:=h4 hn;refine ⟨g,0,hg,fun i hi=>?_⟩;obtain ⟨g',hg',q1,q2,q3,q4,_⟩:=aJ1 hp i hi;rw [hg] at hg';simp at hg';subst hg';simp only [Nat.zero_add];exact ⟨q1,q2,q3,q4⟩
  .obtain ⟨_,_,_,_,_,_,o⟩:=aJ1 hp i hi;exact aCo o (R.p _ (by rw [<- hps];exact List.mem_map.2 ⟨xs.getD i zPB,by simp [xB,hi],rfl⟩))
 ps:=hps
 s:=aCo hs R.s
 t:=by
  obtain ⟨_,h2,h3,h4⟩:=aT ht.head;refine ⟨rfl,by omega,fun hn=>?_,fun i hi=>?_,by omega⟩
  .obtain ⟨g,hg,_⟩:=h4 hn;refine ⟨g,0,hg,fun i hi=>?_⟩;obtain ⟨g',hg',q1,_⟩:=aJx ht i hi;rw [hg] at hg';simp at hg';subst hg';simp only [Nat.zero_add];exact q1
  .obtain ⟨_,_,_,o⟩:=aJx ht i hi;obtain ⟨k1,k2,k3,k4⟩:=aT o;refine ⟨k1,by omega,fun hn=>?_,by omega⟩;obtain ⟨g,hg,_⟩:=k4 hn;refine ⟨g,0,hg,fun j hj=>?_⟩;obtain ⟨g',hg',u0,u1,u2⟩:=aO6 o j hj;rw [hg] at hg';simp at hg';subst hg';simp only [Nat.zero_add];exact ⟨u0,u1,u2⟩
 tt:=htt
 v:=hv
theorem LayO.lyt {W:qw}{L:Lay}(h:LayO W base L a0 c0 xs a2 c2 a5 c5 ts)(R:LayR L)(hv:wfi L.stack/\wfi L.flash/\wfi L.ram):LyT W L a0 c0 xs a2 c2 a5 c5 ts:=aPd h.p h.ps h.s h.t h.tt R hv
theorem aQa {ps:List PMod}{s w k d:Int}(h:lkc ps s w k d=0):wfi (lay ps s w k).stack/\wfi (lay ps s w k).flash/\wfi (lay ps s w k).ram:=by
 obtain ⟨hc,h1,h2,hv,_⟩:=fY h;unfold cfo at hc;simp at hc;obtain ⟨c1,c2,c3,c4,c5,c6,_⟩:=hc;have a1:=bO hv ps.length aN;have a2:=cM hv ps.length aN;have a4:=aQ (x:=4*w);have a5:(0:Int)<=(s.toNat:Int)*rnd (4*w):=Int.mul_nonneg (by omega) (by omega);have a6:(s.toNat:Int)*rnd (4*w)<=4*287:=Int.mul_le_mul (by omega) (by omega) (by omega) (by omega);simp only [lay];unfold wfi;omega
theorem aGk (ps:List PMod)(s w k d:Int):wfi (lkL ps s w k d).stack/\wfi (lkL ps s w k d).flash/\wfi (lkL ps s w k d).ram:=by
 unfold lkL;by_cases h:lkc ps s w k d=0
 .rw [if_pos h];exact aQa h
 .rw [if_neg h];unfold L0 wfi;simp
theorem aAy (a:qO)(n cap:Nat)(ms:List Md)(L:Lay)(a0:qO)(c0:Nat)(xs:List PB)(a2:qO)(c2:Nat)(a5:qO)(c5:Nat)(ts:List TB)(w:qw)(h:MSD w a n cap ms)(hL:LyT w L a0 c0 xs a2 c2 a5 c5 ts):
 qC 216 #[qS a n cap,.agg (qJ L a0 xs c0 a2 c2 a5 ts c5)] w fun e w'=>e=.returned (.bool (decide (Lok (aD ms) L)))/\qY w w':=by
 obtain ⟨r,hr⟩:=eqx (decide (Lok (aD ms) L));rw [<- hr];replace hr:r=true ↔ Lok (aD ms) L:=by rw [hr];simp
 unfold Lok at hr;have HLB:=zh (rI (aD ms) (L.slots.length:Int) (cfW L) (cfK L) 0);have HLV:=zh (aGk (aD ms) (L.slots.length:Int) (cfW L) (cfK L) 0)
 have HIM:=zh (fun (W:qw) (hb:qY w W)=>by
  have:=yP a n cap ms (L.slots.length:Int) (cfW L) (cfK L) 0 W (h.bw hb);unfold LkM mG at this
  exact this)
 generalize lkL (aD ms) (L.slots.length:Int) (cfW L) (cfK L) 0=LY at *;generalize lkc (aD ms) (L.slots.length:Int) (cfW L) (cfK L) 0=C at *;have HR:=zh hr;have HCF:=zh (fun (W:qw) (hb:qY w W)=>aBj L a0 c0 xs a2 c2 a5 c5 ts W (hL.bw hb));have B0:qY w (w.alloc (.cells (qJ L a0 xs c0 a2 c2 a5 ts c5) 71)):=bal;have k0:=Blk.new w (qJ L a0 xs c0 a2 c2 a5 ts c5) 71;have HL:=zh hL;clear h hL hr;go_enter func216,ntmps216
 go_wp2_with fail
 refine (HCF.o _ B0).mono ?_;rintro e w1 ⟨rfl,hb1⟩;have B1:=B0.trans (hb1.mono B0.size);have k1:=k0.bw hb1;clear hb1 B0 k0;go_wp2_with fail
 refine (HIM.o _ B1).mono ?_;rintro e w2 ⟨hb2,b0,d0,ys,b2,d2,b5,d5,us,rfl,O2⟩;have hA:qY w2 (w2.alloc (.cells (qL LY b0 ys.length d0 b2 LY.slots.length d2 b5 us.length d5) 71)):=bal;have kt:=Blk.new w2 (qL LY b0 ys.length d0 b2 LY.slots.length d2 b5 us.length d5) 71;have B2:=B1.trans (hb2.mono B1.size);have B3:=B2.trans (hA.mono B2.size);have k3:=(k1.bw hb2).bw hA;have O3:=O2.below' hA;have HSM:=zh (rY LY b0 d0 ys b2 d2 b5 d5 us L a0 c0 xs a2 c2 a5 c5 ts _ (O3.lyt HLB.o.r HLV.o) (HL.o.bw B3));have HB3:=zh B3;obtain ⟨p0,p1,p2,p3,p4,p5⟩:=k3.ly6;obtain ⟨q0,q1,q2,q3,q4,q5⟩:=kt.ly6;clear hb2 O2 O3 hA B1 B2 B3 k1 k3 kt;by_cases hC:C=0
 .have g:(C==0)=true:=by simpa using hC
  have HV:=zh (show decide (LY=L)=r by rw [xJ,HR.o];simp [hC]);rw [HV.o] at HSM;clear hC HR;go_wp2_with fail
  refine HSM.o.mono ?_;rintro e w4 ⟨rfl,hb4⟩;have HB4:=zh (HB3.o.trans (hb4.mono HB3.o.size));clear hb4;cases r
  all_goals
   go_wp2;go_ret;exact ⟨rfl,HB4.o⟩
 .have g:(C==0)=false:=by simpa using hC
  have HV:=zh (show r=false by cases r;rfl;exact absurd (HR.o.1 rfl).1 hC);clear hC HR;go_wp2;go_ret;exact ⟨aA HV.o.symm,HB3.o⟩
theorem zQ (L:Lay)(a0:qO)(c0:Nat)(xs:List PB)(a2:qO)(c2:Nat)(a5:qO)(c5:Nat)(ts:List TB)(w:qw)(h:LyT w L a0 c0 xs a2 c2 a5 c5 ts):
 qC 67 #[.agg (qL L a0 xs.length c0 a2 L.slots.length c2 a5 ts.length c5)] w (qB w (qI (dA L))):=by
 have HB:Zh (qY w (w.alloc (.cells (qL L a0 xs.length c0 a2 L.slots.length c2 a5 ts.length c5) 71))):=brf.alloc aN _;have hs:=h.s.bw HB.o;have hmx:=h.s.2.1;unfold maxLen at hmx;unfold dA;by_cases c:L.slots=[]
 .rw [if_pos c];have hl:L.slots.length=0:=by rw [c];rfl
  rw [hl];rw [hl] at HB;go_enter func67,ntmps67
  go_wp2;go_ret;exact ⟨rfl,HB.o⟩
 .rw [if_neg c];have hl:0<L.slots.length:=List.length_pos_iff.2 c;have hl':(0:Int)<(L.slots.length:Int):=by omega
  obtain ⟨b,off,rfl,hc⟩:=hs.2.2.2.1 (by omega);have q:=hc 0 hl;rw [Nat.add_zero] at q;generalize L.slots.length=n at *;generalize L.slots.getD 0 0=z at *;clear hs hc c;go_enter func67,ntmps67
  go_wp2;go_ret;exact ⟨rfl,HB.o⟩
def pcm (ms:List Md)(m b:Int):Int:=if 0<=m/\m<(ms.length:Int) then pcn (ms.getD m.toNat aK).tn (ms.getD m.toNat aK).bn (ms.getD m.toNat aK).bl b else -1
theorem gS (a:qO)(n cap:Nat)(ms:List Md)(m b:Int)(w:qw)(h:MS w a n cap ms):
 qC 80 #[qS a n cap,qI m,qI b] w (qB w (.bool (decide (0<=pcm ms m b)))):=by
 have hn:=h.1;have hm:=h.2.1;unfold maxLen at hm;have HB:=zh (Below.refl w.heap.size w);by_cases c1:m<0
 .have HP:=zh (show decide (0<=pcm ms m b)=false by unfold pcm;rw [if_neg (by omega)];rfl);rw [HP.o];clear hn;go_enter func80,ntmps80
  go_wp2;go_ret;exact ⟨rfl,HB.o⟩
 .by_cases c2:(n:Int)<=m
  .have HP:=zh (show decide (0<=pcm ms m b)=false by unfold pcm;rw [if_neg (by omega)];rfl);rw [HP.o];clear hn;go_enter func80,ntmps80
   go_wp2;go_ret;exact ⟨rfl,HB.o⟩
  .have HP:=zh (show pcm ms m b=pcn (ms.getD m.toNat aK).tn (ms.getD m.toNat aK).bn (ms.getD m.toNat aK).bl b by unfold pcm;rw [if_pos (by omega)]);rw [HP.o];clear HP;obtain ⟨g,off,rfl,q0,q1,q2,q3,q4,q5,q6,q7⟩:=h.at m.toNat (by omega);have hmt:=h.2.2.2.1 m.toNat (by omega);generalize ms.getD m.toNat aK=M at *;have HC:=zh (gT M.nm M.ta M.tn M.tc M.ba M.bn M.bc M.bl (qS M.da M.dn M.dc) (qS M.ra M.rn M.rc) (qS M.ia M.im M.ic) (qS M.ea M.en M.ec) M.bss b w hmt.t.2.1 hmt.b);have c1':0<=m:=by omega
   have c2':m<(n:Int):=by omega
   clear hn hmt h;go_enter func80,ntmps80
   go_wp2_with fail
   refine HC.o.mono ?_;rintro e w' ⟨xa,xn,xc,ok,rfl,ho,_,_,hB⟩;have HO:=zh ho;clear ho;go_wp2;go_ret;exact ⟨aA HO.o,hB⟩
theorem kP (a:qO)(n cap:Nat)(ms:List Md)(m b:Int)(w:qw)(h:MS w a n cap ms):
 qC 174 #[qS a n cap,qI m,qI b] w (qB w (.bool (decide (0<=pcm ms m b)))):=by
 have hn:=h.1;have hm:=h.2.1;unfold maxLen at hm;have HB:=zh (Below.refl w.heap.size w);by_cases c1:m<0
 .have HP:=zh (show decide (0<=pcm ms m b)=false by unfold pcm;rw [if_neg (by omega)];rfl);rw [HP.o];clear hn;have HU:=zh (cY m ((n:Int)-1));go_enter func174,ntmps174
  go_wp2_with (go_at_call 155;refine (HU.o _).mono ?_;rintro e w2 ⟨rfl,rfl⟩;rw [xS (by omega)])
  go_ret;exact ⟨rfl,HB.o⟩
 .by_cases c2:(n:Int)<=m
  .have HP:=zh (show decide (0<=pcm ms m b)=false by unfold pcm;rw [if_neg (by omega)];rfl);rw [HP.o];clear hn;have HU:=zh (cY m ((n:Int)-1));go_enter func174,ntmps174
   go_wp2_with (go_at_call 155;refine (HU.o _).mono ?_;rintro e w2 ⟨rfl,rfl⟩;rw [xS (by omega)])
   go_ret;exact ⟨rfl,HB.o⟩
  .have HP:=zh (show pcm ms m b=pcn (ms.getD m.toNat aK).tn (ms.getD m.toNat aK).bn (ms.getD m.toNat aK).bl b by unfold pcm;rw [if_pos (by omega)]);rw [HP.o];clear HP;obtain ⟨g,off,rfl,q0,q1,q2,q3,q4,q5,q6,q7⟩:=h.at m.toNat (by omega);have hmt:=h.2.2.2.1 m.toNat (by omega);generalize ms.getD m.toNat aK=M at *;have HC:=zh (gQ M.nm M.ta M.tn M.tc M.ba M.bn M.bc M.bl (qS M.da M.dn M.dc) (qS M.ra M.rn M.rc) (qS M.ia M.im M.ic) (qS M.ea M.en M.ec) M.bss b w hmt.t.2.1 hmt.b);have c1':0<=m:=by omega
   have c2':m<(n:Int):=by omega
   clear hn hmt h;have HU:=zh (cY m ((n:Int)-1));go_enter func174,ntmps174
   go_wp2_with (go_at_call 155;refine (HU.o _).mono ?_;rintro e w2 ⟨rfl,rfl⟩;rw [xR (by omega)])
   refine HC.o.mono ?_;rintro e w' ⟨xa,xn,xc,ok,rfl,ho,_,_,hB⟩;have HO:=zh ho;clear ho;go_wp2;go_ret;exact ⟨aA HO.o,hB⟩
