import Derived.Test.YtncccmeomcaabaaGreatC11
set_option linter.all false
set_option maxHeartbeats 16000000
namespace Go.Proofs.YtncccmeomcaabaaGreat
open Go.RowKit Classical
open Go.Proofs.Tryz
set_option maxRecDepth 100000
variable {M:Mn}{R:World->Prop}{T x1 x2 x3:Int}{arg cr cs:Array Value}{base c g g0 g1 g2 g3 g4 g5 g6 i k n:Nat}{ms':List Md}{ps:List PMod}{xs:List SlT}
theorem qH (a:qO)(n cap base k:Nat)(Q:Nat->Prop)(hs:List Hd)(L:List (Hd×Ct))(β:Nat->Nat)(w:qw)(H:OMs w base (qS a n cap) L β)(hL:L.map (fun x=>x.1)=hs)(hl:L.length=n)(h0:0<k)(hz:k+upS (fun j=>aY (hs.getD j zHd)) n<=4194305)(hb:∀ i,i<n->(hs.getD i zHd).bn<=1048576)(hn:n<=1048576)(hg:∀ j,(qS a n cap).ownBlock=some j->Q j)(hsh:∀ i,i<n->∀ j,Sh (hs.getD i zHd) j->Q j):
 qC 48 #[qS a n cap,qI k] w fun e w'=>e=.returned (qI ((k+upS (fun j=>aY (hs.getD j zHd)) n:Nat):Int))/\∃ L',Mkg w w' base Q (qS a n cap) hs L' β k n:=by
 by_cases e:n=0
 .subst e;refine (oQ a cap k w).mono fun e w' he=>?_;obtain ⟨rfl,rfl⟩:=he;exact ⟨rfl,L,H,hL,fun i hi=>absurd hi (Nat.not_lt_zero _),Turn.refl _ _⟩
 .obtain ⟨g,rfl⟩:=gQ H.o e;exact oR g n cap base k Q hs L β w H hL hl h0 hz hb hn (hg g rfl) hsh
theorem rE (a:qO)(n cap base k:Nat)(hs:List Hd)(L:List (Hd×Ct))(β:Nat->Nat)(w:qw)(H:OMs w base (qS a n cap) L β)(hd:∀ i,i<n->L[i]?=some (hs.getD i zHd,mkC (hs.getD i zHd) (k+upS (fun j=>aY (hs.getD j zHd)) i)))(h0:0<k)(hz:k+upS (fun j=>aY (hs.getD j zHd)) n<=4194305)(hb:∀ i,i<n->(hs.getD i zHd).bn<=1048576)(hn:n<=1048576):
 qC 53 #[qS a n cap,qI k] w fun e w'=>e=.returned (qI ((k+upS (fun j=>aY (hs.getD j zHd)) n:Nat):Int))/\qY w w':=by
 by_cases e:n=0
 .subst e;refine (oZ a cap k w).mono fun e w' he=>?_;obtain ⟨rfl,rfl⟩:=he;exact ⟨rfl,brf⟩
 .obtain ⟨g,rfl⟩:=gQ H.o e;exact pA g n cap base k hs L β w H hd h0 hz hb hn
theorem qN (M:Mn)(base:Nat)(hs:List Hd)(L:List (Hd×Ct))(β:Nat->Nat)(K F R O:qi)(S:List SlT)(H:List FrT)(w:qw)(h:MnO w base (qS M.ma M.mn M.mc) hs L β (qS M.ka M.kn M.kc) (qS M.fa M.fn M.fc) (qS M.ra M.rn M.rc) (qS M.oa M.on M.oc) (qS M.la M.ln M.lc) (qS M.ha M.hn M.hc) K F R O S H)(hl:L.length=M.mn)(hz:1+upS (fun j=>aY (hs.getD j zHd)) M.mn+M.kn+M.fn+M.rn+M.on+4*M.ln+4*M.hn<=4194305)(hb:∀ i,i<M.mn->(hs.getD i zHd).bn<=1048576)(hn:M.mn<=1048576):
 qC 12 #[.agg (qA M),qI 1] w fun e w'=>e=.returned (qI ((1+upS (fun j=>aY (hs.getD j zHd)) M.mn+M.kn+M.fn+M.rn+M.on+4*M.ln+4*M.hn:Nat):Int))/\(∃ L',MnO w' base (qS M.ma M.mn M.mc) hs L' β (qS M.ka M.kn M.kc) (qS M.fa M.fn M.fc) (qS M.ra M.rn M.rc) (qS M.oa M.on M.oc) (qS M.la M.ln M.lc) (qS M.ha M.hn M.hc) (bG (1+upS (fun j=>aY (hs.getD j zHd)) M.mn) M.kn) (cJ (1+upS (fun j=>aY (hs.getD j zHd)) M.mn+M.kn) M.fn) (cJ (1+upS (fun j=>aY (hs.getD j zHd)) M.mn+M.kn+M.fn) M.rn) (cJ (1+upS (fun j=>aY (hs.getD j zHd)) M.mn+M.kn+M.fn+M.rn) M.on) (lZ (eH (1+upS (fun j=>aY (hs.getD j zHd)) M.mn+M.kn+M.fn+M.rn+M.on)) M.ln) (lZ (dF (1+upS (fun j=>aY (hs.getD j zHd)) M.mn+M.kn+M.fn+M.rn+M.on+4*M.ln)) M.hn)/\∀ i,i<M.mn->L'[i]?=some (hs.getD i zHd,mkC (hs.getD i zHd) (1+upS (fun j=>aY (hs.getD j zHd)) i)))/\Turn (fun j=>(base<=j/\j<w.heap.size)/\∃ cs t,Blk w j cs t/\t≠43) w w':=by
 obtain ⟨V,hV,bV,kV⟩:=nwb w (qA M) 43;have hsl:hs.length=M.mn:=by rw [<- h.e,xH,hl]
 have L0:∀ j,((qS M.ma M.mn M.mc):Value).ownBlock=some j\/ShL hs j->(base<=j/\j<w.heap.size)/\∃ cs t,Blk w j cs t/\t≠43:=fun j s=>by
  rcases s with s|s
  .obtain ⟨cs,k⟩:=aD h.m.o s;exact ⟨h.m.o.lt j s,cs,_,k,by decide⟩
  .obtain ⟨i,x,hx,hj⟩:=aJt h s;obtain ⟨this,cs,t,k,ht⟩:=(h.m.m i x hx).1.sh hj;exact ⟨⟨by have:=h.lo i x hx;omega,by omega⟩,cs,t,k,by rcases ht with rfl|rfl|rfl|rfl<;>decide⟩
 have L1:∀ j,((qS M.ka M.kn M.kc):Value).ownBlock=some j->(base<=j/\j<w.heap.size)/\∃ cs t,Blk w j cs t/\t≠43:=fun j s=>by
  obtain ⟨cs,k⟩:=aD h.k.1 s;exact ⟨h.k.lt j s,cs,_,k,by decide⟩
 have L2:∀ j,rK (qS M.fa M.fn M.fc) (qS M.ra M.rn M.rc) (qS M.oa M.on M.oc) j->(base<=j/\j<w.heap.size)/\∃ cs t,Blk w j cs t/\t≠43:=fun j s=>by
  obtain ⟨cs,k⟩:=eM h.q s;exact ⟨h.q.lt s,cs,_,k,by decide⟩
 have L3:∀ j,((qS M.la M.ln M.lc):Value).ownBlock=some j->(base<=j/\j<w.heap.size)/\∃ cs t,Blk w j cs t/\t≠43:=fun j s=>by
  obtain ⟨cs,k⟩:=aD h.l s;exact ⟨h.l.lt j s,cs,_,k,by decide⟩
 have L4:∀ j,((qS M.ha M.hn M.hc):Value).ownBlock=some j->(base<=j/\j<w.heap.size)/\∃ cs t,Blk w j cs t/\t≠43:=fun j s=>by
  obtain ⟨cs,k⟩:=aD h.h s;exact ⟨h.h.lt j s,cs,_,k,by decide⟩
 have HLT:=zh (xA L0 (xA L1 (xA L2 (xA L3 L4))));have Z0:=h.bw bV;have T0:Turn (fun j=>(base<=j/\j<w.heap.size)/\∃ cs t,Blk w j cs t/\t≠43) w V:=aJ bV;have HV:=zh hV;have HS:=zh hsl;clear hV bV L0 L1 L2 L3 L4 h hsl;generalize hu:upS (fun j=>aY (hs.getD j zHd)) M.mn=u at *;have HU:=zh hu;have C0:=zh (qH M.ma M.mn M.mc base 1 (fun j=>((qS M.ma M.mn M.mc):Value).ownBlock=some j\/ShL hs j) hs L β V Z0.m Z0.e hl (by omega) (by rw [HU.o];omega) hb hn (fun j hj=>.inl hj) (fun i hi j hj=>.inr ⟨i,by rw [HS.o];exact hi,hj⟩));rw [HU.o] at C0;clear hu;obtain ⟨p0,p1,p2,p3,p4,p5,p6,p7,p8,p9,p10,p11,p12,p13,p14⟩:=kV.mc;have HZ:=zh (xA Z0 (xA T0 kV));clear Z0 T0 kV;go_enter func12,ntmps12
 go_wp2_with (rw [<- HV.o])
 refine C0.o.mono ?_;rintro e w1 ⟨rfl,L',G⟩;obtain ⟨Z0,T0,kV⟩:=HZ.o;have Z1:=Z0.mods G.o G.h G.t;have T1:=T0.trans (G.t.mono HLT.o.1);have k1:=aF G.t kV (fun s=>by have:=(HLT.o.1 _ s).1;omega);have HD:=zh G.d;clear p0 p1 p2 p3 p4 p5 p6 p7 p8 p9 p10 p11 p12 p13 p14;obtain ⟨p0,p1,p2,p3,p4,p5,p6,p7,p8,p9,p10,p11,p12,p13,p14⟩:=k1.mc;have C1:=zh (tQ M.pc M.ka M.kn M.kc base _ (1+u) w1 Z1.k (by omega) (by omega));have HZ1:=zh (xA Z1 (xA T1 k1));clear Z0 T0 kV G Z1 T1 k1 HZ C0;go_wp2_with fail
 refine C1.o.mono ?_;rintro e w2 ⟨rfl,O',U⟩;obtain ⟨Z1,T1,k1⟩:=HZ1.o;have Z2:=Z1.core O' U;have T2:=T1.trans (U.mono HLT.o.2.1);have k2:=aF U k1 (fun s=>by have:=(HLT.o.2.1 _ s).1;omega);clear p0 p1 p2 p3 p4 p5 p6 p7 p8 p9 p10 p11 p12 p13 p14;obtain ⟨p0,p1,p2,p3,p4,p5,p6,p7,p8,p9,p10,p11,p12,p13,p14⟩:=k2.mc;have C2:=zh (yT M.fa M.ra M.oa M.fn M.fc M.rn M.rc M.on M.oc base _ _ _ (1+u+M.kn) w2 Z2.q (by omega));have HZ2:=zh (xA Z2 (xA T2 k2));clear Z1 T1 k1 O' U Z2 T2 k2 HZ1 C1;go_wp2_with fail
 refine C2.o.mono ?_;rintro e w3 ⟨rfl,O',U⟩;obtain ⟨Z2,T2,k2⟩:=HZ2.o;have Z3:=Z2.mem O' U;have T3:=T2.trans (U.mono HLT.o.2.2.1);have k3:=aF U k2 (fun s=>by have:=(HLT.o.2.2.1 _ s).1;omega);clear p0 p1 p2 p3 p4 p5 p6 p7 p8 p9 p10 p11 p12 p13 p14;obtain ⟨p0,p1,p2,p3,p4,p5,p6,p7,p8,p9,p10,p11,p12,p13,p14⟩:=k3.mc;have C3:=zh (mG M.la M.ln M.lc base _ (1+u+M.kn+M.fn+M.rn+M.on) w3 Z3.l (by omega) (by omega));have HZ3:=zh (xA Z3 (xA T3 k3));clear Z2 T2 k2 O' U Z3 T3 k3 HZ2 C2;go_wp2_with fail
 refine C3.o.mono ?_;rintro e w4 ⟨rfl,O',U⟩;obtain ⟨Z3,T3,k3⟩:=HZ3.o;have Z4:=Z3.slot O' U;have T4:=T3.trans (U.mono HLT.o.2.2.2.1);have k4:=aF U k3 (fun s=>by have:=(HLT.o.2.2.2.1 _ s).1;omega);clear p0 p1 p2 p3 p4 p5 p6 p7 p8 p9 p10 p11 p12 p13 p14;obtain ⟨p0,p1,p2,p3,p4,p5,p6,p7,p8,p9,p10,p11,p12,p13,p14⟩:=k4.mc;have C4:=zh (kY M.ha M.hn M.hc base _ (1+u+M.kn+M.fn+M.rn+M.on+4*M.ln) w4 Z4.h (by omega) (by omega));have HZ4:=zh (xA Z4 T4);clear Z3 T3 k3 O' U Z4 T4 k4 HZ3 C3;go_wp2_with fail
 refine C4.o.mono ?_;rintro e w5 ⟨rfl,O',U⟩;obtain ⟨Z4,T4⟩:=HZ4.o;have HE:=zh (xA (Z4.frame O' U) (T4.trans (U.mono HLT.o.2.2.2.2)));clear p0 p1 p2 p3 p4 p5 p6 p7 p8 p9 p10 p11 p12 p13 p14 Z4 T4 O' U HZ4 C4;go_wp2;go_ret;exact ⟨by go_num,⟨L',HE.o.1,HD.o⟩,HE.o.2⟩
theorem rG (M:Mn)(base:Nat)(hs:List Hd)(L:List (Hd×Ct))(β:Nat->Nat)(w:qw)(h:MnO w base (qS M.ma M.mn M.mc) hs L β (qS M.ka M.kn M.kc) (qS M.fa M.fn M.fc) (qS M.ra M.rn M.rc) (qS M.oa M.on M.oc) (qS M.la M.ln M.lc) (qS M.ha M.hn M.hc) (bG (1+upS (fun j=>aY (hs.getD j zHd)) M.mn) M.kn) (cJ (1+upS (fun j=>aY (hs.getD j zHd)) M.mn+M.kn) M.fn) (cJ (1+upS (fun j=>aY (hs.getD j zHd)) M.mn+M.kn+M.fn) M.rn) (cJ (1+upS (fun j=>aY (hs.getD j zHd)) M.mn+M.kn+M.fn+M.rn) M.on) (lZ (eH (1+upS (fun j=>aY (hs.getD j zHd)) M.mn+M.kn+M.fn+M.rn+M.on)) M.ln) (lZ (dF (1+upS (fun j=>aY (hs.getD j zHd)) M.mn+M.kn+M.fn+M.rn+M.on+4*M.ln)) M.hn))(hd:∀ i,i<M.mn->L[i]?=some (hs.getD i zHd,mkC (hs.getD i zHd) (1+upS (fun j=>aY (hs.getD j zHd)) i)))(hz:1+upS (fun j=>aY (hs.getD j zHd)) M.mn+M.kn+M.fn+M.rn+M.on+4*M.ln+4*M.hn<=4194305)(hb:∀ i,i<M.mn->(hs.getD i zHd).bn<=1048576)(hn:M.mn<=1048576):
 qC 13 #[.agg (qA M),qI 1] w fun e w'=>e=.returned (qI ((1+upS (fun j=>aY (hs.getD j zHd)) M.mn+M.kn+M.fn+M.rn+M.on+4*M.ln+4*M.hn:Nat):Int))/\qY w w':=by
 obtain ⟨V,hV,bV,kV⟩:=nwb w (qA M) 43;have HK:=zh (fun (X:qw) (hX:qY V X)=>(kV.bw hX).mc);have HZ:=zh (fun (X:qw) (hX:qY V X)=>(h.bw bV).bw hX);have HB:=zh bV;have HV:=zh hV;clear hV bV;generalize hu:upS (fun j=>aY (hs.getD j zHd)) M.mn=u at *;have C0:=zh (rE M.ma M.mn M.mc base 1 hs L β V (HZ.o V brf).m hd (by omega) (by rw [hu];omega) hb hn);rw [hu] at C0;clear hu kV h hd;have n0:¬ (((1+u:Nat):Int)<0):=by omega
 have n1:¬ (((1+u+M.kn:Nat):Int)<0):=by omega
 have n2:¬ (((1+u+M.kn+M.fn+M.rn+M.on:Nat):Int)<0):=by omega
 have n3:¬ (((1+u+M.kn+M.fn+M.rn+M.on+4*M.ln:Nat):Int)<0):=by omega
 have n4:¬ (((1+u+M.kn+M.fn+M.rn+M.on+4*M.ln+4*M.hn:Nat):Int)<0):=by omega
 obtain ⟨p0,p1,p2,p3,p4,p5,p6,p7,p8,p9,p10,p11,p12,p13,p14⟩:=HK.o V brf;go_enter func13,ntmps13
 go_wp2_with (rw [<- HV.o])
 refine C0.o.mono ?_;rintro e w1 ⟨rfl,b1⟩;have Z1:=HZ.o w1 b1;have C1:=zh (aFn M.pc M.ka M.kn M.kc (1+u) w1 Z1.k.is (by omega) (by omega));clear p0 p1 p2 p3 p4 p5 p6 p7 p8 p9 p10 p11 p12 p13 p14;obtain ⟨p0,p1,p2,p3,p4,p5,p6,p7,p8,p9,p10,p11,p12,p13,p14⟩:=HK.o w1 b1;have HB1:=zh b1;clear Z1 b1 C0;go_wp2_with fail
 refine C1.o.mono ?_;rintro e w2 ⟨rfl,b2⟩;have HB2:=zh (HB1.o.trans (b2.mono HB1.o.size));have Z2:=HZ.o w2 HB2.o;have C2:=zh (aIy M.fa M.ra M.oa M.fn M.fc M.rn M.rc M.on M.oc (1+u+M.kn) w2 Z2.q.o1.bs Z2.q.o2.bs Z2.q.o3.bs (by omega));clear p0 p1 p2 p3 p4 p5 p6 p7 p8 p9 p10 p11 p12 p13 p14;obtain ⟨p0,p1,p2,p3,p4,p5,p6,p7,p8,p9,p10,p11,p12,p13,p14⟩:=HK.o w2 HB2.o;clear Z2 b2 C1 HB1;go_wp2_with fail
 refine C2.o.mono ?_;rintro e w3 ⟨rfl,b3⟩;have HB3:=zh (HB2.o.trans (b3.mono HB2.o.size));have Z3:=HZ.o w3 HB3.o;have C3:=zh (wO M.la M.ln M.lc base (1+u+M.kn+M.fn+M.rn+M.on) w3 Z3.l (by omega) (by omega));have C4:=zh (uF M.ha M.hn M.hc base (1+u+M.kn+M.fn+M.rn+M.on+4*M.ln) w3 Z3.h (by omega) (by omega));clear p0 p1 p2 p3 p4 p5 p6 p7 p8 p9 p10 p11 p12 p13 p14;obtain ⟨p0,p1,p2,p3,p4,p5,p6,p7,p8,p9,p10,p11,p12,p13,p14⟩:=HK.o w3 HB3.o;clear Z3 b3 C2 HB2;go_wp2_with fail
 refine C3.o.mono ?_;rintro e w4 ⟨rfl,rfl⟩;go_wp2_with fail
 refine C4.o.mono ?_;rintro e w4 ⟨rfl,rfl⟩;go_wp2;go_ret;exact ⟨by go_num,HB.o.trans (HB3.o.mono HB.o.size)⟩
theorem aD7 (x0:Bool)(x1 x2 x3:Int)(w:qw):
 qC 88 #[.agg #[.bool x0,qI x1,qI x2,qI x3]] w (qB w (.agg #[.bool x0,qI x1,qI x2,qI x3])):=by
 go_enter func88,ntmps88
 go_wp2;refine bodyPost_ret (v:=.agg #[.bool x0,qI x1,qI x2,qI x3]) (by simp [results,results88,go_sem]) rfl ⟨rfl,?_⟩;exact ((bal.alloc (by simp) _).alloc (by simp;omega) _)
theorem aCa (a:qO)(n cap:Nat)(xs:List SlT)(w:qw)(h:QS bY zSl w a n cap xs)(hn:n<=1048576):
 qC 36 #[qS a n cap] w fun e w'=>e=.returned (qS (qP w.heap.size) n n)/\OG 142 4 bY w' w.heap.size (qS (qP w.heap.size) n n) xs/\qY w w':=by
 obtain ⟨i0,hi,hz0,hz1,hz2⟩:=info_parts aFi;have hl:=h.1;go_enter func36,ntmps36
 go_wp2_with (at_make;refine wpList_make_full _ rfl _ _ 40 rfl w.heap.size 142 i0 (.agg #[.bool false,qI 0,qI 0,qI 0]) 4 underlying40 hi hz0 hz1 .i64 .i64 _ _ n rfl rfl rfl rfl (by rw [hz2];omega) (by unfold maxLen;omega) aN ?_;intro w1 hown hgr)
 have HR0:=zh (xA (yM (f:=bY) zSl (.agg #[.bool false,qI 0,qI 0,qI 0]) rfl rfl hown) (aW hgr));clear hown hgr hi hz0 hz1 hz2;go_loopw [4] (fun i wr=>∃ (m:Nat) (F:Nat->SlT),m<=n/\i=qI m/\RowF 142 4 bY wr w.heap.size n F/\(∀ i,i<m->F i=xs.getD i zSl)/\qY w wr) (qf n)
 .exact ⟨0,_,xC _,rfl,HR0.o.1,fun i hi=>absurd hi (by omega),HR0.o.2⟩
 .obtain ⟨m,F,hm,rfl,R,hF,hB⟩:=hrel;clear HR0;by_cases hlt:m<n
  .have hlt':(m:Int)<(n:Int):=by omega
   obtain ⟨b,off,rfl,y0,y1,y2,y3⟩:=(h.bw hB).at m hlt _ _ _ _ rfl
   have HFIN:=zh (fun (W:qw) (hW:qY wr W)=>show RowF 142 4 bY ((((W.setCell (qR w.heap.size (m*4)) (.bool (xs.getD m zSl).1)).setCell (qR w.heap.size (m*4+1)) (qI (xs.getD m zSl).2.1)).setCell (qR w.heap.size (m*4+2)) (qI (xs.getD m zSl).2.2.1)).setCell (qR w.heap.size (m*4+3)) (qI (xs.getD m zSl).2.2.2)) w.heap.size n (fun i=>if i=m then (xs.getD m zSl) else F i)/\qY w ((((W.setCell (qR w.heap.size (m*4)) (.bool (xs.getD m zSl).1)).setCell (qR w.heap.size (m*4+1)) (qI (xs.getD m zSl).2.1)).setCell (qR w.heap.size (m*4+2)) (qI (xs.getD m zSl).2.2.1)).setCell (qR w.heap.size (m*4+3)) (qI (xs.getD m zSl).2.2.2)) from
    ⟨(R.bw hW).set4 m hlt _ _ _ _ _ rfl,((((hB.trans (hW.mono hB.size)).setCell (p:=(qR w.heap.size (m*4))) aN _).setCell (p:=(qR w.heap.size (m*4+1))) aN _).setCell (p:=(qR w.heap.size (m*4+2))) aN _).setCell (p:=(qR w.heap.size (m*4+3))) aN _⟩)
   have HCE:=zh (fun (W:qw) (hW:qY wr W)=>show (∃ u,W.cell? (qR w.heap.size (m*4))=some u)/\(∃ u,W.cell? (qR w.heap.size (m*4+1))=some u)/\(∃ u,W.cell? (qR w.heap.size (m*4+2))=some u)/\(∃ u,W.cell? (qR w.heap.size (m*4+3))=some u)/\∀ i,W.frozen? (qR w.heap.size i)=false from
    ⟨⟨_,(R.bw hW).cell bO m 0 hlt (by omega) _ rfl⟩,⟨_,(R.bw hW).cell bO m 1 hlt (by omega) _ rfl⟩,⟨_,(R.bw hW).cell bO m 2 hlt (by omega) _ rfl⟩,⟨_,(R.bw hW).cell bO m 3 hlt (by omega) _ rfl⟩,by obtain ⟨cs,hk⟩:=(R.bw hW).blk;exact hk.frozen⟩)
   have HF2:=zh (show ∀ i,i<m+1->(if i=m then (xs.getD m zSl) else F i)=xs.getD i zSl from fun i hi=>by
    by_cases e:i=m
    .rw [if_pos e,e]
    .rw [if_neg e];exact hF i (by omega))
   clear R hB hF;generalize xs.getD m zSl=x at *;obtain ⟨x0,x1,x2,x3⟩:=x;dsimp only at y0 y1 y2 y3;go_wp2_with fail
   refine (aD7 x0 x1 x2 x3 _).mono ?_;rintro e w2 ⟨rfl,hb2⟩;obtain ⟨⟨u0,p0⟩,⟨u1,p1⟩,⟨u2,p2⟩,⟨u3,p3⟩,pf⟩:=HCE.o w2 hb2;have HX:=zh (HFIN.o w2 hb2);clear HFIN HCE y0 y1 y2 y3 hb2;go_wp2
   go_roundw
   .exact ⟨m+1,_,by omega,by go_num,HX.o.1,HF2.o,HX.o.2⟩
   .simp [qf,intOf];omega
  .have e:Zh (m=n):=by show m=n;omega
   have HX:=zh (xA R hB);clear R hB;go_wp2;go_ret;exact ⟨rfl,HX.o.1.og bO (by omega) aN h.2.1 hl zSl (fun i hi=>hF i (by rw [e.o];exact hi)),HX.o.2⟩
theorem aCc (x0:Int)(x1 x2 x3:Int)(w:qw):
 qC 89 #[.agg (qW x0 x1 x2 x3)] w (qB w (.agg (qW x0 x1 x2 x3))):=by
 go_enter func89,ntmps89
 go_wp2;refine bodyPost_ret (v:=.agg (qW x0 x1 x2 x3)) (by simp [results,results89,go_sem]) rfl ⟨rfl,?_⟩;exact ((bal.alloc (by simp) _).alloc (by simp;omega) _)
theorem zY (a:qO)(n cap:Nat)(xs:List FrT)(w:qw)(h:QS bC zFr w a n cap xs)(hn:n<=1048576):
 qC 37 #[qS a n cap] w fun e w'=>e=.returned (qS (qP w.heap.size) n n)/\OG 135 4 bC w' w.heap.size (qS (qP w.heap.size) n n) xs/\qY w w':=by
 obtain ⟨i0,hi,hz0,hz1,hz2⟩:=info_parts uB;have hl:=h.1;go_enter func37,ntmps37
 go_wp2_with (at_make;refine wpList_make_full _ rfl _ _ 41 rfl w.heap.size 135 i0 (.agg (qW 0 0 0 0)) 4 underlying41 hi hz0 hz1 .i64 .i64 _ _ n rfl rfl rfl rfl (by rw [hz2];omega) (by unfold maxLen;omega) aN ?_;intro w1 hown hgr)
 have HR0:=zh (xA (yM (f:=bC) zFr (.agg (qW 0 0 0 0)) rfl rfl hown) (aW hgr));clear hown hgr hi hz0 hz1 hz2;go_loopw [4] (fun i wr=>∃ (m:Nat) (F:Nat->FrT),m<=n/\i=qI m/\RowF 135 4 bC wr w.heap.size n F/\(∀ i,i<m->F i=xs.getD i zFr)/\qY w wr) (qf n)
 .exact ⟨0,_,xC _,rfl,HR0.o.1,fun i hi=>absurd hi (by omega),HR0.o.2⟩
 .obtain ⟨m,F,hm,rfl,R,hF,hB⟩:=hrel;clear HR0;by_cases hlt:m<n
  .have hlt':(m:Int)<(n:Int):=by omega
   obtain ⟨b,off,rfl,y0,y1,y2,y3⟩:=(h.bw hB).at m hlt _ _ _ _ rfl
   have HFIN:=zh (fun (W:qw) (hW:qY wr W)=>show RowF 135 4 bC ((((W.setCell (qR w.heap.size (m*4)) (qI (xs.getD m zFr).1)).setCell (qR w.heap.size (m*4+1)) (qI (xs.getD m zFr).2.1)).setCell (qR w.heap.size (m*4+2)) (qI (xs.getD m zFr).2.2.1)).setCell (qR w.heap.size (m*4+3)) (qI (xs.getD m zFr).2.2.2)) w.heap.size n (fun i=>if i=m then (xs.getD m zFr) else F i)/\qY w ((((W.setCell (qR w.heap.size (m*4)) (qI (xs.getD m zFr).1)).setCell (qR w.heap.size (m*4+1)) (qI (xs.getD m zFr).2.1)).setCell (qR w.heap.size (m*4+2)) (qI (xs.getD m zFr).2.2.1)).setCell (qR w.heap.size (m*4+3)) (qI (xs.getD m zFr).2.2.2)) from
    ⟨(R.bw hW).set4 m hlt _ _ _ _ _ rfl,((((hB.trans (hW.mono hB.size)).setCell (p:=(qR w.heap.size (m*4))) aN _).setCell (p:=(qR w.heap.size (m*4+1))) aN _).setCell (p:=(qR w.heap.size (m*4+2))) aN _).setCell (p:=(qR w.heap.size (m*4+3))) aN _⟩)
   have HCE:=zh (fun (W:qw) (hW:qY wr W)=>show (∃ u,W.cell? (qR w.heap.size (m*4))=some u)/\(∃ u,W.cell? (qR w.heap.size (m*4+1))=some u)/\(∃ u,W.cell? (qR w.heap.size (m*4+2))=some u)/\(∃ u,W.cell? (qR w.heap.size (m*4+3))=some u)/\∀ i,W.frozen? (qR w.heap.size i)=false from
    ⟨⟨_,(R.bw hW).cell dJ m 0 hlt (by omega) _ rfl⟩,⟨_,(R.bw hW).cell dJ m 1 hlt (by omega) _ rfl⟩,⟨_,(R.bw hW).cell dJ m 2 hlt (by omega) _ rfl⟩,⟨_,(R.bw hW).cell dJ m 3 hlt (by omega) _ rfl⟩,by obtain ⟨cs,hk⟩:=(R.bw hW).blk;exact hk.frozen⟩)
   have HF2:=zh (show ∀ i,i<m+1->(if i=m then (xs.getD m zFr) else F i)=xs.getD i zFr from fun i hi=>by
    by_cases e:i=m
    .rw [if_pos e,e]
    .rw [if_neg e];exact hF i (by omega))
   clear R hB hF;generalize xs.getD m zFr=x at *;obtain ⟨x0,x1,x2,x3⟩:=x;dsimp only at y0 y1 y2 y3;go_wp2_with fail
   refine (aCc x0 x1 x2 x3 _).mono ?_;rintro e w2 ⟨rfl,hb2⟩;obtain ⟨⟨u0,p0⟩,⟨u1,p1⟩,⟨u2,p2⟩,⟨u3,p3⟩,pf⟩:=HCE.o w2 hb2;have HX:=zh (HFIN.o w2 hb2);clear HFIN HCE y0 y1 y2 y3 hb2;go_wp2
   go_roundw
   .exact ⟨m+1,_,by omega,by go_num,HX.o.1,HF2.o,HX.o.2⟩
   .simp [qf,intOf];omega
  .have e:Zh (m=n):=by show m=n;omega
   have HX:=zh (xA R hB);clear R hB;go_wp2;go_ret;exact ⟨rfl,HX.o.1.og dJ (by omega) aN h.2.1 hl zFr (fun i hi=>hF i (by rw [e.o];exact hi)),HX.o.2⟩
def Mn.cp (M:Mn)(g0 g1 g2 g3 g4 g5 g6:Nat)(ms':List Md):Mn:={ M with ma:=some (qR g0 0),mc:=M.mn,ms:=ms',ka:=some (qR g1 0),kc:=M.kn,fa:=some (qR g2 0),fc:=M.fn,ra:=some (qR g3 0),rc:=M.rn,oa:=some (qR g4 0),oc:=M.on,la:=some (qR g5 0),lc:=M.ln,ha:=some (qR g6 0),hc:=M.hn }
structure MnR (w:qw)(base:Nat)(M:Mn)(g0 g1 g2 g3 g4 g5 g6:Nat)(ms':List Md):Prop where
 b:base<=g0/\g0<g1/\g1<g2/\g2<g3/\g3<g4/\g4<g5/\g5<g6
 n:ms'.length=M.mn
 m:RowM w g0 M.mn M.ms ms'
 x:∃ W,RowM W g0 M.mn M.ms ms'/\W.heap.size<=g1
 k:RowI w g1 M.kz
 f:Row8 w g2 M.fz
 r:Row8 w g3 M.rz
 o:Row8 w g4 M.oz
 l:OG 142 4 bY w base (qS (qP g5) M.ln M.ln) M.lz
 h:OG 135 4 bC w base (qS (qP g6) M.hn M.hn) M.hz
theorem MnR.bw {w w':qw}(h:MnR w base M g0 g1 g2 g3 g4 g5 g6 ms')(hb:qY w w'):MnR w' base M g0 g1 g2 g3 g4 g5 g6 ms':=⟨h.b,h.n,h.m.bw hb,h.x,h.k.bw hb,h.f.bw hb,h.r.bw hb,h.o.bw hb,h.l.bw hb,h.h.bw hb⟩
theorem MnR.mnd {w W:qw}(h:MnR W base M g0 g1 g2 g3 g4 g5 g6 ms')(t:MnT w M)(b:MnB M):MnD W (M.cp g0 g1 g2 g3 g4 g5 g6 ms') where
 m:=aJ2 h.m h.n t.m b.m
 k:=h.k.is (by have:=t.k.1;have:=t.k.2.1;omega) t.k.2.2.1 _ _ t.k.1
 f:=h.f.bs (by have:=t.f.1;have:=t.f.2.1;omega) t.f.2.2.1 _ _ t.f.1
 r:=h.r.bs (by have:=t.r.1;have:=t.r.2.1;omega) t.r.2.2.1 _ _ t.r.1
 o:=h.o.bs (by have:=t.o.1;have:=t.o.2.1;omega) t.o.2.2.1 _ _ t.o.1
 l:=tB bO h.l
 h:=tB dJ h.h
theorem aGg {α:Type}{t:TypeId}{sz:Nat}{f:α->List Value}{b m:Nat}{xs:List α}(h:c<g):Stab c (fun W=>OG t sz f W b (qS (qP g) n m) xs):=fun W W' T r=>OG.kept r T (fun k hk=>by simp [Value.ownBlock] at hk;show ¬ k<=c;omega)
theorem aMk {ms:List Md}(h:c<g):Stab c (fun W=>RowM W g n ms ms'):=fun W W' T r=>by
 obtain ⟨⟨cur,hc,hs⟩,hq,hr⟩:=r;have T':Turn (fun j=>j<=g) W W':=T.mono (fun j hj=>by show j<=g;have:j<=c:=hj;omega);have kb:=aF T hc (by show ¬ g<=c;omega);have key:∀ o v,W.cell? (qR g o)=some v->W'.cell? (qR g o)=some v:=fun o v hv=>by rw [kb.cell,<- hc.cell];exact hv
 have at8:∀ o q,At8 W g o q->At8 W' g o q:=fun o q h=>by
  obtain ⟨h0,h1,h2,h3,h4,h5,h6,h7⟩:=h;exact ⟨key _ _ h0,key _ _ h1,key _ _ h2,key _ _ h3,key _ _ h4,key _ _ h5,key _ _ h6,key _ _ h7⟩
 exact ⟨⟨cur,kb,hs⟩,fun i hi=>by obtain ⟨q,h⟩:=hq i hi;exact ⟨q,at8 _ _ h⟩,fun i hi=>⟨at8 _ _ (hr i hi).1,lV _ _ _ _ _ T' (hr i hi).2⟩⟩
structure TQ (w W:qw)(arg cr cs:Array Value)(t1 t2:TypeId)(R:World->Prop):Prop where
 kb:Blk W w.heap.size arg t1
 kr:Blk W (w.heap.size+1) cr t2
 ko:Blk W (w.heap.size+1+1) cs t2
 hB:qY w W
 rows:R W
 st:Stab (w.heap.size+1+1) R
theorem TQ.bw {w W W':qw}{t1 t2:TypeId}(h:TQ w W arg cr cs t1 t2 R)(hb:qY W W'):TQ w W' arg cr cs t1 t2 R:=
 ⟨h.kb.bw hb,h.kr.bw hb,h.ko.bw hb,h.hB.trans (hb.mono h.hB.size),h.st _ _ (aJ hb) h.rows,h.st⟩
theorem TQ.set {w W:qw}{t1 t2:TypeId}(h:TQ w W arg cr cs t1 t2 R)(i:Nat)(v:Value):TQ w (W.setCell (qR (w.heap.size+1+1) i) v) arg cr (cs.setIfInBounds i v) t1 t2 R:=
 ⟨h.kb.other _ _ (by dsimp only;omega),h.kr.other _ _ (by dsimp only;omega),h.ko.set i v,h.hB.setCell (by dsimp only;omega) _,h.st _ _ (bR _ _ _ _ _ aN) h.rows,h.st⟩
theorem TQ.setr {w W:qw}{t1 t2:TypeId}(h:TQ w W arg cr cs t1 t2 R)(i:Nat)(v:Value):TQ w (W.setCell (qR (w.heap.size+1) i) v) arg (cr.setIfInBounds i v) cs t1 t2 R:=
 ⟨h.kb.other _ _ (by dsimp only;omega),h.kr.set i v,h.ko.other _ _ (by dsimp only;omega),h.hB.setCell (by dsimp only;omega) _,h.st _ _ (bR _ _ _ _ _) h.rows,h.st⟩
theorem TQ.add {w W:qw}{t1 t2:TypeId}{S:World->Prop}(h:TQ w W arg cr cs t1 t2 R)(r:S W)(s:Stab (w.heap.size+1+1) S):TQ w W arg cr cs t1 t2 (fun W=>R W/\S W):=
 ⟨h.kb,h.kr,h.ko,h.hB,⟨h.rows,r⟩,h.st.and s⟩
def aRf (w:qw)(M:Mn)(e:Ending)(w':qw):Prop:=∃ g0 g1 g2 g3 g4 g5 g6 ms',e=.returned (.agg (qK M g0 g1 g2 g3 g4 g5 g6))/\MnR w' w.heap.size M g0 g1 g2 g3 g4 g5 g6 ms'/\qY w w'
theorem vK (M:Mn)(w:qw)(h:MnT w M)(b:MnB M):qC 9 #[.agg (qA M)] w (aRf w M):=by
 have M0:TQ w (((w.alloc (.cells (qA M) 34)).alloc (.cells qZ 43)).alloc (.cells qZ 43)) (qA M) qZ qZ 34 43 (fun _=>True):=
  ⟨(
   (Blk.new w _ _).alloc _).alloc _,by have:=(Blk.new (w.alloc (.cells (qA M) 34)) qZ 43).alloc (.cells qZ 43);simpa using this,by have:=Blk.new ((w.alloc (.cells (qA M) 34)).alloc (.cells qZ 43)) qZ 43;simpa using this,
   (bal.alloc (by simp) _).alloc (by simp;omega) _,trivial,fun _ _ _ _=>trivial⟩
 have MX:=zh h;have MB:=zh b;clear h b;go_enter func9,ntmps9
 go_wp2_with fail
 refine (vJ M.ma M.mn M.mc M.ms _ (MX.o.m.bw M0.hB) MB.o.n MB.o.m).mono ?_;rintro e w1 ⟨rfl,⟨ms',hl,hr⟩,hb1⟩;try unfold qY at *
 simp only [xF] at hr;have z1:w.heap.size+1+1+1<w1.heap.size:=by obtain ⟨⟨cur,hc,_⟩,_⟩:=hr;exact hc.lt
 have HXW:Zh (∃ W,RowM W (w.heap.size+1+1+1) M.mn M.ms ms'/\W.heap.size<=w1.heap.size):=⟨w1,hr,aN⟩;have M1:=(M0.bw hb1).add hr (aMk (Nat.lt_succ_self _));clear M0 hb1 hr;have o0:=M1.ko.e0;have of:=M1.ko.frozen;have q1:=M1.kb.e1;have q2:=M1.kb.e2;have q3:=M1.kb.e3;have q4:=M1.kb.e4;have M1a:=(M1.set 0 (qS (some (qR (w.heap.size+1+1+1) 0)) M.mn M.mn));simp only [yA,yB,yC] at M1a;clear M1;have HM:=zh M1a;have r1:=M1a.kb.cell 1;have r2:=M1a.kb.cell 2;have r3:=M1a.kb.cell 3;have r4:=M1a.kb.cell 4;go_wp2_with fail
 refine (aAa M.cs M.cw M.ck M.cd _).mono ?_;rintro e w2 ⟨rfl,hb2⟩;have M2:=M1a.bw hb2;have z2:w1.heap.size<=w2.heap.size:=by have:=hb2.size;simpa using this
 clear HM o0 of q1 q2 q3 q4 r1 r2 r3 r4 M1a hb2;have o1:=M2.ko.e1;have o2:=M2.ko.e2;have o3:=M2.ko.e3;have o4:=M2.ko.e4;have of:=M2.ko.frozen;have q5:=M2.kb.e5;have q6:=M2.kb.e6;have M2a:=((((M2.set 1 (qI M.cs)).set 2 (qI M.cw)).set 3 (qI M.ck)).set 4 (qI M.cd));simp only [yA,yB,yC] at M2a;clear M2;have HM:=zh M2a;have r5:=M2a.kb.cell 5;have r6:=M2a.kb.cell 6;go_wp2_with fail
 refine (aD8 M.pc M.ka M.kn M.kc M.kz _ (MX.o.k.bw M2a.hB) MB.o.k).mono ?_;rintro e w3 ⟨g1,hg1,rfl,hr3,hb3⟩;have z3:w2.heap.size<=g1/\g1<w3.heap.size:=⟨by simpa using hg1,hr3.lt⟩;have M3:=(M2a.bw hb3).add hr3 (sD (by omega));clear HM o1 o2 o3 o4 of q5 q6 r5 r6 M2a hb3 hg1 hr3;have o5:=M3.ko.e5;have o6:=M3.ko.e6;have of:=M3.ko.frozen;have q7:=M3.kb.e7;have q8:=M3.kb.e8;have q9:=M3.kb.e9;have M3a:=((M3.set 5 (qI M.pc)).set 6 (qS (qP g1) M.kn M.kn));simp only [yA,yB,yC] at M3a;clear M3;have HM:=zh M3a;have r7:=M3a.kb.cell 7;have r8:=M3a.kb.cell 8;have r9:=M3a.kb.cell 9;go_wp2_with fail
 refine (aHu M.fa M.ra M.oa M.fn M.fc M.rn M.rc M.on M.oc M.fz M.rz M.oz _ (MX.o.f.bw M3a.hB) (MX.o.r.bw M3a.hB) (MX.o.o.bw M3a.hB) MB.o.b).mono ?_;rintro e w4 ⟨g2,g3,g4,rfl,hg2,hg3,hg4,hf4,hr4,ho4,hb4⟩;have z4:w3.heap.size<=g2/\g4<w4.heap.size:=⟨by simpa using hg2,ho4.lt⟩;have M4:=(((M3a.bw hb4).add hf4 (sE (by omega))).add hr4 (sE (by omega))).add ho4 (sE (by omega));clear HM o5 o6 of q7 q8 q9 r7 r8 r9 M3a hb4 hg2 hf4 hr4 ho4;have o7:=M4.ko.e7;have o8:=M4.ko.e8;have o9:=M4.ko.e9;have o10:=M4.ko.e10;have o11:=M4.ko.e11;have of:=M4.ko.frozen;have q10:=M4.kb.e10;have q11:=M4.kb.e11;have q12:=M4.kb.e12;have M4a:=(((((M4.set 7 (qS (qP g2) M.fn M.fn)).set 8 (qS (qP g3) M.rn M.rn)).set 9 (qS (qP g4) M.on M.on)).set 10 (qI M.md)).set 11 (qI M.bk));simp only [yA,yB,yC] at M4a;clear M4;have HM:=zh M4a;have r10:=M4a.kb.cell 10;have r11:=M4a.kb.cell 11;have r12:=M4a.kb.cell 12;go_wp2_with fail
 refine (aCa M.la M.ln M.lc M.lz _ (MX.o.l.bw M4a.hB) MB.o.l).mono ?_;rintro e w5 ⟨rfl,hl5,hb5⟩;try unfold qY at *
 simp only [aL] at hl5;have z5:w4.heap.size<w5.heap.size:=(hl5.lt _ rfl).2;have M5:=(M4a.bw hb5).add hl5 (aGg (by omega));clear HM o7 o8 o9 o10 o11 of q10 q11 q12 r10 r11 r12 M4a hb5 hl5;have o12:=M5.ko.e12;have of:=M5.ko.frozen;have q13:=M5.kb.e13;have M5a:=(M5.set 12 (qS (qP w4.heap.size) M.ln M.ln));simp only [yA,yB,yC] at M5a;clear M5;have HM:=zh M5a;have r13:=M5a.kb.cell 13;go_wp2_with fail
 refine (zY M.ha M.hn M.hc M.hz _ (MX.o.h.bw M5a.hB) MB.o.h).mono ?_;rintro e w6 ⟨rfl,hl6,hb6⟩;try unfold qY at *
 simp only [aL] at hl6;have z6:w5.heap.size<w6.heap.size:=(hl6.lt _ rfl).2;have M6:=(M5a.bw hb6).add hl6 (aGg (by omega));clear HM o12 of q13 r13 M5a hb6 hl6;have o13:=M6.ko.e13;have o14:=M6.ko.e14;have of:=M6.ko.frozen;have q14:=M6.kb.e14;have t0:=M6.ko.e0;have t1:=M6.ko.e1;have t2:=M6.ko.e2;have t3:=M6.ko.e3;have t4:=M6.ko.e4;have t5:=M6.ko.e5;have t6:=M6.ko.e6;have t7:=M6.ko.e7;have t8:=M6.ko.e8;have t9:=M6.ko.e9;have t10:=M6.ko.e10;have t11:=M6.ko.e11;have t12:=M6.ko.e12;have p0:=M6.kr.e0;have p1:=M6.kr.e1;have p2:=M6.kr.e2;have p3:=M6.kr.e3;have p4:=M6.kr.e4;have p5:=M6.kr.e5;have p6:=M6.kr.e6;have p7:=M6.kr.e7;have p8:=M6.kr.e8;have p9:=M6.kr.e9;have p10:=M6.kr.e10;have p11:=M6.kr.e11;have p12:=M6.kr.e12;have p13:=M6.kr.e13;have p14:=M6.kr.e14;have pf:=M6.kr.frozen;have M7:=(((((((((((((((((M6.set 13 (qS (qP w5.heap.size) M.hn M.hn)).set 14 (qI M.tn)).setr 0 (qS (some (qR (w.heap.size+1+1+1) 0)) M.mn M.mn)).setr 1 (qI M.cs)).setr 2 (qI M.cw)).setr 3 (qI M.ck)).setr 4 (qI M.cd)).setr 5 (qI M.pc)).setr 6 (qS (qP g1) M.kn M.kn)).setr 7 (qS (qP g2) M.fn M.fn)).setr 8 (qS (qP g3) M.rn M.rn)).setr 9 (qS (qP g4) M.on M.on)).setr 10 (qI M.md)).setr 11 (qI M.bk)).setr 12 (qS (qP w4.heap.size) M.ln M.ln)).setr 13 (qS (qP w5.heap.size) M.hn M.hn)).setr 14 (qI M.tn));have HZ:=zh (xA z1 (xA z2 (xA z3 (xA z4 (xA z5 (xA z6 (xA hg3 hg4)))))));have H7:=zh M7;have HL:=zh hl;clear M6 M7 z1 z2 z3 z4 z5 z6 hg3 hg4 hl;go_wp2;refine bodyPost_ret (v:=.agg (qX M (some (qR (w.heap.size+1+1+1) 0)) M.mn M.mn (qP g1) M.kn M.kn (qP g2) M.fn M.fn (qP g3) M.rn M.rn (qP g4) M.on M.on (qP w4.heap.size) M.ln M.ln (qP w5.heap.size) M.hn M.hn)) (by simp [results,results9,go_sem,p0,p1,p2,p3,p4,p5,p6,p7,p8,p9,p10,p11,p12,p13,p14]) rfl ?_;obtain ⟨z1,z2,z3,z4,z5,z6,hg3,hg4⟩:=HZ.o;obtain ⟨⟨⟨⟨⟨⟨⟨_,a0⟩,a1⟩,a2⟩,a3⟩,a4⟩,a5⟩,a6⟩:=H7.o.rows;exact ⟨w.heap.size+1+1+1,g1,g2,g3,g4,w4.heap.size,w5.heap.size,ms',rfl,⟨by omega,HL.o,a0,by obtain ⟨W,h1,h2⟩:=HXW.o;exact ⟨W,h1,by omega⟩,a1,a2,a3,a4,a5.mono (by omega),a6.mono (by omega)⟩,H7.o.hB⟩
theorem sG {s c k d:Int}(h:lkc ps s c k d=0)(hi:i<(lkL ps s c k d).slots.length):65536<=(lkL ps s c k d).slots.getD i 0/\(lkL ps s c k d).slots.getD i 0-65536+(slz c:Int)<=(lkL ps s c k d).ram/\(lkL ps s c k d).ram<=16384/\((lkL ps s c k d).slots.length:Int)=s/\0<s:=by
 have e:lkL ps s c k d=lay ps s c k:=by unfold lkL;rw [if_pos h]
 rw [e] at hi ⊢;obtain ⟨h1,h2,h3,h4,h5,h6,h7,h8,h9⟩:=eQ.1 h;unfold cfo at h1;simp at h1;obtain ⟨s0,s1,w0,w1,k0,_⟩:=h1;obtain ⟨z1,z2,z3⟩:=fK w0 w1;have a1:=bQ h4 ps.length aN;have hl:(lay ps s c k).slots.length=s.toNat:=by simp [lay]
 rw [hl] at hi
 have e2:(lay ps s c k).slots.getD i 0=65536+Ra ps ps.length+k+(i:Int)*rnd (4*c):=by
  simp [lay,xB,hi,slt]
 have e3:(lay ps s c k).ram=Ra ps ps.length+k+(s.toNat:Int)*rnd (4*c):=rfl
 have hm:(i:Int)*rnd (4*c)+rnd (4*c)<=(s.toNat:Int)*rnd (4*c):=by
  have:((i:Int)+1)*rnd (4*c)<=(s.toNat:Int)*rnd (4*c):=Int.mul_le_mul_of_nonneg_right (by omega) (by omega);rw [Int.add_mul,Int.one_mul] at this;exact this
 have hm0:(0:Int)<=(i:Int)*rnd (4*c):=Int.mul_nonneg (by omega) (by omega);rw [e2,z1];exact ⟨by omega,by omega,h9,by omega,by omega⟩
theorem vU (M:Mn)(L:Lay)(a0:qO)(c0:Nat)(xs:List PB)(a2:qO)(c2:Nat)(a5:qO)(c5:Nat)(ts:List TB)(i:Nat)(w:qw)(h:MnD w M)(hs:IS w a2 L.slots.length c2 L.slots)(hi:i<L.slots.length)(w0:1<=M.cw)(w1:M.cw<=64)(hA0:65536<=L.slots.getD i 0)(hA1:L.slots.getD i 0-65536+(slz M.cw:Int)<=M.rn)(hrn:M.rn<=16384):
 qC 196 #[.agg (qA M),.agg (qJ L a0 xs c0 a2 c2 a5 ts c5),qI i] w fun e w'=>∃ a c,e=.returned (qS a (slz M.cw) c)/\BS w' a (slz M.cw) c (slb M.rz L M.cw i)/\qY w w':=by
 obtain ⟨z1,z2,z3⟩:=fK w0 w1;obtain ⟨U,hU,bU,kU⟩:=nwb w (qA M) 43;obtain ⟨V,hV,bV,kV⟩:=nwb U (qJ L a0 xs c0 a2 c2 a5 ts c5) 71;have BV:=bU.trans (bV.mono bU.size);have kU':=kU.bw bV;obtain ⟨gs,os,rfl,hcs⟩:=(hs.bw BV).2.2.2.1 (by omega);have q:=hcs i hi;obtain ⟨A,hA⟩:∃ A:Nat,L.slots.getD i 0=65536+(A:Int):=⟨(L.slots.getD i 0-65536).toNat,by omega⟩;have HSB:=zh (show slb M.rz L M.cw i=(M.rz.drop A).take (slz M.cw) from by unfold slb;rw [hA,show (65536+(A:Int)-65536).toNat=A by omega]);rw [hA] at q hA1;have hrc:=h.r.2.2.2.2;have hrm:=h.r.2.1;have hi':(i:Int)<(L.slots.length:Int):=by omega
 have hlm:=hs.2.1;unfold maxLen at hrm hlm;have HSS:=zh (fun (X:qw)=>jC M.cs M.cw M.ck M.cd X w0 w1);have HR:=zh (fun (X:qw) (hX:qY V X)=>(h.r.bw BV).bw hX)
 have HC:=zh (fun (X:qw) (hX:qY V X)=>show X.cell? (qR w.heap.size 1)=some (qI M.cs)/\X.cell? (qR w.heap.size 2)=some (qI M.cw)/\X.cell? (qR w.heap.size 3)=some (qI M.ck)/\X.cell? (qR w.heap.size 4)=some (qI M.cd)/\X.cell? (qR w.heap.size 8)=some (qS M.ra M.rn M.rc) from
  ⟨(kU'.bw hX).cell 1,(kU'.bw hX).cell 2,(kU'.bw hX).cell 3,(kU'.bw hX).cell 4,(kU'.bw hX).cell 8⟩)
 have s2:=kV.e2;rw [HSB.o];generalize slz M.cw=sz at *;generalize hrr:M.ra=ra at *;generalize hrcc:M.rc=rc at *;obtain ⟨rb,ro,rfl,_⟩:=(HR.o V brf).2.2.2.1 (by omega);obtain ⟨E,hE⟩:∃ E:Nat,E=A+sz:=⟨_,rfl⟩
 have HBS:=zh (fun (X:qw) (hX:qY V X)=>show BS X (some (qR rb (ro+A))) (E-A) (rc-A) ((M.rz.drop A).take sz) from by
  have h1:=((HR.o X hX).drop A (by omega)).take sz (by omega);rw [show E-A=sz by omega]
  exact h1)
 have HES:=zh (show E-A=sz by omega);have hwA:IntKind.i64.wrap (65536+(A:Int)-65536)=(A:Int):=by rw [xP,xQ _ (by omega)];omega
 have hwA2:IntKind.i64.wrap (A:Int)=(A:Int):=by rw [xP,xQ _ (by omega)]
 have hwE:IntKind.i64.wrap ((A:Int)+(sz:Int))=(E:Int):=by rw [xP,xQ _ (by omega)];omega
 have g0:(0:Int)<=(A:Int):=by omega
 have g1:(A:Int)<=(E:Int):=by omega
 have g2:(E:Int)<=(rc:Int):=by omega
 have g3:(A:Int)<(rc:Int):=by omega
 have g4:A<=E:=by omega
 have g5:¬ (rc=A):=by omega
 have g6:A<rc:=by omega
 have HBV:=zh BV;have HU:=zh hU;have HV:=zh hV;have HX0:=zh (xA hrr hrcc);obtain ⟨y1,y2,y3,y4,y8⟩:=HC.o V brf;clear hU hV bU bV kU kU' kV BV h hs hcs hA hE hrr hrcc HSB HR hrc hA0 hA1 z1 z3;go_enter func196,ntmps196
 go_wp2_with (first|rw [<- HU.o]|rw [<- HV.o])
 have HP:=zh (fun (X:qw) (hX:qY V X)=>(HSS.o X).mono (fun e w' he=>show e=.returned (qI sz)/\qY V w' from ⟨he.1,hX.trans (he.2.mono hX.size)⟩));clear s2 q
 go_region_held3 (fun w'=>w'.cell? (qR w.heap.size 1)=some (qI M.cs)/\w'.cell? (qR w.heap.size 2)=some (qI M.cw)/\w'.cell? (qR w.heap.size 3)=some (qI M.ck)/\w'.cell? (qR w.heap.size 4)=some (qI M.cd)/\w'.cell? (qR w.heap.size 8)=some (qS (some (qR rb ro)) M.rn rc)) (go_keep)
  (first
    | (go_at_call 202;first
        | with_reducible refine (HP.o _ brf).mono ?_
        | with_reducible refine (HP.o _ brf.drew).mono ?_
       rintro e w1 ⟨rfl,hb1⟩;have HE:=zh hb1;obtain ⟨t1,t2,t3,t4,t8⟩:=HC.o w1 hb1
       clear hb1))
 clear y1 y2 y3 y4 y8 t1 t2 t3 t4 t8 HP HC;go_wp2;go_ret;exact ⟨some (qR rb (ro+A)),rc-A,by rw [<- HES.o];rfl,by have:=HBS.o _ HE.o;rw [HES.o] at this;exact this,HBV.o.trans (HE.o.mono HBV.o.size)⟩
theorem sI (a:qO)(n c:Nat)(xs:List SlT)(w:qw)(h:QS bY zSl w a n c xs):
 qC 177 #[qS a n c] w (qB w (qI (lst xs n:Nat))):=by
 have hl:=h.1;have hmx:=h.2.1;unfold maxLen at hmx;go_enter func177,ntmps177
 go_wp2;go_loopw [3,8] (fun l i wr=>∃ k p:Nat,k<=n/\i=qI k/\l=qI p/\Hid (p=lst xs k)/\qY w wr) (fun _ i _=>n-(intOf i).toNat)
 .exact ⟨0,0,xC _,rfl,rfl,zh rfl,brf⟩
 .obtain ⟨k,p,hk,rfl,rfl,HP,hB⟩:=hrel;by_cases hlt:k<n
  .have hlt':(k:Int)<(n:Int):=by omega
   have hp:p<n:=by have:=tT xs k;rw [<- HP.out] at this;omega
   have hp':(p:Int)<(n:Int):=by omega
   have hp0:(0:Int)<=(p:Int):=by omega
   obtain ⟨g,f,rfl,q0,q1,q2,q3⟩:=(h.bw hB).at k hlt _ _ _ _ rfl;obtain ⟨g',f',e',_,_,_,r3⟩:=(h.bw hB).at p hp _ _ _ _ rfl;cases e'
   have HS:=zh (show lst xs (k+1)=if (xs.getD k zSl).2.2.2<(xs.getD p zSl).2.2.2 then k else p from by rw [HP.out];rfl);have HBB:=zh (xA hB h);generalize xs.getD k zSl=x at *;generalize (xs.getD p zSl).2.2.2=y at *;obtain ⟨x0,x1,x2,x3⟩:=x;dsimp only at q0 q1 q2 q3 HS;obtain ⟨V,hV,bV,kV⟩:=nwb wr #[.bool x0,qI x1,qI x2,qI x3] 142;have v3:=kV.e3;have u3:V.cell? (qR g (f+p*4+3))=some (qI y):=aHe bV r3;have HB:=zh (hB.trans (bV.mono hB.size));have HV:=zh hV;clear h hB hV bV kV r3;by_cases c1:x3<y
   .have HN:=zh (show lst xs (k+1)=k by rw [HS.o,if_pos c1]);clear HS;go_wp2_with (rw [<- HV.o])
    clear q0 q1 q2 q3
    go_region_held3 (fun w'=>w'.cell? (qR wr.heap.size 3)=some (qI x3)/\w'.cell? (qR g (f+p*4+3))=some (qI y)) (go_keep) (fail)
    all_goals
     go_wp2
     go_roundw
     .exact ⟨k+1,k,by omega,by go_num,rfl,zh HN.o.symm,by first|exact HB.o.drew|exact HB.o⟩
     .simp [intOf];omega
   .have HN:=zh (show lst xs (k+1)=p by rw [HS.o,if_neg c1]);clear HS;go_wp2_with (rw [<- HV.o])
    clear q0 q1 q2 q3
    go_region_held3 (fun w'=>w'.cell? (qR wr.heap.size 3)=some (qI x3)/\w'.cell? (qR g (f+p*4+3))=some (qI y)) (go_keep) (fail)
    all_goals
     go_wp2
     go_roundw
     .exact ⟨k+1,p,by omega,by go_num,rfl,zh HN.o.symm,by first|exact HB.o.drew|exact HB.o⟩
     .simp [intOf];omega
  .obtain rfl:k=n:=by omega
   have HB:=zh hB;clear hB;go_wp2;go_ret;exact ⟨aI (by rw [HP.out]),HB.o⟩
theorem aE4 (a:qO)(n c:Nat)(xs:List SlT)(m b t:Int)(w:qw)(h:QS bY zSl w a n c xs)(hv:Tnz xs):
 qC 117 #[qS a n c,.agg (qT m b t)] w (qB w (qI (slq xs m b:Nat))):=by
 have hl:=h.1;have hmx:=h.2.1;unfold maxLen at hmx;obtain ⟨V,hV,bV,kV⟩:=nwb w (qT m b t) 58;have HHL:=zh (lD a n c xs m b V (h.bw bV));have HR:=zh (fZ xs m b);have HQ:=zh (show slq xs m b=if hld xs m b=-1 then lst xs n else (hld xs m b).toNat from by unfold slq;rw [hl]);generalize hld xs m b=r at *;generalize hs:slq xs m b=s at *;have x0:=kV.cell 0;have x1:=kV.cell 1;have HV:=zh hV;have HBV:=zh bV;clear hV bV kV hs;go_enter func117,ntmps117
 go_wp2_with (rw [<- HV.o])
 refine HHL.o.mono ?_;rintro e X1 ⟨rfl,hb1⟩;have HB1:=zh (HBV.o.trans (hb1.mono HBV.o.size));clear x0 x1 hb1 HHL HV HBV;by_cases c1:0<=r
 .have HE:=zh (show r=(s:Nat) by rw [HQ.o,if_neg (by omega)];omega);go_wp2;go_ret;exact ⟨aI HE.o,HB1.o⟩
 have HE:=zh (show s=lst xs n by rw [HQ.o,if_pos (by have:=HR.o;omega)]);clear HQ HR;go_wp2_with fail
 go_loopw [5,6] (fun q i wr=>∃ k p:Nat,k<=n/\i=qI k/\q=qI p/\Hid (p=lst xs k)/\Hid (∀ j,j<k->(xs.getD j zSl).1=true)/\qY w wr) (fun _ i _=>n-(intOf i).toNat)
 .exact ⟨0,0,xC _,rfl,rfl,zh rfl,zh (fun j hj=>by omega),HB1.o⟩
 .obtain ⟨k,p,hk,rfl,rfl,HP,HU,hB⟩:=hrel;clear HB1;by_cases hlt:k<n
  .have hlt':(k:Int)<(n:Int):=by omega
   have hp:p<n:=by have:=tT xs k;rw [<- HP.out] at this;omega
   have hp':(p:Int)<(n:Int):=by omega
   have hp0:(0:Int)<=(p:Int):=by omega
   obtain ⟨g,f,rfl,q0,q1,q2,q3⟩:=(h.bw hB).at k hlt _ _ _ _ rfl;obtain ⟨g',f',e',_,_,_,r3⟩:=(h.bw hB).at p hp _ _ _ _ rfl;cases e'
   have HS:=zh (show lst xs (k+1)=if (xs.getD k zSl).2.2.2<(xs.getD p zSl).2.2.2 then k else p from by rw [HP.out];rfl);have HFR:=zh (fun (e:(xs.getD k zSl).1=false)=>show lst xs n=k from by rw [<- hl];exact aK2 hv (by omega) e HU.out)
   have HUN:=zh (fun (e:(xs.getD k zSl).1=true)=>show ∀ j,j<k+1->(xs.getD j zSl).1=true from fun j hj=>by
    by_cases q:j=k
    .rw [q];exact e
    .exact HU.out j (by omega))
   generalize xs.getD k zSl=x at *;generalize (xs.getD p zSl).2.2.2=y at *;obtain ⟨x0,x1,x2,x3⟩:=x;dsimp only at q0 q1 q2 q3 HS HFR HUN;have HB:=zh hB;clear h hB hv;cases x0 with
   | false=>
     have HN:=zh (show s=k by rw [HE.o,HFR.o rfl]);clear HFR HUN HS;go_wp2;go_ret;exact ⟨aI (by rw [HN.o]),HB.o⟩
   | true=>
     have HN:=zh (HUN.o rfl);clear HFR HUN;by_cases c1:x3<y
     .have HM:=zh (show lst xs (k+1)=k by rw [HS.o,if_pos c1]);clear HS;go_wp2_with fail
      go_region_held3 (fun w'=>w'.cell? (qR g (f+k*4+3))=some (qI x3)/\w'.cell? (qR g (f+p*4+3))=some (qI y)) (go_keep) (fail)
      all_goals
       go_wp2
       go_roundw
       .exact ⟨k+1,k,by omega,by go_num,rfl,zh HM.o.symm,HN,by first|exact HB.o.drew|exact HB.o⟩
       .simp [intOf];omega
     .have HM:=zh (show lst xs (k+1)=p by rw [HS.o,if_neg c1]);clear HS;go_wp2_with fail
      go_region_held3 (fun w'=>w'.cell? (qR g (f+k*4+3))=some (qI x3)/\w'.cell? (qR g (f+p*4+3))=some (qI y)) (go_keep) (fail)
      all_goals
       go_wp2
       go_roundw
       .exact ⟨k+1,p,by omega,by go_num,rfl,zh HM.o.symm,HN,by first|exact HB.o.drew|exact HB.o⟩
       .simp [intOf];omega
  .obtain rfl:k=n:=by omega
   have HB:=zh hB;clear hB;go_wp2;go_ret;exact ⟨aI (by rw [HE.o,HP.out]),HB.o⟩
def VlP (w:qw)(M:Mn)(e:Ending)(w':qw):Prop:=qY w w'/\∃ y0 n0 d0 i1 y2 n2 d2 i3 i4 y5 n5 d5 b,e=.returned (.tuple #[.agg #[qS y0 n0 d0,qI i1,qS y2 n2 d2,qI i3,qI i4,qS y5 n5 d5],.bool b])/\(b=true ↔ MOk M)/\(b=true->∃ a0 c0 xs a2 c2 a5 c5 ts,#[qS y0 n0 d0,qI i1,qS y2 n2 d2,qI i3,qI i4,qS y5 n5 d5]=mV M.L a0 c0 xs a2 c2 a5 c5 ts/\LyT w' M.L a0 c0 xs a2 c2 a5 c5 ts)
theorem dS {w w':qw}{y0 y2 y5:qO}{n0 d0 n2 d2 n5 d5:Nat}{i1 i3 i4:Int}(hb:qY w w')(h:¬ MOk M):VlP w M (.returned (.tuple #[.agg #[qS y0 n0 d0,qI i1,qS y2 n2 d2,qI i3,qI i4,qS y5 n5 d5],.bool false])) w':=⟨hb,y0,n0,d0,i1,y2,n2,d2,i3,i4,y5,n5,d5,false,rfl,by simp [h],fun h=>by cases h⟩
theorem aJc {w w':qw}{a0:qO}{c0:Nat}{xs:List PB}{a2:qO}{c2:Nat}{a5:qO}{c5:Nat}{ts:List TB}{L:Lay}(eL:L=M.L)(hb:qY w w')(h:MOk M)(hl:LyT w' L a0 c0 xs a2 c2 a5 c5 ts):VlP w M (.returned (.tuple #[.agg (qJ L a0 xs c0 a2 c2 a5 ts c5),.bool true])) w':=by
 subst eL;exact ⟨hb,_,_,_,_,_,_,_,_,_,_,_,_,true,rfl,by simp [h],fun _=>⟨a0,c0,xs,a2,c2,a5,c5,ts,rfl,hl⟩⟩
theorem aQi {m b:Int}(h:0<=pcq ps m b)(hb:b≠-1):0<=b:=by
 unfold pcq at h;by_cases c1:0<=m/\m<(ps.length:Int)
 .rw [if_pos c1,if_neg hb] at h;by_cases c2:0<=b/\b<((ps.getD m.toNat zP).bl.length:Int)
  .exact c2.1
  .rw [if_neg c2] at h;exact absurd h (by decide)
 .rw [if_neg c1] at h;exact absurd h (by decide)
theorem aOg:slk ps T (false,x1,x2,x3) ↔ (false,x1,x2,x3)=zSl:=by unfold slk;simp
theorem aGi:slk ps T (true,x1,x2,x3) ↔ 0<=x2/\0<=pcq ps x1 x2/\1<=x3/\x3<=T:=by unfold slk;simp
theorem aEb (M:Mn)(x0:Bool)(x1 x2 x3:Int)(w:qw)(h:MnD w M):
 qC 194 #[.agg (qA M),.agg #[.bool x0,qI x1,qI x2,qI x3]] w (Yn (slk (aE M.ms) M.tn (x0,x1,x2,x3)) w):=by
 obtain ⟨U,hU,bU,kU⟩:=nwb w (qA M) 43;obtain ⟨V,hV,bV,kV⟩:=nwb U #[.bool x0,qI x1,qI x2,qI x3] 142;have hUs:U.heap.size=w.heap.size+1:=by rw [hU];simp
 have BV:=bU.trans (bV.mono bU.size);have kU':=kU.bw bV;have HIP:=zh (lG M.ma M.mn M.mc M.ms x1 x2 V (h.m.s.bw BV));rw [dX h.m x1 x2] at HIP
 have HC:=zh (fun (X:qw) (hX:qY V X)=>show (X.cell? (qR w.heap.size 0)=some (qS M.ma M.mn M.mc)/\X.cell? (qR w.heap.size 14)=some (qI M.tn))/\X.cell? (qR (w.heap.size+1) 0)=some (.bool x0)/\X.cell? (qR (w.heap.size+1) 1)=some (qI x1)/\X.cell? (qR (w.heap.size+1) 2)=some (qI x2)/\X.cell? (qR (w.heap.size+1) 3)=some (qI x3) from
  ⟨⟨(kU'.bw hX).cell 0,(kU'.bw hX).cell 14⟩,by rw [<- hUs];exact (kV.bw hX).cell 0,by rw [<- hUs];exact (kV.bw hX).cell 1,by rw [<- hUs];exact (kV.bw hX).cell 2,by rw [<- hUs];exact (kV.bw hX).cell 3⟩)
 have HB:=zh BV;have HU:=zh hU;have HV:=zh hV;rw [<- hUs] at HC;have HUS:=zh hUs;clear hU hV bU bV kU kU' kV BV h hUs;obtain ⟨⟨y0,y14⟩,s0,s1,s2,s3⟩:=HC.o V brf;cases x0 with
 | false=>
   rw [aOg];clear HIP HC y0 y14;by_cases e1:x1=0
   .by_cases e2:x2=0
    .by_cases e3:x3=0
     .subst e1 e2 e3;go_enter func194,ntmps194
      go_wp2_with (first|rw [<- HU.o]|rw [<- HV.o])
      go_ret;exact pZ rfl (HB.o)
     .have e3':(x3==0)=false:=by simp [e3]
      have HX:Zh (¬ (false,x1,x2,x3)=zSl):=fun q=>e3 (by unfold zSl at q;simp at q;exact q.2.2);subst e1 e2;clear e3;go_enter func194,ntmps194
      go_wp2_with (first|rw [<- HU.o]|rw [<- HV.o])
      go_ret;exact cV HX.o (HB.o)
    .have e2':(x2==0)=false:=by simp [e2]
     have HX:Zh (¬ (false,x1,x2,x3)=zSl):=fun q=>e2 (by unfold zSl at q;simp at q;exact q.2.1);subst e1;clear e2;go_enter func194,ntmps194
     go_wp2_with (first|rw [<- HU.o]|rw [<- HV.o])
     go_ret;exact cV HX.o (HB.o)
   .have e1':(x1==0)=false:=by simp [e1]
    have HX:Zh (¬ (false,x1,x2,x3)=zSl):=fun q=>e1 (by unfold zSl at q;simp at q;exact q.1);clear e1;go_enter func194,ntmps194
    go_wp2_with (first|rw [<- HU.o]|rw [<- HV.o])
    go_ret;exact cV HX.o (HB.o)
 | true=>
   rw [aGi];by_cases c1:x2=-1
   .subst c1;have e1:((-1:Int) !=-1)=false:=by decide
    clear HIP HC;go_enter func194,ntmps194
    go_wp2_with (first|rw [<- HU.o]|rw [<- HV.o])
    go_ret;exact cV (by simp) HB.o
   have c1':(x2 !=-1)=true:=by simp [c1]
   by_cases c2:0<=pcq (aE M.ms) x1 x2
   .have HX2:=zh (aQi c2 c1);have HC2:=zh c2;rw [xR c2] at HIP;clear c2 c1;go_enter func194,ntmps194
    go_wp2_with (first|rw [<- HU.o]|rw [<- HV.o])
    refine HIP.o.mono ?_;rintro e X1 ⟨rfl,hb1⟩;have HB1:=zh (HB.o.trans (hb1.mono HB.o.size));obtain ⟨⟨p0,p14⟩,t0,t1,t2,t3⟩:=HC.o X1 hb1;clear hb1 HIP HC HU HV y0 y14 s0 s1 s2 s3;by_cases c3:x3<1
    .go_wp2;go_ret;exact cV (fun q=>by omega) HB1.o
    go_wp2;go_ret;exact aP9 ⟨fun q=>⟨HX2.o,HC2.o,by omega,q⟩,fun q=>q.2.2.2⟩ HB1.o
   .rw [xS c2] at HIP;have HC2:=zh c2;clear c1 c2;go_enter func194,ntmps194
    go_wp2_with (first|rw [<- HU.o]|rw [<- HV.o])
    refine HIP.o.mono ?_;rintro e X1 ⟨rfl,hb1⟩;have HB1:=zh (HB.o.trans (hb1.mono HB.o.size));clear hb1 HIP HC HU HV y0 y14 s0 s1 s2 s3;go_wp2;go_ret;exact cV (fun q=>by have h1:=HC2.o;have h2:=q.2.1;omega) HB1.o
theorem aMa (hk:k<i)(h:cmn (xs.getD i zSl) (xs.getD k zSl)):¬ aln xs i:=fun q=>q k hk h
theorem aL9 (hF:∀ j,j<k->¬ cmn (xs.getD i zSl) (xs.getD j zSl))(h:¬ cmn (xs.getD i zSl) (xs.getD k zSl)):∀ j,j<k+1->¬ cmn (xs.getD i zSl) (xs.getD j zSl):=fun j hj=>by
 by_cases e:j=k
 .rw [e];exact h
 .exact hF j (by omega)
theorem aDi (a:qO)(n c i:Nat)(xs:List SlT)(w:qw)(h:QS bY zSl w a n c xs)(hi:i<n):
 qC 195 #[qS a n c,qI i] w (Yn (aln xs i) w):=by
 have hl:=h.1;have hmx:=h.2.1;have hcp:=h.2.2.2;unfold maxLen at hmx;have hi':(i:Int)<(n:Int):=by omega
 obtain ⟨g,f,rfl,q0,q1,q2,q3⟩:=h.at i hi _ _ _ _ rfl;have HNO0:=zh (fun (k:Nat) (hk:k<i) (q:cmn (xs.getD i zSl) (xs.getD k zSl))=>aMa hk q);have HST0:=zh (fun (k:Nat) (hF:∀ j,j<k->¬ cmn (xs.getD i zSl) (xs.getD j zSl)) (q:¬ cmn (xs.getD i zSl) (xs.getD k zSl))=>aL9 hF q);have HYES:Zh ((∀ j,j<i->¬ cmn (xs.getD i zSl) (xs.getD j zSl))->aln xs i):=fun q=>q;generalize xs.getD i zSl=x at *;obtain ⟨x0,x1,x2,x3⟩:=x;dsimp only at q0 q1 q2 q3;obtain ⟨V,hV,bV,kV⟩:=nwb w #[.bool x0,qI x1,qI x2,qI x3] 142;have HH:=zh (h.bw bV);have HV:=zh hV;have HBK:=zh (xA bV kV);have HRE:=zh (Below.refl V.heap.size V);have hic:(i:Int)<=(c:Int):=by omega
 clear hV bV kV h;go_enter func195,ntmps195
 go_wp2_with (rw [<- HV.o])
 clear q0 q1 q2 q3 HV;go_loopw [16] (fun j wr=>∃ k:Nat,k<=i/\j=qI k/\(∀ j,j<k->¬ cmn (x0,x1,x2,x3) (xs.getD j zSl))/\qY V wr) (qf i)
 .exact ⟨0,xC _,rfl,fun j hj=>absurd hj (by omega),HRE.o⟩
 .obtain ⟨k,hk,rfl,hF,hB⟩:=hrel;by_cases hlt:k<i
  .have hlt':(k:Int)<(i:Int):=by omega
   obtain ⟨g',f',hg',q0,q1,q2,q3⟩:=(HH.o.bw hB).at k (by omega) _ _ _ _ rfl;simp at hg';obtain ⟨rfl,rfl⟩:=hg';have HNO:=zh (HNO0.o k hlt);have HST:=zh (HST0.o k hF);generalize xs.getD k zSl=y at *;obtain ⟨o0,o1,o2,o3⟩:=y;dsimp only at q0 q1 q2 q3;obtain ⟨W,hW,bW,kW⟩:=nwb wr #[.bool o0,qI o1,qI o2,qI o3] 142;have BW:=hB.trans (bW.mono hB.size);have HBW:=zh BW;have HW:=zh hW;have k2:=HBK.o.2.bw BW;obtain ⟨t0,t1,t2,t3⟩:=k2.z4;obtain ⟨p0,p1,p2,p3⟩:=kW.z4;clear hW bW kW BW k2 hB hF HNO0 HST0 HYES HH HRE;cases x0 with
   | false=>
     have HN:=zh (HST.o (fun q=>by have:=q.1;cases this));clear HNO HST;go_wp2_with (rw [<- HW.o])
     go_roundw
     .exact ⟨k+1,by omega,by go_num,HN.o,HBW.o⟩
     .simp [qf,intOf];omega
   | true=>
     cases o0 with
     | false=>
       have HN:=zh (HST.o (fun q=>by have:=q.2.1;cases this));clear HNO HST;go_wp2_with (rw [<- HW.o])
       go_roundw
       .exact ⟨k+1,by omega,by go_num,HN.o,HBW.o⟩
       .simp [qf,intOf];omega
     | true=>
       by_cases c3:o3=x3
       .subst c3;have HN:=zh (HNO.o ⟨rfl,rfl,.inl rfl⟩);clear HNO HST;go_wp2_with (rw [<- HW.o])
        go_ret;exact cV HN.o (HBK.o.1.trans (HBW.o.mono HBK.o.1.size))
       .have c3':(o3==x3)=false:=by simp [c3]
        by_cases c1:o1=x1
        .by_cases c2:o2=x2
         .have HN:=zh (HNO.o ⟨rfl,rfl,.inr ⟨c1,c2⟩⟩);subst c1 c2;clear HNO HST c3;go_wp2_with (rw [<- HW.o])
          go_ret;exact cV HN.o (HBK.o.1.trans (HBW.o.mono HBK.o.1.size))
         .have c2':(o2==x2)=false:=by simp [c2]
          have HN:=zh (HST.o (fun q=>by rcases q.2.2 with e|e;exact c3 e;exact c2 e.2));subst c1;clear HNO HST c3 c2;go_wp2_with (rw [<- HW.o])
          go_roundw
          .exact ⟨k+1,by omega,by go_num,HN.o,HBW.o⟩
          .simp [qf,intOf];omega
        .have c1':(o1==x1)=false:=by simp [c1]
         have HN:=zh (HST.o (fun q=>by rcases q.2.2 with e|e;exact c3 e;exact c1 e.1));clear HNO HST c3 c1;go_wp2_with (rw [<- HW.o])
         go_roundw
         .exact ⟨k+1,by omega,by go_num,HN.o,HBW.o⟩
         .simp [qf,intOf];omega
  .have HY:=zh (HYES.o (fun j hj=>hF j (by omega)));have HB:=zh hB;clear hB hF;go_wp2;go_ret;exact pZ HY.o (HBK.o.1.trans (HB.o.mono HBK.o.1.size))
