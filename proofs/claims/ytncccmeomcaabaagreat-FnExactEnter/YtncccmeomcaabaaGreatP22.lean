import Derived.Test.YtncccmeomcaabaaGreatP17
import Derived.Test.YtncccmeomcaabaaGreatP18
import Derived.Test.YtncccmeomcaabaaGreatP21
set_option maxHeartbeats 4000000
namespace Go.Proofs.YtncccmeomcaabaaGreat
open Go.RowKit Classical
open Go.Proofs.Tryz
set_option linter.all false
set_option maxRecDepth 100000
variable {b:Nat}{rs:List Rg}{v:Value}
def plR (ps:List PMod)(L:Lay)(m b s:Int):List Rg:=(([]++rts true true false (cvL (plc ps m.toNat).data (plc ps m.toNat).size))++rts true true false (cvL L.stack (dA L-L.stack))++rts false true false (cvL 131072 32))++rts false false true (cvL (gB L (plc ps m.toNat) b s) (rnd (4*pcq ps m b)))
theorem sK {w:qw}{base base':Nat}(h:ORg w base v rs)(hb:base'<=base):ORg w base' v rs:=by
 refine ⟨?_,h.2⟩;obtain ⟨hl,h0|⟨g',cap,cur,hv,hg,hh,h1,h2,h3,h4⟩⟩:=h.1
 .exact ⟨hl,.inl h0⟩
 .exact ⟨hl,.inr ⟨g',cap,cur,hv,xM hb hg,hh,h1,h2,h3,h4⟩⟩
structure PlZ (V X:qw)(v:Value)(rs:List Rg):Prop where
 b:qY V X
 o:ORg X V.heap.size v rs
theorem PlZ.bw {V X X':qw}(h:PlZ V X v rs)(hb:qY X X'):PlZ V X' v rs:=⟨h.b.trans (hb.mono h.b.size),eX (aJ hb) h.o (fun _ _ h=>h)⟩
theorem PlZ.drew {V X:qw}(h:PlZ V X v rs):PlZ V X.drew v rs:=h.bw brf.drew
theorem nE {V:qw}(A:qO)(m cap:Nat)(rs:List Rg)(f s:Int)(r x y:Bool)(X:qw)(h:PlZ V X (qS A m cap) rs)(hf:wfi f)(hs:wfi s)(hm:m<=1000000):
 qC 183 #[qS A m cap,qI f,qI s,.bool r,.bool x,.bool y] X fun e w'=>∃ A' m' cap',e=.returned (qS A' m' cap')/\m'<=m+8192/\PlZ V w' (qS A' m' cap') (rs++rts r x y (cvL f s)):=
 (aEv A m cap rs f s r x y V.heap.size X h.b.size h.o hf hs hm).mono fun e w' ⟨A',m',cap',he,hm',ho,hb⟩=>⟨A',m',cap',he,by have:=rM f s;omega,h.b.trans hb,ho⟩
theorem aCl {w:qw}{L:Lay}{a0:qO}{c0:Nat}{xs:List PB}{a2:qO}{c2:Nat}{a5:qO}{c5:Nat}{ts:List TB}{ps:List PMod}{m b s:Int}
 (hL:LyT w L a0 c0 xs a2 c2 a5 c5 ts) (hk:Lok ps L) (hp:0<=pcq ps m b) (hs:s=-1\/(b≠-1/\0<=s/\s<(L.slots.length:Int))):wfi (gC L (xs.getD m.toNat zPB) b s):=by
 have Q:=sI (s:=s) hL hk hp;have K:=kI hk;have hm:=Q.m2;have hm0:=Q.m0;have hv:=K.v m.toNat (by omega);have n4:=K.n.2;have r1:=cM K.v m.toNat (by omega);have r2:=dZ hv;have n5:(m.toNat:Int)<=4:=by omega
 unfold gC;rw [Q.p];by_cases c:b=-1
 .rw [if_pos c];have e:(plc ps m.toNat).text=Fl ps m.toNat:=rfl;rw [e];unfold wfi;omega
 .rw [if_neg c];by_cases c2:s=-1
  .rw [if_pos c2];have hb:=Q.bb.resolve_left c;rw [Q.p] at hb;have hl:(plc ps m.toNat).banks.length=(ps.getD m.toNat zP).bl.length:=by simp [plc]
   have hbn:b.toNat<(ps.getD m.toNat zP).bl.length:=by rw [hl] at hb;omega
   have e:(plc ps m.toNat).banks.getD b.toNat 0=Fl ps m.toNat+tsz (ps.getD m.toNat zP)+cB (ps.getD m.toNat zP) b.toNat:=by
    simp only [plc];rw [fD _ _ _ 0 _ (by rw [List.length_range];exact hbn),show (List.range (ps.getD m.toNat zP).bl.length).getD b.toNat 0=b.toNat by rw [xB,List.getElem?_range hbn];rfl]
   have r3:=cD hv b.toNat (by omega);obtain ⟨_,_,_,v4,_⟩:=cA hv;rw [e];unfold wfi;omega
  .rw [if_neg c2];have h2:=hs.resolve_left c2;exact hL.s.2.2.1 _ (yR (by omega))
theorem aEw (a:qO)(n cap:Nat)(ms:List Md)(L:Lay)(a0:qO)(c0:Nat)(xs:List PB)(a2:qO)(c2:Nat)(a5:qO)(c5:Nat)(ts:List TB)(m b at' s:Int)(w:qw)(h:MSD w a n cap ms)(hL:LyT w L a0 c0 xs a2 c2 a5 c5 ts)
 (hk:Lok (aD ms) L) (hp:0<=pcq (aD ms) m b) (hs:s=-1\/(b≠-1/\0<=s/\s<(L.slots.length:Int))):
 qC 143 #[qS a n cap,.agg (qJ L a0 xs c0 a2 c2 a5 ts c5),.agg (qT m b at'),qI s] w fun e w'=>∃ A k c,e=.returned (qS A k c)/\ORg w' w.heap.size (qS A k c) (plR (aD ms) L m b s)/\qY w w':=by
 have K:=sI (s:=s) hL hk hp;have hn:=h.s.1;have hlen:=bR ms;obtain ⟨m0,m1,m2,hpl,hbb,hw,hd,hst,hen⟩:=K;have hwfo:wfi (gC L (xs.getD m.toNat zPB) b s):=aCl hL hk hp hs;have HPQ:=zh (dW h m b);obtain ⟨W,hW⟩:=eqx ((w.alloc (.cells (qJ L a0 xs c0 a2 c2 a5 ts c5) 71)).alloc (.cells (qT m b at') 58));have hB:qY w W:=by rw [hW];exact bal.alloc (by simp) _
 have k0:Blk W w.heap.size (qJ L a0 xs c0 a2 c2 a5 ts c5) 71:=by rw [hW];exact (Blk.new w _ _).alloc _
 have k1:Blk W (w.heap.size+1) (qT m b at') 58:=by rw [hW];have:=Blk.new (w.alloc (.cells (qJ L a0 xs c0 a2 c2 a5 ts c5) 71)) (qT m b at') 58;simpa using this
 have h1:=h.bw hB;have hL1:=hL.bw hB;obtain ⟨gp,op,rfl,q0,q1,q2,q3⟩:=hL1.p.at m.toNat (by omega);unfold svP at q1;have hpx:=hL1.p.2.1;unfold maxLen at hpx;have d0:=k0.e0;have t0:=k1.e0;obtain ⟨P,hP⟩:=eqx (xs.getD m.toNat zPB);rw [<- hP] at q0 q1 q2 q3 hpl hbb hwfo;rw [<- hpl] at hd;obtain ⟨⟨tx,bk,dt,sz⟩,pa,pc⟩:=P;dsimp only at q0 q1 q2 q3 hpl hbb hd;have HP:=zh hP;obtain ⟨hd1,hd2,hd3,hd4⟩:=hd;obtain ⟨st1,st2⟩:=hst;obtain ⟨en1,en2⟩:=hen;obtain ⟨q,hq⟩:=eqx (pcq (aD ms) m b);have HQ:=zh hq
 have HRS:=zh (show plR (aD ms) L m b s=(([]++rts true true false (cvL dt sz))++rts true true false (cvL L.stack (dA L-L.stack))++rts false true false (cvL 131072 32))++rts false false true (cvL (gC L ((⟨tx,bk,dt,sz⟩,pa,pc):PB) b s) (rnd (4*q))) from by
  unfold plR;rw [<- hpl,hq]
  rfl)
 rw [HRS.o];rw [<- hq] at hw hp;clear HRS;obtain ⟨V,hV,bV,kV⟩:=nwb W #[qI tx,qS pa bk.length pc,qI dt,qI sz] 171;have k0':=k0.bw bV;have k1':=k1.bw bV;have HBV:=zh (hB.trans (bV.mono hB.size));have h2:=h1.bw bV;have hL2:=hL1.bw bV;have HW:=zh hW;have HV:=zh hV;have HM:=zh h2;have HL2:=zh hL2;have HK0:=zh (xA k0' (xA k1' kV));clear hW hV k0 k1 h h1 hL hL1 hB bV k0' k1' kV hP hpl hq;go_enter func143,ntmps143
 go_wp2_with (first|rw [<- HW.o]|rw [<- HV.o])
 obtain ⟨gm,om,rfl,v0,v1,v2,v3,v4,v5,v6,v7⟩:=HM.o.s.at m.toNat (by omega);have hmt:=HM.o.s.2.2.2.1 m.toNat (by omega)
 have hqn:pcn (ms.getD m.toNat aK).tn (ms.getD m.toNat aK).bn (ms.getD m.toNat aK).bl b=q:=by
  rw [HQ.o,<- HPQ.o];unfold pcm;rw [if_pos (by omega)]
 generalize ms.getD m.toNat aK=M at *
 have HPC:=zh (show ∀ X,qY V X->qC 115 #[.agg (qM M.nm M.ta M.tn M.tc M.ba M.bn M.bc M.da M.dn M.dc M.bss M.ra M.rn M.rc M.ia M.im M.ic M.ea M.en M.ec),qI b] X (fun e w'=>∃ xa xn xc,e=.returned (.tuple #[qS xa xn xc,.bool true])/\(xn:Int)=q/\qY V w') from fun X hX=>
  (gT M.nm M.ta M.tn M.tc M.ba M.bn M.bc M.bl (qS M.da M.dn M.dc) (qS M.ra M.rn M.rc) (qS M.ia M.im M.ic) (qS M.ea M.en M.ec) M.bss b X hmt.t.2.1 (hmt.b.bw hX)).mono fun e w' ⟨xa,xn,xc,ok,he,ho,hx,_,hb⟩=>by
    have ho':ok=true:=by rw [ho,hqn];simp;omega
    exact ⟨xa,xn,xc,by rw [he,ho'],by rw [hx ho',hqn],hX.trans (hb.mono hX.size)⟩)
 obtain ⟨x0,x1,x2,x3,x4,x5⟩:=HK0.o.1.ly6;have y0:=HK0.o.2.1.e0;have y1:=HK0.o.2.1.e1;have hmx:=HM.o.s.2.1;unfold maxLen at hmx;have hmn:m<(n:Int):=by omega
 clear q0 q1 q2 q3 d0 t0 hmt hqn hlen hn
 go_region_held3 (fun w'=>w'.cell? (qR (w.heap.size+1) 0)=some (qI m)/\w'.cell? (qR (w.heap.size+1) 1)=some (qI b)/\w'.cell? (qR gm (om+m.toNat*8))=some (.string M.nm)/\w'.cell? (qR gm (om+m.toNat*8+1))=some (qS M.ta M.tn M.tc)/\w'.cell? (qR gm (om+m.toNat*8+2))=some (qS M.ba M.bn M.bc)/\w'.cell? (qR gm (om+m.toNat*8+3))=some (qS M.da M.dn M.dc)/\w'.cell? (qR gm (om+m.toNat*8+4))=some (qI M.bss)/\w'.cell? (qR gm (om+m.toNat*8+5))=some (qS M.ra M.rn M.rc)/\w'.cell? (qR gm (om+m.toNat*8+6))=some (qS M.ia M.im M.ic)/\w'.cell? (qR gm (om+m.toNat*8+7))=some (qS M.ea M.en M.ec)) (go_keep)
  (first
    | (go_at_call 115;first
        | with_reducible refine (HPC.o _ brf).mono ?_
        | with_reducible refine (HPC.o _ brf.drew).mono ?_
       rintro e w1 ⟨xa,xn,xc,rfl,hxn,hb1⟩;have HB1:=zh hb1;have HXN:=zh hxn;have C1:=(HK0.o.2.1.bw hb1).cell 0;have C2:=(HK0.o.2.1.bw hb1).cell 1;have u0:=aB hb1 v0;have u1:=aB hb1 v1;have u2:=aB hb1 v2;have u3:=aB hb1 v3;have u4:=aB hb1 v4;have u5:=aB hb1 v5;have u6:=aB hb1 v6;have u7:=aB hb1 v7
       clear hb1 hxn))
 have HKX:=zh (show ∀ X v rs,PlZ V X v rs->X.cell? (qR W.heap.size 2)=some (qI dt)/\X.cell? (qR W.heap.size 3)=some (qI sz)/\(X.cell? (qR w.heap.size 0)=some (qS (some (qR gp op)) xs.length c0)/\X.cell? (qR w.heap.size 1)=some (qI L.stack)/\X.cell? (qR w.heap.size 2)=some (qS a2 L.slots.length c2)/\X.cell? (qR w.heap.size 3)=some (qI L.flash)/\X.cell? (qR w.heap.size 4)=some (qI L.ram)/\X.cell? (qR w.heap.size 5)=some (qS a5 ts.length c5))/\X.cell? (qR (w.heap.size+1) 0)=some (qI m)/\X.cell? (qR (w.heap.size+1) 1)=some (qI b)/\X.cell? (qR (w.heap.size+1) 2)=some (qI at') from fun X v rs hz=>
  ⟨(HK0.o.2.2.bw hz.b).cell 2,(HK0.o.2.2.bw hz.b).cell 3,(HK0.o.1.bw hz.b).ly6,(HK0.o.2.1.bw hz.b).cell 0,(HK0.o.2.1.bw hz.b).cell 1,(HK0.o.2.1.bw hz.b).cell 2⟩)
 have HEN:Zh (∀ X v rs,PlZ V X v rs->qC 60 #[.agg (qL L (some (qR gp op)) xs.length c0 a2 L.slots.length c2 a5 ts.length c5)] X (fun e w'=>e=.returned (qI (dA L))/\PlZ V w' v rs)):=fun X v rs hz=>(tQ L (some (qR gp op)) c0 xs a2 c2 a5 c5 ts X (HL2.o.bw hz.b)).mono fun e w' he=>⟨he.1,hz.bw he.2⟩;have HOR:Zh (∀ X v rs,PlZ V X v rs->qC 119 #[.agg (qL L (some (qR gp op)) xs.length c0 a2 L.slots.length c2 a5 ts.length c5),.agg (qT m b at'),qI s] X (fun e w'=>e=.returned (qI (gC L ((⟨tx,bk,dt,sz⟩,pa,pc):PB) b s))/\PlZ V w' v rs)):=fun X v rs hz=>(nF L (some (qR gp op)) c0 xs a2 c2 a5 c5 ts m b at' s X (HL2.o.bw hz.b) m0 m1 (by rw [<- HP.o];exact hbb) hs).mono fun e w' he=>⟨by rw [HP.o];exact he.1,hz.bw he.2⟩;generalize hog:gC L ((⟨tx,bk,dt,sz⟩,pa,pc):PB) b s=og at *;generalize hE:dA L=E at *;have HOG:=zh hog;have HE:=zh hE;clear hog hE;have Z0:Zh (PlZ V (w1.alloc (.cells #[] 214)) (qS (qP w1.heap.size) 0 0) []):=⟨HB1.o.alloc HB1.o.size _,sM w1 V.heap.size HB1.o.size⟩;obtain ⟨X1,hX1⟩:=eqx (w1.alloc (.cells #[] 214));rw [<- hX1] at Z0;have HX1:=zh hX1;clear hX1 u0 u1 u2 u3 u4 u5 u6 u7 C1 C2 v0 v1 v2 v3 v4 v5 v6 v7 x0 x1 x2 x3 x4 x5 y0 y1 HPC hbb hs hk;obtain ⟨z2,z3,⟨z4,z5,z6,z7,z8,z9⟩,z10,z11,z12⟩:=HKX.o _ _ _ Z0.o;have HW1:=zh (nE _ _ _ [] dt sz true true false X1 Z0.o (by unfold wfi;omega) (by unfold wfi;omega) (by omega));go_wp2_with (rw [<- HX1.o])
 refine HW1.o.mono ?_;rintro e X2 ⟨A1,k1,p1,rfl,hk1,hz⟩;have Z1:=zh hz;clear hz z2 z3 z4 z5 z6 z7 z8 z9 z10 z11 z12 Z0 HW1 HX1;obtain ⟨z2,z3,⟨z4,z5,z6,z7,z8,z9⟩,z10,z11,z12⟩:=HKX.o _ _ _ Z1.o;have HWR:Zh (IntKind.i64.wrap (E-L.stack)=E-L.stack):=nN;have HW2:Zh (∀ X,PlZ V X (qS A1 k1 p1) ([]++rts true true false (cvL dt sz))->qC 183 #[qS A1 k1 p1,qI L.stack,qI (IntKind.i64.wrap (E-L.stack)),.bool true,.bool true,.bool false] X fun e w'=>∃ A' m' cap',e=.returned (qS A' m' cap')/\m'<=k1+8192/\PlZ V w' (qS A' m' cap') (([]++rts true true false (cvL dt sz))++rts true true false (cvL L.stack (E-L.stack)))):=fun X hX=>by rw [HWR.o];exact nE A1 k1 p1 ([]++rts true true false (cvL dt sz)) L.stack (E-L.stack) true true false X hX (by unfold wfi;omega) (by unfold wfi;omega) (by omega)
 go_wp2_with fail
 go_region_held3 (fun w'=>w'.cell? (qR w.heap.size 0)=some (qS (some (qR gp op)) xs.length c0)/\w'.cell? (qR w.heap.size 1)=some (qI L.stack)/\w'.cell? (qR w.heap.size 2)=some (qS a2 L.slots.length c2)/\w'.cell? (qR w.heap.size 3)=some (qI L.flash)/\w'.cell? (qR w.heap.size 4)=some (qI L.ram)/\w'.cell? (qR w.heap.size 5)=some (qS a5 ts.length c5)) (go_keep)
  (first
    | (go_at_call 60;first
        | with_reducible refine (HEN.o _ _ _ Z1.o).mono ?_
        | with_reducible refine (HEN.o _ _ _ Z1.o.drew).mono ?_
       rintro e w3 ⟨rfl,hz3⟩;have Z3:=zh hz3;clear hz3
       obtain ⟨z2,z3,⟨z4,z5,z6,z7,z8,z9⟩,z10,z11,z12⟩:=HKX.o _ _ _ Z3.o)
    | (go_at_call 183;first
        | with_reducible refine (HW2.o _ Z3.o).mono ?_
        | with_reducible refine (HW2.o _ Z3.o.drew).mono ?_
       rintro e X3 ⟨A2,k2,p2,rfl,hk2,hz⟩;have Z2:=zh hz;clear hz
       obtain ⟨z2,z3,⟨z4,z5,z6,z7,z8,z9⟩,z10,z11,z12⟩:=HKX.o _ _ _ Z2.o))
 clear HW2 Z1 Z3;have HW3:=zh (nE A2 k2 p2 (([]++rts true true false (cvL dt sz))++rts true true false (cvL L.stack (E-L.stack))) 131072 32 false true false X3 Z2.o (by unfold wfi;omega) (by unfold wfi;omega) (by omega));go_wp2_with fail
 refine HW3.o.mono ?_;rintro e X4 ⟨A3,k3,p3,rfl,hk3,hz⟩;have Z4:=zh hz;clear hz Z2 HW3 z2 z3 z4 z5 z6 z7 z8 z9 z10 z11 z12;obtain ⟨z2,z3,⟨z4,z5,z6,z7,z8,z9⟩,z10,z11,z12⟩:=HKX.o _ _ _ Z4.o;have hx2:(xn:Int)<=200:=by rw [HXN.o];exact hw.2
 have HRD:=zh (fun (X:qw)=>dM (4*(xn:Int)) X);go_wp2_with fail
 refine (HOR.o _ _ _ Z4.o).mono ?_;rintro e X5 ⟨rfl,hz⟩;have Z5:=zh hz;clear hz Z4;go_wp2_with fail
 refine (HRD.o _).mono ?_;rintro e X6 ⟨rfl,rfl⟩;have hrd:=aQ (x:=4*(xn:Int));have HW4:=zh (nE A3 k3 p3 ((([]++rts true true false (cvL dt sz))++rts true true false (cvL L.stack (E-L.stack)))++rts false true false (cvL 131072 32)) og (rnd (4*(xn:Int))) false false true _ Z5.o hwfo (by unfold wfi;omega) (by omega));have HRR:=zh (show rnd (4*q)=rnd (4*(xn:Int)) by rw [HXN.o]);generalize rnd (4*(xn:Int))=rr at *;go_wp2_with fail
 refine HW4.o.mono ?_;rintro e X7 ⟨A4,k4,p4,rfl,hk4,hz⟩;have Z7:=zh hz;clear hz;go_wp2;go_ret;exact ⟨A4,k4,p4,rfl,by have e:=HRR.o;have e2:=HE.o;have e3:=HOG.o;rw [e,e2,e3];exact sK Z7.o.o HBV.o.size,HBV.o.trans (Z7.o.b.mono HBV.o.size)⟩
def uU (ps:List PMod)(L:Lay):Prop:=Lok ps L/\∀ m b s:Int,0<=pcq ps m b->sOk L b s->(plR ps L m b s).length<=8
def slk (ps:List PMod)(T:Int)(x:SlT):Prop:=(x.1=false/\x=zSl)\/(x.1=true/\0<=x.2.2.1/\0<=pcq ps x.2.1 x.2.2.1/\1<=x.2.2.2/\x.2.2.2<=T)
def cmn (x y:SlT):Prop:=x.1=true/\y.1=true/\(y.2.2.2=x.2.2.2\/(y.2.1=x.2.1/\y.2.2.1=x.2.2.1))
def aln (xs:List SlT)(i:Nat):Prop:=∀ k,k<i->¬ cmn (xs.getD i zSl) (xs.getD k zSl)
def slz (cw:Int):Nat:=(rnd (4*cw)).toNat
def bnk (ps:List PMod)(m b:Int):List Int:=(ps.getD m.toNat zP).bl.getD b.toNat []
def bkb (ps:List PMod)(cw m b:Int):List Int:=bL (List.replicate (slz cw) 0) 0 (bnk ps m b) (bnk ps m b).length
def slb (rz:qi)(L:Lay)(cw:Int)(i:Nat):List Int:=(rz.drop (L.slots.getD i 0-65536).toNat).take (slz cw)
def mU (ps:List PMod)(L:Lay)(cw T:Int)(rz:qi)(xs:List SlT)(i:Nat):Prop:=slk ps T (xs.getD i zSl)/\aln xs i/\((xs.getD i zSl).1=true->slb rz L cw i=bkb ps cw (xs.getD i zSl).2.1 (xs.getD i zSl).2.2.1)
def cV (ps:List PMod)(L:Lay)(cs cw T:Int)(rz:qi)(xs:List SlT):Prop:=(xs.length:Int)=cs/\∀ i,i<xs.length->mU ps L cw T rz xs i
def vM (ps:List PMod)(cs m b:Int)(xs:List SlT):Prop:=0<=pcq ps m b/\(cs=0\/b=-1\/hld xs m b≠-1)
abbrev tgk (ps:List PMod)(m b t:Int):Prop:=0<=pcq ps m b/\0<=t/\t<=pcq ps m b
abbrev frk (ps:List PMod)(x:FrT):Prop:=tgk ps x.1 x.2.1 x.2.2.1/\0<=x.2.2.2/\x.2.2.2<=4294967295
def jQ (ps:List PMod)(cd:Int)(xs:List FrT):Prop:=(xs.length:Int)<=cd/\∀ i,i<xs.length->frk ps (xs.getD i zFr)
def Mn.L (M:Mn):Lay:=lkL (aD M.ms) M.cs M.cw M.ck M.cd
structure MOk (M:Mn):Prop where
 l:lkc (aD M.ms) M.cs M.cw M.ck M.cd=0
 p:uU (aD M.ms) M.L
 c:cok M.pc M.kn M.kz=true
 b:mok M.fn M.rn M.on=true
 f:imF (aD M.ms) M.L=M.fz
 r:(M.rn:Int)=M.L.ram
 t:0<=M.tn/\M.tn<=1000000000
 s:cV (aD M.ms) M.L M.cs M.cw M.tn M.rz M.lz
 n:vM (aD M.ms) M.cs M.md M.bk M.lz
 h:jQ (aD M.ms) M.cd M.hz
theorem mS (a:qO)(n cap:Nat)(ms:List Md)(m b t:Int)(w:qw)(h:MSD w a n cap ms):
 qC 126 #[qS a n cap,.agg (qT m b t)] w fun e w'=>e=.returned (.bool (decide (tgk (aD ms) m b t)))/\qY w w':=by
 obtain ⟨V,hV,bV,kV⟩:=nwb w (qT m b t) 58;have HIP:=zh (kP a n cap ms m b V (h.s.bw bV));rw [dW h m b] at HIP;have HV:=zh hV;have HK:=zh (xA bV kV);obtain ⟨r,hr⟩:=eqx (decide (tgk (aD ms) m b t));rw [<- hr];have HR:=zh hr;have hmx:=h.s.2.1;unfold maxLen at hmx;clear hV hr;by_cases c:0<=pcq (aD ms) m b
 .rw [xR c] at HIP;obtain ⟨⟨m0,m1⟩,_⟩:=mC h c;obtain ⟨gm,om,rfl,v0,v1,v2,v3,v4,v5,v6,v7⟩:=(h.s.bw bV).at m.toNat (by omega);have HPC:=zh (fun (M:Md) (hM:ms.getD m.toNat aK=M) (X:qw) (hX:qY V X)=>(aHy (h.bw bV) c hM X hX));obtain ⟨M,hM⟩:=eqx (ms.getD m.toNat aK);rw [<- hM] at v0 v1 v2 v3 v4 v5 v6 v7;have HP:=zh (HPC.o M hM.symm);have HRQ:=zh (show r=decide (0<=t/\t<=pcq (aD ms) m b) from by rw [HR.o];unfold tgk;simp [c]);clear HR;generalize pcq (aD ms) m b=q at *
  have HC:=zh (fun (X:qw) (hX:qY V X)=>show (X.cell? (qR w.heap.size 0)=some (qI m)/\X.cell? (qR w.heap.size 1)=some (qI b)/\X.cell? (qR w.heap.size 2)=some (qI t))/\X.cell? (qR gm (om+m.toNat*8))=some (.string M.nm)/\X.cell? (qR gm (om+m.toNat*8+1))=some (qS M.ta M.tn M.tc)/\X.cell? (qR gm (om+m.toNat*8+2))=some (qS M.ba M.bn M.bc)/\X.cell? (qR gm (om+m.toNat*8+3))=some (qS M.da M.dn M.dc)/\X.cell? (qR gm (om+m.toNat*8+4))=some (qI M.bss)/\X.cell? (qR gm (om+m.toNat*8+5))=some (qS M.ra M.rn M.rc)/\X.cell? (qR gm (om+m.toNat*8+6))=some (qS M.ia M.im M.ic)/\X.cell? (qR gm (om+m.toNat*8+7))=some (qS M.ea M.en M.ec) from
   ⟨⟨(kV.bw hX).cell 0,(kV.bw hX).cell 1,(kV.bw hX).cell 2⟩,aB hX v0,aB hX v1,aB hX v2,aB hX v3,aB hX v4,aB hX v5,aB hX v6,aB hX v7⟩)
  clear HPC hM h bV kV c v0 v1 v2 v3 v4 v5 v6 v7;obtain ⟨⟨x0,x1,x2⟩,_⟩:=HC.o V brf;go_enter func126,ntmps126
  go_wp2_with (rw [<- HV.o])
  refine HIP.o.mono ?_;rintro e X1 ⟨rfl,hb1⟩;have HX1:=zh hb1;clear x0 x1 x2;have HP2:=zh (fun (X:qw) (hX:qY X1 X)=>(HP.o X (HX1.o.trans (hX.mono HX1.o.size))).mono (fun e w' he=>show ∃ xa xn xc,e=.returned (.tuple #[qS xa xn xc,.bool true])/\(xn:Int)=q/\qY V w' from he));obtain ⟨⟨y0,y1,y2⟩,u0,u1,u2,u3,u4,u5,u6,u7⟩:=HC.o X1 hb1;clear hb1 HIP HV HP;go_wp2_with fail
  go_region_held3 (fun w'=>w'.cell? (qR w.heap.size 0)=some (qI m)/\w'.cell? (qR w.heap.size 1)=some (qI b)/\w'.cell? (qR gm (om+m.toNat*8))=some (.string M.nm)/\w'.cell? (qR gm (om+m.toNat*8+1))=some (qS M.ta M.tn M.tc)/\w'.cell? (qR gm (om+m.toNat*8+2))=some (qS M.ba M.bn M.bc)/\w'.cell? (qR gm (om+m.toNat*8+3))=some (qS M.da M.dn M.dc)/\w'.cell? (qR gm (om+m.toNat*8+4))=some (qI M.bss)/\w'.cell? (qR gm (om+m.toNat*8+5))=some (qS M.ra M.rn M.rc)/\w'.cell? (qR gm (om+m.toNat*8+6))=some (qS M.ia M.im M.ic)/\w'.cell? (qR gm (om+m.toNat*8+7))=some (qS M.ea M.en M.ec)) (go_keep)
   (first
     | (go_at_call 175;first
         | with_reducible refine (HP2.o _ brf).mono ?_
         | with_reducible refine (HP2.o _ brf.drew).mono ?_
        rintro e w1 ⟨xa,xn,xc,rfl,hxn,hb1⟩;have HXN:=zh hxn;have HB1:=zh hb1;obtain ⟨⟨z0,z1,z2⟩,t0,t1,t2,t3,t4,t5,t6,t7⟩:=HC.o w1 hb1
        clear hb1 hxn))
  clear y0 y1 y2 u0 u1 u2 u3 u4 u5 u6 u7 t0 t1 t2 t3 t4 t5 t6 t7 HP2 HC HX1;have HU:=zh (cY t (xn:Int));go_wp2_with (go_at_call 155;refine (HU.o _).mono ?_;rintro e w2 ⟨rfl,rfl⟩)
  go_ret;exact ⟨aA (by rw [HRQ.o,HXN.o];simp),HK.o.1.trans (HB1.o.mono HK.o.1.size)⟩
 .rw [xS c] at HIP;have e:=zh (show r=false from by rw [HR.o];exact xS (fun k=>c k.1));have x0:=kV.cell 0;have x1:=kV.cell 1;clear h bV kV;go_enter func126,ntmps126
  go_wp2_with (rw [<- HV.o])
  refine HIP.o.mono ?_;rintro e X1 ⟨rfl,hb1⟩;go_wp2;go_ret;exact ⟨aA e.o.symm,HK.o.1.trans (hb1.mono HK.o.1.size)⟩
theorem aL8 {w:qw}{off n cap:Nat}(h:RS w (some (qR b off)) n cap rs):∀ j u,(dQ rs)[j]?=some u->w.cell? (((qR b off):Addr).add j)=some u:=by
 intro j u hj;have hl:=h.1
 have hj2:j<(dQ rs).length:=by
  rcases Nat.lt_or_ge j (dQ rs).length with h'|h'
  .exact h'
  .rw [xO h'] at hj;cases hj
 rw [oQ] at hj2;have hq:j/6<rs.length:=by omega
 have hr:j%6<6:=Nat.mod_lt _ (by omega);have e:=oR rs (j/6) (j%6) hq hr;rw [show j/6*6+j%6=j by omega,hj] at e;obtain ⟨h1,h2,h3,h4,h5,h6⟩:=h.at (j/6) (by omega);rw [bN,show off+j=off+j/6*6+j%6 by omega];rw [e];generalize rs.getD (j/6) z6=G at *;generalize j/6=q at *;have c:j%6=0\/j%6=1\/j%6=2\/j%6=3\/j%6=4\/j%6=5:=by omega
 rcases c with c|c|c|c|c|c<;>rw [c]
 .exact h1
 .exact h2
 .exact h3
 .exact h4
 .exact h5
 .exact h6
theorem aIn (rs:List Rg):∀ u∈dQ rs,u.oneCell'=true:=by
 intro u hu;simp only [dQ,List.mem_flatMap] at hu;obtain ⟨g,_,hg⟩:=hu;exact aMn g u hg
theorem aK7 (xs ys:List Rg):dQ (xs++ys)=dQ xs++dQ ys:=by simp [dQ]
abbrev Spn:=Int×Int×Bool×Bool×Bool
def spR (p:Spn):List Rg:=rts p.2.2.1 p.2.2.2.1 p.2.2.2.2 (cvL p.1 p.2.1)
def zSp:Spn:=(0,0,false,false,false)
def At5 (w:qw)(b o:Nat)(p:Spn):Prop:=
 w.cell? (qR b o)=some (qI p.1)/\w.cell? (qR b (o+1))=some (qI p.2.1)/\w.cell? (qR b (o+2))=some (.bool p.2.2.1) /\
 w.cell? (qR b (o+3))=some (.bool p.2.2.2.1)/\w.cell? (qR b (o+4))=some (.bool p.2.2.2.2)
theorem At5.bw {w w':qw}{o:Nat}{p:Spn}(h:At5 w b o p)(hb:qY w w'):At5 w' b o p:=by
 obtain ⟨h1,h2,h3,h4,h5⟩:=h;have hl:b<w.heap.size:=xD w _ h1;unfold At5;rw [hb.cell (p:=(qR b o)) hl,hb.cell (p:=(qR b (o+1))) hl,hb.cell (p:=(qR b (o+2))) hl,hb.cell (p:=(qR b (o+3))) hl,hb.cell (p:=(qR b (o+4))) hl];exact ⟨h1,h2,h3,h4,h5⟩
theorem aF3 (p:Spn):(spR p).length<=8192:=by unfold spR;rw [fR];exact rM _ _
theorem aL2 (ss:List Spn):(ss.flatMap spR).length<=8192*ss.length:=by
 induction ss with
 | nil=>simp
 | cons p ss ih=>have:=aF3 p;simp only [xT,xI,List.length_cons];omega
theorem aI7 (ss:List Spn)(k:Nat)(h:k<ss.length):(ss.take (k+1)).flatMap spR=(ss.take k).flatMap spR++spR (ss.getD k zSp):=by
 rw [List.take_add_one,xU];congr 1;simp [xB,h]
theorem aE1 (b off n cap:Nat)(ss:List Spn)(w:qw)(hn:ss.length=n)(hn4:n<=4)(hw:∀ i,i<n->wfi (ss.getD i zSp).1/\wfi (ss.getD i zSp).2.1)(h:∀ i,i<n->At5 w b (off+i*5) (ss.getD i zSp)):
 qC 198 #[qS (some (qR b off)) n cap] w fun e w'=>∃ A m cap',e=.returned (qS A m cap')/\m=(ss.flatMap spR).length/\ORg w' w.heap.size (qS A m cap') (ss.flatMap spR)/\qY w w':=by
 obtain ⟨i0,hi,hz0,hz1,hz2⟩:=info_parts aGn;have HA:=zh h;have HW:=zh hw;have HN:=zh hn;clear h hw hn;go_enter func198,ntmps198
 go_wp2_with fail
 go_loopw [3,8] (fun o i wr=>∃ (A:qO) (m cap' k:Nat),k<=n/\o=qS A m cap'/\i=qI k/\ORg wr w.heap.size (qS A m cap') ((ss.take k).flatMap spR)/\qY w wr) (fun _ i _=>n-(intOf i).toNat)
 .exact ⟨none,0,0,0,xC _,rfl,rfl,rC _ _,brf⟩
 .obtain ⟨A,m,cap',k,hk,rfl,rfl,hO,hB⟩:=hrel;by_cases hlt:k<n
  .have hlt':(k:Int)<(n:Int):=by omega
   obtain ⟨p0,p1,p2,p3,p4⟩:=(HA.o k hlt).bw hB;have HT:=zh (aI7 ss k (by rw [HN.o];exact hlt));have hww:=HW.o k hlt;generalize ss.getD k zSp=G at *;obtain ⟨f,s,r,x,y⟩:=G;obtain ⟨V,hV⟩:=eqx (wr.alloc (.cells #[qI f,qI s,.bool r,.bool x,.bool y] 234));have KV:Blk V wr.heap.size #[qI f,qI s,.bool r,.bool x,.bool y] 234:=by rw [hV];exact Blk.new _ _ _
   have BV:qY wr V:=by rw [hV];exact bal
   have e0:=KV.e0;have e1:=KV.e1;have e2:=KV.e2;have e3:=KV.e3;have e4:=KV.e4;have HR:=zh (aCd f s r x y V hww.1 hww.2);have HO:=zh (eX (aJ BV) hO (fun _ _ h=>h));have HML:=zh (fA hO).1;have HMX:=zh (show m<=32768 by have h1:=aL2 (ss.take k);rw [(fA hO).1,List.length_take,HN.o] at h1;omega);have HLE:=zh (aGe hO);have HBV:=zh (hB.trans (BV.mono hB.size));have HSV:Zh (w.heap.size<=V.heap.size):=xM hB.size BV.size;have HV:=zh hV;have HGE:=zh (fun j hj=>sL hO j hj);clear hV KV BV hO hB hww;go_wp2_with (rw [<- HV.o])
   refine HR.o.mono ?_;rintro e w3 ⟨X,q,qc,rfl,hX,hnil,hB3⟩;have HL3:=zh (show q<=8192 by have h1:=aF3 (f,s,r,x,y);have h2:=hX.1;unfold spR at h1;simp only at h1;omega);have HO3:=zh (eX (aJ hB3) HO.o (fun _ _ h=>h));have HB4:=zh (HBV.o.trans (hB3.mono HSV.o));have HSZ:Zh (w.heap.size<=w3.heap.size):=xM HSV.o hB3.size;have HX:=zh hX;have HNIL:=zh hnil;clear hX hnil hB3;have HOW:=zh (show w3.ownsRow w.heap.size 214 6 (qS A m cap') m (dQ ((ss.take k).flatMap spR)) from by have:=HO3.o.1;rwa [HML.o] at this);have HSP:Zh (spR (f,s,r,x,y)=rts r x y (cvL f s)):=rfl;have HWF:=zh HX.o.2.2.1;obtain ⟨M,hM⟩:=eqx (rts r x y (cvL f s));rw [<- hM] at HX HSP HWF;have HLEN:=zh (show (dQ M).length=q*6 by rw [oQ,HX.o.1]);have HONE:=zh (aIn M);clear hM
   match X with
   | none=>
     obtain ⟨rfl,rfl⟩:=HNIL.o rfl;go_wp2_with (at_builtin;refine wpList_append_own_none rfl _ _ 108 rfl w.heap.size 214 i0 6 underlying108 hi (qS A m cap') m (dQ ((ss.take k).flatMap spR)) rfl HOW.o rfl ?_)
     refine ⟨⟨A,m,cap',k+1,by omega,rfl,by go_num,?_,HB4.o⟩,by simp [intOf];omega⟩;rw [HT.o,HSP.o,xE HX.o.1,List.append_nil];exact HO3.o
   | some ad=>
     have HNEWS:=zh (show ∀ j u,(dQ M)[j]?=some u->w3.cell? (ad.add j)=some u from by
      by_cases hq:q=0
      .have e:M=[]:=xE (by rw [HX.o.1];exact hq);rw [e];intro j u hj;simp [dQ] at hj
      .obtain ⟨b',off',he⟩:=HX.o.some hq;injection he with he
       subst he
       exact aL8 HX.o)
     go_wp2_with (at_builtin;refine wpList_append_own _ rfl _ _ 108 rfl w.heap.size 214 i0 (.agg #[qI 0,qI 0,qI 0,.bool false,.bool false,.bool false]) 6 32 underlying108 hi hz0 hz1 hz2 rfl (by decide) (qS A m cap') m (dQ ((ss.take k).flatMap spR)) rfl HOW.o ad q qc (dQ M) rfl HLEN.o HNEWS.o HONE.o (by have:=HMX.o;have:=HL3.o;unfold maxLen;omega) (by have:=HMX.o;have:=HL3.o;omega) HSZ.o ?_;intro v' w4 hown4 hgr4 _;have HP:=zh (xA hown4 hgr4);clear hown4 hgr4;obtain ⟨A2,cap2,he⟩:=mY HP.o.1;subst he)
     refine ⟨⟨A2,m+q,cap2,k+1,by omega,rfl,by go_num,?_,aG HB4.o (jG HP.o.2) (fun j hj=>HGE.o j hj) HSZ.o⟩,by simp [intOf];omega⟩;rw [HT.o,HSP.o];refine ⟨?_,fun y hy=>?_⟩
     .rw [xI,HML.o,HX.o.1,aK7];exact HP.o.1
     .rcases List.mem_append.1 hy with hy|hy
      .exact HO3.o.2 y hy
      .exact HWF.o y hy
  .have HE:=zh (show k=n by omega);have HF:=zh (xA hO hB);clear hO hB;go_wp2;go_ret;have h1:=HF.o.1;rw [xG (by rw [HN.o,HE.o];exact aN)] at h1;exact ⟨A,m,cap',rfl,(fA h1).1.symm,h1,HF.o.2⟩
