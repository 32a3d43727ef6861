import Derived.Test.YtncccmeomcaabaaGreatR15
import Derived.Test.YtncccmeomcaabaaGreatR17
set_option linter.all false
set_option maxHeartbeats 4000000
namespace Go.Proofs.YtncccmeomcaabaaGreat
open Go.RowKit Classical
open Go.Proofs.Tryz
set_option maxRecDepth 100000
variable {a b k:Int}{j m n:Nat}{rs:List Rg}{v:Value}
def plR (ps:List PMod)(L:Lay)(m b s:Int):List Rg:=(([]++rts true true false (cvL (plc ps m.toNat).data (plc ps m.toNat).size))++rts true true false (cvL L.stack (cZ L-L.stack))++rts false true false (cvL 131072 32))++rts false false true (cvL (gB L (plc ps m.toNat) b s) (rnd (4*pcq ps m b)))
theorem rY {w:qw}{base base':Nat}(h:ORg w base v rs)(hb:base'<=base):ORg w base' v rs:=by
 refine ⟨?_,h.2⟩;obtain ⟨hl,h0|⟨g',cap,cur,hv,hg,hh,h1,h2,h3,h4⟩⟩:=h.1
 .exact ⟨hl,.inl h0⟩
 .exact ⟨hl,.inr ⟨g',cap,cur,hv,xM hb hg,hh,h1,h2,h3,h4⟩⟩
structure PlZ (V X:qw)(v:Value)(rs:List Rg):Prop where
 b:qY V X
 o:ORg X V.heap.size v rs
theorem PlZ.bw {V X X':qw}(h:PlZ V X v rs)(hb:qY X X'):PlZ V X' v rs:=⟨h.b.trans (hb.mono h.b.size),eV (aJ hb) h.o (fun _ _ h=>h)⟩
theorem PlZ.drew {V X:qw}(h:PlZ V X v rs):PlZ V X.drew v rs:=h.bw brf.drew
theorem mY {V:qw}(A:qO)(m cap:Nat)(rs:List Rg)(f s:Int)(r x y:Bool)(X:qw)(h:PlZ V X (qS A m cap) rs)(hf:wfi f)(hs:wfi s)(hm:m<=1000000):
 qC 183 #[qS A m cap,qI f,qI s,.bool r,.bool x,.bool y] X fun e w'=>∃ A' m' cap',e=.returned (qS A' m' cap')/\m'<=m+8192/\PlZ V w' (qS A' m' cap') (rs++rts r x y (cvL f s)):=
 (aEf A m cap rs f s r x y V.heap.size X h.b.size h.o hf hs hm).mono fun e w' ⟨A',m',cap',he,hm',ho,hb⟩=>⟨A',m',cap',he,by have:=rA f s;omega,h.b.trans hb,ho⟩
theorem aCa {w:qw}{L:Lay}{a0:qO}{c0:Nat}{xs:List PB}{a2:qO}{c2:Nat}{a5:qO}{c5:Nat}{ts:List TB}{ps:List PMod}{m s:Int}
 (hL:LyT w L a0 c0 xs a2 c2 a5 c5 ts) (hk:Lok ps L) (hp:0<=pcq ps m b) (hs:s=-1\/(b≠-1/\0<=s/\s<(L.slots.length:Int))):wfi (gC L (xs.getD m.toNat zPB) b s):=by
 have Q:=rW (s:=s) hL hk hp;have K:=jZ hk;have hm:=Q.m2;have hm0:=Q.m0;have hv:=K.v m.toNat (by omega);have n4:=K.n.2;have r1:=cL K.v m.toNat (by omega);have r2:=dW hv;have n5:(m.toNat:Int)<=4:=by omega
 unfold gC;rw [Q.p];by_cases c:b=-1
 .rw [if_pos c];have e:(plc ps m.toNat).text=Fl ps m.toNat:=rfl;rw [e];unfold wfi;omega
 .rw [if_neg c];by_cases c2:s=-1
  .rw [if_pos c2];have hb:=Q.bb.resolve_left c;rw [Q.p] at hb;have hl:(plc ps m.toNat).banks.length=(ps.getD m.toNat zP).bl.length:=by simp [plc]
   have hbn:b.toNat<(ps.getD m.toNat zP).bl.length:=by rw [hl] at hb;omega
   have e:(plc ps m.toNat).banks.getD b.toNat 0=Fl ps m.toNat+tsz (ps.getD m.toNat zP)+cA (ps.getD m.toNat zP) b.toNat:=by
    simp only [plc];rw [fC _ _ _ 0 _ (by rw [List.length_range];exact hbn),show (List.range (ps.getD m.toNat zP).bl.length).getD b.toNat 0=b.toNat by rw [xB,List.getElem?_range hbn];rfl]
   have r3:=cC hv b.toNat (by omega);obtain ⟨_,_,_,v4,_⟩:=bZ hv;rw [e];unfold wfi;omega
  .rw [if_neg c2];have h2:=hs.resolve_left c2;exact hL.s.2.2.1 _ (wX (by omega))
theorem aEg (a:qO)(n cap:Nat)(ms:List Md)(L:Lay)(a0:qO)(c0:Nat)(xs:List PB)(a2:qO)(c2:Nat)(a5:qO)(c5:Nat)(ts:List TB)(m b at' s:Int)(w:qw)(h:MSD w a n cap ms)(hL:LyT w L a0 c0 xs a2 c2 a5 c5 ts)
 (hk:Lok (aE ms) L) (hp:0<=pcq (aE ms) m b) (hs:s=-1\/(b≠-1/\0<=s/\s<(L.slots.length:Int))):
 qC 143 #[qS a n cap,.agg (qJ L a0 xs c0 a2 c2 a5 ts c5),.agg (qT m b at'),qI s] w fun e w'=>∃ A k c,e=.returned (qS A k c)/\ORg w' w.heap.size (qS A k c) (plR (aE ms) L m b s)/\qY w w':=by
 have K:=rW (s:=s) hL hk hp;have hn:=h.s.1;have hlen:=bQ ms;obtain ⟨m0,m1,m2,hpl,hbb,hw,hd,hst,hen⟩:=K;have hwfo:wfi (gC L (xs.getD m.toNat zPB) b s):=aCa hL hk hp hs;have HPQ:=zh (eM h m b);obtain ⟨W,hW⟩:=eqx ((w.alloc (.cells (qJ L a0 xs c0 a2 c2 a5 ts c5) 71)).alloc (.cells (qT m b at') 58));have hB:qY w W:=by rw [hW];exact bal.alloc (by simp) _
 have k0:Blk W w.heap.size (qJ L a0 xs c0 a2 c2 a5 ts c5) 71:=by rw [hW];exact (Blk.new w _ _).alloc _
 have k1:Blk W (w.heap.size+1) (qT m b at') 58:=by rw [hW];have:=Blk.new (w.alloc (.cells (qJ L a0 xs c0 a2 c2 a5 ts c5) 71)) (qT m b at') 58;simpa using this
 have h1:=h.bw hB;have hL1:=hL.bw hB;obtain ⟨gp,op,rfl,q0,q1,q2,q3⟩:=hL1.p.at m.toNat (by omega);unfold svP at q1;have hpx:=hL1.p.2.1;unfold maxLen at hpx;have d0:=k0.e0;have t0:=k1.e0;obtain ⟨P,hP⟩:=eqx (xs.getD m.toNat zPB);rw [<- hP] at q0 q1 q2 q3 hpl hbb hwfo;rw [<- hpl] at hd;obtain ⟨⟨tx,bk,dt,sz⟩,pa,pc⟩:=P;dsimp only at q0 q1 q2 q3 hpl hbb hd;have HP:=zh hP;obtain ⟨hd1,hd2,hd3,hd4⟩:=hd;obtain ⟨st1,st2⟩:=hst;obtain ⟨en1,en2⟩:=hen;obtain ⟨q,hq⟩:=eqx (pcq (aE ms) m b);have HQ:=zh hq
 have HRS:=zh (show plR (aE ms) L m b s=(([]++rts true true false (cvL dt sz))++rts true true false (cvL L.stack (cZ L-L.stack))++rts false true false (cvL 131072 32))++rts false false true (cvL (gC L ((⟨tx,bk,dt,sz⟩,pa,pc):PB) b s) (rnd (4*q))) from by
  unfold plR;rw [<- hpl,hq]
  rfl)
 rw [HRS.o];rw [<- hq] at hw hp;clear HRS;obtain ⟨V,hV,bV,kV⟩:=nwb W #[qI tx,qS pa bk.length pc,qI dt,qI sz] 171;have k0':=k0.bw bV;have k1':=k1.bw bV;have HBV:=zh (hB.trans (bV.mono hB.size));have h2:=h1.bw bV;have hL2:=hL1.bw bV;have HW:=zh hW;have HV:=zh hV;have HM:=zh h2;have HL2:=zh hL2;have HK0:=zh (xA k0' (xA k1' kV));clear hW hV k0 k1 h h1 hL hL1 hB bV k0' k1' kV hP hpl hq;go_enter func143,ntmps143
 go_wp2_with (first|rw [<- HW.o]|rw [<- HV.o])
 obtain ⟨gm,om,rfl,v0,v1,v2,v3,v4,v5,v6,v7⟩:=HM.o.s.at m.toNat (by omega);have hmt:=HM.o.s.2.2.2.1 m.toNat (by omega)
 have hqn:pcn (ms.getD m.toNat aK).tn (ms.getD m.toNat aK).bn (ms.getD m.toNat aK).bl b=q:=by
  rw [HQ.o,<- HPQ.o];unfold pcm;rw [if_pos (by omega)]
 generalize ms.getD m.toNat aK=M at *
 have HPC:=zh (show ∀ X,qY V X->qC 115 #[.agg (qM M.nm M.ta M.tn M.tc M.ba M.bn M.bc M.da M.dn M.dc M.bss M.ra M.rn M.rc M.ia M.im M.ic M.ea M.en M.ec),qI b] X (fun e w'=>∃ xa xn xc,e=.returned (.tuple #[qS xa xn xc,.bool true])/\(xn:Int)=q/\qY V w') from fun X hX=>
  (gR M.nm M.ta M.tn M.tc M.ba M.bn M.bc M.bl (qS M.da M.dn M.dc) (qS M.ra M.rn M.rc) (qS M.ia M.im M.ic) (qS M.ea M.en M.ec) M.bss b X hmt.t.2.1 (hmt.b.bw hX)).mono fun e w' ⟨xa,xn,xc,ok,he,ho,hx,_,hb⟩=>by
    have ho':ok=true:=by rw [ho,hqn];simp;omega
    exact ⟨xa,xn,xc,by rw [he,ho'],by rw [hx ho',hqn],hX.trans (hb.mono hX.size)⟩)
 obtain ⟨x0,x1,x2,x3,x4,x5⟩:=HK0.o.1.ly6;have y0:=HK0.o.2.1.e0;have y1:=HK0.o.2.1.e1;have hmx:=HM.o.s.2.1;unfold maxLen at hmx;have hmn:m<(n:Int):=by omega
 clear q0 q1 q2 q3 d0 t0 hmt hqn hlen hn
 go_region_held3 (fun w'=>w'.cell? (qR (w.heap.size+1) 0)=some (qI m)/\w'.cell? (qR (w.heap.size+1) 1)=some (qI b)/\w'.cell? (qR gm (om+m.toNat*8))=some (.string M.nm)/\w'.cell? (qR gm (om+m.toNat*8+1))=some (qS M.ta M.tn M.tc)/\w'.cell? (qR gm (om+m.toNat*8+2))=some (qS M.ba M.bn M.bc)/\w'.cell? (qR gm (om+m.toNat*8+3))=some (qS M.da M.dn M.dc)/\w'.cell? (qR gm (om+m.toNat*8+4))=some (qI M.bss)/\w'.cell? (qR gm (om+m.toNat*8+5))=some (qS M.ra M.rn M.rc)/\w'.cell? (qR gm (om+m.toNat*8+6))=some (qS M.ia M.im M.ic)/\w'.cell? (qR gm (om+m.toNat*8+7))=some (qS M.ea M.en M.ec)) (go_keep)
  (first
    | (go_at_call 115;first
        | with_reducible refine (HPC.o _ brf).mono ?_
        | with_reducible refine (HPC.o _ brf.drew).mono ?_
       rintro e w1 ⟨xa,xn,xc,rfl,hxn,hb1⟩;have HB1:=zh hb1;have HXN:=zh hxn;have C1:=(HK0.o.2.1.bw hb1).cell 0;have C2:=(HK0.o.2.1.bw hb1).cell 1;have u0:=aB hb1 v0;have u1:=aB hb1 v1;have u2:=aB hb1 v2;have u3:=aB hb1 v3;have u4:=aB hb1 v4;have u5:=aB hb1 v5;have u6:=aB hb1 v6;have u7:=aB hb1 v7
       clear hb1 hxn))
 have HKX:=zh (show ∀ X v rs,PlZ V X v rs->X.cell? (qR W.heap.size 2)=some (qI dt)/\X.cell? (qR W.heap.size 3)=some (qI sz)/\(X.cell? (qR w.heap.size 0)=some (qS (some (qR gp op)) xs.length c0)/\X.cell? (qR w.heap.size 1)=some (qI L.stack)/\X.cell? (qR w.heap.size 2)=some (qS a2 L.slots.length c2)/\X.cell? (qR w.heap.size 3)=some (qI L.flash)/\X.cell? (qR w.heap.size 4)=some (qI L.ram)/\X.cell? (qR w.heap.size 5)=some (qS a5 ts.length c5))/\X.cell? (qR (w.heap.size+1) 0)=some (qI m)/\X.cell? (qR (w.heap.size+1) 1)=some (qI b)/\X.cell? (qR (w.heap.size+1) 2)=some (qI at') from fun X v rs hz=>
  ⟨(HK0.o.2.2.bw hz.b).cell 2,(HK0.o.2.2.bw hz.b).cell 3,(HK0.o.1.bw hz.b).ly6,(HK0.o.2.1.bw hz.b).cell 0,(HK0.o.2.1.bw hz.b).cell 1,(HK0.o.2.1.bw hz.b).cell 2⟩)
 have HEN:Zh (∀ X v rs,PlZ V X v rs->qC 60 #[.agg (qL L (some (qR gp op)) xs.length c0 a2 L.slots.length c2 a5 ts.length c5)] X (fun e w'=>e=.returned (qI (cZ L))/\PlZ V w' v rs)):=fun X v rs hz=>(tE L (some (qR gp op)) c0 xs a2 c2 a5 c5 ts X (HL2.o.bw hz.b)).mono fun e w' he=>⟨he.1,hz.bw he.2⟩;have HOR:Zh (∀ X v rs,PlZ V X v rs->qC 119 #[.agg (qL L (some (qR gp op)) xs.length c0 a2 L.slots.length c2 a5 ts.length c5),.agg (qT m b at'),qI s] X (fun e w'=>e=.returned (qI (gC L ((⟨tx,bk,dt,sz⟩,pa,pc):PB) b s))/\PlZ V w' v rs)):=fun X v rs hz=>(mZ L (some (qR gp op)) c0 xs a2 c2 a5 c5 ts m b at' s X (HL2.o.bw hz.b) m0 m1 (by rw [<- HP.o];exact hbb) hs).mono fun e w' he=>⟨by rw [HP.o];exact he.1,hz.bw he.2⟩;generalize hog:gC L ((⟨tx,bk,dt,sz⟩,pa,pc):PB) b s=og at *;generalize hE:cZ L=E at *;have HOG:=zh hog;have HE:=zh hE;clear hog hE;have Z0:Zh (PlZ V (w1.alloc (.cells #[] 214)) (qS (qP w1.heap.size) 0 0) []):=⟨HB1.o.alloc HB1.o.size _,sA w1 V.heap.size HB1.o.size⟩;obtain ⟨X1,hX1⟩:=eqx (w1.alloc (.cells #[] 214));rw [<- hX1] at Z0;have HX1:=zh hX1;clear hX1 u0 u1 u2 u3 u4 u5 u6 u7 C1 C2 v0 v1 v2 v3 v4 v5 v6 v7 x0 x1 x2 x3 x4 x5 y0 y1 HPC hbb hs hk;obtain ⟨z2,z3,⟨z4,z5,z6,z7,z8,z9⟩,z10,z11,z12⟩:=HKX.o _ _ _ Z0.o;have HW1:=zh (mY _ _ _ [] dt sz true true false X1 Z0.o (by unfold wfi;omega) (by unfold wfi;omega) (by omega));go_wp2_with (rw [<- HX1.o])
 refine HW1.o.mono ?_;rintro e X2 ⟨A1,k1,p1,rfl,hk1,hz⟩;have Z1:=zh hz;clear hz z2 z3 z4 z5 z6 z7 z8 z9 z10 z11 z12 Z0 HW1 HX1;obtain ⟨z2,z3,⟨z4,z5,z6,z7,z8,z9⟩,z10,z11,z12⟩:=HKX.o _ _ _ Z1.o;have HWR:Zh (IntKind.i64.wrap (E-L.stack)=E-L.stack):=nG;have HW2:Zh (∀ X,PlZ V X (qS A1 k1 p1) ([]++rts true true false (cvL dt sz))->qC 183 #[qS A1 k1 p1,qI L.stack,qI (IntKind.i64.wrap (E-L.stack)),.bool true,.bool true,.bool false] X fun e w'=>∃ A' m' cap',e=.returned (qS A' m' cap')/\m'<=k1+8192/\PlZ V w' (qS A' m' cap') (([]++rts true true false (cvL dt sz))++rts true true false (cvL L.stack (E-L.stack)))):=fun X hX=>by rw [HWR.o];exact mY A1 k1 p1 ([]++rts true true false (cvL dt sz)) L.stack (E-L.stack) true true false X hX (by unfold wfi;omega) (by unfold wfi;omega) (by omega)
 go_wp2_with fail
 go_region_held3 (fun w'=>w'.cell? (qR w.heap.size 0)=some (qS (some (qR gp op)) xs.length c0)/\w'.cell? (qR w.heap.size 1)=some (qI L.stack)/\w'.cell? (qR w.heap.size 2)=some (qS a2 L.slots.length c2)/\w'.cell? (qR w.heap.size 3)=some (qI L.flash)/\w'.cell? (qR w.heap.size 4)=some (qI L.ram)/\w'.cell? (qR w.heap.size 5)=some (qS a5 ts.length c5)) (go_keep)
  (first
    | (go_at_call 60;first
        | with_reducible refine (HEN.o _ _ _ Z1.o).mono ?_
        | with_reducible refine (HEN.o _ _ _ Z1.o.drew).mono ?_
       rintro e w3 ⟨rfl,hz3⟩;have Z3:=zh hz3;clear hz3
       obtain ⟨z2,z3,⟨z4,z5,z6,z7,z8,z9⟩,z10,z11,z12⟩:=HKX.o _ _ _ Z3.o)
    | (go_at_call 183;first
        | with_reducible refine (HW2.o _ Z3.o).mono ?_
        | with_reducible refine (HW2.o _ Z3.o.drew).mono ?_
       rintro e X3 ⟨A2,k2,p2,rfl,hk2,hz⟩;have Z2:=zh hz;clear hz
       obtain ⟨z2,z3,⟨z4,z5,z6,z7,z8,z9⟩,z10,z11,z12⟩:=HKX.o _ _ _ Z2.o))
 clear HW2 Z1 Z3;have HW3:=zh (mY A2 k2 p2 (([]++rts true true false (cvL dt sz))++rts true true false (cvL L.stack (E-L.stack))) 131072 32 false true false X3 Z2.o (by unfold wfi;omega) (by unfold wfi;omega) (by omega));go_wp2_with fail
 refine HW3.o.mono ?_;rintro e X4 ⟨A3,k3,p3,rfl,hk3,hz⟩;have Z4:=zh hz;clear hz Z2 HW3 z2 z3 z4 z5 z6 z7 z8 z9 z10 z11 z12;obtain ⟨z2,z3,⟨z4,z5,z6,z7,z8,z9⟩,z10,z11,z12⟩:=HKX.o _ _ _ Z4.o;have hx2:(xn:Int)<=200:=by rw [HXN.o];exact hw.2
 have HRD:=zh (fun (X:qw)=>dL (4*(xn:Int)) X);go_wp2_with fail
 refine (HOR.o _ _ _ Z4.o).mono ?_;rintro e X5 ⟨rfl,hz⟩;have Z5:=zh hz;clear hz Z4;go_wp2_with fail
 refine (HRD.o _).mono ?_;rintro e X6 ⟨rfl,rfl⟩;have hrd:=aR (x:=4*(xn:Int));have HW4:=zh (mY A3 k3 p3 ((([]++rts true true false (cvL dt sz))++rts true true false (cvL L.stack (E-L.stack)))++rts false true false (cvL 131072 32)) og (rnd (4*(xn:Int))) false false true _ Z5.o hwfo (by unfold wfi;omega) (by omega));have HRR:=zh (show rnd (4*q)=rnd (4*(xn:Int)) by rw [HXN.o]);generalize rnd (4*(xn:Int))=rr at *;go_wp2_with fail
 refine HW4.o.mono ?_;rintro e X7 ⟨A4,k4,p4,rfl,hk4,hz⟩;have Z7:=zh hz;clear hz;go_wp2;go_ret;exact ⟨A4,k4,p4,rfl,by have e:=HRR.o;have e2:=HE.o;have e3:=HOG.o;rw [e,e2,e3];exact rY Z7.o.o HBV.o.size,HBV.o.trans (Z7.o.b.mono HBV.o.size)⟩
def uJ (ps:List PMod)(L:Lay):Prop:=Lok ps L/\∀ m b s:Int,0<=pcq ps m b->sOk L b s->(plR ps L m b s).length<=8
def hs (b l o a:Int):Bool:=decide (b<=a/\a<b+(2:Int)^l.toNat/\(o/(2:Int)^((a-b)/((2:Int)^l.toNat/8)).toNat)%2=0)
theorem aG8 {l o:Int}(h:rok b l o=true):5<=l/\l<=14/\0<=o/\o<=255/\(8<=l\/o=0)/\0<=b/\b<=262144-(2:Int)^l.toNat:=by
 simp [rok] at h;omega
theorem aP1 (l:Int)(h:3<=l):(2:Int)^l.toNat=8*(2:Int)^(l-3).toNat:=by
 obtain ⟨k,hk⟩:=xV (show 0<=l-3 by omega);have e:l.toNat=k+3:=by omega
 have e2:(l-3).toNat=k:=by omega
 rw [e,e2,Int.pow_add];omega
theorem aKy (d q:Int)(hq:0<q)(h0:0<=d)(h:d<8*q):0<=d/q/\d/q<=7:=by
 refine ⟨Int.ediv_nonneg h0 (by omega),?_⟩;have:=Int.ediv_lt_of_lt_mul hq h;omega
theorem aN3:∀ o:Fin 256,(255 ^^^ o.val)=255-o.val:=by decide +kernel
theorem aN2 (o:Int)(h0:0<=o)(h1:o<=255):bits BinOp.xor IntKind.u8 IntKind.u8.max o=255-o:=by
 have hm:IntKind.u8.max=255:=by decide
 rw [hm,u8_xor 255 o (by omega) (by omega) h0 (by omega)];have:=aN3 ⟨o.toNat,by omega⟩;simp only at this;have e:(255:Int).toNat=255:=rfl;rw [e,this];omega
theorem aNe (t:Int)(h0:0<=t)(h1:t<=255):bits BinOp.and IntKind.u8 t 1=t%2:=by
 rw [u8_and t 1 h0 (by omega) (by omega) (by omega)];have e:(1:Int).toNat=1:=rfl;rw [e,Nat.and_one_is_mod];omega
theorem aB9 (b l o:Int)(r x y:Bool)(w:qw)(h0:0<=o)(h1:o<=255):
 qC 265 #[.agg #[qI b,qI l,qI o,.bool r,.bool x,.bool y]] w (qB w (.int .u8 (255-o))):=by
 have hx:=zh (aN2 o h0 h1);go_enter func265,ntmps265
 go_wp2;go_ret;exact ⟨aH hx.o,bal⟩
theorem aMx (s i:Int)(w:qw)(h0:0<=s)(h1:s<=255)(h2:0<=i)(h3:i<=7):
 qC 266 #[.int .u8 s,qI i] w fun e w'=>e=.returned (.bool ((s/(2:Int)^i.toNat)%2==1))/\w=w':=by
 have hq:0<=s/(2:Int)^i.toNat/\s/(2:Int)^i.toNat<=255:=by
  have hp:=pow_pos i.toNat;exact ⟨Int.ediv_nonneg h0 (by omega),Int.le_trans (Int.ediv_le_self _ h0) h1⟩
 have hx:=zh (aNe (s/(2:Int)^i.toNat) hq.1 hq.2);clear hq;go_enter func266,ntmps266
 go_wp2;go_ret;exact ⟨aA (by rw [hx.o]),rfl⟩
theorem aK7:∀ (o:Fin 256) (i:Fin 8),((255-o.val)/2^i.val%2==1)=(o.val/2^i.val%2==0):=by decide +kernel
theorem aKp (o i:Int)(h0:0<=o)(h1:o<=255)(h2:0<=i)(h3:i<=7):((255-o)/(2:Int)^i.toNat%2==1)=(o/(2:Int)^i.toNat%2==0):=by
 obtain ⟨a,rfl⟩:=xV h0;obtain ⟨k,rfl⟩:=xV h2;have:=aK7 ⟨a,by omega⟩ ⟨k,by omega⟩;simp only at this;have e1:(255-(a:Int))=((255-a:Nat):Int):=by omega
 have e2:(2:Int)^((k:Int).toNat)=((2^k:Nat):Int):=by simp
 rw [e1,e2];rw [xJ] at this ⊢;simp only [beq_iff_eq] at this ⊢;omega
theorem Blk.six {w:qw}{g:Nat}{a b c d e f:Value}{t:TypeId}(h:Blk w g #[a,b,c,d,e,f] t):
 w.cell? (qR g 0)=some a/\w.cell? (qR g 1)=some b/\w.cell? (qR g 2)=some c/\w.cell? (qR g 3)=some d/\w.cell? (qR g 4)=some e/\w.cell? (qR g 5)=some f/\∀ i,w.frozen? (qR g i)=false:=
 ⟨by rw [h.cell];rfl,by rw [h.cell];rfl,by rw [h.cell];rfl,by rw [h.cell];rfl,by rw [h.cell];rfl,by rw [h.cell];rfl,fun i=>h.frozen i⟩
theorem wrap_i64 {n:Int}(h0:-9223372036854775808<=n)(h1:n<=9223372036854775807):IntKind.i64.wrap n=n:=by
 simp only [IntKind.wrap,IntKind.bits,IntKind.signed];simp;omega
theorem vB (b l o a:Int)(r x y:Bool)(w:qw)(h:rok b l o=true)(ha:-9223372036854775808<=a/\a<=9223372036854775807):
 qC 257 #[.agg #[qI b,qI l,qI o,.bool r,.bool x,.bool y],qI a] w (qB w (.bool (hs b l o a))):=by
 obtain ⟨h1,h2,h3,h4,h5,h6,h7⟩:=aG8 h;obtain ⟨ha0,ha1⟩:=ha;have hp:=rP l.toNat;have hp0:=pow_pos l.toNat;have hp8:=aP1 l (by omega);have hq0:=pow_pos (l-3).toNat;have hq:(2:Int)^l.toNat/8=(2:Int)^(l-3).toNat:=by omega
 by_cases ka:a<b
 .have hf:Zh (hs b l o a=false):=by show _=_;unfold hs;simp;omega
  clear h h5 hp8 hq;have hd:decide (a<b)=true:=by simpa using ka
  go_enter func257,ntmps257
  go_wp2
  go_quiet (fail)
  go_wp2;go_ret;exact ⟨aA hf.o.symm,below_drewN bal _⟩
 .have hd:decide (a<b)=false:=by simpa using ka
  by_cases kb:(2:Int)^l.toNat<=a-b
  .have hf:Zh (hs b l o a=false):=by show _=_;unfold hs;simp;omega
   clear h h5 hp8 hq;go_enter func257,ntmps257
   go_wp2
   go_quiet (fail)
   go_wp2;go_ret;exact ⟨aA hf.o.symm,below_drewN bal _⟩
  .have hdv:=aKy (a-b) ((2:Int)^(l-3).toNat) hq0 (by omega) (by omega)
   have hf:Zh (hs b l o a=(((255-o)/(2:Int)^((a-b)/((2:Int)^(l-3).toNat)).toNat)%2==1)):=by
    show _=_;rw [aKp o _ h3 h4 hdv.1 hdv.2,<- hq];unfold hs;rw [xJ];simp;omega
   clear h h5 hp8 hq;obtain ⟨hd0,hd7⟩:=hdv;go_enter func257,ntmps257
   go_wp2
   go_quiet (fail)
   go_wp2_with fail
   have kb:=Blk.new w #[qI b,qI l,qI o,.bool r,.bool x,.bool y] 214;have hB0:qY w (w.alloc (.cells #[qI b,qI l,qI o,.bool r,.bool x,.bool y] 214)):=bal;have hw1:IntKind.i64.wrap (a-b)=a-b:=wrap_i64 (by omega) (by omega);have hw2:IntKind.i64.wrap (l-3)=l-3:=wrap_i64 (by omega) (by omega)
   have hsh:Op.shift .shr .i64 (a-b) .i64 (l-3)=pure (qI ((a-b)/(2:Int)^(l-3).toNat)):=by
    rw [shift_shr_any _ _ _ _ (by omega),Nat.min_eq_left (by simp [IntKind.bits];omega)]
   go_region_held3 (fun w'=>w'.cell? (qR w.heap.size 0)=some (qI b)/\w'.cell? (qR w.heap.size 1)=some (qI l)/\w'.cell? (qR w.heap.size 2)=some (qI o)/\w'.cell? (qR w.heap.size 3)=some (.bool r)/\w'.cell? (qR w.heap.size 4)=some (.bool x)/\w'.cell? (qR w.heap.size 5)=some (.bool y)) (go_keep)
    (first
      | (go_at_call 265;refine (aB9 b l o r x y _ h3 h4).mono ?_;rintro e w1 ⟨rfl,hb1⟩;obtain ⟨q1,q2,q3,q4,q5,q6,q7⟩:=(Blk.bw (by exact kb) hb1).six)
      | (go_at_call 266;refine (aMx _ _ _ ?_ ?_ ?_ ?_).mono ?_;omega;omega;omega;omega;rintro e w2 ⟨rfl,rfl⟩))
   go_wp2;go_ret;exact ⟨aA hf.o.symm,(below_drewN hB0 _).trans (hb1.mono (by simp))⟩
def aMn (r x y:Bool)(k:Int):Bool:=if k=1 then r else if k=2 then x else if k=3 then y else false
theorem nS (b l o k:Int)(r x y:Bool)(w:qw):
 qC 258 #[.agg #[qI b,qI l,qI o,.bool r,.bool x,.bool y],qI k] w (qB w (.bool (aMn r x y k))):=by
 by_cases h1:k=1
 .subst h1;go_enter func258,ntmps258
  go_wp2;go_ret;exact ⟨rfl,bal⟩
 .by_cases h2:k=2
  .subst h2;go_enter func258,ntmps258
   go_wp2;go_ret;exact ⟨rfl,bal⟩
  .by_cases h3:k=3
   .subst h3;go_enter func258,ntmps258
    go_wp2;go_ret;exact ⟨rfl,bal⟩
   .have hf:Zh (aMn r x y k=false):=by show _=_;simp [aMn,h1,h2,h3]
    have g1:(k==1)=false:=by simpa using h1
    have g2:(k==2)=false:=by simpa using h2
    have g3:(k==3)=false:=by simpa using h3
    clear h1 h2 h3;go_enter func258,ntmps258
    go_wp2;go_ret;exact ⟨aA hf.o.symm,bal⟩
def gok (g:Rg):Bool:=rok g.1 g.2.1 g.2.2.1
def aEx (g:Rg)(a:Int):Bool:=hs g.1 g.2.1 g.2.2.1 a
def aKk (g:Rg)(k:Int):Bool:=aMn g.2.2.2.1 g.2.2.2.2.1 g.2.2.2.2.2 k
def fN (rs:List Rg)(a k:Int):Nat->Bool
 | 0=>false
 | j+1=>if aEx (rs.getD j z6) a then aKk (rs.getD j z6) k else fN rs a k j
theorem aH9 (b off n cap:Nat)(rs:List Rg)(a k:Int)(w:qw)(h:RS w (some (qR b off)) n cap rs)(hok:∀ g∈rs,gok g=true)(hk:wfi a)(hn:n<=8):
 qC 242 #[qS (some (qR b off)) n cap,qI a,qI k] w (qB w (.bool (fN rs a k n))):=by
 have hl:=h.1;go_enter func242,ntmps242
 go_wp2;go_loopw [7] (fun i wr=>∃ (j:Nat) (p:Int),j<=n/\p+1=j/\i=qI p/\fN rs a k j=fN rs a k n/\qY w wr) (fun i _=>(intOf i+1).toNat)
 .exact ⟨n,(n:Int)-1,aN,by omega,rfl,rfl,brf⟩
 .obtain ⟨j,p,hj,hp,rfl,hone,hB⟩:=hrel;by_cases h0:j=0
  .have hp':p=-1:=by omega
   subst hp' h0;have HO:=zh hone;clear hp hone;have HK:=zh hk;clear hk;go_wp2;go_ret;exact ⟨aA (by rw [<- HO.o];rfl),hB⟩
  .obtain ⟨i,rfl⟩:∃ i,j=i+1:=⟨j-1,by omega⟩;have hp':p=(i:Int):=by omega
   subst hp';have hi0:(0:Int)<=(i:Int):=by omega
   have hin:(i:Int)<(n:Int):=by omega
   have hat:=(h.bw hB).at i (by omega);have hg:=hok (rs.getD i z6) (by simp [xB,show i<rs.length by omega]);have hstep:fN rs a k (i+1)=if aEx (rs.getD i z6) a then aKk (rs.getD i z6) k else fN rs a k i:=rfl
   rw [hone] at hstep;have HK:=zh hk;clear hp hone hk h0;generalize rs.getD i z6=g at *;obtain ⟨g1,g2,g3,g4,g5,g6⟩:=g;have HS:=zh hstep;clear hstep;have hga:rok g1 g2 g3=true:=hg;clear hg;have q1:=hat.1;have q2:=hat.2.1;have q3:=hat.2.2.1;have q4:=hat.2.2.2.1;have q5:=hat.2.2.2.2.1;have q6:=hat.2.2.2.2.2;simp only at q1 q2 q3 q4 q5 q6;go_wp2_with fail
   refine (vB g1 g2 g3 a g4 g5 g6 _ hga HK.o).mono ?_;rintro e w1 ⟨rfl,hb1⟩;have hB1:=hB.trans (hb1.mono hB.size);cases hh:hs g1 g2 g3 a
   .have HH:=zh hh;clear hh;go_wp2
    go_roundw
    .exact ⟨i,(i:Int)-1,by omega,by omega,by go_num,by rw [HS.o];rw [show aEx (g1,g2,g3,g4,g5,g6) a=false from HH.o];rfl,hB1⟩
    .simp [intOf]
   .have HH:=zh hh;clear hh;have hat1:=hat.bw hb1;have q1:=hat1.1;have q2:=hat1.2.1;have q3:=hat1.2.2.1;have q4:=hat1.2.2.2.1;have q5:=hat1.2.2.2.2.1;have q6:=hat1.2.2.2.2.2;simp only at q1 q2 q3 q4 q5 q6;go_wp2_with fail
    refine (nS g1 g2 g3 k g4 g5 g6 _).mono ?_;rintro e w2 ⟨rfl,hb2⟩;go_wp2;go_ret;exact ⟨aA (by rw [HS.o];rw [show aEx (g1,g2,g3,g4,g5,g6) a=true from HH.o];rfl),hB1.trans (hb2.mono hB1.size)⟩
theorem aLc (x:qO)(cap:Nat)(a k:Int)(w:qw):
 qC 242 #[qS x 0 cap,qI a,qI k] w (qB w (.bool false)):=by
 go_enter func242,ntmps242
 go_wp2;go_loop [7] (fun i=>i=qI (-1)) (fun _=>0)
 .rfl
 .obtain rfl:=hrel;go_wp2;go_ret;exact ⟨rfl,brf⟩
theorem aLd (x:qO)(n cap:Nat)(rs:List Rg)(a k:Int)(w:qw)(h:RS w x n cap rs)(hok:∀ g∈rs,gok g=true)(hk:wfi a)(hn:n<=8):
 qC 242 #[qS x n cap,qI a,qI k] w (qB w (.bool (fN rs a k n))):=by
 by_cases h0:n=0
 .subst h0;exact aLc x cap a k w
 .obtain ⟨b,off,rfl⟩:=h.some h0;exact aH9 b off n cap rs a k w h hok hk hn
def upB (rs:List Rg)(a k:Int)(n m:Nat):Bool:=(List.range m).all fun i=>fN rs (wrap64 (a+i)) k n
def okB (rs:List Rg)(m:Nat):Bool:=(List.range m).all fun i=>gok (rs.getD i z6)
def aGt (rs:List Rg)(a k:Int)(n m:Nat):Prop:=∀ i,i<m->fN rs (wrap64 (a+i)) k n=true
def aCb (rs:List Rg)(m:Nat):Prop:=∀ i,i<m->gok (rs.getD i z6)=true
theorem mU:okB rs m=true ↔ aCb rs m:=by simp [okB,aCb]
theorem yO:upB rs a k n m=true ↔ aGt rs a k n m:=by simp [upB,aGt]
theorem aHj (hj:j<n)(h:gok (rs.getD j z6)=false):okB rs n=false:=by
 cases e:okB rs n
 .rfl
 .have:=mU.1 e j hj;rw [h] at this;simp at this
theorem aGu (hj:j<m)(h:fN rs (wrap64 (a+j)) k n=false):upB rs a k n m=false:=by
 cases e:upB rs a k n m
 .rfl
 .have:=yO.1 e j hj;rw [h] at this;simp at this
theorem aJm (hl:rs.length=n)(h:aCb rs n):∀ g∈rs,gok g=true:=by
 intro g hg;obtain ⟨i,hi,rfl⟩:=List.getElem_of_mem hg;have:=h i (by omega);simpa [xB,hi] using this
theorem aHi (h:aCb rs j)(hg:gok (rs.getD j z6)=true):aCb rs (j+1):=by
 intro i hi;by_cases e:i=j
 .subst e;exact hg
 .exact h i (by omega)
theorem aGs (h:aGt rs a k n j)(hg:fN rs (wrap64 (a+j)) k n=true):aGt rs a k n (j+1):=by
 intro i hi;by_cases e:i=j
 .subst e;exact hg
 .exact h i (by omega)
theorem wfl {z:Int}(h:wfi z):(Lit.int .i64 z).wf=true:=by
 obtain ⟨h0,h1⟩:=h;simp [Lit.wf,IntKind.min,IntKind.max,IntKind.signed,IntKind.bits];omega
theorem aIa (z:Int):wfi (wrap64 z):=by
 unfold wfi wrap64;omega
def alw (rs:List Rg)(n:Nat)(a s k:Int):Bool:=decide (n<=8)&&(wd s&&(okB rs n&&upB rs a k n s.toNat))
theorem uP (xs ys:qi)(k:Nat)(h:xs.take k=ys.take k)(hx:k<xs.length)(hy:k<ys.length)(he:xs.getD k 0=ys.getD k 0):xs.take (k+1)=ys.take (k+1):=by
 rw [List.take_succ_eq_append_getElem hx,List.take_succ_eq_append_getElem hy,h];simp [xB,hx,hy] at he;rw [he]
theorem pB (a a':qO)(n cap n' cap':Nat)(xs ys:qi)(w:qw)(h:BS w a n cap xs)(h':BS w a' n' cap' ys):
 qC 79 #[qS a n cap,qS a' n' cap'] w (qB w (.bool (decide (xs=ys)))):=by
 obtain ⟨hl,hmx,hr,hc,_⟩:=h;obtain ⟨hl',hmx',hr',hc',_⟩:=h';unfold maxLen at hmx hmx';by_cases hn:n=n'
 .subst hn;have hne:((n:Int) !=(n:Int))=false:=by simp
  by_cases hn0:n=0
  .subst hn0;obtain rfl:xs=[]:=xE hl;obtain rfl:ys=[]:=xE hl';clear hc hc';go_enter func79,ntmps79
   go_wp2;go_loop [5] (fun i=>i=qI 0) (fun _=>0)
   .rfl
   .obtain rfl:=hrel;go_wp2;go_ret;exact ⟨rfl,brf⟩
  .obtain ⟨b,off,rfl,hd⟩:=hc hn0;obtain ⟨b',off',rfl,hd'⟩:=hc' hn0;clear hc hc';go_enter func79,ntmps79
   go_wp2;go_loopw [5] (fun i wr=>∃ k:Nat,k<=n/\i=qI k/\xs.take k=ys.take k/\qY w wr) (qf n)
   .exact ⟨0,xC _,rfl,by simp,brf⟩
   .obtain ⟨k,hk,rfl,hT,hB⟩:=hrel;by_cases hlt:k<n
    .have hlt':(k:Int)<(n:Int):=by omega
     have hck:wr.cell? (qR b (off+k))=some (.int .u8 (xs.getD k 0)):=(hB.cell (xD w _ (hd k hlt))).trans (hd k hlt);have hck':wr.cell? (qR b' (off'+k))=some (.int .u8 (ys.getD k 0)):=(hB.cell (xD w _ (hd' k hlt))).trans (hd' k hlt);by_cases he:xs.getD k 0=ys.getD k 0
     .have hS:=uP xs ys k hT (by omega) (by omega) he;have HS:Zh (xs.take (k+1)=ys.take (k+1)):=hS;rw [he] at hck;clear hS hT hd hd' he;generalize ys.getD k 0=z at *;have hz:(z !=z)=false:=by simp
      go_wp2
      go_quiet (fail)
      go_wp2
      go_roundw
      .exact ⟨k+1,by omega,by go_num,HS.o,below_drewN hB _⟩
      .simp [qf,intOf];omega
     .have hf:Zh (decide (xs=ys)=false):=by
       show _=_;simp;intro e;exact he (by rw [e])
      have hz:(xs.getD k 0 !=ys.getD k 0)=true:=by simpa using he
      clear hT hd hd' he;generalize ys.getD k 0=z at *;generalize xs.getD k 0=z' at *;go_wp2
      go_quiet (fail)
      go_wp2;go_ret;exact ⟨aA hf.o.symm,below_drewN hB _⟩
    .have hf:Zh (decide (xs=ys)=true):=by
      show _=_;simp;rw [xG (by omega),xG (by omega)] at hT;exact hT
     clear hT hd hd';go_wp2;go_ret;exact ⟨aA hf.o.symm,hB⟩
 .have hf:Zh (decide (xs=ys)=false):=by
   show _=_;simp;intro e;rw [e] at hl;omega
  have hne:((n:Int) !=(n':Int))=true:=by simp;omega
  clear hc hc';go_enter func79,ntmps79
  go_wp2;go_ret;exact ⟨aA hf.o.symm,brf⟩
