import Derived.Test.YtncccmeomcaabaaGreatR19
import Derived.Test.YtncccmeomcaabaaGreatR23
set_option linter.all false
namespace Go.Proofs.YtncccmeomcaabaaGreat
open Go.RowKit Classical
set_option maxRecDepth 100000
variable {A:qO}{R:List Rg}{c k:Nat}
def aFg (w:qw)(R:List Rg)(e:Ending)(w':qw):Prop:=
 ∃ A k c,e=.returned (.tuple #[qS A k c,.bool (decide (R.length<=8))])/\ORg w' w.heap.size (qS A k c) (if R.length<=8 then R else [])/\qY w w'
theorem aPe {w V X:qw}(hV:qY w V)(h:k=R.length/\ORg X V.heap.size (qS A k c) R/\qY V X)(h8:k<=8):aFg w R (.returned (.tuple #[qS A k c,.bool true])) X:=by
 have e:R.length<=8:=by omega
 refine ⟨A,k,c,by rw [xR e],by rw [if_pos e];exact rY h.2.1 hV.size,hV.trans (h.2.2.mono hV.size)⟩
theorem aPf {w V X:qw}(hV:qY w V)(h:k=R.length/\ORg X V.heap.size (qS A k c) R/\qY V X)(h8:¬ k<=8):aFg w R (.returned (.tuple #[qS none 0 0,.bool false])) X:=by
 have e:¬ R.length<=8:=by omega
 refine ⟨none,0,0,by rw [xS e],by rw [if_neg e];exact qF _ _,hV.trans (h.2.2.mono hV.size)⟩
set_option maxHeartbeats 4000000 in
theorem rU (a:qO)(n cap:Nat)(ms:List Md)(L:Lay)(a0:qO)(c0:Nat)(xs:List PB)(a2:qO)(c2:Nat)(a5:qO)(c5:Nat)(ts:List TB)(m b at' s:Int)(w:qw)(h:MSD w a n cap ms)(hL:LyT w L a0 c0 xs a2 c2 a5 c5 ts)
 (hk:Lok (aE ms) L) (hp:0<=pcq (aE ms) m b) (hs:s=-1\/(b≠-1/\0<=s/\s<(L.slots.length:Int))):
 qC 161 #[qS a n cap,.agg (qJ L a0 xs c0 a2 c2 a5 ts c5),.agg (qT m b at'),qI s] w (aFg w (plR (aE ms) L m b s)):=by
 have K:=rW (s:=s) hL hk hp;have hn:=h.s.1;have hlen:=bQ ms;obtain ⟨m0,m1,m2,hpl,hbb,hw,hd,hst,hen⟩:=K;have hwfo:wfi (gC L (xs.getD m.toNat zPB) b s):=aCa hL hk hp hs;have HPQ:=zh (eM h m b);obtain ⟨W,hW⟩:=eqx ((w.alloc (.cells (qJ L a0 xs c0 a2 c2 a5 ts c5) 71)).alloc (.cells (qT m b at') 58));have hB:qY w W:=by rw [hW];exact bal.alloc (by simp) _
 have k0:Blk W w.heap.size (qJ L a0 xs c0 a2 c2 a5 ts c5) 71:=by rw [hW];exact (Blk.new w _ _).alloc _
 have k1:Blk W (w.heap.size+1) (qT m b at') 58:=by rw [hW];have:=Blk.new (w.alloc (.cells (qJ L a0 xs c0 a2 c2 a5 ts c5) 71)) (qT m b at') 58;simpa using this
 have h1:=h.bw hB;have hL1:=hL.bw hB;obtain ⟨gp,op,rfl,q0,q1,q2,q3⟩:=hL1.p.at m.toNat (by omega);unfold svP at q1;have hpx:=hL1.p.2.1;unfold maxLen at hpx;have d0:=k0.e0;have t0:=k1.e0;obtain ⟨P,hP⟩:=eqx (xs.getD m.toNat zPB);rw [<- hP] at q0 q1 q2 q3 hpl hbb hwfo;rw [<- hpl] at hd;obtain ⟨⟨tx,bk,dt,sz⟩,pa,pc⟩:=P;dsimp only at q0 q1 q2 q3 hpl hbb hd;have HP:=zh hP;obtain ⟨hd1,hd2,hd3,hd4⟩:=hd;obtain ⟨st1,st2⟩:=hst;obtain ⟨en1,en2⟩:=hen;obtain ⟨q,hq⟩:=eqx (pcq (aE ms) m b);have HQ:=zh hq
 have HRS:=zh (show plR (aE ms) L m b s=(([]++rts true true false (cvL dt sz))++rts true true false (cvL L.stack (cZ L-L.stack))++rts false true false (cvL 131072 32))++rts false false true (cvL (gC L ((⟨tx,bk,dt,sz⟩,pa,pc):PB) b s) (rnd (4*q))) from by
  unfold plR;rw [<- hpl,hq]
  rfl)
 rw [HRS.o];rw [<- hq] at hw hp;clear HRS;obtain ⟨V,hV,bV,kV⟩:=nwb W #[qI tx,qS pa bk.length pc,qI dt,qI sz] 171;have k0':=k0.bw bV;have k1':=k1.bw bV;have HBV:=zh (hB.trans (bV.mono hB.size));have h2:=h1.bw bV;have hL2:=hL1.bw bV;have HW:=zh hW;have HV:=zh hV;have HM:=zh h2;have HL2:=zh hL2;have HK0:=zh (xA k0' (xA k1' kV));clear hW hV k0 k1 h h1 hL hL1 hB bV k0' k1' kV hP hpl hq;go_enter Tryz.func161,Tryz.ntmps161
 go_wp2_with (first|rw [<- HW.o]|rw [<- HV.o])
 obtain ⟨gm,om,rfl,v0,v1,v2,v3,v4,v5,v6,v7⟩:=HM.o.s.at m.toNat (by omega);have hmt:=HM.o.s.2.2.2.1 m.toNat (by omega)
 have hqn:pcn (ms.getD m.toNat aK).tn (ms.getD m.toNat aK).bn (ms.getD m.toNat aK).bl b=q:=by
  rw [HQ.o,<- HPQ.o];unfold pcm;rw [if_pos (by omega)]
 generalize ms.getD m.toNat aK=M at *
 have HPC:=zh (show ∀ X,qY V X->qC 175 #[.agg (qM M.nm M.ta M.tn M.tc M.ba M.bn M.bc M.da M.dn M.dc M.bss M.ra M.rn M.rc M.ia M.im M.ic M.ea M.en M.ec),qI b] X (fun e w'=>∃ xa xn xc,e=.returned (.tuple #[qS xa xn xc,.bool true])/\(xn:Int)=q/\qY V w') from fun X hX=>
  (gQ M.nm M.ta M.tn M.tc M.ba M.bn M.bc M.bl (qS M.da M.dn M.dc) (qS M.ra M.rn M.rc) (qS M.ia M.im M.ic) (qS M.ea M.en M.ec) M.bss b X hmt.t.2.1 (hmt.b.bw hX)).mono fun e w' ⟨xa,xn,xc,ok,he,ho,hx,_,hb⟩=>by
    have ho':ok=true:=by rw [ho,hqn];simp;omega
    exact ⟨xa,xn,xc,by rw [he,ho'],by rw [hx ho',hqn],hX.trans (hb.mono hX.size)⟩)
 obtain ⟨x0,x1,x2,x3,x4,x5⟩:=HK0.o.1.ly6;have y0:=HK0.o.2.1.e0;have y1:=HK0.o.2.1.e1;have hmx:=HM.o.s.2.1;unfold maxLen at hmx;have hmn:m<(n:Int):=by omega
 clear q0 q1 q2 q3 d0 t0 hmt hqn hlen hn
 go_region_held3 (fun w'=>w'.cell? (qR (w.heap.size+1) 0)=some (qI m)/\w'.cell? (qR (w.heap.size+1) 1)=some (qI b)/\w'.cell? (qR gm (om+m.toNat*8))=some (.string M.nm)/\w'.cell? (qR gm (om+m.toNat*8+1))=some (qS M.ta M.tn M.tc)/\w'.cell? (qR gm (om+m.toNat*8+2))=some (qS M.ba M.bn M.bc)/\w'.cell? (qR gm (om+m.toNat*8+3))=some (qS M.da M.dn M.dc)/\w'.cell? (qR gm (om+m.toNat*8+4))=some (qI M.bss)/\w'.cell? (qR gm (om+m.toNat*8+5))=some (qS M.ra M.rn M.rc)/\w'.cell? (qR gm (om+m.toNat*8+6))=some (qS M.ia M.im M.ic)/\w'.cell? (qR gm (om+m.toNat*8+7))=some (qS M.ea M.en M.ec)) (go_keep)
  (first
    | (go_at_call 175;first
        | with_reducible refine (HPC.o _ brf).mono ?_
        | with_reducible refine (HPC.o _ brf.drew).mono ?_
       rintro e w1 ⟨xa,xn,xc,rfl,hxn,hb1⟩;have HB1:=zh hb1;have HXN:=zh hxn;have C1:=(HK0.o.2.1.bw hb1).cell 0;have C2:=(HK0.o.2.1.bw hb1).cell 1;have u0:=aB hb1 v0;have u1:=aB hb1 v1;have u2:=aB hb1 v2;have u3:=aB hb1 v3;have u4:=aB hb1 v4;have u5:=aB hb1 v5;have u6:=aB hb1 v6;have u7:=aB hb1 v7
       clear hb1 hxn))
 have HKX:=zh (show ∀ X,qY V X->X.cell? (qR W.heap.size 2)=some (qI dt)/\X.cell? (qR W.heap.size 3)=some (qI sz)/\(X.cell? (qR w.heap.size 0)=some (qS (some (qR gp op)) xs.length c0)/\X.cell? (qR w.heap.size 1)=some (qI L.stack)/\X.cell? (qR w.heap.size 2)=some (qS a2 L.slots.length c2)/\X.cell? (qR w.heap.size 3)=some (qI L.flash)/\X.cell? (qR w.heap.size 4)=some (qI L.ram)/\X.cell? (qR w.heap.size 5)=some (qS a5 ts.length c5))/\X.cell? (qR (w.heap.size+1) 0)=some (qI m)/\X.cell? (qR (w.heap.size+1) 1)=some (qI b)/\X.cell? (qR (w.heap.size+1) 2)=some (qI at') from fun X hz=>
  ⟨(HK0.o.2.2.bw hz).cell 2,(HK0.o.2.2.bw hz).cell 3,(HK0.o.1.bw hz).ly6,(HK0.o.2.1.bw hz).cell 0,(HK0.o.2.1.bw hz).cell 1,(HK0.o.2.1.bw hz).cell 2⟩)
 have HSE:Zh (∀ X,qY V X->qC 67 #[.agg (qL L (some (qR gp op)) xs.length c0 a2 L.slots.length c2 a5 ts.length c5)] X (fun e w'=>e=.returned (qI (cZ L))/\qY V w')):=fun X hz=>(yY L (some (qR gp op)) c0 xs a2 c2 a5 c5 ts X (HL2.o.bw hz)).mono fun e w' he=>⟨he.1,hz.trans (he.2.mono hz.size)⟩;have HOR:Zh (∀ X,qY V X->qC 130 #[.agg (qL L (some (qR gp op)) xs.length c0 a2 L.slots.length c2 a5 ts.length c5),.agg (qT m b at'),qI s] X (fun e w'=>e=.returned (qI (gC L ((⟨tx,bk,dt,sz⟩,pa,pc):PB) b s))/\qY V w')):=fun X hz=>(mS L (some (qR gp op)) c0 xs a2 c2 a5 c5 ts m b at' s X (HL2.o.bw hz) m0 m1 (by rw [<- HP.o];exact hbb) hs).mono fun e w' he=>⟨by rw [HP.o];exact he.1,hz.trans (he.2.mono hz.size)⟩;have hx2:(xn:Int)<=200:=by rw [HXN.o];exact hw.2
 have HWB:=zh (fun (X:qw)=>lN xa xn xc X (by omega));have hrd:=aR (x:=4*(xn:Int));have HRR:=zh (show rnd (4*q)=rnd (4*(xn:Int)) by rw [HXN.o]);generalize hog:gC L ((⟨tx,bk,dt,sz⟩,pa,pc):PB) b s=og at *;generalize hE:cZ L=E at *;generalize rnd (4*(xn:Int))=rr at *;have HOG:=zh hog;have HE:=zh hE;have HWR:Zh (IntKind.i64.wrap (E-L.stack)=E-L.stack):=nG
 have HJ:=zh (show ∀ X,qY V X->qC 198 #[qS (qP X.heap.size) 4 4] (X.alloc (.cells #[qI dt,qI sz,.bool true,.bool true,.bool false,qI L.stack,qI (IntKind.i64.wrap (E-L.stack)),.bool true,.bool true,.bool false,qI 131072,qI 32,.bool false,.bool true,.bool false,qI og,qI rr,.bool false,.bool false,.bool true] 234)) (fun e w'=>∃ A k c,e=.returned (qS A k c)/\k=((([]++rts true true false (cvL dt sz))++rts true true false (cvL L.stack (E-L.stack))++rts false true false (cvL 131072 32))++rts false false true (cvL og rr)).length/\ORg w' V.heap.size (qS A k c) ((([]++rts true true false (cvL dt sz))++rts true true false (cvL L.stack (E-L.stack))++rts false true false (cvL 131072 32))++rts false false true (cvL og rr))/\qY V w') from fun X hX=>by
  have KB:=Blk.new X #[qI dt,qI sz,.bool true,.bool true,.bool false,qI L.stack,qI (IntKind.i64.wrap (E-L.stack)),.bool true,.bool true,.bool false,qI 131072,qI 32,.bool false,.bool true,.bool false,qI og,qI rr,.bool false,.bool false,.bool true] 234;have BX:qY V (X.alloc (.cells #[qI dt,qI sz,.bool true,.bool true,.bool false,qI L.stack,qI (IntKind.i64.wrap (E-L.stack)),.bool true,.bool true,.bool false,qI 131072,qI 32,.bool false,.bool true,.bool false,qI og,qI rr,.bool false,.bool false,.bool true] 234)):=hX.alloc hX.size _;rw [HWR.o] at KB BX ⊢;refine (aEl X.heap.size 0 4 4 [(dt,sz,true,true,false),(L.stack,E-L.stack,true,true,false),(131072,32,false,true,false),(og,rr,false,false,true)] _ rfl aN ?_ ?_).mono ?_
  .intro i hi
   match i with
   | 0=>exact ⟨by unfold wfi;simp;omega,by unfold wfi;simp;omega⟩
   | 1=>exact ⟨by unfold wfi;simp;omega,by unfold wfi;simp;omega⟩
   | 2=>exact ⟨by unfold wfi;simp,by unfold wfi;simp⟩
   | 3=>exact ⟨hwfo,by unfold wfi;simp;omega⟩
  .intro i hi
   match i with
   | 0=>exact ⟨KB.cell 0,KB.cell 1,KB.cell 2,KB.cell 3,KB.cell 4⟩
   | 1=>exact ⟨KB.cell 5,KB.cell 6,KB.cell 7,KB.cell 8,KB.cell 9⟩
   | 2=>exact ⟨KB.cell 10,KB.cell 11,KB.cell 12,KB.cell 13,KB.cell 14⟩
   | 3=>exact ⟨KB.cell 15,KB.cell 16,KB.cell 17,KB.cell 18,KB.cell 19⟩
  .rintro e w' ⟨A,k,c,rfl,hk,ho,hb⟩;have er:([(dt,sz,true,true,false),(L.stack,E-L.stack,true,true,false),(131072,32,false,true,false),(og,rr,false,false,true)]:List Spn).flatMap spR=(([]++rts true true false (cvL dt sz))++rts true true false (cvL L.stack (E-L.stack))++rts false true false (cvL 131072 32))++rts false false true (cvL og rr):=by simp [spR]
   rw [er] at hk ho
   exact ⟨A,k,c,rfl,hk,rY ho BX.size,BX.trans (hb.mono BX.size)⟩)
 clear hog hE u0 u1 u2 u3 u4 u5 u6 u7 C1 C2 v0 v1 v2 v3 v4 v5 v6 v7 x0 x1 x2 x3 x4 x5 y0 y1 HPC hbb hs hk;obtain ⟨z2,z3,⟨z4,z5,z6,z7,z8,z9⟩,z10,z11,z12⟩:=HKX.o _ HB1.o;go_wp2_with fail
 go_region_held3 (fun w'=>w'.cell? (qR W.heap.size 2)=some (qI dt)/\w'.cell? (qR W.heap.size 3)=some (qI sz)/\w'.cell? (qR w.heap.size 0)=some (qS (some (qR gp op)) xs.length c0)/\w'.cell? (qR w.heap.size 1)=some (qI L.stack)/\w'.cell? (qR w.heap.size 2)=some (qS a2 L.slots.length c2)/\w'.cell? (qR w.heap.size 3)=some (qI L.flash)/\w'.cell? (qR w.heap.size 4)=some (qI L.ram)/\w'.cell? (qR w.heap.size 5)=some (qS a5 ts.length c5)/\w'.cell? (qR (w.heap.size+1) 0)=some (qI m)/\w'.cell? (qR (w.heap.size+1) 1)=some (qI b)/\w'.cell? (qR (w.heap.size+1) 2)=some (qI at')) (go_keep)
  (first
    | (go_at_call 67;first
        | with_reducible refine (HSE.o _ HB1.o).mono ?_
        | with_reducible refine (HSE.o _ HB1.o.drew).mono ?_
       rintro e w3 ⟨rfl,hb3⟩;have HB3:=zh hb3;clear hb3
       obtain ⟨z2,z3,⟨z4,z5,z6,z7,z8,z9⟩,z10,z11,z12⟩:=HKX.o _ HB3.o)
    | (go_at_call 130;first
        | with_reducible refine (HOR.o _ HB3.o).mono ?_
        | with_reducible refine (HOR.o _ HB3.o.drew).mono ?_
       rintro e w4 ⟨rfl,hb4⟩;have HB4:=zh hb4;clear hb4
       obtain ⟨z2,z3,⟨z4,z5,z6,z7,z8,z9⟩,z10,z11,z12⟩:=HKX.o _ HB4.o)
    | (go_at_call 199;with_reducible refine (HWB.o _).mono ?_;rintro e w5 ⟨rfl,rfl⟩)
    | (go_at_call 198;first
        | with_reducible refine (HJ.o _ HB4.o).mono ?_
        | with_reducible refine (HJ.o _ HB4.o.drew).mono ?_
       rintro e w6 ⟨A,k,c,rfl,hk6,ho6,hb6⟩;have HB6:=zh (xA hk6 (xA ho6 hb6));clear hk6 ho6 hb6
       obtain ⟨z2,z3,⟨z4,z5,z6,z7,z8,z9⟩,z10,z11,z12⟩:=HKX.o _ HB6.o.2.2))
 have HF:=zh (xA HBV.o HB6.o);clear HB6 HB1 HB3 HB4 z2 z3 z4 z5 z6 z7 z8 z9 z10 z11 z12;rw [List.nil_append] at HF;by_cases h8:k<=8
 .have h8':(k:Int)<=8:=by omega
  have HX:=zh (aPe HF.o.1 HF.o.2 h8);rw [<- HRR.o] at HX;clear HF;go_wp2
  go_ret2
  first
   | exact HX.o
   | (have hx:=HX.o
      simp only [List.append_assoc] at hx
      exact hx)
 .have h8':¬ (k:Int)<=8:=by omega
  have h8'':(8:Int)<(k:Int):=by omega
  have HX:=zh (aPf HF.o.1 HF.o.2 h8);rw [<- HRR.o] at HX;clear HF;go_wp2
  go_ret2
  first
   | exact HX.o
   | (have hx:=HX.o
      simp only [List.append_assoc] at hx
      exact hx)
