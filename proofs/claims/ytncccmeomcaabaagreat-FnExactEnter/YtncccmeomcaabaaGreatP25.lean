import Derived.Test.YtncccmeomcaabaaGreatP22
set_option maxHeartbeats 8000000
namespace Go.Proofs.YtncccmeomcaabaaGreat
open Go.RowKit Classical
open Go.Proofs.Tryz
set_option linter.all false
set_option maxRecDepth 100000
variable {A:qO}{R:List Rg}{c k n:Nat}{cd:Int}{ps:List PMod}{xs:List FrT}
def aFw (w:qw)(R:List Rg)(e:Ending)(w':qw):Prop:=
 ∃ A k c,e=.returned (.tuple #[qS A k c,.bool (decide (R.length<=8))])/\ORg w' w.heap.size (qS A k c) (if R.length<=8 then R else [])/\qY w w'
theorem aPy {w V X:qw}(hV:qY w V)(h:k=R.length/\ORg X V.heap.size (qS A k c) R/\qY V X)(h8:k<=8):aFw w R (.returned (.tuple #[qS A k c,.bool true])) X:=by
 have e:R.length<=8:=by omega
 refine ⟨A,k,c,by rw [xR e],by rw [if_pos e];exact sK h.2.1 hV.size,hV.trans (h.2.2.mono hV.size)⟩
theorem aPz {w V X:qw}(hV:qY w V)(h:k=R.length/\ORg X V.heap.size (qS A k c) R/\qY V X)(h8:¬ k<=8):aFw w R (.returned (.tuple #[qS none 0 0,.bool false])) X:=by
 have e:¬ R.length<=8:=by omega
 refine ⟨none,0,0,by rw [xS e],by rw [if_neg e];exact rC _ _,hV.trans (h.2.2.mono hV.size)⟩
theorem sG (a:qO)(n cap:Nat)(ms:List Md)(L:Lay)(a0:qO)(c0:Nat)(xs:List PB)(a2:qO)(c2:Nat)(a5:qO)(c5:Nat)(ts:List TB)(m b at' s:Int)(w:qw)(h:MSD w a n cap ms)(hL:LyT w L a0 c0 xs a2 c2 a5 c5 ts)
 (hk:Lok (aD ms) L) (hp:0<=pcq (aD ms) m b) (hs:s=-1\/(b≠-1/\0<=s/\s<(L.slots.length:Int))):
 qC 161 #[qS a n cap,.agg (qJ L a0 xs c0 a2 c2 a5 ts c5),.agg (qT m b at'),qI s] w (aFw w (plR (aD ms) L m b s)):=by
 have K:=sI (s:=s) hL hk hp;have hn:=h.s.1;have hlen:=bR ms;obtain ⟨m0,m1,m2,hpl,hbb,hw,hd,hst,hen⟩:=K;have hwfo:wfi (gC L (xs.getD m.toNat zPB) b s):=aCl hL hk hp hs;have HPQ:=zh (dW h m b);obtain ⟨W,hW⟩:=eqx ((w.alloc (.cells (qJ L a0 xs c0 a2 c2 a5 ts c5) 71)).alloc (.cells (qT m b at') 58));have hB:qY w W:=by rw [hW];exact bal.alloc (by simp) _
 have k0:Blk W w.heap.size (qJ L a0 xs c0 a2 c2 a5 ts c5) 71:=by rw [hW];exact (Blk.new w _ _).alloc _
 have k1:Blk W (w.heap.size+1) (qT m b at') 58:=by rw [hW];have:=Blk.new (w.alloc (.cells (qJ L a0 xs c0 a2 c2 a5 ts c5) 71)) (qT m b at') 58;simpa using this
 have h1:=h.bw hB;have hL1:=hL.bw hB;obtain ⟨gp,op,rfl,q0,q1,q2,q3⟩:=hL1.p.at m.toNat (by omega);unfold svP at q1;have hpx:=hL1.p.2.1;unfold maxLen at hpx;have d0:=k0.e0;have t0:=k1.e0;obtain ⟨P,hP⟩:=eqx (xs.getD m.toNat zPB);rw [<- hP] at q0 q1 q2 q3 hpl hbb hwfo;rw [<- hpl] at hd;obtain ⟨⟨tx,bk,dt,sz⟩,pa,pc⟩:=P;dsimp only at q0 q1 q2 q3 hpl hbb hd;have HP:=zh hP;obtain ⟨hd1,hd2,hd3,hd4⟩:=hd;obtain ⟨st1,st2⟩:=hst;obtain ⟨en1,en2⟩:=hen;obtain ⟨q,hq⟩:=eqx (pcq (aD ms) m b);have HQ:=zh hq
 have HRS:=zh (show plR (aD ms) L m b s=(([]++rts true true false (cvL dt sz))++rts true true false (cvL L.stack (dA L-L.stack))++rts false true false (cvL 131072 32))++rts false false true (cvL (gC L ((⟨tx,bk,dt,sz⟩,pa,pc):PB) b s) (rnd (4*q))) from by
  unfold plR;rw [<- hpl,hq]
  rfl)
 rw [HRS.o];rw [<- hq] at hw hp;clear HRS;obtain ⟨V,hV,bV,kV⟩:=nwb W #[qI tx,qS pa bk.length pc,qI dt,qI sz] 171;have k0':=k0.bw bV;have k1':=k1.bw bV;have HBV:=zh (hB.trans (bV.mono hB.size));have h2:=h1.bw bV;have hL2:=hL1.bw bV;have HW:=zh hW;have HV:=zh hV;have HM:=zh h2;have HL2:=zh hL2;have HK0:=zh (xA k0' (xA k1' kV));clear hW hV k0 k1 h h1 hL hL1 hB bV k0' k1' kV hP hpl hq;go_enter func161,ntmps161
 go_wp2_with (first|rw [<- HW.o]|rw [<- HV.o])
 obtain ⟨gm,om,rfl,v0,v1,v2,v3,v4,v5,v6,v7⟩:=HM.o.s.at m.toNat (by omega);have hmt:=HM.o.s.2.2.2.1 m.toNat (by omega)
 have hqn:pcn (ms.getD m.toNat aK).tn (ms.getD m.toNat aK).bn (ms.getD m.toNat aK).bl b=q:=by
  rw [HQ.o,<- HPQ.o];unfold pcm;rw [if_pos (by omega)]
 generalize ms.getD m.toNat aK=M at *
 have HPC:=zh (show ∀ X,qY V X->qC 175 #[.agg (qM M.nm M.ta M.tn M.tc M.ba M.bn M.bc M.da M.dn M.dc M.bss M.ra M.rn M.rc M.ia M.im M.ic M.ea M.en M.ec),qI b] X (fun e w'=>∃ xa xn xc,e=.returned (.tuple #[qS xa xn xc,.bool true])/\(xn:Int)=q/\qY V w') from fun X hX=>
  (gQ M.nm M.ta M.tn M.tc M.ba M.bn M.bc M.bl (qS M.da M.dn M.dc) (qS M.ra M.rn M.rc) (qS M.ia M.im M.ic) (qS M.ea M.en M.ec) M.bss b X hmt.t.2.1 (hmt.b.bw hX)).mono fun e w' ⟨xa,xn,xc,ok,he,ho,hx,_,hb⟩=>by
    have ho':ok=true:=by rw [ho,hqn];simp;omega
    exact ⟨xa,xn,xc,by rw [he,ho'],by rw [hx ho',hqn],hX.trans (hb.mono hX.size)⟩)
 obtain ⟨x0,x1,x2,x3,x4,x5⟩:=HK0.o.1.ly6;have y0:=HK0.o.2.1.e0;have y1:=HK0.o.2.1.e1;have hmx:=HM.o.s.2.1;unfold maxLen at hmx;have hmn:m<(n:Int):=by omega
 clear q0 q1 q2 q3 d0 t0 hmt hqn hlen hn
 go_region_held3 (fun w'=>w'.cell? (qR (w.heap.size+1) 0)=some (qI m)/\w'.cell? (qR (w.heap.size+1) 1)=some (qI b)/\w'.cell? (qR gm (om+m.toNat*8))=some (.string M.nm)/\w'.cell? (qR gm (om+m.toNat*8+1))=some (qS M.ta M.tn M.tc)/\w'.cell? (qR gm (om+m.toNat*8+2))=some (qS M.ba M.bn M.bc)/\w'.cell? (qR gm (om+m.toNat*8+3))=some (qS M.da M.dn M.dc)/\w'.cell? (qR gm (om+m.toNat*8+4))=some (qI M.bss)/\w'.cell? (qR gm (om+m.toNat*8+5))=some (qS M.ra M.rn M.rc)/\w'.cell? (qR gm (om+m.toNat*8+6))=some (qS M.ia M.im M.ic)/\w'.cell? (qR gm (om+m.toNat*8+7))=some (qS M.ea M.en M.ec)) (go_keep)
  (first
    | (go_at_call 175;first
        | with_reducible refine (HPC.o _ brf).mono ?_
        | with_reducible refine (HPC.o _ brf.drew).mono ?_
       rintro e w1 ⟨xa,xn,xc,rfl,hxn,hb1⟩;have HB1:=zh hb1;have HXN:=zh hxn;have C1:=(HK0.o.2.1.bw hb1).cell 0;have C2:=(HK0.o.2.1.bw hb1).cell 1;have u0:=aB hb1 v0;have u1:=aB hb1 v1;have u2:=aB hb1 v2;have u3:=aB hb1 v3;have u4:=aB hb1 v4;have u5:=aB hb1 v5;have u6:=aB hb1 v6;have u7:=aB hb1 v7
       clear hb1 hxn))
 have HKX:=zh (show ∀ X,qY V X->X.cell? (qR W.heap.size 2)=some (qI dt)/\X.cell? (qR W.heap.size 3)=some (qI sz)/\(X.cell? (qR w.heap.size 0)=some (qS (some (qR gp op)) xs.length c0)/\X.cell? (qR w.heap.size 1)=some (qI L.stack)/\X.cell? (qR w.heap.size 2)=some (qS a2 L.slots.length c2)/\X.cell? (qR w.heap.size 3)=some (qI L.flash)/\X.cell? (qR w.heap.size 4)=some (qI L.ram)/\X.cell? (qR w.heap.size 5)=some (qS a5 ts.length c5))/\X.cell? (qR (w.heap.size+1) 0)=some (qI m)/\X.cell? (qR (w.heap.size+1) 1)=some (qI b)/\X.cell? (qR (w.heap.size+1) 2)=some (qI at') from fun X hz=>
  ⟨(HK0.o.2.2.bw hz).cell 2,(HK0.o.2.2.bw hz).cell 3,(HK0.o.1.bw hz).ly6,(HK0.o.2.1.bw hz).cell 0,(HK0.o.2.1.bw hz).cell 1,(HK0.o.2.1.bw hz).cell 2⟩)
 have HSE:Zh (∀ X,qY V X->qC 67 #[.agg (qL L (some (qR gp op)) xs.length c0 a2 L.slots.length c2 a5 ts.length c5)] X (fun e w'=>e=.returned (qI (dA L))/\qY V w')):=fun X hz=>(zQ L (some (qR gp op)) c0 xs a2 c2 a5 c5 ts X (HL2.o.bw hz)).mono fun e w' he=>⟨he.1,hz.trans (he.2.mono hz.size)⟩;have HOR:Zh (∀ X,qY V X->qC 130 #[.agg (qL L (some (qR gp op)) xs.length c0 a2 L.slots.length c2 a5 ts.length c5),.agg (qT m b at'),qI s] X (fun e w'=>e=.returned (qI (gC L ((⟨tx,bk,dt,sz⟩,pa,pc):PB) b s))/\qY V w')):=fun X hz=>(mX L (some (qR gp op)) c0 xs a2 c2 a5 c5 ts m b at' s X (HL2.o.bw hz) m0 m1 (by rw [<- HP.o];exact hbb) hs).mono fun e w' he=>⟨by rw [HP.o];exact he.1,hz.trans (he.2.mono hz.size)⟩;have hx2:(xn:Int)<=200:=by rw [HXN.o];exact hw.2
 have HWB:=zh (fun (X:qw)=>lO xa xn xc X (by omega));have hrd:=aQ (x:=4*(xn:Int));have HRR:=zh (show rnd (4*q)=rnd (4*(xn:Int)) by rw [HXN.o]);generalize hog:gC L ((⟨tx,bk,dt,sz⟩,pa,pc):PB) b s=og at *;generalize hE:dA L=E at *;generalize rnd (4*(xn:Int))=rr at *;have HOG:=zh hog;have HE:=zh hE;have HWR:Zh (IntKind.i64.wrap (E-L.stack)=E-L.stack):=nN
 have HJ:=zh (show ∀ X,qY V X->qC 198 #[qS (qP X.heap.size) 4 4] (X.alloc (.cells #[qI dt,qI sz,.bool true,.bool true,.bool false,qI L.stack,qI (IntKind.i64.wrap (E-L.stack)),.bool true,.bool true,.bool false,qI 131072,qI 32,.bool false,.bool true,.bool false,qI og,qI rr,.bool false,.bool false,.bool true] 234)) (fun e w'=>∃ A k c,e=.returned (qS A k c)/\k=((([]++rts true true false (cvL dt sz))++rts true true false (cvL L.stack (E-L.stack))++rts false true false (cvL 131072 32))++rts false false true (cvL og rr)).length/\ORg w' V.heap.size (qS A k c) ((([]++rts true true false (cvL dt sz))++rts true true false (cvL L.stack (E-L.stack))++rts false true false (cvL 131072 32))++rts false false true (cvL og rr))/\qY V w') from fun X hX=>by
  have KB:=Blk.new X #[qI dt,qI sz,.bool true,.bool true,.bool false,qI L.stack,qI (IntKind.i64.wrap (E-L.stack)),.bool true,.bool true,.bool false,qI 131072,qI 32,.bool false,.bool true,.bool false,qI og,qI rr,.bool false,.bool false,.bool true] 234;have BX:qY V (X.alloc (.cells #[qI dt,qI sz,.bool true,.bool true,.bool false,qI L.stack,qI (IntKind.i64.wrap (E-L.stack)),.bool true,.bool true,.bool false,qI 131072,qI 32,.bool false,.bool true,.bool false,qI og,qI rr,.bool false,.bool false,.bool true] 234)):=hX.alloc hX.size _;rw [HWR.o] at KB BX ⊢;refine (aE1 X.heap.size 0 4 4 [(dt,sz,true,true,false),(L.stack,E-L.stack,true,true,false),(131072,32,false,true,false),(og,rr,false,false,true)] _ rfl aN ?_ ?_).mono ?_
  .intro i hi
   match i with
   | 0=>exact ⟨by unfold wfi;simp;omega,by unfold wfi;simp;omega⟩
   | 1=>exact ⟨by unfold wfi;simp;omega,by unfold wfi;simp;omega⟩
   | 2=>exact ⟨by unfold wfi;simp,by unfold wfi;simp⟩
   | 3=>exact ⟨hwfo,by unfold wfi;simp;omega⟩
  .intro i hi
   match i with
   | 0=>exact ⟨KB.cell 0,KB.cell 1,KB.cell 2,KB.cell 3,KB.cell 4⟩
   | 1=>exact ⟨KB.cell 5,KB.cell 6,KB.cell 7,KB.cell 8,KB.cell 9⟩
   | 2=>exact ⟨KB.cell 10,KB.cell 11,KB.cell 12,KB.cell 13,KB.cell 14⟩
   | 3=>exact ⟨KB.cell 15,KB.cell 16,KB.cell 17,KB.cell 18,KB.cell 19⟩
  .rintro e w' ⟨A,k,c,rfl,hk,ho,hb⟩;have er:([(dt,sz,true,true,false),(L.stack,E-L.stack,true,true,false),(131072,32,false,true,false),(og,rr,false,false,true)]:List Spn).flatMap spR=(([]++rts true true false (cvL dt sz))++rts true true false (cvL L.stack (E-L.stack))++rts false true false (cvL 131072 32))++rts false false true (cvL og rr):=by simp [spR]
   rw [er] at hk ho
   exact ⟨A,k,c,rfl,hk,sK ho BX.size,BX.trans (hb.mono BX.size)⟩)
 clear hog hE u0 u1 u2 u3 u4 u5 u6 u7 C1 C2 v0 v1 v2 v3 v4 v5 v6 v7 x0 x1 x2 x3 x4 x5 y0 y1 HPC hbb hs hk;obtain ⟨z2,z3,⟨z4,z5,z6,z7,z8,z9⟩,z10,z11,z12⟩:=HKX.o _ HB1.o;go_wp2_with fail
 go_region_held3 (fun w'=>w'.cell? (qR W.heap.size 2)=some (qI dt)/\w'.cell? (qR W.heap.size 3)=some (qI sz)/\w'.cell? (qR w.heap.size 0)=some (qS (some (qR gp op)) xs.length c0)/\w'.cell? (qR w.heap.size 1)=some (qI L.stack)/\w'.cell? (qR w.heap.size 2)=some (qS a2 L.slots.length c2)/\w'.cell? (qR w.heap.size 3)=some (qI L.flash)/\w'.cell? (qR w.heap.size 4)=some (qI L.ram)/\w'.cell? (qR w.heap.size 5)=some (qS a5 ts.length c5)/\w'.cell? (qR (w.heap.size+1) 0)=some (qI m)/\w'.cell? (qR (w.heap.size+1) 1)=some (qI b)/\w'.cell? (qR (w.heap.size+1) 2)=some (qI at')) (go_keep)
  (first
    | (go_at_call 67;first
        | with_reducible refine (HSE.o _ HB1.o).mono ?_
        | with_reducible refine (HSE.o _ HB1.o.drew).mono ?_
       rintro e w3 ⟨rfl,hb3⟩;have HB3:=zh hb3;clear hb3
       obtain ⟨z2,z3,⟨z4,z5,z6,z7,z8,z9⟩,z10,z11,z12⟩:=HKX.o _ HB3.o)
    | (go_at_call 130;first
        | with_reducible refine (HOR.o _ HB3.o).mono ?_
        | with_reducible refine (HOR.o _ HB3.o.drew).mono ?_
       rintro e w4 ⟨rfl,hb4⟩;have HB4:=zh hb4;clear hb4
       obtain ⟨z2,z3,⟨z4,z5,z6,z7,z8,z9⟩,z10,z11,z12⟩:=HKX.o _ HB4.o)
    | (go_at_call 199;with_reducible refine (HWB.o _).mono ?_;rintro e w5 ⟨rfl,rfl⟩)
    | (go_at_call 198;first
        | with_reducible refine (HJ.o _ HB4.o).mono ?_
        | with_reducible refine (HJ.o _ HB4.o.drew).mono ?_
       rintro e w6 ⟨A,k,c,rfl,hk6,ho6,hb6⟩;have HB6:=zh (xA hk6 (xA ho6 hb6));clear hk6 ho6 hb6
       obtain ⟨z2,z3,⟨z4,z5,z6,z7,z8,z9⟩,z10,z11,z12⟩:=HKX.o _ HB6.o.2.2))
 have HF:=zh (xA HBV.o HB6.o);clear HB6 HB1 HB3 HB4 z2 z3 z4 z5 z6 z7 z8 z9 z10 z11 z12;rw [List.nil_append] at HF;by_cases h8:k<=8
 .have h8':(k:Int)<=8:=by omega
  have HX:=zh (aPy HF.o.1 HF.o.2 h8);rw [<- HRR.o] at HX;clear HF;go_wp2
  go_ret2
  first
   | exact HX.o
   | (have hx:=HX.o
      simp only [List.append_assoc] at hx
      exact hx)
 .have h8':¬ (k:Int)<=8:=by omega
  have h8'':(8:Int)<(k:Int):=by omega
  have HX:=zh (aPz HF.o.1 HF.o.2 h8);rw [<- HRR.o] at HX;clear HF;go_wp2
  go_ret2
  first
   | exact HX.o
   | (have hx:=HX.o
      simp only [List.append_assoc] at hx
      exact hx)
theorem aK4 (hk:k<xs.length)(h:¬ frk ps (xs.getD k zFr)):¬ jQ ps cd xs:=fun f=>h (f.2 k hk)
theorem aGr (hl:xs.length=n)(h0:(n:Int)<=cd)(hk:¬ k<n)(h:∀ i,i<k->frk ps (xs.getD i zFr)):jQ ps cd xs:=⟨by rw [hl];exact h0,fun i hi=>h i (by omega)⟩
theorem aP4 {w:qw}{a:qO}{cap:Nat}{ms:List Md}(h:MSD w a n cap ms){m b:Int}(hp:0<=pcq (aD ms) m b):∃ gm om D,a=some (qR gm om)/\ms.getD m.toNat aK=D/\(0<=m/\m<(n:Int))/\∀ X,qY w X->X.cell? (qR gm (om+m.toNat*8))=some (.string D.nm)/\X.cell? (qR gm (om+m.toNat*8+1))=some (qS D.ta D.tn D.tc)/\X.cell? (qR gm (om+m.toNat*8+2))=some (qS D.ba D.bn D.bc)/\X.cell? (qR gm (om+m.toNat*8+3))=some (qS D.da D.dn D.dc)/\X.cell? (qR gm (om+m.toNat*8+4))=some (qI D.bss)/\X.cell? (qR gm (om+m.toNat*8+5))=some (qS D.ra D.rn D.rc)/\X.cell? (qR gm (om+m.toNat*8+6))=some (qS D.ia D.im D.ic)/\X.cell? (qR gm (om+m.toNat*8+7))=some (qS D.ea D.en D.ec):=by
 obtain ⟨⟨h0,h1⟩,_⟩:=mC h hp;obtain ⟨gm,om,rfl,v0,v1,v2,v3,v4,v5,v6,v7⟩:=h.s.at m.toNat (by omega);exact ⟨gm,om,_,rfl,rfl,⟨h0,h1⟩,fun X hX=>⟨aB hX v0,aB hX v1,aB hX v2,aB hX v3,aB hX v4,aB hX v5,aB hX v6,aB hX v7⟩⟩
theorem tO (M:Mn)(w:qw)(h:MnD w M):
 qC 82 #[.agg (qA M)] w (Yn (jQ (aD M.ms) M.cd M.hz) w):=by
 obtain ⟨V,hV,bV,kV⟩:=nwb w (qA M) 43;have hl:=h.h.1;have hmx:=h.h.2.1;have hmy:=h.m.s.2.1;unfold maxLen at hmx hmy;have HD:=zh (h.bw bV);have HV:=zh hV;have HK:=zh (xA bV kV);have HC:=zh (fun (X:qw) (hX:qY V X)=>show X.cell? (qR w.heap.size 0)=some (qS M.ma M.mn M.mc)/\X.cell? (qR w.heap.size 4)=some (qI M.cd)/\X.cell? (qR w.heap.size 13)=some (qS M.ha M.hn M.hc) from ⟨(kV.bw hX).cell 0,(kV.bw hX).cell 4,(kV.bw hX).cell 13⟩);clear hV kV bV h;by_cases c0:M.cd<(M.hn:Int)
 .have HN:Zh (¬ jQ (aD M.ms) M.cd M.hz):=fun f=>by have:=f.1;omega
  obtain ⟨y0,y4,y13⟩:=HC.o V brf;go_enter func82,ntmps82
  go_wp2_with (rw [<- HV.o])
  go_ret;exact cU HN.o (HK.o.1)
 have c0':(M.hn:Int)<=M.cd:=by omega
 have HRE:=zh (Below.refl V.heap.size V);obtain ⟨y0,y4,y13⟩:=HC.o V brf;go_enter func82,ntmps82
 go_wp2_with (rw [<- HV.o])
 clear y0 y4 y13;go_loopw [3] (fun i wr=>∃ k:Nat,k<=M.hn/\i=qI k/\(∀ i,i<k->frk (aD M.ms) (M.hz.getD i zFr))/\qY V wr) (qf M.hn)
 .exact ⟨0,xC _,rfl,fun i hi=>absurd hi (by omega),HRE.o⟩
 .obtain ⟨k,hk,rfl,hF,hB⟩:=hrel;obtain ⟨y0,y4,y13⟩:=HC.o wr hB;have HB:=zh hB;by_cases hlt:k<M.hn
  .have hlt':(k:Int)<(M.hn:Int):=by omega
   obtain ⟨g,f,hg,q0,q1,q2,q3⟩:=(HD.o.h.bw hB).at k hlt _ _ _ _ rfl;have HNO:=zh (fun (q:¬ frk (aD M.ms) (M.hz.getD k zFr))=>aK4 (cd:=M.cd) (show k<M.hz.length by omega) q)
   have HST:=zh (fun (q:frk (aD M.ms) (M.hz.getD k zFr)) (i:Nat) (hi:i<k+1)=>show frk (aD M.ms) (M.hz.getD i zFr) from by
    by_cases e:i=k
    .rw [e];exact q
    .exact hF i (by omega))
   generalize M.hz.getD k zFr=x at *;obtain ⟨x0,x1,x2,x3⟩:=x;dsimp only at q0 q1 q2 q3;obtain ⟨U,hU,bU,kU⟩:=nwb wr (qW x0 x1 x2 x3) 135;have BU:=hB.trans (bU.mono hB.size);have HTH:=zh (gS M.ma M.mn M.mc M.ms x0 x1 U (HD.o.m.s.bw BU));rw [dW HD.o.m x0 x1] at HTH;have HBU:=zh BU;have HU:=zh hU;have HKU:=zh kU;rw [hg] at y13;obtain ⟨j0,_,_⟩:=HC.o U BU;have j1:=kU.cell 0;have j2:=kU.cell 1;clear hB hF hU kU bU BU hg;by_cases c1:0<=pcq (aD M.ms) x0 x1
   .rw [xR c1] at HTH;obtain ⟨gm,om,D,ha,hD,⟨m0,m1⟩,hcell⟩:=aP4 (HD.o.m.bw HBU.o) c1;have HP:=zh (fun (X:qw) (hX:qY U X)=>yK (HD.o.m.bw HBU.o) c1 hD X hX);have HMC:=zh (fun (X:qw) (hX:qY U X)=>xA (hcell X hX) (xA (HC.o X (HBU.o.trans (hX.mono HBU.o.size))).1 (xA ((HKU.o.bw hX).cell 0) (xA ((HKU.o.bw hX).cell 1) (xA ((HKU.o.bw hX).cell 2) ((HKU.o.bw hX).cell 3))))));have HFK:=zh (show frk (aD M.ms) (x0,x1,x2,x3) ↔ (0<=x2/\x2<=pcq (aD M.ms) x0 x1)/\0<=x3/\x3<=4294967295 from by unfold frk tgk;simp [c1]);generalize pcq (aD M.ms) x0 x1=q at *;rw [ha] at y0 j0 HTH;have HA:=zh ha;clear hcell hD c1 ha;go_wp2_with (rw [<- HU.o])
    refine HTH.o.mono ?_;rintro e X1 ⟨rfl,hb1⟩;obtain ⟨⟨u0,u1,u2,u3,u4,u5,u6,u7⟩,z0,t0,t1,t2,t3⟩:=HMC.o X1 hb1;have HX1:=zh hb1;have HP2:=zh (fun (X:qw) (hX:qY X1 X)=>(HP.o X (HX1.o.trans (hX.mono HX1.o.size))).mono (fun e w' he=>show ∃ xa xn xc,e=.returned (.tuple #[qS xa xn xc,.bool true])/\(xn:Int)=q/\qY U w' from he));rw [HA.o] at z0;clear hb1 q0 q1 q2 q3 y0 y4 y13 j0 j1 j2 HTH HU HP;by_cases c3:x3<0
    .have HN:=zh (HNO.o (fun f=>by have:=HFK.o.1 f;omega));go_wp2;go_ret;exact cU HN.o (HK.o.1.trans ((HBU.o.trans (HX1.o.mono HBU.o.size)).mono HK.o.1.size))
    by_cases c4:4294967295<x3
    .have HN:=zh (HNO.o (fun f=>by have:=HFK.o.1 f;omega));go_wp2;go_ret;exact cU HN.o (HK.o.1.trans ((HBU.o.trans (HX1.o.mono HBU.o.size)).mono HK.o.1.size))
    go_wp2_with fail
    go_region_held3 (fun w'=>w'.cell? (qR w.heap.size 0)=some (qS (some (qR gm om)) M.mn M.mc)/\w'.cell? (qR wr.heap.size 0)=some (qI x0)/\w'.cell? (qR wr.heap.size 1)=some (qI x1)/\w'.cell? (qR gm (om+x0.toNat*8))=some (.string D.nm)/\w'.cell? (qR gm (om+x0.toNat*8+1))=some (qS D.ta D.tn D.tc)/\w'.cell? (qR gm (om+x0.toNat*8+2))=some (qS D.ba D.bn D.bc)/\w'.cell? (qR gm (om+x0.toNat*8+3))=some (qS D.da D.dn D.dc)/\w'.cell? (qR gm (om+x0.toNat*8+4))=some (qI D.bss)/\w'.cell? (qR gm (om+x0.toNat*8+5))=some (qS D.ra D.rn D.rc)/\w'.cell? (qR gm (om+x0.toNat*8+6))=some (qS D.ia D.im D.ic)/\w'.cell? (qR gm (om+x0.toNat*8+7))=some (qS D.ea D.en D.ec)) (go_keep)
     (first
       | (go_at_call 115;first
           | with_reducible refine (HP2.o _ brf).mono ?_
           | with_reducible refine (HP2.o _ brf.drew).mono ?_
          rintro e w1 ⟨xa,xn,xc,rfl,hxn,hb1⟩;have HXN:=zh hxn;have HB1:=zh hb1;obtain ⟨⟨s0,s1,s2,s3,s4,s5,s6,s7⟩,p0,r0,r1,r2,r3⟩:=HMC.o w1 hb1;rw [HA.o] at p0
          clear hb1 hxn))
    clear u0 u1 u2 u3 u4 u5 u6 u7 s0 s1 s2 s3 s4 s5 s6 s7 z0 t0 t1 t2 t3 HP2;have HE:=zh (HBU.o.trans (HB1.o.mono HBU.o.size));by_cases c5:x2<0
    .have HN:=zh (HNO.o (fun f=>by have:=HFK.o.1 f;omega));go_wp2;go_ret;exact cU HN.o (HK.o.1.trans (HE.o.mono HK.o.1.size))
    by_cases c6:(xn:Int)<x2
    .have HN:=zh (HNO.o (fun f=>by have h1:=HFK.o.1 f;have h2:=HXN.o;omega));go_wp2;go_ret;exact cU HN.o (HK.o.1.trans (HE.o.mono HK.o.1.size))
    have HY:=zh (HST.o (HFK.o.2 (by have h2:=HXN.o;omega)));go_wp2
    go_roundw
    .exact ⟨k+1,by omega,by go_num,HY.o,HE.o⟩
    .simp [qf,intOf];omega
   .rw [xS c1] at HTH;have HN:=zh (HNO.o (fun f=>c1 f.1.1));go_wp2_with (rw [<- HU.o])
    refine HTH.o.mono ?_;rintro e X1 ⟨rfl,hb1⟩;go_wp2;go_ret;exact cU HN.o (HK.o.1.trans ((HBU.o.trans (hb1.mono HBU.o.size)).mono HK.o.1.size))
  .have HY:=zh (aGr hl c0' hlt hF);clear hB hF;go_wp2;go_ret;exact pN HY.o (HK.o.1.trans (HB.o.mono HK.o.1.size))
