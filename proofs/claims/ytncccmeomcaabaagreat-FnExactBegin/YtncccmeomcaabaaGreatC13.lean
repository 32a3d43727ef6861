import Derived.Test.YtncccmeomcaabaaGreatC11
set_option linter.all false
set_option maxHeartbeats 8000000
namespace Go.Proofs.YtncccmeomcaabaaGreat
open Go.RowKit Classical
open Go.Proofs.Tryz
set_option maxRecDepth 100000
variable {A:qO}{C:Cn}{G c g k:Nat}{M:Mn}{R:List Rg}{cs:Array Value}
def aGa (w:qw)(R:List Rg)(e:Ending)(w':qw):Prop:=
 ∃ A k c,e=.returned (.tuple #[qS A k c,.bool (decide (R.length<=8))])/\ORg w' w.heap.size (qS A k c) (if R.length<=8 then R else [])/\qY w w'
theorem aQg {w V X:qw}(hV:qY w V)(h:k=R.length/\ORg X V.heap.size (qS A k c) R/\qY V X)(h8:k<=8):aGa w R (.returned (.tuple #[qS A k c,.bool true])) X:=by
 have e:R.length<=8:=by omega
 refine ⟨A,k,c,by rw [xR e],by rw [if_pos e];exact sT h.2.1 hV.size,hV.trans (h.2.2.mono hV.size)⟩
theorem aQh {w V X:qw}(hV:qY w V)(h:k=R.length/\ORg X V.heap.size (qS A k c) R/\qY V X)(h8:¬ k<=8):aGa w R (.returned (.tuple #[qS none 0 0,.bool false])) X:=by
 have e:¬ R.length<=8:=by omega
 refine ⟨none,0,0,by rw [xS e],by rw [if_neg e];exact rQ _ _,hV.trans (h.2.2.mono hV.size)⟩
theorem sQ (a:qO)(n cap:Nat)(ms:List Md)(L:Lay)(a0:qO)(c0:Nat)(xs:List PB)(a2:qO)(c2:Nat)(a5:qO)(c5:Nat)(ts:List TB)(m b at' s:Int)(w:qw)(h:MSD w a n cap ms)(hL:LyT w L a0 c0 xs a2 c2 a5 c5 ts)
 (hk:Lok (aE ms) L) (hp:0<=pcq (aE ms) m b) (hs:s=-1\/(b≠-1/\0<=s/\s<(L.slots.length:Int))):
 qC 161 #[qS a n cap,.agg (qJ L a0 xs c0 a2 c2 a5 ts c5),.agg (qT m b at'),qI s] w (aGa w (plR (aE ms) L m b s)):=by
 have K:=mS (s:=s) hL hk hp;have hn:=h.s.1;have hlen:=bT ms;obtain ⟨m0,m1,m2,hpl,hbb,hw,hd,hst,hen⟩:=K;have hwfo:wfi (gB L (xs.getD m.toNat zPB) b s):=aCy hL hk hp hs;have HPQ:=zh (dX h m b);obtain ⟨W,hW⟩:=eqx ((w.alloc (.cells (qJ L a0 xs c0 a2 c2 a5 ts c5) 71)).alloc (.cells (qT m b at') 58));have hB:qY w W:=by rw [hW];exact bal.alloc (by simp) _
 have k0:Blk W w.heap.size (qJ L a0 xs c0 a2 c2 a5 ts c5) 71:=by rw [hW];exact (Blk.new w _ _).alloc _
 have k1:Blk W (w.heap.size+1) (qT m b at') 58:=by rw [hW];have:=Blk.new (w.alloc (.cells (qJ L a0 xs c0 a2 c2 a5 ts c5) 71)) (qT m b at') 58;simpa using this
 have h1:=h.bw hB;have hL1:=hL.bw hB;obtain ⟨gp,op,rfl,q0,q1,q2,q3⟩:=hL1.p.at m.toNat (by omega);unfold svP at q1;have hpx:=hL1.p.2.1;unfold maxLen at hpx;have d0:=k0.e0;have t0:=k1.e0;obtain ⟨P,hP⟩:=eqx (xs.getD m.toNat zPB);rw [<- hP] at q0 q1 q2 q3 hpl hbb hwfo;rw [<- hpl] at hd;obtain ⟨⟨tx,bk,dt,sz⟩,pa,pc⟩:=P;dsimp only at q0 q1 q2 q3 hpl hbb hd;have HP:=zh hP;obtain ⟨hd1,hd2,hd3,hd4⟩:=hd;obtain ⟨st1,st2⟩:=hst;obtain ⟨en1,en2⟩:=hen;obtain ⟨q,hq⟩:=eqx (pcq (aE ms) m b);have HQ:=zh hq
 have HRS:=zh (show plR (aE ms) L m b s=(([]++rts true true false (cvL dt sz))++rts true true false (cvL L.stack (dB L-L.stack))++rts false true false (cvL 131072 32))++rts false false true (cvL (gB L ((⟨tx,bk,dt,sz⟩,pa,pc):PB) b s) (rnd (4*q))) from by
  unfold plR;rw [<- hpl,hq]
  rfl)
 rw [HRS.o];rw [<- hq] at hw hp;clear HRS;obtain ⟨V,hV,bV,kV⟩:=nwb W #[qI tx,qS pa bk.length pc,qI dt,qI sz] 171;have k0':=k0.bw bV;have k1':=k1.bw bV;have HBV:=zh (hB.trans (bV.mono hB.size));have h2:=h1.bw bV;have hL2:=hL1.bw bV;have HW:=zh hW;have HV:=zh hV;have HM:=zh h2;have HL2:=zh hL2;have HK0:=zh (xA k0' (xA k1' kV));clear hW hV k0 k1 h h1 hL hL1 hB bV k0' k1' kV hP hpl hq;go_enter func161,ntmps161
 go_wp2_with (first|rw [<- HW.o]|rw [<- HV.o])
 obtain ⟨gm,om,rfl,v0,v1,v2,v3,v4,v5,v6,v7⟩:=HM.o.s.at m.toNat (by omega);have hmt:=HM.o.s.2.2.2.1 m.toNat (by omega)
 have hqn:pcn (ms.getD m.toNat aK).tn (ms.getD m.toNat aK).bn (ms.getD m.toNat aK).bl b=q:=by
  rw [HQ.o,<- HPQ.o];unfold pcm;rw [if_pos (by omega)]
 generalize ms.getD m.toNat aK=M at *
 have HPC:=zh (show ∀ X,qY V X->qC 175 #[.agg (qM M.nm M.ta M.tn M.tc M.ba M.bn M.bc M.da M.dn M.dc M.bss M.ra M.rn M.rc M.ia M.im M.ic M.ea M.en M.ec),qI b] X (fun e w'=>∃ xa xn xc,e=.returned (.tuple #[qS xa xn xc,.bool true])/\(xn:Int)=q/\qY V w') from fun X hX=>
  (gP M.nm M.ta M.tn M.tc M.ba M.bn M.bc M.bl (qS M.da M.dn M.dc) (qS M.ra M.rn M.rc) (qS M.ia M.im M.ic) (qS M.ea M.en M.ec) M.bss b X hmt.t.2.1 (hmt.b.bw hX)).mono fun e w' ⟨xa,xn,xc,ok,he,ho,hx,_,hb⟩=>by
    have ho':ok=true:=by rw [ho,hqn];simp;omega
    exact ⟨xa,xn,xc,by rw [he,ho'],by rw [hx ho',hqn],hX.trans (hb.mono hX.size)⟩)
 obtain ⟨x0,x1,x2,x3,x4,x5⟩:=HK0.o.1.ly6;have y0:=HK0.o.2.1.e0;have y1:=HK0.o.2.1.e1;have hmx:=HM.o.s.2.1;unfold maxLen at hmx;have hmn:m<(n:Int):=by omega
 clear q0 q1 q2 q3 d0 t0 hmt hqn hlen hn
 go_region_held3 (fun w'=>w'.cell? (qR (w.heap.size+1) 0)=some (qI m)/\w'.cell? (qR (w.heap.size+1) 1)=some (qI b)/\w'.cell? (qR gm (om+m.toNat*8))=some (.string M.nm)/\w'.cell? (qR gm (om+m.toNat*8+1))=some (qS M.ta M.tn M.tc)/\w'.cell? (qR gm (om+m.toNat*8+2))=some (qS M.ba M.bn M.bc)/\w'.cell? (qR gm (om+m.toNat*8+3))=some (qS M.da M.dn M.dc)/\w'.cell? (qR gm (om+m.toNat*8+4))=some (qI M.bss)/\w'.cell? (qR gm (om+m.toNat*8+5))=some (qS M.ra M.rn M.rc)/\w'.cell? (qR gm (om+m.toNat*8+6))=some (qS M.ia M.im M.ic)/\w'.cell? (qR gm (om+m.toNat*8+7))=some (qS M.ea M.en M.ec)) (go_keep)
  (first
    | (go_at_call 175;first
        | with_reducible refine (HPC.o _ brf).mono ?_
        | with_reducible refine (HPC.o _ brf.drew).mono ?_
       rintro e w1 ⟨xa,xn,xc,rfl,hxn,hb1⟩;have HB1:=zh hb1;have HXN:=zh hxn;have C1:=(HK0.o.2.1.bw hb1).cell 0;have C2:=(HK0.o.2.1.bw hb1).cell 1;have u0:=aB hb1 v0;have u1:=aB hb1 v1;have u2:=aB hb1 v2;have u3:=aB hb1 v3;have u4:=aB hb1 v4;have u5:=aB hb1 v5;have u6:=aB hb1 v6;have u7:=aB hb1 v7
       clear hb1 hxn))
 have HKX:=zh (show ∀ X,qY V X->X.cell? (qR W.heap.size 2)=some (qI dt)/\X.cell? (qR W.heap.size 3)=some (qI sz)/\(X.cell? (qR w.heap.size 0)=some (qS (some (qR gp op)) xs.length c0)/\X.cell? (qR w.heap.size 1)=some (qI L.stack)/\X.cell? (qR w.heap.size 2)=some (qS a2 L.slots.length c2)/\X.cell? (qR w.heap.size 3)=some (qI L.flash)/\X.cell? (qR w.heap.size 4)=some (qI L.ram)/\X.cell? (qR w.heap.size 5)=some (qS a5 ts.length c5))/\X.cell? (qR (w.heap.size+1) 0)=some (qI m)/\X.cell? (qR (w.heap.size+1) 1)=some (qI b)/\X.cell? (qR (w.heap.size+1) 2)=some (qI at') from fun X hz=>
  ⟨(HK0.o.2.2.bw hz).cell 2,(HK0.o.2.2.bw hz).cell 3,(HK0.o.1.bw hz).ly6,(HK0.o.2.1.bw hz).cell 0,(HK0.o.2.1.bw hz).cell 1,(HK0.o.2.1.bw hz).cell 2⟩)
 have HSE:Zh (∀ X,qY V X->qC 67 #[.agg (qL L (some (qR gp op)) xs.length c0 a2 L.slots.length c2 a5 ts.length c5)] X (fun e w'=>e=.returned (qI (dB L))/\qY V w')):=fun X hz=>(aAg L (some (qR gp op)) c0 xs a2 c2 a5 c5 ts X (HL2.o.bw hz)).mono fun e w' he=>⟨he.1,hz.trans (he.2.mono hz.size)⟩;have HOR:Zh (∀ X,qY V X->qC 130 #[.agg (qL L (some (qR gp op)) xs.length c0 a2 L.slots.length c2 a5 ts.length c5),.agg (qT m b at'),qI s] X (fun e w'=>e=.returned (qI (gB L ((⟨tx,bk,dt,sz⟩,pa,pc):PB) b s))/\qY V w')):=fun X hz=>(jF L (some (qR gp op)) c0 xs a2 c2 a5 c5 ts m b at' s X (HL2.o.bw hz) m0 m1 (by rw [<- HP.o];exact hbb) hs).mono fun e w' he=>⟨by rw [HP.o];exact he.1,hz.trans (he.2.mono hz.size)⟩;have hx2:(xn:Int)<=200:=by rw [HXN.o];exact hw.2
 have HWB:=zh (fun (X:qw)=>mC xa xn xc X (by omega));have hrd:=aQ (x:=4*(xn:Int));have HRR:=zh (show rnd (4*q)=rnd (4*(xn:Int)) by rw [HXN.o]);generalize hog:gB L ((⟨tx,bk,dt,sz⟩,pa,pc):PB) b s=og at *;generalize hE:dB L=E at *;generalize rnd (4*(xn:Int))=rr at *;have HOG:=zh hog;have HE:=zh hE;have HWR:Zh (IntKind.i64.wrap (E-L.stack)=E-L.stack):=nW
 have HJ:=zh (show ∀ X,qY V X->qC 198 #[qS (qP X.heap.size) 4 4] (X.alloc (.cells #[qI dt,qI sz,.bool true,.bool true,.bool false,qI L.stack,qI (IntKind.i64.wrap (E-L.stack)),.bool true,.bool true,.bool false,qI 131072,qI 32,.bool false,.bool true,.bool false,qI og,qI rr,.bool false,.bool false,.bool true] 234)) (fun e w'=>∃ A k c,e=.returned (qS A k c)/\k=((([]++rts true true false (cvL dt sz))++rts true true false (cvL L.stack (E-L.stack))++rts false true false (cvL 131072 32))++rts false false true (cvL og rr)).length/\ORg w' V.heap.size (qS A k c) ((([]++rts true true false (cvL dt sz))++rts true true false (cvL L.stack (E-L.stack))++rts false true false (cvL 131072 32))++rts false false true (cvL og rr))/\qY V w') from fun X hX=>by
  have KB:=Blk.new X #[qI dt,qI sz,.bool true,.bool true,.bool false,qI L.stack,qI (IntKind.i64.wrap (E-L.stack)),.bool true,.bool true,.bool false,qI 131072,qI 32,.bool false,.bool true,.bool false,qI og,qI rr,.bool false,.bool false,.bool true] 234;have BX:qY V (X.alloc (.cells #[qI dt,qI sz,.bool true,.bool true,.bool false,qI L.stack,qI (IntKind.i64.wrap (E-L.stack)),.bool true,.bool true,.bool false,qI 131072,qI 32,.bool false,.bool true,.bool false,qI og,qI rr,.bool false,.bool false,.bool true] 234)):=hX.alloc hX.size _;rw [HWR.o] at KB BX ⊢;refine (aFf X.heap.size 0 4 4 [(dt,sz,true,true,false),(L.stack,E-L.stack,true,true,false),(131072,32,false,true,false),(og,rr,false,false,true)] _ rfl aN ?_ ?_).mono ?_
  .intro i hi
   match i with
   | 0=>exact ⟨by unfold wfi;simp;omega,by unfold wfi;simp;omega⟩
   | 1=>exact ⟨by unfold wfi;simp;omega,by unfold wfi;simp;omega⟩
   | 2=>exact ⟨by unfold wfi;simp,by unfold wfi;simp⟩
   | 3=>exact ⟨hwfo,by unfold wfi;simp;omega⟩
  .intro i hi
   match i with
   | 0=>exact ⟨KB.cell 0,KB.cell 1,KB.cell 2,KB.cell 3,KB.cell 4⟩
   | 1=>exact ⟨KB.cell 5,KB.cell 6,KB.cell 7,KB.cell 8,KB.cell 9⟩
   | 2=>exact ⟨KB.cell 10,KB.cell 11,KB.cell 12,KB.cell 13,KB.cell 14⟩
   | 3=>exact ⟨KB.cell 15,KB.cell 16,KB.cell 17,KB.cell 18,KB.cell 19⟩
  .rintro e w' ⟨A,k,c,rfl,hk,ho,hb⟩;have er:([(dt,sz,true,true,false),(L.stack,E-L.stack,true,true,false),(131072,32,false,true,false),(og,rr,false,false,true)]:List Spn).flatMap spR=(([]++rts true true false (cvL dt sz))++rts true true false (cvL L.stack (E-L.stack))++rts false true false (cvL 131072 32))++rts false false true (cvL og rr):=by simp [spR]
   rw [er] at hk ho
   exact ⟨A,k,c,rfl,hk,sT ho BX.size,BX.trans (hb.mono BX.size)⟩)
 clear hog hE u0 u1 u2 u3 u4 u5 u6 u7 C1 C2 v0 v1 v2 v3 v4 v5 v6 v7 x0 x1 x2 x3 x4 x5 y0 y1 HPC hbb hs hk;obtain ⟨z2,z3,⟨z4,z5,z6,z7,z8,z9⟩,z10,z11,z12⟩:=HKX.o _ HB1.o;go_wp2_with fail
 go_region_held3 (fun w'=>w'.cell? (qR W.heap.size 2)=some (qI dt)/\w'.cell? (qR W.heap.size 3)=some (qI sz)/\w'.cell? (qR w.heap.size 0)=some (qS (some (qR gp op)) xs.length c0)/\w'.cell? (qR w.heap.size 1)=some (qI L.stack)/\w'.cell? (qR w.heap.size 2)=some (qS a2 L.slots.length c2)/\w'.cell? (qR w.heap.size 3)=some (qI L.flash)/\w'.cell? (qR w.heap.size 4)=some (qI L.ram)/\w'.cell? (qR w.heap.size 5)=some (qS a5 ts.length c5)/\w'.cell? (qR (w.heap.size+1) 0)=some (qI m)/\w'.cell? (qR (w.heap.size+1) 1)=some (qI b)/\w'.cell? (qR (w.heap.size+1) 2)=some (qI at')) (go_keep)
  (first
    | (go_at_call 67;first
        | with_reducible refine (HSE.o _ HB1.o).mono ?_
        | with_reducible refine (HSE.o _ HB1.o.drew).mono ?_
       rintro e w3 ⟨rfl,hb3⟩;have HB3:=zh hb3;clear hb3
       obtain ⟨z2,z3,⟨z4,z5,z6,z7,z8,z9⟩,z10,z11,z12⟩:=HKX.o _ HB3.o)
    | (go_at_call 130;first
        | with_reducible refine (HOR.o _ HB3.o).mono ?_
        | with_reducible refine (HOR.o _ HB3.o.drew).mono ?_
       rintro e w4 ⟨rfl,hb4⟩;have HB4:=zh hb4;clear hb4
       obtain ⟨z2,z3,⟨z4,z5,z6,z7,z8,z9⟩,z10,z11,z12⟩:=HKX.o _ HB4.o)
    | (go_at_call 199;with_reducible refine (HWB.o _).mono ?_;rintro e w5 ⟨rfl,rfl⟩)
    | (go_at_call 198;first
        | with_reducible refine (HJ.o _ HB4.o).mono ?_
        | with_reducible refine (HJ.o _ HB4.o.drew).mono ?_
       rintro e w6 ⟨A,k,c,rfl,hk6,ho6,hb6⟩;have HB6:=zh (xA hk6 (xA ho6 hb6));clear hk6 ho6 hb6
       obtain ⟨z2,z3,⟨z4,z5,z6,z7,z8,z9⟩,z10,z11,z12⟩:=HKX.o _ HB6.o.2.2))
 have HF:=zh (xA HBV.o HB6.o);clear HB6 HB1 HB3 HB4 z2 z3 z4 z5 z6 z7 z8 z9 z10 z11 z12;rw [List.nil_append] at HF;by_cases h8:k<=8
 .have h8':(k:Int)<=8:=by omega
  have HX:=zh (aQg HF.o.1 HF.o.2 h8);rw [<- HRR.o] at HX;clear HF;go_wp2
  go_ret2
  first
   | exact HX.o
   | (have hx:=HX.o
      simp only [List.append_assoc] at hx
      exact hx)
 .have h8':¬ (k:Int)<=8:=by omega
  have h8'':(8:Int)<(k:Int):=by omega
  have HX:=zh (aQh HF.o.1 HF.o.2 h8);rw [<- HRR.o] at HX;clear HF;go_wp2
  go_ret2
  first
   | exact HX.o
   | (have hx:=HX.o
      simp only [List.append_assoc] at hx
      exact hx)
theorem aF4 {P:Program}{f:FuncId}{fn:Func}{c:Code}{args:Array Value}{w:qw}{R:Ending->World->Prop}(hf:P.funcs[f]?=some fn)(hb:fn.body=some c)(h:c.wp P (bodyPost P fn R) { tmps:=args++Array.replicate (fn.ntmps-args.size) undef,defers:=[] } w):Calls P f args w R/\∀ u,CallsD P f args u w fun e u' w'=>u'=u/\R e w':=⟨calls_of_wp hf hb h,fun u=>callsD_of_wp hf hb h⟩
theorem MxO.gm {W W':qw}{base mid:Nat}{Ls:List (PMod×Mb)}{β:Nat->Nat}(h:MxO W base mid C M Ls β)(kb:Blk W G cs 110)(hg:mid<=G)(T:Turn (fun j=>j=G) W W'):MxO W' base mid C M Ls β:=
 ⟨h.upd T (fun j hj=>by subst hj;exact ⟨hg,cs,_,kb,by decide,by decide⟩),h.e,aV T h.k (aT kb h.k.1 (by decide)),dM h.q T (fun j hj=>by
  rcases hj with q|q|q
  .exact aT kb h.q.1.1 (by decide) j q
  .exact aT kb h.q.2.1.1 (by decide) j q
  .exact aT kb h.q.2.2.1.1 (by decide) j q),h.l.kept T (aT kb h.l (by decide)),h.h.kept T (aT kb h.h (by decide)),h.bm,h.bh,h.vs,h.vz⟩
theorem Mg.put {w1 W:qw}{Y:Lyb}{v13 vr:Value}(h:Mg w1 W G Y C M v13 vr)(i:Nat)(v:Value){M':Mn}{C':Cn}{v13' vr':Value}(e:(#[qS M.ma M.mn M.mc,qI M.cs,qI M.cw,qI M.ck,qI M.cd,qI M.pc,qS M.ka M.kn M.kc,qS M.fa M.fn M.fc,qS M.ra M.rn M.rc,qS M.oa M.on M.oc,qI M.md,qI M.bk,qS M.la M.ln M.lc,v13,qI M.tn,qS Y.a0 Y.xs.length Y.c0,qI Y.L.stack,qS Y.a2 Y.L.slots.length Y.c2,qI Y.L.flash,qI Y.L.ram,qS Y.a5 Y.ts.length Y.c5,qI M.cd,qS M.ha M.hn M.hc,vr]:Array Value).setIfInBounds i v=#[qS M'.ma M'.mn M'.mc,qI M'.cs,qI M'.cw,qI M'.ck,qI M'.cd,qI M'.pc,qS M'.ka M'.kn M'.kc,qS M'.fa M'.fn M'.fc,qS M'.ra M'.rn M'.rc,qS M'.oa M'.on M'.oc,qI M'.md,qI M'.bk,qS M'.la M'.ln M'.lc,v13',qI M'.tn,qS Y.a0 Y.xs.length Y.c0,qI Y.L.stack,qS Y.a2 Y.L.slots.length Y.c2,qI Y.L.flash,qI Y.L.ram,qS Y.a5 Y.ts.length Y.c5,qI M'.cd,qS M'.ha M'.hn M'.hc,vr'])(hm:∀ {X:qw} {base mid:Nat} {Ls:List (PMod×Mb)} {β:Nat->Nat},MxO X base mid C M Ls β->MxO X base mid C' M' Ls β):Mg w1 (W.setCell (qR G i) v) G Y C' M' v13' vr':=by
 have T:=aC W G i v;obtain ⟨base,mid,Ls,β,m,h1,h2⟩:=h.m;have k:=h.k.set i v;rw [e] at k;exact ⟨aG h.b T (fun j hj=>by have:=h.g;omega) h.b.size,h.g,k,⟨base,mid,Ls,β,hm (m.gm h.k h2 T),h1,h2⟩,h.l⟩
def gkd (ty:TypeId):Prop:=ty=5\/ty=110\/ty=142\/ty=3
def TGx (W W':qw):Prop:=Turn (fun j=>∃ cs ty,Blk W j cs ty/\gkd ty) W W'
theorem TGx.trans {A B C:qw}(h:TGx A B)(k:TGx B C):TGx A C:=
 ⟨k.os.trans h.os,k.tape.trans h.tape,k.output.trans h.output,xM h.size k.size,fun j hj hs=>by
  have e:=h.block j hj hs
  exact (k.block j (Nat.lt_of_lt_of_le hj h.size) (fun ⟨cs,ty,kb,q⟩=>hs ⟨cs,ty,e.symm.trans kb,q⟩)).trans e⟩
theorem bD {W W':qw}(h:qY W W'):TGx W W':=aJ h
theorem dT {S:Nat->Prop}{W W':qw}(t:Turn S W W')(h:∀ j,S j->∃ cs ty,Blk W j cs ty/\gkd ty):TGx W W':=t.mono h
theorem TGx.blk {W W':qw}{ty:TypeId}(t:TGx W W')(k:Blk W g cs ty)(h:¬ gkd ty):Blk W' g cs ty:=aF t k (fun ⟨c,y,kb,q⟩=>h (by rw [aH k kb];exact q))
def rgR:Rg:=(65536,14,0,false,true,false)
theorem aMt (a:Int)(h0:65536<=a)(h1:a<81920):fQ [rgR] a 2 1=true:=by
 have e1:aFp rgR a=true:=by
  unfold aFp rgR hs;simp;omega
 show (if aFp ([rgR].getD 0 z6) a then aLg ([rgR].getD 0 z6) 2 else fQ [rgR] a 2 0)=true;rw [show ([rgR].getD 0 z6)=rgR from rfl,e1];rfl
theorem aMu (a:Int)(h0:65536<=a)(h1:a+4<=81920):alw [rgR] 1 a 4 2=true:=by
 have e1:okB [rgR] 1=true:=by decide
 have e2:upB [rgR] a 2 1 (4:Int).toNat=true:=zV.2 (fun i hi=>by
  have hi:i<4:=hi;have:wrap64 (a+i)=a+i:=by unfold wrap64;omega
  rw [this]
  exact aMt _ (by omega) (by omega))
 unfold alw;rw [e1,e2];rfl
theorem aQe {W:qw}(k:Blk W g #[qI 65536,qI 14,qI 0,.bool false,.bool true,.bool false] 214):RS W (qP g) 1 1 [rgR]:=by
 refine ⟨rfl,by decide,fun g hg=>?_,fun _=>⟨g,0,rfl,fun i hi=>?_⟩,aN⟩
 .simp at hg;subst hg;unfold rgR wfi;simp
 .obtain rfl:i=0:=by omega
  exact ⟨k.cell 0,k.cell 1,k.cell 2,k.cell 3,k.cell 4,k.cell 5⟩
theorem aH8 (w1:qw)(G:Nat)(Y:Lyb)(C:Cn)(M:Mn)(v13 vr:Value)(w:qw)(h:Mg w1 w G Y C M v13 vr):qC 128 #[.pointer (qP G)] w fun e w'=>e=.returned (.tuple #[])/\∃ g,Mg w1 w' G Y C M v13 (qS (qP g) 1 1)/\Blk w' g #[qI 65536,qI 14,qI 0,.bool false,.bool true,.bool false] 214/\TGx w w':=by
 obtain ⟨V,hV,bV,kV⟩:=nwb w #[qI 65536,qI 14,qI 0,.bool false,.bool true,.bool false] 214;have hv:=h.bw bV;have x23:=hv.k.cell 23;have f23:=hv.k.frozen 23;have hg:G<w.heap.size:=h.k.lt;have HE:Zh (Mg w1 (V.setCell (qR G 23) (qS (qP w.heap.size) 1 1)) G Y C M v13 (qS (qP w.heap.size) 1 1)/\Blk (V.setCell (qR G 23) (qS (qP w.heap.size) 1 1)) w.heap.size #[qI 65536,qI 14,qI 0,.bool false,.bool true,.bool false] 214/\TGx w (V.setCell (qR G 23) (qS (qP w.heap.size) 1 1))):=⟨hv.put 23 _ rfl (fun x=>x),kV.other (qR G 23) (qS (qP w.heap.size) 1 1) (by dsimp only;omega),(bD bV).trans (dT (aC _ G 23 _) (fun j hj=>by subst hj;exact ⟨_,_,hv.k,.inr (.inl rfl)⟩))⟩;have HV:=zh hV;clear hV bV kV hv h;go_enter func128,ntmps128
 go_wp2_with (rw [<- HV.o])
 go_end0
 exact ⟨rfl,w.heap.size,HE.o.1,HE.o.2.1,HE.o.2.2⟩
structure Cz (C:Cn)(L:Lay):Prop where
 l:Lok C.ps L
 n:C.ps.length<=4
 p:0<=pcq C.ps C.md C.bk
 s:hld C.lz C.md C.bk=-1\/(C.bk≠-1/\0<=hld C.lz C.md C.bk/\hld C.lz C.md C.bk<(L.slots.length:Int))
def LwP (w1 w:qw)(G:Nat)(Y:Lyb)(C:Cn)(M:Mn)(v13:Value)(e:Ending)(w':qw):Prop:=e=.returned (.tuple #[])/\∃ A k c,Mg w1 w' G Y C M v13 (qS A k c)/\RS w' A k c (if (plR C.ps Y.L C.md C.bk (hld C.lz C.md C.bk)).length<=8 then plR C.ps Y.L C.md C.bk (hld C.lz C.md C.bk) else [])/\Turn (fun j=>j=G) w w'
theorem oU (w1:qw)(G:Nat)(Y:Lyb)(C:Cn)(M:Mn)(v13 vr:Value)(w:qw)(h:Mg w1 w G Y C M v13 vr)(hz:Cz C Y.L):qC 91 #[.pointer (qP G)] w (LwP w1 w G Y C M v13)/\∀ u,CallsD prog 91 #[.pointer (qP G)] u w fun e u' w'=>u'=u/\LwP w1 w G Y C M v13 e w':=by
 obtain ⟨⟨_,_,_,_,_,e6,e7,_⟩,e9,_⟩:=h.vs;have HPI:=zh (fun (X:qw) (hX:qY w X)=>(yO w1 G Y C M v13 vr X (h.bw hX)).mono (fun e w' he=>show e=.returned (.agg (qT M.md M.bk 0))/\qY w w' from ⟨he.1,hX.trans (he.2.mono hX.size)⟩));have HSL:=zh (fun (X:qw) (hX:qY w X)=>(sH w1 G Y C M v13 vr X (h.bw hX)).mono (fun e w' he=>show e=.returned (qI (hld C.lz M.md M.bk))/\qY w w' from ⟨he.1,hX.trans (he.2.mono hX.size)⟩))
 have HPO:=zh (fun (X:qw) (hX:qY w X)=>(sQ M.ma M.mn M.mc M.ms Y.L Y.a0 Y.c0 Y.xs Y.a2 Y.c2 Y.a5 Y.c5 Y.ts M.md M.bk 0 (hld C.lz M.md M.bk) X ((h.bw hX).mnd hz.n).m (h.bw hX).ly (by rw [e9];exact hz.l) (by rw [e9,e6,e7];exact hz.p) (by rw [e6,e7];exact hz.s)).mono (fun e w' he=>show ∃ A k c q,e=.returned (.tuple #[qS A k c,.bool q])/\qY w w'/\((w'.setCell (qR G 23) (qS A k c)).cell? (qR G 0)=some (qS M.ma M.mn M.mc)/\(w'.setCell (qR G 23) (qS A k c)).cell? (qR G 15)=some (qS Y.a0 Y.xs.length Y.c0)/\(w'.setCell (qR G 23) (qS A k c)).cell? (qR G 16)=some (qI Y.L.stack)/\(w'.setCell (qR G 23) (qS A k c)).cell? (qR G 17)=some (qS Y.a2 Y.L.slots.length Y.c2)/\(w'.setCell (qR G 23) (qS A k c)).cell? (qR G 18)=some (qI Y.L.flash)/\(w'.setCell (qR G 23) (qS A k c)).cell? (qR G 19)=some (qI Y.L.ram)/\(w'.setCell (qR G 23) (qS A k c)).cell? (qR G 20)=some (qS Y.a5 Y.ts.length Y.c5))/\(w'.cell? (qR G 23)=some vr/\w'.frozen? (qR G 23)=false)/\LwP w1 w G Y C M v13 (.returned (.tuple #[])) (w'.setCell (qR G 23) (qS A k c)) from by
  obtain ⟨A,k,c,he,ho,hb⟩:=he;have hB:=hX.trans (hb.mono hX.size);have hg:=(h.bw hB);rw [e9,e6,e7] at ho;refine ⟨A,k,c,_,he,hB,⟨(hg.put 23 (qS A k c) (vr':=qS A k c) rfl (fun x=>x)).k.cell 0,(hg.put 23 (qS A k c) (vr':=qS A k c) rfl (fun x=>x)).k.cell 15,(hg.put 23 (qS A k c) (vr':=qS A k c) rfl (fun x=>x)).k.cell 16,(hg.put 23 (qS A k c) (vr':=qS A k c) rfl (fun x=>x)).k.cell 17,(hg.put 23 (qS A k c) (vr':=qS A k c) rfl (fun x=>x)).k.cell 18,(hg.put 23 (qS A k c) (vr':=qS A k c) rfl (fun x=>x)).k.cell 19,(hg.put 23 (qS A k c) (vr':=qS A k c) rfl (fun x=>x)).k.cell 20⟩,⟨hg.k.cell 23,hg.k.frozen 23⟩,rfl,A,k,c,hg.put 23 _ rfl (fun x=>x),?_,(aJ hB).trans (aC _ G 23 _)⟩;have T:=aC w' G 23 (qS A k c);refine fC (eZ T ho (fun j hj e=>?_));subst e;have h1:=(World.ownsRow.lt ho.1 _ hj).1;have h2:=h.k.lt;have h3:=hX.size
  omega))
 have HC:=zh (fun (X:qw) (hX:qY w X)=>show X.cell? (qR G 0)=some (qS M.ma M.mn M.mc)/\X.cell? (qR G 15)=some (qS Y.a0 Y.xs.length Y.c0)/\X.cell? (qR G 16)=some (qI Y.L.stack)/\X.cell? (qR G 17)=some (qS Y.a2 Y.L.slots.length Y.c2)/\X.cell? (qR G 18)=some (qI Y.L.flash)/\X.cell? (qR G 19)=some (qI Y.L.ram)/\X.cell? (qR G 20)=some (qS Y.a5 Y.ts.length Y.c5) from ⟨(h.bw hX).k.cell 0,(h.bw hX).k.cell 15,(h.bw hX).k.cell 16,(h.bw hX).k.cell 17,(h.bw hX).k.cell 18,(h.bw hX).k.cell 19,(h.bw hX).k.cell 20⟩);generalize hld C.lz M.md M.bk=s at *;obtain ⟨x0,x15,x16,x17,x18,x19,x20⟩:=HC.o w brf;clear h hz e6 e7 e9;refine aF4 func91 rfl ?_;simp only [ntmps91,List.size_toArray,List.length_cons,List.length_nil,Nat.reduceAdd,Nat.reduceSub,Array.replicate_succ,Array.replicate_zero,List.push_toArray,List.append_toArray,List.nil_append,List.cons_append];go_wp2_with fail
 go_region_held3 (fun w'=>w'.cell? (qR G 0)=some (qS M.ma M.mn M.mc)/\w'.cell? (qR G 15)=some (qS Y.a0 Y.xs.length Y.c0)/\w'.cell? (qR G 16)=some (qI Y.L.stack)/\w'.cell? (qR G 17)=some (qS Y.a2 Y.L.slots.length Y.c2)/\w'.cell? (qR G 18)=some (qI Y.L.flash)/\w'.cell? (qR G 19)=some (qI Y.L.ram)/\w'.cell? (qR G 20)=some (qS Y.a5 Y.ts.length Y.c5)) (go_keep)
  (first
    | (go_at_call 162;refine (HPI.o _ (by first|exact brf|exact brf.drew|exact hbs)).mono ?_
       rintro e w2 ⟨rfl,hbp⟩
       obtain ⟨p0,p15,p16,p17,p18,p19,p20⟩:=HC.o w2 hbp)
    | (go_at_call 131;refine (HSL.o _ (by first|exact brf|exact brf.drew|exact hbp)).mono ?_
       rintro e w3 ⟨rfl,hbs⟩
       obtain ⟨s0,s15,s16,s17,s18,s19,s20⟩:=HC.o w3 hbs)
    | (go_at_call 161;first
        | with_reducible refine (HPO.o _ hbs).mono ?_
        | with_reducible refine (HPO.o _ hbp).mono ?_
       rintro e w4 ⟨A,k,c,q,rfl,hb4,⟨m0,m15,m16,m17,m18,m19,m20⟩,⟨y23,yf⟩,hE⟩;obtain ⟨q0,q15,q16,q17,q18,q19,q20⟩:=HC.o w4 hb4;have HE:=zh hE
       clear hE))
 all_goals
  go_wp2
  go_end0
  exact HE.o
theorem aHn (w1:qw)(G g:Nat)(Y:Lyb)(C:Cn)(M:Mn)(v13:Value)(p v:Int)(w:qw)(h:Mg w1 w G Y C M v13 (qS (qP g) 1 1))(hr:Blk w g #[qI 65536,qI 14,qI 0,.bool false,.bool true,.bool false] 214)(hm:mok C.fz.length C.rz.length C.oz.length=true)(h0:65536<=p)(h1:p+4<=65536+C.rz.length)(ha:p%4=0)(hv:wfi v):
 qC 203 #[.pointer (qP G),qI p,qI v] w fun e w'=>e=.returned (.tuple #[])/\∃ oa on oc,Mg w1 w' G Y { C with rz:=put C.rz (p-65536).toNat v 4 } { M with rz:=put C.rz (p-65536).toNat v 4,oa:=oa,on:=on,oc:=oc,oz:=C.oz } v13 (qS (qP g) 1 1)/\TGx w w':=by
 have hm':=hm;unfold mok at hm';simp at hm';have HAL:=zh (aBk (qP g) 1 1 [rgR] p 4 2 w (aQe hr) (by unfold wfi;omega));rw [aMu p h0 (by omega)] at HAL
 have HWI:=zh (fun (X:qw) (hX:qY w X)=>show qC 223 #[.pointer (some (qR G 7)),qI p,qI 4,qI v] X (fun e w'=>∃ r,e=.returned (qI r)/\∃ oa on oc,Mg w1 w' G Y { C with rz:=put C.rz (p-65536).toNat v 4 } { M with rz:=put C.rz (p-65536).toNat v 4,oa:=oa,on:=on,oc:=oc,oz:=C.oz } v13 (qS (qP g) 1 1)/\TGx w w') from by
  have hx:=h.bw hX;obtain ⟨base,mid,Ls,β,m,m1,m2⟩:=hx.m;have l1:=eG m.q.1;have l2:=eG m.q.2.1;have l3:=eG m.q.2.2.1
  have hW:=zN M.fa M.ra M.oa M.fn M.fc M.rn M.rc M.on M.oc G 7 mid (p-65536).toNat _ 110 C.fz C.rz C.oz p v X hx.k rfl rfl rfl m.q (fun u hu e=>by
   rcases hu with rfl|rfl|rfl
   .exact aT hx.k m.q.1.1 (by decide) G e rfl
   .exact aT hx.k m.q.2.1.1 (by decide) G e rfl
   .exact aT hx.k m.q.2.2.1.1 (by decide) G e rfl) (by have:=hx.k.lt;omega) hv (by omega) (by omega) (by omega) (by rw [l1,l2,l3];exact hm) ha
  refine hW.mono fun e w' he=>?_;obtain ⟨oa,on,oc,e1,k1,q1,_,T⟩:=he
  have hS:∀ j,(j=G\/(qS M.ra M.rn M.rc).ownBlock=some j\/(qS M.oa M.on M.oc).ownBlock=some j)->mid<=j/\∃ cs ty,Blk X j cs ty/\(ty=5\/ty=110\/ty=43):=fun j hj=>by
   rcases hj with rfl|hj|hj
   .exact ⟨m2,_,_,hx.k,.inr (.inl rfl)⟩
   .obtain ⟨cs,kb⟩:=aD m.q.2.1.1 hj;exact ⟨(m.q.2.1.lt j hj).1,cs,_,kb,.inl rfl⟩
   .obtain ⟨cs,kb⟩:=aD m.q.2.2.1.1 hj;exact ⟨(m.q.2.2.1.lt j hj).1,cs,_,kb,.inl rfl⟩
  refine ⟨_,e1,oa,on,oc,⟨aG hx.b T (fun j hj=>by have:=(hS j hj).1;have:=m.bm;omega) hx.b.size,h.g,k1,⟨base,mid,Ls,β,m.mem T hS q1,m1,m2⟩,h.l⟩,(bD hX).trans (dT T (fun j hj=>by
   obtain ⟨_,cs,ty,kb,q⟩:=hS j hj
   exact ⟨cs,ty,kb,by rcases q with q|q|q;exact .inl q;exact .inr (.inl q);exact absurd q (by
    rintro rfl;rcases hj with rfl|hj|hj
    .have:=aH hx.k kb;revert this;decide
    .obtain ⟨c2,k2⟩:=aD m.q.2.1.1 hj;have:=aH k2 kb;revert this;decide
    .obtain ⟨c2,k2⟩:=aD m.q.2.2.1.1 hj;have:=aH k2 kb;revert this;decide)⟩))⟩)
 have x23:=h.k.cell 23;clear h hr hm hm';go_enter func203,ntmps203
 go_wp2_with fail
 refine HAL.o.mono ?_;rintro e w2 ⟨rfl,hb2⟩;have HB:=zh hb2;clear hb2 HAL;go_wp2_with fail
 refine (HWI.o w2 HB.o).mono ?_;rintro e w3 ⟨r,rfl,hE⟩;have HE:=zh hE;clear hE HWI;go_wp2
 go_end0
 exact ⟨rfl,HE.o⟩
theorem aLp (w1:qw)(G g:Nat)(Y:Lyb)(C:Cn)(M:Mn)(v13:Value)(s:Nat)(ba:qO)(bn bc:Nat)(ws:qi)(w:qw)(h:Mg w1 w G Y C M v13 (qS (qP g) 1 1))(hr:Blk w g #[qI 65536,qI 14,qI 0,.bool false,.bool true,.bool false] 214)(hm:mok C.fz.length C.rz.length C.oz.length=true)(hc:1<=C.cw/\C.cw<=64)(hs:s<Y.L.slots.length)(h0:65536<=Y.L.slots.getD s 0)(h1:(Y.L.slots.getD s 0-65536).toNat+slz C.cw<=C.rz.length)(ha:Y.L.slots.getD s 0%4=0)
 (hi:∀ {X:qw} {C':Cn} {M':Mn} {vr':Value},Mg w1 X G Y C' M' v13 vr'->M'.ms=M.ms->C'.ps=C.ps->IS X ba bn bc ws):
 qC 178 #[.pointer (qP G),qI s,qS ba bn bc] w fun e w'=>e=.returned (.tuple #[])/\∃ oa on oc,Mg w1 w' G Y { C with rz:=bN C.rz (Y.L.slots.getD s 0-65536).toNat ws (slz C.cw/4) } { M with rz:=bN C.rz (Y.L.slots.getD s 0-65536).toNat ws (slz C.cw/4),oa:=oa,on:=on,oc:=oc,oz:=C.oz } v13 (qS (qP g) 1 1)/\TGx w w':=by
 have hm':=hm;unfold mok at hm';simp at hm';obtain ⟨z1,z2,z3⟩:=fK hc.1 hc.2;have hz4:4*(slz C.cw/4)=slz C.cw:=by unfold rnd at z1;omega
 obtain ⟨N,hN⟩:=eqx (slz C.cw/4);obtain ⟨f,hf⟩:=eqx ((Y.L.slots.getD s 0-65536).toNat);obtain ⟨A,hA⟩:=eqx (Y.L.slots.getD s 0);rw [<- hA] at hf ha h0;rw [<- hN,<- hA,<- hf];rw [<- hA,<- hf] at h1;obtain ⟨gs,os,ea,hcs⟩:=h.ly.s.2.2.2.1 (by omega);have hsx:=h.ly.s.2.1;unfold maxLen at hsx
 have HSS:=zh (fun (X:qw) (hX:qY w1 X)=>show X.cell? (qR gs (os+s))=some (qI A) from by
  obtain ⟨gs',os',ea',hc'⟩:=(h.l.bw hX).s.2.2.2.1 (by omega);rw [ea] at ea';cases ea'
  rw [hA]
  exact hc' s (by omega))
 have e2:=h.vs.1.2.1;have HSZ:=zh (fun (X:qw)=>jC M.cs M.cw M.ck M.cd X (by rw [e2];exact hc.1) (by rw [e2];exact hc.2));rw [e2] at HSZ
 have HWR:=zh (fun (k:Nat) (X:qw) (oa:qO) (on oc:Nat) (hk:k<N) (hX:Mg w1 X G Y { C with rz:=bN C.rz f ws k } { M with rz:=bN C.rz f ws k,oa:=oa,on:=on,oc:=oc,oz:=C.oz } v13 (qS (qP g) 1 1)) (hrx:Blk X g #[qI 65536,qI 14,qI 0,.bool false,.bool true,.bool false] 214)=>show qC 203 #[.pointer (qP G),qI (A+4*k),qI (ws.getD k 0)] X (fun e w'=>e=.returned (.tuple #[])/\∃ oa on oc,Mg w1 w' G Y { C with rz:=bN C.rz f ws (k+1) } { M with rz:=bN C.rz f ws (k+1),oa:=oa,on:=on,oc:=oc,oz:=C.oz } v13 (qS (qP g) 1 1)/\TGx X w') from by
  have hlz:(bN C.rz f ws k).length=C.rz.length:=fB _ _ _ _
  have hw:wfi (ws.getD k 0):=by
   have q:=hi hX rfl rfl;by_cases e:k<ws.length
   .exact q.2.2.1 _ (by simp [xB,e])
   .rw [xB,xO (by omega)];unfold wfi;simp
  have:=aHn w1 G g Y { C with rz:=bN C.rz f ws k } { M with rz:=bN C.rz f ws k,oa:=oa,on:=on,oc:=oc,oz:=C.oz } v13 (A+4*k) (ws.getD k 0) X hX hrx (by show mok _ (bN C.rz f ws k).length _=true;rw [hlz];exact hm) (by omega) (by show _<=65536+((bN C.rz f ws k).length:Int);rw [hlz];omega) (by omega) hw;rw [show (A+4*(k:Int)-65536).toNat=f+4*k by omega] at this
  exact this)
 have HI:=zh (fun (k:Nat) (X:qw) (oa:qO) (on oc:Nat) (hX:Mg w1 X G Y { C with rz:=bN C.rz f ws k } { M with rz:=bN C.rz f ws k,oa:=oa,on:=on,oc:=oc,oz:=C.oz } v13 (qS (qP g) 1 1))=>hi hX rfl rfl);have HZZ:=zh (xA z1 (xA z2 hz4));have hNs:((slz C.cw:Nat):Int).tdiv 4=(N:Nat):=by rw [Int.tdiv_eq_ediv_of_nonneg (by omega)];omega
 have hNb:N<=64:=by omega
 have hA1:A<=100000:=by omega
 have hbnx:=(hi h rfl rfl).2.1;have hbl:=(hi h rfl rfl).1;unfold maxLen at hbnx
 have HS:=zh (show Mg w1 w G Y { C with rz:=bN C.rz f ws 0 } { M with rz:=bN C.rz f ws 0,oa:=M.oa,on:=M.on,oc:=M.oc,oz:=C.oz } v13 (qS (qP g) 1 1) from by
  have e:M.rz=C.rz/\M.oz=C.oz:=by obtain ⟨_,_,_,_,m,_⟩:=h.m;exact ⟨m.vz.2.2.2.1,m.vz.2.2.2.2.1⟩
  have:=h;rw [show M={ M with rz:=C.rz,oa:=M.oa,on:=M.on,oc:=M.oc,oz:=C.oz } by rw [<- e.1,<- e.2]] at this
  exact this)
 have HK:=zh hr;obtain ⟨x1,x2,x3,x4⟩:=show w.cell? ⟨G,1,none⟩=some (qI M.cs)/\w.cell? ⟨G,2,none⟩=some (qI M.cw)/\w.cell? ⟨G,3,none⟩=some (qI M.ck)/\w.cell? ⟨G,4,none⟩=some (qI M.cd) from ⟨h.k.cell 1,h.k.cell 2,h.k.cell 3,h.k.cell 4⟩;rw [e2] at x2;clear h hr hm hm' hi hcs z1 z2 z3 hz4 hN hf hA e2 h1 hc ha;generalize slz C.cw=Z at *;go_enter func178,ntmps178
 go_wp2_with fail
 refine (HSZ.o w).mono ?_;rintro e wa ⟨rfl,hba⟩;have HSa:=zh (HS.o.bw hba);have HKa:=zh (bD hba);clear x1 x2 x3 x4 hba HS HSZ;go_wp2_with fail
 go_loopw [15] (fun i wr=>∃ (k:Nat) (oa:qO) (on oc:Nat),k<=N/\i=qI k/\Mg w1 wr G Y { C with rz:=bN C.rz f ws k } { M with rz:=bN C.rz f ws k,oa:=oa,on:=on,oc:=oc,oz:=C.oz } v13 (qS (qP g) 1 1)/\TGx w wr) (qf N)
 .exact ⟨0,_,_,_,xC _,rfl,HSa.o,HKa.o⟩
 .obtain ⟨k,oa,on,oc,hk,rfl,hg,hr⟩:=hrel;clear HSa HKa;by_cases hlt:k<N
  .have hlt':(k:Int)<(N:Int):=by omega
   have x17:wr.cell? (qR G 17)=some (qS Y.a2 Y.L.slots.length Y.c2):=hg.k.cell 17;rw [ea] at x17;have xs:=HSS.o wr hg.b;have HC:=zh (HWR.o k wr oa on oc hlt hg (hr.blk HK.o (by unfold gkd;decide)));have HTR:=zh hr;have hss:(s:Int)<(Y.L.slots.length:Int):=by omega
   have hs0:(0:Int)<=(s:Int):=by omega
   by_cases c1:k<bn
   .have c1':(k:Int)<(bn:Int):=by omega
    obtain ⟨gb,ob,eb,hcb⟩:=(HI.o k wr oa on oc hg).2.2.2.1 (by omega);have xb:=hcb k c1;generalize ws.getD k 0=z at *;subst eb;clear hg hr hcb;go_wp2_with fail
    refine HC.o.mono ?_;rintro e wb ⟨rfl,oa',on',oc',hg',hr'⟩;have HE:=zh (xA hg' (HTR.o.trans hr'));clear hg' hr' x17 xs xb HC;go_wp2
    go_roundw
    .exact ⟨k+1,oa',on',oc',by omega,by go_num,HE.o⟩
    .simp [qf,intOf];omega
   .have c1':¬ (k:Int)<(bn:Int):=by omega
    have ez:ws.getD k 0=0:=by rw [xB,xO (by omega)];rfl
    rw [ez] at HC;clear hg hr ez;go_wp2_with fail
    refine HC.o.mono ?_;rintro e wb ⟨rfl,oa',on',oc',hg',hr'⟩;have HE:=zh (xA hg' (HTR.o.trans hr'));clear hg' hr' x17 xs HC;go_wp2
    go_roundw
    .exact ⟨k+1,oa',on',oc',by omega,by go_num,HE.o⟩
    .simp [qf,intOf];omega
  .obtain rfl:k=N:=by omega
   have HE:=zh (xA hg hr);clear hg hr;go_wp2
   go_end0
   exact ⟨rfl,oa,on,oc,HE.o⟩
theorem mY (a:qO)(n cap:Nat)(ys:qi)(w:qw)(h:Srd clI w a n cap ys)(hn:n<=1048576):
 qC 163 #[qS a n cap] w fun e w'=>∃ a' c',e=.returned (qS a' n c')/\OG 3 1 clI w' w.heap.size (qS a' n c') ys/\qY w w':=by
 obtain ⟨i0,hi,hz0,hz1,hz2⟩:=info_parts jV;have hnil:=fun (w:qw)=>Lib.run_eql_slice_nil (P:=prog) w 25 3 a n cap 0 0 underlying25;cases a with
 | none=>
   obtain ⟨hl,⟨_,rfl,rfl⟩|⟨g,off,e,_⟩⟩:=h
   .obtain rfl:ys=[]:=xE hl;go_enter func163,ntmps163
    go_wp2;go_ret;exact ⟨none,0,rfl,fL _ _ _ _ _,brf⟩
   .cases e
 | some ad=>
   have hl:=h.1;have hsrc:=zh (h.bw ((Below.refl w.heap.size w).alloc aN (.cells #[] 3)));have hown:=zh (bK 3 1 clI w w.heap.size aN);have hb:=zh ((Below.refl w.heap.size w).alloc aN (.cells #[] 3));clear h;go_enter func163,ntmps163
   go_wp2_with (at_builtin;refine bH rfl _ _ 25 rfl w.heap.size 3 i0 (qI 0) 1 8 underlying25 hi hz0 hz1 hz2 rfl (by decide) _ [] rfl hown.o (some ad) n cap ys rfl hsrc.o (fun _=>rfl) (fun y u hu=>by simp [clI] at hu;subst hu;rfl) (by unfold maxLen;simp;omega) (by simp;omega) (by simp) ?_;intro v' w1 hown1 hgr1)
   rw [List.nil_append] at hown1;obtain ⟨a',c',rfl⟩:=aR hown1;have HF:=zh (xA hown1 (aG hb.o (S:=fun k=>k=w.heap.size) ⟨hgr1.os,hgr1.tape,hgr1.output,hgr1.size,fun k hk hs=>hgr1.block k hk (fun e=>hs (by cases e;rfl))⟩ (fun k hk=>by omega) (by simp)));rw [hl] at HF ⊢;clear hown1 hgr1;go_ret;exact ⟨a',c',rfl,HF.o.1,HF.o.2⟩
theorem aFz (a:qO)(n cap:Nat)(ys:List ByteArray)(w:qw)(h:Srd clT w a n cap ys)(hn:n<=1048576):
 qC 165 #[qS a n cap] w fun e w'=>∃ a' c',e=.returned (qS a' n c')/\OG 9 1 clT w' w.heap.size (qS a' n c') ys/\qY w w':=by
 obtain ⟨i0,hi,hz0,hz1,hz2⟩:=info_parts aLc;have hnil:=fun (w:qw)=>Lib.run_eql_slice_nil (P:=prog) w 115 9 a n cap 0 0 underlying115;cases a with
 | none=>
   obtain ⟨hl,⟨_,rfl,rfl⟩|⟨g,off,e,_⟩⟩:=h
   .obtain rfl:ys=[]:=xE hl;go_enter func165,ntmps165
    go_wp2;go_ret;exact ⟨none,0,rfl,fL _ _ _ _ _,brf⟩
   .cases e
 | some ad=>
   have hl:=h.1;have hsrc:=zh (h.bw ((Below.refl w.heap.size w).alloc aN (.cells #[] 9)));have hown:=zh (bK 9 1 clT w w.heap.size aN);have hb:=zh ((Below.refl w.heap.size w).alloc aN (.cells #[] 9));clear h;go_enter func165,ntmps165
   go_wp2_with (at_builtin;refine bH rfl _ _ 115 rfl w.heap.size 9 i0 (.string ⟨#[]⟩) 1 16 underlying115 hi hz0 hz1 hz2 rfl (by decide) _ [] rfl hown.o (some ad) n cap ys rfl hsrc.o (fun _=>rfl) (fun y u hu=>by simp [clT] at hu;subst hu;rfl) (by unfold maxLen;simp;omega) (by simp;omega) (by simp) ?_;intro v' w1 hown1 hgr1)
   rw [List.nil_append] at hown1;obtain ⟨a',c',rfl⟩:=aR hown1;have HF:=zh (xA hown1 (aG hb.o (S:=fun k=>k=w.heap.size) ⟨hgr1.os,hgr1.tape,hgr1.output,hgr1.size,fun k hk hs=>hgr1.block k hk (fun e=>hs (by cases e;rfl))⟩ (fun k hk=>by omega) (by simp)));rw [hl] at HF ⊢;clear hown1 hgr1;go_ret;exact ⟨a',c',rfl,HF.o.1,HF.o.2⟩
theorem aFy (a:qO)(n cap:Nat)(ys:List Ex)(w:qw)(h:Srd clX w a n cap ys)(hn:n<=1048576):
 qC 166 #[qS a n cap] w fun e w'=>∃ a' c',e=.returned (qS a' n c')/\OG 163 3 clX w' w.heap.size (qS a' n c') ys/\qY w w':=by
 obtain ⟨i0,hi,hz0,hz1,hz2⟩:=info_parts aLa;have hnil:=fun (w:qw)=>Lib.run_eql_slice_nil (P:=prog) w 136 163 a n cap 0 0 underlying136;cases a with
 | none=>
   obtain ⟨hl,⟨_,rfl,rfl⟩|⟨g,off,e,_⟩⟩:=h
   .obtain rfl:ys=[]:=xE hl;go_enter func166,ntmps166
    go_wp2;go_ret;exact ⟨none,0,rfl,fL _ _ _ _ _,brf⟩
   .cases e
 | some ad=>
   have hl:=h.1;have hsrc:=zh (h.bw ((Below.refl w.heap.size w).alloc aN (.cells #[] 163)));have hown:=zh (bK 163 3 clX w w.heap.size aN);have hb:=zh ((Below.refl w.heap.size w).alloc aN (.cells #[] 163));clear h;go_enter func166,ntmps166
   go_wp2_with (at_builtin;refine bH rfl _ _ 136 rfl w.heap.size 163 i0 _ 3 32 underlying136 hi hz0 hz1 hz2 rfl (by decide) _ [] rfl hown.o (some ad) n cap ys rfl hsrc.o (fun _=>rfl) (fun y u hu=>by simp [clX] at hu;rcases hu with rfl|rfl|rfl<;>rfl) (by unfold maxLen;simp;omega) (by simp;omega) (by simp) ?_;intro v' w1 hown1 hgr1)
   rw [List.nil_append] at hown1;obtain ⟨a',c',rfl⟩:=aR hown1;have HF:=zh (xA hown1 (aG hb.o (S:=fun k=>k=w.heap.size) ⟨hgr1.os,hgr1.tape,hgr1.output,hgr1.size,fun k hk hs=>hgr1.block k hk (fun e=>hs (by cases e;rfl))⟩ (fun k hk=>by omega) (by simp)));rw [hl] at HF ⊢;clear hown1 hgr1;go_ret;exact ⟨a',c',rfl,HF.o.1,HF.o.2⟩
theorem aF0 (a:qO)(n cap:Nat)(ys:List SlT)(w:qw)(h:Srd bY w a n cap ys)(hn:n<=1048576):
 qC 97 #[qS a n cap] w fun e w'=>∃ a' c',e=.returned (qS a' n c')/\OG 142 4 bY w' w.heap.size (qS a' n c') ys/\qY w w':=by
 obtain ⟨i0,hi,hz0,hz1,hz2⟩:=info_parts aFi;have hnil:=fun (w:qw)=>Lib.run_eql_slice_nil (P:=prog) w 40 142 a n cap 0 0 underlying40;cases a with
 | none=>
   obtain ⟨hl,⟨_,rfl,rfl⟩|⟨g,off,e,_⟩⟩:=h
   .obtain rfl:ys=[]:=xE hl;go_enter func97,ntmps97
    go_wp2;go_ret;exact ⟨none,0,rfl,fL _ _ _ _ _,brf⟩
   .cases e
 | some ad=>
   have hl:=h.1;have hsrc:=zh (h.bw ((Below.refl w.heap.size w).alloc aN (.cells #[] 142)));have hown:=zh (bK 142 4 bY w w.heap.size aN);have hb:=zh ((Below.refl w.heap.size w).alloc aN (.cells #[] 142));clear h;go_enter func97,ntmps97
   go_wp2_with (at_builtin;refine bH rfl _ _ 40 rfl w.heap.size 142 i0 _ 4 32 underlying40 hi hz0 hz1 hz2 rfl (by decide) _ [] rfl hown.o (some ad) n cap ys rfl hsrc.o (fun _=>rfl) (fun y u hu=>by simp [bY] at hu;rcases hu with rfl|rfl|rfl|rfl<;>rfl) (by unfold maxLen;simp;omega) (by simp;omega) (by simp) ?_;intro v' w1 hown1 hgr1)
   rw [List.nil_append] at hown1;obtain ⟨a',c',rfl⟩:=aR hown1;have HF:=zh (xA hown1 (aG hb.o (S:=fun k=>k=w.heap.size) ⟨hgr1.os,hgr1.tape,hgr1.output,hgr1.size,fun k hk hs=>hgr1.block k hk (fun e=>hs (by cases e;rfl))⟩ (fun k hk=>by omega) (by simp)));rw [hl] at HF ⊢;clear hown1 hgr1;go_ret;exact ⟨a',c',rfl,HF.o.1,HF.o.2⟩
theorem aF1 (a:qO)(n cap:Nat)(ys:List FrT)(w:qw)(h:Srd bC w a n cap ys)(hn:n<=1048576):
 qC 98 #[qS a n cap] w fun e w'=>∃ a' c',e=.returned (qS a' n c')/\OG 135 4 bC w' w.heap.size (qS a' n c') ys/\qY w w':=by
 obtain ⟨i0,hi,hz0,hz1,hz2⟩:=info_parts uB;have hnil:=fun (w:qw)=>Lib.run_eql_slice_nil (P:=prog) w 41 135 a n cap 0 0 underlying41;cases a with
 | none=>
   obtain ⟨hl,⟨_,rfl,rfl⟩|⟨g,off,e,_⟩⟩:=h
   .obtain rfl:ys=[]:=xE hl;go_enter func98,ntmps98
    go_wp2;go_ret;exact ⟨none,0,rfl,fL _ _ _ _ _,brf⟩
   .cases e
 | some ad=>
   have hl:=h.1;have hsrc:=zh (h.bw ((Below.refl w.heap.size w).alloc aN (.cells #[] 135)));have hown:=zh (bK 135 4 bC w w.heap.size aN);have hb:=zh ((Below.refl w.heap.size w).alloc aN (.cells #[] 135));clear h;go_enter func98,ntmps98
   go_wp2_with (at_builtin;refine bH rfl _ _ 41 rfl w.heap.size 135 i0 _ 4 32 underlying41 hi hz0 hz1 hz2 rfl (by decide) _ [] rfl hown.o (some ad) n cap ys rfl hsrc.o (fun _=>rfl) (fun y u hu=>by simp [bC] at hu;rcases hu with rfl|rfl|rfl|rfl<;>rfl) (by unfold maxLen;simp;omega) (by simp;omega) (by simp) ?_;intro v' w1 hown1 hgr1)
   rw [List.nil_append] at hown1;obtain ⟨a',c',rfl⟩:=aR hown1;have HF:=zh (xA hown1 (aG hb.o (S:=fun k=>k=w.heap.size) ⟨hgr1.os,hgr1.tape,hgr1.output,hgr1.size,fun k hk hs=>hgr1.block k hk (fun e=>hs (by cases e;rfl))⟩ (fun k hk=>by omega) (by simp)));rw [hl] at HF ⊢;clear hown1 hgr1;go_ret;exact ⟨a',c',rfl,HF.o.1,HF.o.2⟩
theorem aF2 (a:qO)(n cap:Nat)(ys:qi)(w:qw)(h:Srd (fun z=>[Value.int .u8 z]) w a n cap ys)(hn:n<=1048576):
 qC 164 #[qS a n cap] w fun e w'=>∃ a' c',e=.returned (qS a' n c')/\OG 5 1 (fun z=>[Value.int .u8 z]) w' w.heap.size (qS a' n c') ys/\qY w w':=by
 obtain ⟨i0,hi,hz0,hz1,hz2⟩:=info_parts zC;have hnil:=fun (w:qw)=>Lib.run_eql_slice_nil (P:=prog) w 28 5 a n cap 0 0 underlying28;cases a with
 | none=>
   obtain ⟨hl,⟨_,rfl,rfl⟩|⟨g,off,e,_⟩⟩:=h
   .obtain rfl:ys=[]:=xE hl;go_enter func164,ntmps164
    go_wp2;go_ret;exact ⟨none,0,rfl,fL _ _ _ _ _,brf⟩
   .cases e
 | some ad=>
   have hl:=h.1;have hsrc:=zh (h.bw ((Below.refl w.heap.size w).alloc aN (.cells #[] 5)));have hown:=zh (bK 5 1 (fun z=>[Value.int .u8 z]) w w.heap.size aN);have hb:=zh ((Below.refl w.heap.size w).alloc aN (.cells #[] 5));clear h;go_enter func164,ntmps164
   go_wp2_with (at_builtin;refine bH rfl _ _ 28 rfl w.heap.size 5 i0 (.int .u8 0) 1 1 underlying28 hi hz0 hz1 hz2 rfl (by decide) _ [] rfl hown.o (some ad) n cap ys rfl hsrc.o (fun _=>rfl) (fun y u hu=>by simp at hu;subst hu;rfl) (by unfold maxLen;simp;omega) (by simp;omega) (by simp) ?_;intro v' w1 hown1 hgr1)
   rw [List.nil_append] at hown1;obtain ⟨a',c',rfl⟩:=aR hown1;have HF:=zh (xA hown1 (aG hb.o (S:=fun k=>k=w.heap.size) ⟨hgr1.os,hgr1.tape,hgr1.output,hgr1.size,fun k hk hs=>hgr1.block k hk (fun e=>hs (by cases e;rfl))⟩ (fun k hk=>by omega) (by simp)));rw [hl] at HF ⊢;clear hown1 hgr1;go_ret;exact ⟨a',c',rfl,HF.o.1,HF.o.2⟩
