import Derived.Test.YtcimaholejajpaaGreatF14
import Derived.Test.YtcimaholejajpaaGreatF25
set_option linter.all false
set_option maxHeartbeats 4000000
namespace Go.Proofs.YtcimaholejajpaaGreat
open Go.RowKit
set_option maxRecDepth 100000
variable {A:qO}{R:List Rg}{c k:Nat}
def aC1 (w:qw)(R:List Rg)(e:Ending)(w':qw):Prop:=
 ∃ A k c,e=.returned (.tuple #[qS A k c,.bool (decide (R.length<=8))])/\ORg w' w.heap.size (qS A k c) (if R.length<=8 then R else [])/\qY w w'
theorem aNj {w V X:qw}(hV:qY w V)(h:k=R.length/\ORg X V.heap.size (qS A k c) R/\qY V X)(h8:k<=8):aC1 w R (.returned (.tuple #[qS A k c,.bool true])) X:=by
 have e:R.length<=8:=by omega
 refine ⟨A,k,c,by rw [xR e],by rw [if_pos e];exact rA h.2.1 hV.size,hV.trans (h.2.2.mono hV.size)⟩
theorem aNk {w V X:qw}(hV:qY w V)(h:k=R.length/\ORg X V.heap.size (qS A k c) R/\qY V X)(h8:¬ k<=8):aC1 w R (.returned (.tuple #[qS none 0 0,.bool false])) X:=by
 have e:¬ R.length<=8:=by omega
 refine ⟨none,0,0,by rw [xS e],by rw [if_neg e];exact oY _ _,hV.trans (h.2.2.mono hV.size)⟩
theorem aB3 (a:qO)(n cap:Nat)(ms:List Md)(L:Lay)(a0:qO)(c0:Nat)(xs:List PB)(a2:qO)(c2:Nat)(a5:qO)(c5:Nat)(ts:List TB)(m b at' s:Int)(w:qw)(h:MSD w a n cap ms)(hL:LyT w L a0 c0 xs a2 c2 a5 c5 ts)
 (hk:Lok (aF ms) L) (hp:0<=pcq (aF ms) m b) (hs:s=-1\/(b≠-1/\0<=s/\s<(L.slots.length:Int))):
 qC 57 #[qS a n cap,.agg (qJ L a0 xs c0 a2 c2 a5 ts c5),.agg (qT m b at'),qI s] w (aC1 w (plR (aF ms) L m b s)):=by
 have K:=aB4 (s:=s) hL hk hp;have hn:=h.s.1;have hlen:=bQ ms;obtain ⟨m0,m1,m2,hpl,hbb,hw,hd,hst,hen⟩:=K;have hwfo:wfi (fW L (xs.getD m.toNat zPB) b s):=aAh hL hk hp hs;have HPQ:=zh (iH h m b);obtain ⟨W,hW⟩:=eqx ((w.alloc (.cells (qJ L a0 xs c0 a2 c2 a5 ts c5) 64)).alloc (.cells (qT m b at') 106));have hB:qY w W:=by rw [hW];exact bal.alloc (by simp) _
 have k0:Blk W w.heap.size (qJ L a0 xs c0 a2 c2 a5 ts c5) 64:=by rw [hW];exact (Blk.new w _ _).alloc _
 have k1:Blk W (w.heap.size+1) (qT m b at') 106:=by rw [hW];have:=Blk.new (w.alloc (.cells (qJ L a0 xs c0 a2 c2 a5 ts c5) 64)) (qT m b at') 106;simpa using this
 have h1:=h.bw hB;have hL1:=hL.bw hB;obtain ⟨gp,op,rfl,q0,q1,q2,q3⟩:=hL1.p.at m.toNat (by omega);unfold svP at q1;have hpx:=hL1.p.2.1;unfold maxLen at hpx;have d0:=k0.e0;have t0:=k1.e0;obtain ⟨P,hP⟩:=eqx (xs.getD m.toNat zPB);rw [<- hP] at q0 q1 q2 q3 hpl hbb hwfo;rw [<- hpl] at hd;obtain ⟨⟨tx,bk,dt,sz⟩,pa,pc⟩:=P;dsimp only at q0 q1 q2 q3 hpl hbb hd;have HP:=zh hP;obtain ⟨hd1,hd2,hd3,hd4⟩:=hd;obtain ⟨st1,st2⟩:=hst;obtain ⟨en1,en2⟩:=hen;obtain ⟨q,hq⟩:=eqx (pcq (aF ms) m b);have HQ:=zh hq
 have HRS:=zh (show plR (aF ms) L m b s=(([]++rts true true false (cvL dt sz))++rts true true false (cvL L.stack (cV L-L.stack))++rts false true false (cvL 131072 32))++rts false false true (cvL (fW L ((⟨tx,bk,dt,sz⟩,pa,pc):PB) b s) (rnd (4*q))) from by
  unfold plR;rw [<- hpl,hq]
  rfl)
 rw [HRS.o];rw [<- hq] at hw hp;clear HRS;obtain ⟨V,hV,bV,kV⟩:=nwb W #[qI tx,qS pa bk.length pc,qI dt,qI sz] 136;have k0':=k0.bw bV;have k1':=k1.bw bV;have HBV:=zh (hB.trans (bV.mono hB.size));have h2:=h1.bw bV;have hL2:=hL1.bw bV;have HW:=zh hW;have HV:=zh hV;have HM:=zh h2;have HL2:=zh hL2;have HK0:=zh (xA k0' (xA k1' kV));clear hW hV k0 k1 h h1 hL hL1 hB bV k0' k1' kV hP hpl hq;go_enter Tryz.func57,Tryz.ntmps57
 go_wp2_with (first|rw [<- HW.o]|rw [<- HV.o])
 obtain ⟨gm,om,rfl,v0,v1,v2,v3,v4,v5,v6,v7⟩:=HM.o.s.at m.toNat (by omega);have hmt:=HM.o.s.2.2.2.1 m.toNat (by omega)
 have hqn:pcn (ms.getD m.toNat zMd).tn (ms.getD m.toNat zMd).bn (ms.getD m.toNat zMd).bl b=q:=by
  rw [HQ.o,<- HPQ.o];unfold pcm;rw [if_pos (by omega)]
 generalize ms.getD m.toNat zMd=M at *
 have HPC:=zh (show ∀ X,qY V X->qC 99 #[.agg (qM M.nm M.ta M.tn M.tc M.ba M.bn M.bc M.da M.dn M.dc M.bss M.ra M.rn M.rc M.ia M.im M.ic M.ea M.en M.ec),qI b] X (fun e w'=>∃ xa xn xc,e=.returned (.tuple #[qS xa xn xc,.bool true])/\(xn:Int)=q/\qY V w') from fun X hX=>
  (gC M.nm M.ta M.tn M.tc M.ba M.bn M.bc M.bl (qS M.da M.dn M.dc) (qS M.ra M.rn M.rc) (qS M.ia M.im M.ic) (qS M.ea M.en M.ec) M.bss b X hmt.t.2.1 (hmt.b.bw hX)).mono fun e w' ⟨xa,xn,xc,ok,he,ho,hx,_,hb⟩=>by
    have ho':ok=true:=by rw [ho,hqn];simp;omega
    exact ⟨xa,xn,xc,by rw [he,ho'],by rw [hx ho',hqn],hX.trans (hb.mono hX.size)⟩)
 obtain ⟨x0,x1,x2,x3,x4,x5⟩:=HK0.o.1.ly6;have y0:=HK0.o.2.1.e0;have y1:=HK0.o.2.1.e1;have hmx:=HM.o.s.2.1;unfold maxLen at hmx;have hmn:m<(n:Int):=by omega
 clear q0 q1 q2 q3 d0 t0 hmt hqn hlen hn
 go_region_held3 (fun w'=>w'.cell? (qR (w.heap.size+1) 0)=some (qI m)/\w'.cell? (qR (w.heap.size+1) 1)=some (qI b)/\w'.cell? (qR gm (om+m.toNat*8))=some (.string M.nm)/\w'.cell? (qR gm (om+m.toNat*8+1))=some (qS M.ta M.tn M.tc)/\w'.cell? (qR gm (om+m.toNat*8+2))=some (qS M.ba M.bn M.bc)/\w'.cell? (qR gm (om+m.toNat*8+3))=some (qS M.da M.dn M.dc)/\w'.cell? (qR gm (om+m.toNat*8+4))=some (qI M.bss)/\w'.cell? (qR gm (om+m.toNat*8+5))=some (qS M.ra M.rn M.rc)/\w'.cell? (qR gm (om+m.toNat*8+6))=some (qS M.ia M.im M.ic)/\w'.cell? (qR gm (om+m.toNat*8+7))=some (qS M.ea M.en M.ec)) (go_keep)
  (first
    | (go_at_call 99;first
        | with_reducible refine (HPC.o _ brf).mono ?_
        | with_reducible refine (HPC.o _ brf.drew).mono ?_
       rintro e w1 ⟨xa,xn,xc,rfl,hxn,hb1⟩;have HB1:=zh hb1;have HXN:=zh hxn;have C1:=(HK0.o.2.1.bw hb1).cell 0;have C2:=(HK0.o.2.1.bw hb1).cell 1;have u0:=aE hb1 v0;have u1:=aE hb1 v1;have u2:=aE hb1 v2;have u3:=aE hb1 v3;have u4:=aE hb1 v4;have u5:=aE hb1 v5;have u6:=aE hb1 v6;have u7:=aE hb1 v7
       clear hb1 hxn))
 have HKX:=zh (show ∀ X,qY V X->X.cell? (qR W.heap.size 2)=some (qI dt)/\X.cell? (qR W.heap.size 3)=some (qI sz)/\(X.cell? (qR w.heap.size 0)=some (qS (some (qR gp op)) xs.length c0)/\X.cell? (qR w.heap.size 1)=some (qI L.stack)/\X.cell? (qR w.heap.size 2)=some (qS a2 L.slots.length c2)/\X.cell? (qR w.heap.size 3)=some (qI L.flash)/\X.cell? (qR w.heap.size 4)=some (qI L.ram)/\X.cell? (qR w.heap.size 5)=some (qS a5 ts.length c5))/\X.cell? (qR (w.heap.size+1) 0)=some (qI m)/\X.cell? (qR (w.heap.size+1) 1)=some (qI b)/\X.cell? (qR (w.heap.size+1) 2)=some (qI at') from fun X hz=>
  ⟨(HK0.o.2.2.bw hz).cell 2,(HK0.o.2.2.bw hz).cell 3,(HK0.o.1.bw hz).ly6,(HK0.o.2.1.bw hz).cell 0,(HK0.o.2.1.bw hz).cell 1,(HK0.o.2.1.bw hz).cell 2⟩)
 have HSE:Zh (∀ X,qY V X->qC 101 #[.agg (qL L (some (qR gp op)) xs.length c0 a2 L.slots.length c2 a5 ts.length c5)] X (fun e w'=>e=.returned (qI (cV L))/\qY V w')):=fun X hz=>(vR L (some (qR gp op)) c0 xs a2 c2 a5 c5 ts X (HL2.o.bw hz)).mono fun e w' he=>⟨he.1,hz.trans (he.2.mono hz.size)⟩;have HOR:Zh (∀ X,qY V X->qC 102 #[.agg (qL L (some (qR gp op)) xs.length c0 a2 L.slots.length c2 a5 ts.length c5),.agg (qT m b at'),qI s] X (fun e w'=>e=.returned (qI (fW L ((⟨tx,bk,dt,sz⟩,pa,pc):PB) b s))/\qY V w')):=fun X hz=>(wN L (some (qR gp op)) c0 xs a2 c2 a5 c5 ts m b at' s X (HL2.o.bw hz) m0 m1 (by rw [<- HP.o];exact hbb) hs).mono fun e w' he=>⟨by rw [HP.o];exact he.1,hz.trans (he.2.mono hz.size)⟩;have hx2:(xn:Int)<=200:=by rw [HXN.o];exact hw.2
 have HWB:=zh (fun (X:qw)=>kK xa xn xc X (by omega));have hrd:=bA (x:=4*(xn:Int));have HRR:=zh (show rnd (4*q)=rnd (4*(xn:Int)) by rw [HXN.o]);generalize hog:fW L ((⟨tx,bk,dt,sz⟩,pa,pc):PB) b s=og at *;generalize hE:cV L=E at *;generalize rnd (4*(xn:Int))=rr at *;have HOG:=zh hog;have HE:=zh hE;have HWR:Zh (IntKind.i64.wrap (E-L.stack)=E-L.stack):=mS
 have HJ:=zh (show ∀ X,qY V X->qC 100 #[qS (qP X.heap.size) 4 4] (X.alloc (.cells #[qI dt,qI sz,.bool true,.bool true,.bool false,qI L.stack,qI (IntKind.i64.wrap (E-L.stack)),.bool true,.bool true,.bool false,qI 131072,qI 32,.bool false,.bool true,.bool false,qI og,qI rr,.bool false,.bool false,.bool true] 159)) (fun e w'=>∃ A k c,e=.returned (qS A k c)/\k=((([]++rts true true false (cvL dt sz))++rts true true false (cvL L.stack (E-L.stack))++rts false true false (cvL 131072 32))++rts false false true (cvL og rr)).length/\ORg w' V.heap.size (qS A k c) ((([]++rts true true false (cvL dt sz))++rts true true false (cvL L.stack (E-L.stack))++rts false true false (cvL 131072 32))++rts false false true (cvL og rr))/\qY V w') from fun X hX=>by
  have KB:=Blk.new X #[qI dt,qI sz,.bool true,.bool true,.bool false,qI L.stack,qI (IntKind.i64.wrap (E-L.stack)),.bool true,.bool true,.bool false,qI 131072,qI 32,.bool false,.bool true,.bool false,qI og,qI rr,.bool false,.bool false,.bool true] 159;have BX:qY V (X.alloc (.cells #[qI dt,qI sz,.bool true,.bool true,.bool false,qI L.stack,qI (IntKind.i64.wrap (E-L.stack)),.bool true,.bool true,.bool false,qI 131072,qI 32,.bool false,.bool true,.bool false,qI og,qI rr,.bool false,.bool false,.bool true] 159)):=hX.alloc hX.size _;rw [HWR.o] at KB BX ⊢;refine (aCk X.heap.size 0 4 4 [(dt,sz,true,true,false),(L.stack,E-L.stack,true,true,false),(131072,32,false,true,false),(og,rr,false,false,true)] _ rfl aL ?_ ?_).mono ?_
  .intro i hi
   match i with
   | 0=>exact ⟨by unfold wfi;simp;omega,by unfold wfi;simp;omega⟩
   | 1=>exact ⟨by unfold wfi;simp;omega,by unfold wfi;simp;omega⟩
   | 2=>exact ⟨by unfold wfi;simp,by unfold wfi;simp⟩
   | 3=>exact ⟨hwfo,by unfold wfi;simp;omega⟩
  .intro i hi
   match i with
   | 0=>exact ⟨KB.cell 0,KB.cell 1,KB.cell 2,KB.cell 3,KB.cell 4⟩
   | 1=>exact ⟨KB.cell 5,KB.cell 6,KB.cell 7,KB.cell 8,KB.cell 9⟩
   | 2=>exact ⟨KB.cell 10,KB.cell 11,KB.cell 12,KB.cell 13,KB.cell 14⟩
   | 3=>exact ⟨KB.cell 15,KB.cell 16,KB.cell 17,KB.cell 18,KB.cell 19⟩
  .rintro e w' ⟨A,k,c,rfl,hk,ho,hb⟩;have er:([(dt,sz,true,true,false),(L.stack,E-L.stack,true,true,false),(131072,32,false,true,false),(og,rr,false,false,true)]:List Spn).flatMap spR=(([]++rts true true false (cvL dt sz))++rts true true false (cvL L.stack (E-L.stack))++rts false true false (cvL 131072 32))++rts false false true (cvL og rr):=by simp [spR]
   rw [er] at hk ho
   exact ⟨A,k,c,rfl,hk,rA ho BX.size,BX.trans (hb.mono BX.size)⟩)
 clear hog hE u0 u1 u2 u3 u4 u5 u6 u7 C1 C2 v0 v1 v2 v3 v4 v5 v6 v7 x0 x1 x2 x3 x4 x5 y0 y1 HPC hbb hs hk;obtain ⟨z2,z3,⟨z4,z5,z6,z7,z8,z9⟩,z10,z11,z12⟩:=HKX.o _ HB1.o;go_wp2_with fail
 go_region_held3 (fun w'=>w'.cell? (qR W.heap.size 2)=some (qI dt)/\w'.cell? (qR W.heap.size 3)=some (qI sz)/\w'.cell? (qR w.heap.size 0)=some (qS (some (qR gp op)) xs.length c0)/\w'.cell? (qR w.heap.size 1)=some (qI L.stack)/\w'.cell? (qR w.heap.size 2)=some (qS a2 L.slots.length c2)/\w'.cell? (qR w.heap.size 3)=some (qI L.flash)/\w'.cell? (qR w.heap.size 4)=some (qI L.ram)/\w'.cell? (qR w.heap.size 5)=some (qS a5 ts.length c5)/\w'.cell? (qR (w.heap.size+1) 0)=some (qI m)/\w'.cell? (qR (w.heap.size+1) 1)=some (qI b)/\w'.cell? (qR (w.heap.size+1) 2)=some (qI at')) (go_keep)
  (first
    | (go_at_call 101;first
        | with_reducible refine (HSE.o _ HB1.o).mono ?_
        | with_reducible refine (HSE.o _ HB1.o.drew).mono ?_
       rintro e w3 ⟨rfl,hb3⟩;have HB3:=zh hb3;clear hb3
       obtain ⟨z2,z3,⟨z4,z5,z6,z7,z8,z9⟩,z10,z11,z12⟩:=HKX.o _ HB3.o)
    | (go_at_call 102;first
        | with_reducible refine (HOR.o _ HB3.o).mono ?_
        | with_reducible refine (HOR.o _ HB3.o.drew).mono ?_
       rintro e w4 ⟨rfl,hb4⟩;have HB4:=zh hb4;clear hb4
       obtain ⟨z2,z3,⟨z4,z5,z6,z7,z8,z9⟩,z10,z11,z12⟩:=HKX.o _ HB4.o)
    | (go_at_call 94;with_reducible refine (HWB.o _).mono ?_;rintro e w5 ⟨rfl,rfl⟩)
    | (go_at_call 100;first
        | with_reducible refine (HJ.o _ HB4.o).mono ?_
        | with_reducible refine (HJ.o _ HB4.o.drew).mono ?_
       rintro e w6 ⟨A,k,c,rfl,hk6,ho6,hb6⟩;have HB6:=zh (xA hk6 (xA ho6 hb6));clear hk6 ho6 hb6
       obtain ⟨z2,z3,⟨z4,z5,z6,z7,z8,z9⟩,z10,z11,z12⟩:=HKX.o _ HB6.o.2.2))
 have HF:=zh (xA HBV.o HB6.o);clear HB6 HB1 HB3 HB4 z2 z3 z4 z5 z6 z7 z8 z9 z10 z11 z12;rw [List.nil_append] at HF;by_cases h8:k<=8
 .have h8':(k:Int)<=8:=by omega
  have HX:=zh (aNj HF.o.1 HF.o.2 h8);rw [<- HRR.o] at HX;clear HF;go_wp2
  go_ret2
  first
   | exact HX.o
   | (have hx:=HX.o
      simp only [List.append_assoc] at hx
      exact hx)
 .have h8':¬ (k:Int)<=8:=by omega
  have h8'':(8:Int)<(k:Int):=by omega
  have HX:=zh (aNk HF.o.1 HF.o.2 h8);rw [<- HRR.o] at HX;clear HF;go_wp2
  go_ret2
  first
   | exact HX.o
   | (have hx:=HX.o
      simp only [List.append_assoc] at hx
      exact hx)
end Go.Proofs.YtcimaholejajpaaGreat
namespace Go.Proofs.YtcimaholejajpaaGreat
open Go.RowKit Classical
set_option maxRecDepth 100000
variable {L:Lay}{M:Mn}
theorem aC7 (L:Lay)(b s:Int):s∈slF L b ↔ sOk L b s:=by
 unfold slF sOk;by_cases c:b=-1\/L.slots=[]
 .rw [if_pos c,if_pos c];simp
 .rw [if_neg c,if_neg c];simp only [List.mem_map,List.mem_range];constructor
  .rintro ⟨i,hi,rfl⟩;omega
  .intro h;exact ⟨s.toNat,by omega,by omega⟩
theorem aE7 {ps:List PMod}(h:Lok ps L):L.slots.length<=4:=by
 obtain ⟨hc,_⟩:=fC h.1;unfold cfo at hc;simp at hc;omega
theorem vT (L:Lay)(a0:qO)(c0:Nat)(xs:List PB)(a2:qO)(c2:Nat)(a5:qO)(c5:Nat)(ts:List TB)(b:Int)(w:qw)(h:LyT w L a0 c0 xs a2 c2 a5 c5 ts)(hl:L.slots.length<=4):
 qC 56 #[.agg (qJ L a0 xs c0 a2 c2 a5 ts c5),qI b] w fun e w'=>∃ a n c,e=.returned (qS a n c)/\IS w' a n c (slF L b)/\qY w w':=by
 by_cases c:b=-1\/L.slots=[]
 .exact (vS L a0 c0 xs a2 c2 a5 c5 ts b w h c).mono fun e w' ⟨a,c,he,hi,hb⟩=>⟨a,_,c,he,hi,hb⟩
 .refine (tT L a0 c0 xs a2 c2 a5 c5 ts b L.slots.length w (fun e=>c (.inl e)) (fun e=>c (.inr (xE e))) (by omega)).mono ?_;rintro e w' ⟨g,rfl,hr,hb⟩;have e2:slF L b=upN L.slots.length:=by unfold slF upN;rw [if_neg c]
  rw [e2];refine ⟨_,_,_,rfl,⟨jP _,by unfold maxLen;omega,fun z hz=>?_,fun _=>⟨g,0,rfl,fun i hi=>?_⟩,aL⟩,hb⟩
  .simp only [upN,List.mem_map,List.mem_range] at hz;obtain ⟨i,hi,rfl⟩:=hz;unfold wfi;omega
  .rw [Nat.zero_add];exact hr.cell i (by rw [jP];exact hi)
def VlP (w:qw)(M:Mn)(e:Ending)(w':qw):Prop:=qY w w'/\∃ y0 n0 d0 i1 y2 n2 d2 i3 i4 y5 n5 d5 b,e=.returned (.tuple #[.agg #[qS y0 n0 d0,qI i1,qS y2 n2 d2,qI i3,qI i4,qS y5 n5 d5],.bool b])/\(b=true ↔ MOk M)/\(b=true->∃ a0 c0 xs a2 c2 a5 c5 ts,#[qS y0 n0 d0,qI i1,qS y2 n2 d2,qI i3,qI i4,qS y5 n5 d5]=mC M.L a0 c0 xs a2 c2 a5 c5 ts/\LyT w' M.L a0 c0 xs a2 c2 a5 c5 ts)
theorem nZ {w w':qw}{y0 y2 y5:qO}{n0 d0 n2 d2 n5 d5:Nat}{i1 i3 i4:Int}(hb:qY w w')(h:¬ MOk M):VlP w M (.returned (.tuple #[.agg #[qS y0 n0 d0,qI i1,qS y2 n2 d2,qI i3,qI i4,qS y5 n5 d5],.bool false])) w':=⟨hb,y0,n0,d0,i1,y2,n2,d2,i3,i4,y5,n5,d5,false,rfl,by simp [h],fun h=>by cases h⟩
theorem aLr {w w':qw}{a0:qO}{c0:Nat}{xs:List PB}{a2:qO}{c2:Nat}{a5:qO}{c5:Nat}{ts:List TB}(eL:L=M.L)(hb:qY w w')(h:MOk M)(hl:LyT w' L a0 c0 xs a2 c2 a5 c5 ts):VlP w M (.returned (.tuple #[.agg (qJ L a0 xs c0 a2 c2 a5 ts c5),.bool true])) w':=by
 subst eL;exact ⟨hb,_,_,_,_,_,_,_,_,_,_,_,_,true,rfl,by simp [h],fun _=>⟨a0,c0,xs,a2,c2,a5,c5,ts,rfl,hl⟩⟩
