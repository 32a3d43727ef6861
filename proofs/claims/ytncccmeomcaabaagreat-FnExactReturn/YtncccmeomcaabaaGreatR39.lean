import Derived.Test.YtncccmeomcaabaaGreatR27
import Derived.Test.YtncccmeomcaabaaGreatR37
import Derived.Test.YtncccmeomcaabaaGreatR38
set_option linter.all false
set_option maxHeartbeats 16000000
namespace Go.Proofs.YtncccmeomcaabaaGreat
open Go.RowKit Classical
open Go.Proofs.Tryz
set_option maxRecDepth 100000
variable {L:Lay}{b:Int}{ps:List PMod}
theorem aMv (e:Lok ps L):((imR ps L).length:Int)=L.ram:=by
 unfold imR;rw [if_pos e];have K:=jZ e;have h3:=K.rr
 have h4:∀ i,i<=ps.length->(raB ps L i).length=L.ram.toNat:=by
  intro i
  induction i with
  | zero=>intro _;simp [raB]
  | succ i ih=>
    intro hi;have h5:=ih (by omega);have h6:=(K.at i (by omega)).2.2.2;rw [raB,aB2,lC]
    .exact h5
    .rw [h5,K.place i (by omega)];omega
 have:=h4 ps.length aN;omega
theorem aAj (M:Mn)(L:Lay)(a0:qO)(c0:Nat)(xs:List PB)(a2:qO)(c2:Nat)(a5:qO)(c5:Nat)(ts:List TB)(w:qw)(h:MnD w M)(hL:LyT w L a0 c0 xs a2 c2 a5 c5 ts)(hk:Lok (aE M.ms) L):
 qC 157 #[.agg (qA M),.agg (qJ L a0 xs c0 a2 c2 a5 ts c5)] w (Yn (mok M.fn M.rn M.on=true/\imF (aE M.ms) L=M.fz/\(M.rn:Int)=L.ram) w):=by
 obtain ⟨U,hU,bU,kU⟩:=nwb w (qA M) 43;obtain ⟨V,hV,bV,kV⟩:=nwb U (qJ L a0 xs c0 a2 c2 a5 ts c5) 71;have BV:=bU.trans (bV.mono bU.size);have kU':=kU.bw bV
 have HIM:=zh (show qC 191 #[qS M.ma M.mn M.mc,.agg (qJ L a0 xs c0 a2 c2 a5 ts c5)] V (fun e w'=>qY V w'/\∃ b1 n1 d1 b2 n2 d2 b3 n3 d3,e=.returned (.tuple #[.agg (qV b1 n1 d1 b2 n2 d2 b3 n3 d3),.bool true])/\OM w' V.heap.size (qS b1 n1 d1) (qS b2 n2 d2) (qS b3 n3 d3) (imF (aE M.ms) L) (imR (aE M.ms) L) []) from by
  have:=aEq M.ma M.mn M.mc M.ms L a0 c0 xs a2 c2 a5 c5 ts V (h.m.bw BV) (hL.bw BV);unfold ImM at this;rw [xR hk] at this
  exact this)
 have HRL:=zh (aMv hk);have HFV:=zh (fun (X:qw) (hX:qY V X)=>(h.f.bw BV).bw hX);have HU:=zh hU;have HV:=zh hV;have HB:=zh BV;have HMO:=zh (fun (X:qw)=>tI M.fa M.ra M.oa M.fn M.fc M.rn M.rc M.on M.oc X);have hmr:=h.r.2.1;unfold maxLen at hmr;have HC:=zh (fun (X:qw) (hX:qY V X)=>show X.cell? (qR w.heap.size 0)=some (qS M.ma M.mn M.mc)/\X.cell? (qR w.heap.size 7)=some (qS M.fa M.fn M.fc)/\X.cell? (qR w.heap.size 8)=some (qS M.ra M.rn M.rc)/\X.cell? (qR w.heap.size 9)=some (qS M.oa M.on M.oc) from ⟨(kU'.bw hX).cell 0,(kU'.bw hX).cell 7,(kU'.bw hX).cell 8,(kU'.bw hX).cell 9⟩);obtain ⟨z0,z1,z2,z3,z4,z5⟩:=kV.ly6;obtain ⟨y0,y7,y8,y9⟩:=HC.o V brf;clear hU hV bU bV kU kU' kV BV h hL hk;go_enter func157,ntmps157
 go_wp2_with (first|rw [<- HU.o]|rw [<- HV.o])
 refine HIM.o.mono ?_;rintro e X1 ⟨hb1,b1,n1,d1,b2,n2,d2,b3,n3,d3,rfl,O⟩;obtain ⟨W,hW,bW,kW⟩:=nwb X1 (qV b1 n1 d1 b2 n2 d2 b3 n3 d3) 39;have BW:=hb1.trans (bW.mono hb1.size);have HW:=zh hW;have HBW:=zh BW;have HOF:=zh (fun (X:qw) (hX:qY W X)=>(((O.o1.bw bW).bw hX).bs));have HRN:=zh (show ((n2:Nat):Int)=L.ram from by rw [<- HRL.o,O.o2.bs.1]);have hn2:=O.o2.bs.2.1;unfold maxLen at hn2;have HKW:=zh kW;clear y0 y7 y8 y9 z0 z1 z2 z3 z4 z5 HU HV HIM hW bW kW hb1 O;obtain ⟨y0,y7,y8,y9⟩:=HC.o W BW;clear BW;have HBE:=zh (fun (X:qw) (hX:qY W X)=>kP M.fa b1 M.fn M.fc n1 d1 M.fz (imF (aE M.ms) L) X (HFV.o X (HBW.o.trans (hX.mono HBW.o.size))) (HOF.o X hX));by_cases c1:mok M.fn M.rn M.on=true
 .rw [c1] at HMO;have HC1:=zh c1;clear c1;go_wp2_with (rw [<- HW.o])
  refine (HMO.o _).mono ?_;rintro e X2 ⟨rfl,hb2⟩;have HB2:=zh (HBW.o.trans (hb2.mono HBW.o.size));have HBE2:=zh (HBE.o X2 hb2);clear y0 y7 y8 y9;obtain ⟨y0,y7,y8,y9⟩:=HC.o X2 HB2.o;have i0:=(HKW.o.bw hb2).e0;have i1:=(HKW.o.bw hb2).e1;clear hb2 HMO HBE HKW HOF HFV HC HW;by_cases c2:M.fz=imF (aE M.ms) L
  .rw [xR c2] at HBE2;have HC2:=zh c2.symm;clear c2;go_wp2_with fail
   refine HBE2.o.mono ?_;rintro e X3 ⟨rfl,rfl⟩;go_wp2;go_ret;have hrn:=HRN.o;refine ⟨_,rfl,?_,HB.o.trans (HB2.o.mono HB.o.size)⟩;constructor
   .intro q;exact ⟨HC1.o,HC2.o,by simp at q;omega⟩
   .intro q;have:=q.2.2;simp;omega
  .rw [xS c2] at HBE2;have HC2:Zh (¬ (mok M.fn M.rn M.on=true/\imF (aE M.ms) L=M.fz/\(M.rn:Int)=L.ram)):=fun q=>c2 q.2.1.symm;clear c2;go_wp2_with fail
   refine HBE2.o.mono ?_;rintro e X3 ⟨rfl,rfl⟩;go_wp2;go_ret;exact cT HC2.o (HB.o.trans (HB2.o.mono HB.o.size))
 .have e1:mok M.fn M.rn M.on=false:=by simpa using c1
  rw [e1] at HMO;have HC2:Zh (¬ (mok M.fn M.rn M.on=true/\imF (aE M.ms) L=M.fz/\(M.rn:Int)=L.ram)):=fun q=>c1 q.1;clear c1 e1;go_wp2_with (rw [<- HW.o])
  refine (HMO.o _).mono ?_;rintro e X2 ⟨rfl,hb2⟩;have HB2:=zh (HBW.o.trans (hb2.mono HBW.o.size));clear hb2;go_wp2;go_ret;exact cT HC2.o (HB.o.trans (HB2.o.mono HB.o.size))
theorem aDu (M:Mn)(w:qw)(h:MnD w M):
 qC 159 #[.agg (qA M)] w (Yn (vA (aE M.ms) M.cs M.md M.bk M.lz) w):=by
 obtain ⟨U,hU,bU,kU⟩:=nwb w (qA M) 43;have HIP:=zh (kK M.ma M.mn M.mc M.ms M.md M.bk U (h.m.s.bw bU));rw [eM h.m M.md M.bk] at HIP;have HSW:=zh (fun (X:qw) (hX:qY U X)=>iR M.la M.ln M.lc M.lz M.md M.bk X ((h.l.bw bU).bw hX));have HU:=zh hU;have HB:=zh bU;have HC:=zh (fun (X:qw) (hX:qY U X)=>show X.cell? (qR w.heap.size 0)=some (qS M.ma M.mn M.mc)/\X.cell? (qR w.heap.size 1)=some (qI M.cs)/\X.cell? (qR w.heap.size 10)=some (qI M.md)/\X.cell? (qR w.heap.size 11)=some (qI M.bk)/\X.cell? (qR w.heap.size 12)=some (qS M.la M.ln M.lc) from ⟨(kU.bw hX).cell 0,(kU.bw hX).cell 1,(kU.bw hX).cell 10,(kU.bw hX).cell 11,(kU.bw hX).cell 12⟩);obtain ⟨y0,y1,y10,y11,y12⟩:=HC.o U brf;clear hU bU kU h;by_cases c1:0<=pcq (aE M.ms) M.md M.bk
 .rw [xR c1] at HIP;have HPR:Zh ((vA (aE M.ms) M.cs M.md M.bk M.lz) ↔ (M.cs=0\/M.bk=-1\/hld M.lz M.md M.bk≠-1)):=⟨fun q=>q.2,fun q=>⟨c1,q⟩⟩;clear c1;go_enter func159,ntmps159
  go_wp2_with (rw [<- HU.o])
  refine HIP.o.mono ?_;rintro e X1 ⟨rfl,hb1⟩;have HX1:=zh hb1;clear y0 y1 y10 y11 y12;obtain ⟨y0,y1,y10,y11,y12⟩:=HC.o X1 hb1;have HS1:=zh (HSW.o X1 hb1);clear hb1 HIP HU HSW HC;by_cases c2:M.cs=0
  .have c2':(M.cs !=0)=false:=by simp [c2]
   have HP:=zh (HPR.o.2 (.inl c2));clear c2;go_wp2;go_ret;exact pH HP.o (HB.o.trans (HX1.o.mono HB.o.size))
  have c2':(M.cs !=0)=true:=by simp [c2]
  by_cases c3:M.bk=-1
  .have c3':(M.bk !=-1)=false:=by simp [c3]
   have HP:=zh (HPR.o.2 (.inr (.inl c3)));clear c2 c3;go_wp2;go_ret;exact pH HP.o (HB.o.trans (HX1.o.mono HB.o.size))
  have c3':(M.bk !=-1)=true:=by simp [c3]
  have HP:Zh ((vA (aE M.ms) M.cs M.md M.bk M.lz) ↔ hld M.lz M.md M.bk≠-1):=⟨fun q=>by rcases HPR.o.1 q with e|e|e;exact absurd e c2;exact absurd e c3;exact e,fun q=>HPR.o.2 (.inr (.inr q))⟩;clear c2 c3 HPR;generalize hld M.lz M.md M.bk=r at *;go_wp2_with fail
  refine HS1.o.mono ?_;rintro e X2 ⟨rfl,hb2⟩;have HX2:=zh (HX1.o.trans (hb2.mono HX1.o.size));clear hb2 HS1;go_wp2;go_ret;exact ⟨_,rfl,by rw [HP.o];simp,HB.o.trans (HX2.o.mono HB.o.size)⟩
 .rw [xS c1] at HIP;have HN:Zh (¬ (vA (aE M.ms) M.cs M.md M.bk M.lz)):=fun q=>c1 q.1;clear c1;go_enter func159,ntmps159
  go_wp2_with (rw [<- HU.o])
  refine HIP.o.mono ?_;rintro e X1 ⟨rfl,hb1⟩;have HX1:=zh hb1;clear hb1 HIP HU;go_wp2;go_ret;exact cT HN.o (HB.o.trans (HX1.o.mono HB.o.size))
theorem aFp (L:Lay)(b s:Int):s∈slF L b ↔ sOk L b s:=by
 unfold slF sOk;by_cases c:b=-1\/L.slots=[]
 .rw [if_pos c,if_pos c];simp
 .rw [if_neg c,if_neg c];simp only [List.mem_map,List.mem_range];constructor
  .rintro ⟨i,hi,rfl⟩;omega
  .intro h;exact ⟨s.toNat,by omega,by omega⟩
theorem aHv (h:Lok ps L):L.slots.length<=4:=by
 obtain ⟨hc,_⟩:=fY h.1;unfold cfo at hc;simp at hc;omega
theorem zA (L:Lay)(a0:qO)(c0:Nat)(xs:List PB)(a2:qO)(c2:Nat)(a5:qO)(c5:Nat)(ts:List TB)(b:Int)(w:qw)(h:LyT w L a0 c0 xs a2 c2 a5 c5 ts)(hl:L.slots.length<=4):
 qC 189 #[.agg (qJ L a0 xs c0 a2 c2 a5 ts c5),qI b] w fun e w'=>∃ a n c,e=.returned (qS a n c)/\IS w' a n c (slF L b)/\qY w w':=by
 by_cases c:b=-1\/L.slots=[]
 .exact (yZ L a0 c0 xs a2 c2 a5 c5 ts b w h c).mono fun e w' ⟨a,c,he,hi,hb⟩=>⟨a,_,c,he,hi,hb⟩
 .refine (uV L a0 c0 xs a2 c2 a5 c5 ts b L.slots.length w (fun e=>c (.inl e)) (fun e=>c (.inr (xE e))) (by omega)).mono ?_;rintro e w' ⟨g,rfl,hr,hb⟩;have e2:slF L b=upN L.slots.length:=by unfold slF upN;rw [if_neg c]
  rw [e2];refine ⟨_,_,_,rfl,⟨kZ _,by unfold maxLen;omega,fun z hz=>?_,fun _=>⟨g,0,rfl,fun i hi=>?_⟩,aN⟩,hb⟩
  .simp only [upN,List.mem_map,List.mem_range] at hz;obtain ⟨i,hi,rfl⟩:=hz;unfold wfi;omega
  .rw [Nat.zero_add];exact hr.cell i (by rw [kZ];exact hi)
theorem Blk.c2 {w:qw}{b:Nat}{t:TypeId}{v0 v1 v2 v3 v4 v5 v6 v7:Value}(h:Blk w b #[v0,v1,v2,v3,v4,v5,v6,v7] t):w.cell? (qR b 2)=some v2:=h.cell 2
theorem aLp {m:Int}(h:∀ t:Nat,t<(slF L b).length->(plR ps L m b ((slF L b).getD t 0)).length<=8):F2 ps L m b:=fun s hs=>by
 obtain ⟨k,hk,e⟩:=aJ2 ((aFp L b s).2 hs);rw [<- e];exact h k hk
theorem aOb {t:Nat}(h:t<(slF L b).length):sOk L b ((slF L b).getD t 0):=(aFp L b _).1 (wX h)
theorem zW (a:qO)(n cap:Nat)(ms:List Md)(L:Lay)(a0:qO)(c0:Nat)(xs:List PB)(a2:qO)(c2:Nat)(a5:qO)(c5:Nat)(ts:List TB)(w:qw)(h:MSD w a n cap ms)(hL:LyT w L a0 c0 xs a2 c2 a5 c5 ts)(hk:Lok (aE ms) L):
 qC 154 #[qS a n cap,.agg (qJ L a0 xs c0 a2 c2 a5 ts c5)] w fun e w'=>∃ r:Bool,e=.returned (.bool r)/\(r=true ↔ uJ (aE ms) L)/\qY w w':=by
 obtain ⟨V,hV⟩:=eqx (w.alloc (.cells (qJ L a0 xs c0 a2 c2 a5 ts c5) 71));have hB:qY w V:=by rw [hV];exact bal
 have k0:Blk V w.heap.size (qJ L a0 xs c0 a2 c2 a5 ts c5) 71:=by rw [hV];exact Blk.new w _ _
 have HBV:=zh hB;have HM:=zh (h.bw hB);have HL2:=zh (hL.bw hB);have HV:=zh hV;have HK:=zh k0;have hn:=h.s.1;have hmx:=h.s.2.1;have hlx:=hL.s.2.1;unfold maxLen at hmx hlx;have HKX:Zh (∀ X,qY V X->X.cell? (qR w.heap.size 0)=some (qS a0 xs.length c0)/\X.cell? (qR w.heap.size 1)=some (qI L.stack)/\X.cell? (qR w.heap.size 2)=some (qS a2 L.slots.length c2)/\X.cell? (qR w.heap.size 3)=some (qI L.flash)/\X.cell? (qR w.heap.size 4)=some (qI L.ram)/\X.cell? (qR w.heap.size 5)=some (qS a5 ts.length c5)):=fun X hz=>(HK.o.bw hz).ly6;have HX:Zh (∀ X,qY V X->qY w X):=fun X hz=>HBV.o.trans (hz.mono HBV.o.size);have HC:=zh hk;have HPO:Zh (∀ X (m b s:Int),qY V X->(0<=m/\m<(n:Int))->(b=-1\/(0<=b/\b<((ms.getD m.toNat aK).bn:Int)))->sOk L b s->qC 161 #[qS a n cap,.agg (qJ L a0 xs c0 a2 c2 a5 ts c5),.agg (qT m b 0),qI s] X (fun e w'=>∃ A k c,e=.returned (.tuple #[qS A k c,.bool (decide ((plR (aE ms) L m b s).length<=8))])/\qY X w'/\qY V w')):=fun X m b s hz hm hb hs=>(rU a n cap ms L a0 c0 xs a2 c2 a5 c5 ts m b 0 s X (HM.o.bw hz) (HL2.o.bw hz) hk ((zY HM.o m b).2 ⟨hm,hb⟩) hs.fit).mono fun e w' ⟨A,k,c,he,_,hbb⟩=>⟨A,k,c,he,hbb,hz.trans (hbb.mono hz.size)⟩;have HSF:Zh (∀ X (b:Int),qY V X->qC 189 #[.agg (qJ L a0 xs c0 a2 c2 a5 ts c5),qI b] X (fun e w'=>∃ ra rn rc,e=.returned (qS ra rn rc)/\IS w' ra rn rc (slF L b)/\qY X w'/\qY V w')):=fun X b hz=>(zA L a0 c0 xs a2 c2 a5 c5 ts b X (HL2.o.bw hz) (aHv hk)).mono fun e w' ⟨ra,rn,rc,he,hi,hbb⟩=>⟨ra,rn,rc,he,hi,hbb,hz.trans (hbb.mono hz.size)⟩;clear hV k0 h hL hB hk;go_enter func154,ntmps154
 go_wp2_with (rw [<- HV.o])
 clear HV;go_loopw [14] (fun i wr=>∃ m:Nat,m<=n/\i=qI m/\(∀ m':Nat,m'<m->∀ b:Int,(b=-1\/(0<=b/\b<((ms.getD m' aK).bn:Int)))->F2 (aE ms) L m' b)/\qY V wr) (qf n)
 .exact ⟨0,xC _,rfl,fun m' hm'=>absurd hm' (Nat.not_lt_zero _),brf⟩
 .obtain ⟨m,hm,rfl,hF,hB⟩:=hrel;have HF:=zh hF;have HB:=zh hB;clear hF hB;by_cases hlt:m<n
  .have hlt':(m:Int)<(n:Int):=by omega
   obtain ⟨gm,om,rfl,v0,v1,v2,v3,v4,v5,v6,v7⟩:=HM.o.s.at m hlt
   have hbx:(ms.getD m aK).bn<=9223372036854775806:=by
    have h1:=(jZ HC.o).v m (by rw [bQ,hn];exact hlt);rw [cG (by rw [hn];exact hlt)] at h1;have h2:=(bZ h1).2.2.2.1;have h3:=(HM.o.d m hlt).b.1;simp only [Md.pm,xH] at h2;omega
   obtain ⟨M,hM⟩:=eqx (ms.getD m aK);have HME:=zh hM;rw [<- hM] at v0 v1 v2 v3 v4 v5 v6 v7 hbx;clear hM;obtain ⟨bn,hbn⟩:=eqx (M.bn);have HBN:=zh (show bn=(ms.getD m aK).bn by rw [hbn,HME.o]);rw [<- hbn] at v2 hbx;clear hbn;have u0:=aB HB.o v0;have u1:=aB HB.o v1;have u2:=aB HB.o v2;have u3:=aB HB.o v3;have u4:=aB HB.o v4;have u5:=aB HB.o v5;have u6:=aB HB.o v6;have u7:=aB HB.o v7;clear v0 v1 v2 v3 v4 v5 v6 v7;generalize wr=wo at *;obtain ⟨V2,hV2⟩:=eqx (wo.alloc (.cells (qM M.nm M.ta M.tn M.tc M.ba bn M.bc M.da M.dn M.dc M.bss M.ra M.rn M.rc M.ia M.im M.ic M.ea M.en M.ec) 138));have HBV2:=zh (show qY V V2 by rw [hV2];exact HB.o.alloc HB.o.size _);have HKM:=zh (show Blk V2 wo.heap.size (qM M.nm M.ta M.tn M.tc M.ba bn M.bc M.da M.dn M.dc M.bss M.ra M.rn M.rc M.ia M.im M.ic M.ea M.en M.ec) 138 by rw [hV2];exact Blk.new _ _ _);have HV2:=zh hV2;clear hV2;go_wp2_with (rw [<- HV2.o])
   clear u0 u1 u2 u3 u4 u5 u6 u7;go_loopw [7] (fun i wr=>∃ q:Nat,q<=bn+1/\i=qI ((q:Int)-1)/\(∀ b:Int,-1<=b->b<(q:Int)-1->F2 (aE ms) L m b)/\Blk wr wo.heap.size (qM M.nm M.ta M.tn M.tc M.ba bn M.bc M.da M.dn M.dc M.bss M.ra M.rn M.rc M.ia M.im M.ic M.ea M.en M.ec) 138/\qY V wr) (fun i _=>bn+1-(intOf i+1).toNat)
   .exact ⟨0,xC _,rfl,fun b h1 h2=>by omega,HKM.o,HBV2.o⟩
   .obtain ⟨q,hq,rfl,hF2,hkm,hB3⟩:=hrel;have HF2:=zh hF2;have HK3:=zh hkm;have HB3:=zh hB3;have y2:=hkm.c2;clear hF2 hB3 hkm;by_cases hq2:q<bn+1
    .have hq2':(q:Int)-1<(bn:Int):=by omega
     obtain ⟨b,hb⟩:∃ b:Int,b=(q:Int)-1:=⟨_,rfl⟩;rw [<- hb] at hq2' ⊢;have hb0:-1<=b:=by omega
     have HBB:=zh hb
     have HBQ:=zh (show b=-1\/(0<=b/\b<((ms.getD ((m:Int)).toNat aK).bn:Int)) from by
      rw [xY,<- HBN.o]
      omega)
     clear hb;generalize wr=wp at *;have HS1:=zh (HSF.o wp b HB3.o);obtain ⟨z0,z1,z2,z3,z4,z5⟩:=HKX.o _ HB3.o;go_wp2_with fail
     refine HS1.o.mono ?_;rintro e X4 ⟨ra,rn,rc,rfl,hI,hbx4,hb4⟩;have HI4:=zh hI;have HK4:=zh (HK3.o.bw hbx4);have HB4:=zh hb4;have hrx:=hI.2.1;unfold maxLen at hrx;clear hI hbx4 hb4 HS1 z0 z1 z2 z3 z4 z5 y2;go_wp2_with fail
     go_loopw [30] (fun i wr=>∃ t:Nat,t<=rn/\i=qI t/\(∀ s':Nat,s'<t->(plR (aE ms) L m b ((slF L b).getD s' 0)).length<=8)/\IS wr ra rn rc (slF L b)/\Blk wr wo.heap.size (qM M.nm M.ta M.tn M.tc M.ba bn M.bc M.da M.dn M.dc M.bss M.ra M.rn M.rc M.ia M.im M.ic M.ea M.en M.ec) 138/\qY V wr) (qf rn)
     .exact ⟨0,xC _,rfl,fun s' hs'=>absurd hs' (Nat.not_lt_zero _),HI4.o,HK4.o,HB4.o⟩
     .obtain ⟨t,ht,rfl,hG,hI5,hk5,hB5⟩:=hrel;have HG:=zh hG;have HI5:=zh hI5;have HK5:=zh hk5;have HB5:=zh hB5;clear hG hk5 hB5;by_cases ht2:t<rn
      .have ht2':(t:Int)<(rn:Int):=by omega
       obtain ⟨rb,ro,rfl,hcc⟩:=hI5.2.2.2.1 (by omega);have r0:=hcc t ht2;have HSO:=zh (aOb (L:=L) (b:=b) (t:=t) (by rw [hI5.1];exact ht2));have HP3:=zh (HPO.o wr m b ((slF L b).getD t 0) HB5.o (by omega) HBQ.o HSO.o);obtain ⟨z0,z1,z2,z3,z4,z5⟩:=HKX.o _ HB5.o;obtain ⟨sv,hsv⟩:=eqx ((slF L b).getD t 0);rw [<- hsv] at r0 HP3 HSO;have HSV:=zh hsv;clear hcc hI5 hsv;go_wp2_with fail
       refine HP3.o.mono ?_;rintro e X6 ⟨A3,k3,c3',rfl,hbx6,hb6⟩;have HB6:=zh (xA hbx6 hb6);clear hbx6 hb6 HP3 z0 z1 z2 z3 z4 z5 r0;by_cases h83:(plR (aE ms) L m b sv).length<=8
       .rw [xR h83]
        have HN:=zh (show ∀ s':Nat,s'<t+1->(plR (aE ms) L m b ((slF L b).getD s' 0)).length<=8 from fun s' hs'=>by
         by_cases e:s'=t
         .rw [e,<- HSV.o];exact h83
         .exact HG.o s' (by omega))
        clear h83;go_wp2
        go_roundw
        .exact ⟨t+1,by omega,by go_num,HN.o,HI5.o.bw HB6.o.1,HK5.o.bw HB6.o.1,HB6.o.2⟩
        .simp [qf,intOf];omega
       .rw [xS h83];have HNO:=zh (aAx HM.o (m:=(m:Int)) (b:=b) (s:=sv) (by omega) HBQ.o HSO.o h83);clear h83;go_wp2;go_ret;exact ⟨false,rfl,by simp [HNO.o],HX.o _ HB6.o.2⟩
      .have HN:=zh (show ∀ b':Int,-1<=b'->b'<((q+1:Nat):Int)-1->F2 (aE ms) L m b' from fun b' h1 h2=>by
        by_cases e:b'=b
        .rw [e];exact aLp (fun t' ht'=>HG.o t' (by rw [HI5.o.1] at ht';omega))
        .exact HF2.o b' h1 (by have:=HBB.o;omega))
       have HBE:=zh (show b+1=((q+1:Nat):Int)-1 by have:=HBB.o;omega);clear hI5;go_wp2
       go_roundw
       .exact ⟨q+1,by omega,by rw [HBE.o],HN.o,HK5.o,HB5.o⟩
       .have:=HBB.o;simp [qf,intOf];omega
    .have HN:=zh (show ∀ m':Nat,m'<m+1->∀ b:Int,(b=-1\/(0<=b/\b<((ms.getD m' aK).bn:Int)))->F2 (aE ms) L m' b from fun m' hm' b hb=>by
      by_cases e:m'=m
      .subst e;rw [<- HBN.o] at hb;exact HF2.o b (by omega) (by omega)
      .exact HF.o m' (by omega) b hb)
     have hq3:(q:Int)-1=(bn:Int):=by omega
     rw [hq3];go_wp2
     go_roundw
     .exact ⟨m+1,by omega,by go_num,HN.o,HB3.o⟩
     .simp [qf,intOf];omega
  .have HN:=zh (aGf HM.o HC.o (fun m' hm'=>HF.o m' (by omega)));go_wp2;go_ret;exact ⟨true,rfl,by simp [HN.o],HX.o _ HB.o⟩
