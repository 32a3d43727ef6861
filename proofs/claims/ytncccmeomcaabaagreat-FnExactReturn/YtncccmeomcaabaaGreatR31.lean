import Derived.Test.YtncccmeomcaabaaGreatR25
import Derived.Test.YtncccmeomcaabaaGreatR30
set_option linter.all false
set_option maxHeartbeats 8000000
namespace Go.Proofs.YtncccmeomcaabaaGreat
open Go.RowKit Classical
open Go.Proofs.Tryz
set_option maxRecDepth 100000
theorem aGq (w1:qw)(G g:Nat)(Y:Lyb)(C:Cn)(M:Mn)(v13:Value)(p v:Int)(w:qw)(h:Mg w1 w G Y C M v13 (qS (qP g) 1 1))(hr:Blk w g #[qI 65536,qI 14,qI 0,.bool false,.bool true,.bool false] 214)(hm:mok C.fz.length C.rz.length C.oz.length=true)(h0:65536<=p)(h1:p+4<=65536+C.rz.length)(ha:p%4=0)(hv:wfi v):
 qC 203 #[.pointer (qP G),qI p,qI v] w fun e w'=>e=.returned (.tuple #[])/\∃ oa on oc,Mg w1 w' G Y { C with rz:=put C.rz (p-65536).toNat v 4 } { M with rz:=put C.rz (p-65536).toNat v 4,oa:=oa,on:=on,oc:=oc,oz:=C.oz } v13 (qS (qP g) 1 1)/\TGx w w':=by
 have hm':=hm;unfold mok at hm';simp at hm';have HAL:=zh (aAu (qP g) 1 1 [rgR] p 4 2 w (aPd hr) (by unfold wfi;omega));rw [aLv p h0 (by omega)] at HAL
 have HWI:=zh (fun (X:qw) (hX:qY w X)=>show qC 223 #[.pointer (some (qR G 7)),qI p,qI 4,qI v] X (fun e w'=>∃ r,e=.returned (qI r)/\∃ oa on oc,Mg w1 w' G Y { C with rz:=put C.rz (p-65536).toNat v 4 } { M with rz:=put C.rz (p-65536).toNat v 4,oa:=oa,on:=on,oc:=oc,oz:=C.oz } v13 (qS (qP g) 1 1)/\TGx w w') from by
  have hx:=h.bw hX;obtain ⟨base,mid,Ls,β,m,m1,m2⟩:=hx.m;have l1:=dZ m.q.1;have l2:=dZ m.q.2.1;have l3:=dZ m.q.2.2.1
  have hW:=yJ M.fa M.ra M.oa M.fn M.fc M.rn M.rc M.on M.oc G 7 mid (p-65536).toNat _ 110 C.fz C.rz C.oz p v X hx.k rfl rfl rfl m.q (fun u hu e=>by
   rcases hu with rfl|rfl|rfl
   .exact aT hx.k m.q.1.1 (by decide) G e rfl
   .exact aT hx.k m.q.2.1.1 (by decide) G e rfl
   .exact aT hx.k m.q.2.2.1.1 (by decide) G e rfl) (by have:=hx.k.lt;omega) hv (by omega) (by omega) (by omega) (by rw [l1,l2,l3];exact hm) ha
  refine hW.mono fun e w' he=>?_;obtain ⟨oa,on,oc,e1,k1,q1,_,T⟩:=he
  have hS:∀ j,(j=G\/(qS M.ra M.rn M.rc).ownBlock=some j\/(qS M.oa M.on M.oc).ownBlock=some j)->mid<=j/\∃ cs ty,Blk X j cs ty/\(ty=5\/ty=110\/ty=43):=fun j hj=>by
   rcases hj with rfl|hj|hj
   .exact ⟨m2,_,_,hx.k,.inr (.inl rfl)⟩
   .obtain ⟨cs,kb⟩:=aD m.q.2.1.1 hj;exact ⟨(m.q.2.1.lt j hj).1,cs,_,kb,.inl rfl⟩
   .obtain ⟨cs,kb⟩:=aD m.q.2.2.1.1 hj;exact ⟨(m.q.2.2.1.lt j hj).1,cs,_,kb,.inl rfl⟩
  refine ⟨_,e1,oa,on,oc,⟨aG hx.b T (fun j hj=>by have:=(hS j hj).1;have:=m.bm;omega) hx.b.size,h.g,k1,⟨base,mid,Ls,β,m.mem T hS q1,m1,m2⟩,h.l⟩,(bC hX).trans (dR T (fun j hj=>by
   obtain ⟨_,cs,ty,kb,q⟩:=hS j hj
   exact ⟨cs,ty,kb,by rcases q with q|q|q;exact .inl q;exact .inr (.inl q);exact absurd q (by
    rintro rfl;rcases hj with rfl|hj|hj
    .have:=aI hx.k kb;revert this;decide
    .obtain ⟨c2,k2⟩:=aD m.q.2.1.1 hj;have:=aI k2 kb;revert this;decide
    .obtain ⟨c2,k2⟩:=aD m.q.2.2.1.1 hj;have:=aI k2 kb;revert this;decide)⟩))⟩)
 have x23:=h.k.cell 23;clear h hr hm hm';go_enter func203,ntmps203
 go_wp2_with fail
 refine HAL.o.mono ?_;rintro e w2 ⟨rfl,hb2⟩;have HB:=zh hb2;clear hb2 HAL;go_wp2_with fail
 refine (HWI.o w2 HB.o).mono ?_;rintro e w3 ⟨r,rfl,hE⟩;have HE:=zh hE;clear hE HWI;go_wp2
 go_end0
 exact ⟨rfl,HE.o⟩
theorem aKt (w1:qw)(G g:Nat)(Y:Lyb)(C:Cn)(M:Mn)(v13:Value)(s:Nat)(ba:qO)(bn bc:Nat)(ws:qi)(w:qw)(h:Mg w1 w G Y C M v13 (qS (qP g) 1 1))(hr:Blk w g #[qI 65536,qI 14,qI 0,.bool false,.bool true,.bool false] 214)(hm:mok C.fz.length C.rz.length C.oz.length=true)(hc:1<=C.cw/\C.cw<=64)(hs:s<Y.L.slots.length)(h0:65536<=Y.L.slots.getD s 0)(h1:(Y.L.slots.getD s 0-65536).toNat+slz C.cw<=C.rz.length)(ha:Y.L.slots.getD s 0%4=0)
 (hi:∀ {X:qw} {C':Cn} {M':Mn} {vr':Value},Mg w1 X G Y C' M' v13 vr'->M'.ms=M.ms->C'.ps=C.ps->IS X ba bn bc ws):
 qC 178 #[.pointer (qP G),qI s,qS ba bn bc] w fun e w'=>e=.returned (.tuple #[])/\∃ oa on oc,Mg w1 w' G Y { C with rz:=bL C.rz (Y.L.slots.getD s 0-65536).toNat ws (slz C.cw/4) } { M with rz:=bL C.rz (Y.L.slots.getD s 0-65536).toNat ws (slz C.cw/4),oa:=oa,on:=on,oc:=oc,oz:=C.oz } v13 (qS (qP g) 1 1)/\TGx w w':=by
 have hm':=hm;unfold mok at hm';simp at hm';obtain ⟨z1,z2,z3⟩:=fH hc.1 hc.2;have hz4:4*(slz C.cw/4)=slz C.cw:=by unfold rnd at z1;omega
 obtain ⟨N,hN⟩:=eqx (slz C.cw/4);obtain ⟨f,hf⟩:=eqx ((Y.L.slots.getD s 0-65536).toNat);obtain ⟨A,hA⟩:=eqx (Y.L.slots.getD s 0);rw [<- hA] at hf ha h0;rw [<- hN,<- hA,<- hf];rw [<- hA,<- hf] at h1;obtain ⟨gs,os,ea,hcs⟩:=h.ly.s.2.2.2.1 (by omega);have hsx:=h.ly.s.2.1;unfold maxLen at hsx
 have HSS:=zh (fun (X:qw) (hX:qY w1 X)=>show X.cell? (qR gs (os+s))=some (qI A) from by
  obtain ⟨gs',os',ea',hc'⟩:=(h.l.bw hX).s.2.2.2.1 (by omega);rw [ea] at ea';cases ea'
  rw [hA]
  exact hc' s (by omega))
 have e2:=h.vs.1.2.1;have HSZ:=zh (fun (X:qw)=>iU M.cs M.cw M.ck M.cd X (by rw [e2];exact hc.1) (by rw [e2];exact hc.2));rw [e2] at HSZ
 have HWR:=zh (fun (k:Nat) (X:qw) (oa:qO) (on oc:Nat) (hk:k<N) (hX:Mg w1 X G Y { C with rz:=bL C.rz f ws k } { M with rz:=bL C.rz f ws k,oa:=oa,on:=on,oc:=oc,oz:=C.oz } v13 (qS (qP g) 1 1)) (hrx:Blk X g #[qI 65536,qI 14,qI 0,.bool false,.bool true,.bool false] 214)=>show qC 203 #[.pointer (qP G),qI (A+4*k),qI (ws.getD k 0)] X (fun e w'=>e=.returned (.tuple #[])/\∃ oa on oc,Mg w1 w' G Y { C with rz:=bL C.rz f ws (k+1) } { M with rz:=bL C.rz f ws (k+1),oa:=oa,on:=on,oc:=oc,oz:=C.oz } v13 (qS (qP g) 1 1)/\TGx X w') from by
  have hlz:(bL C.rz f ws k).length=C.rz.length:=eX _ _ _ _
  have hw:wfi (ws.getD k 0):=by
   have q:=hi hX rfl rfl;by_cases e:k<ws.length
   .exact q.2.2.1 _ (by simp [xB,e])
   .rw [xB,xO (by omega)];unfold wfi;simp
  have:=aGq w1 G g Y { C with rz:=bL C.rz f ws k } { M with rz:=bL C.rz f ws k,oa:=oa,on:=on,oc:=oc,oz:=C.oz } v13 (A+4*k) (ws.getD k 0) X hX hrx (by show mok _ (bL C.rz f ws k).length _=true;rw [hlz];exact hm) (by omega) (by show _<=65536+((bL C.rz f ws k).length:Int);rw [hlz];omega) (by omega) hw;rw [show (A+4*(k:Int)-65536).toNat=f+4*k by omega] at this
  exact this)
 have HI:=zh (fun (k:Nat) (X:qw) (oa:qO) (on oc:Nat) (hX:Mg w1 X G Y { C with rz:=bL C.rz f ws k } { M with rz:=bL C.rz f ws k,oa:=oa,on:=on,oc:=oc,oz:=C.oz } v13 (qS (qP g) 1 1))=>hi hX rfl rfl);have HZZ:=zh (xA z1 (xA z2 hz4));have hNs:((slz C.cw:Nat):Int).tdiv 4=(N:Nat):=by rw [Int.tdiv_eq_ediv_of_nonneg (by omega)];omega
 have hNb:N<=64:=by omega
 have hA1:A<=100000:=by omega
 have hbnx:=(hi h rfl rfl).2.1;have hbl:=(hi h rfl rfl).1;unfold maxLen at hbnx
 have HS:=zh (show Mg w1 w G Y { C with rz:=bL C.rz f ws 0 } { M with rz:=bL C.rz f ws 0,oa:=M.oa,on:=M.on,oc:=M.oc,oz:=C.oz } v13 (qS (qP g) 1 1) from by
  have e:M.rz=C.rz/\M.oz=C.oz:=by obtain ⟨_,_,_,_,m,_⟩:=h.m;exact ⟨m.vz.2.2.2.1,m.vz.2.2.2.2.1⟩
  have:=h;rw [show M={ M with rz:=C.rz,oa:=M.oa,on:=M.on,oc:=M.oc,oz:=C.oz } by rw [<- e.1,<- e.2]] at this
  exact this)
 have HK:=zh hr;obtain ⟨x1,x2,x3,x4⟩:=show w.cell? ⟨G,1,none⟩=some (qI M.cs)/\w.cell? ⟨G,2,none⟩=some (qI M.cw)/\w.cell? ⟨G,3,none⟩=some (qI M.ck)/\w.cell? ⟨G,4,none⟩=some (qI M.cd) from ⟨h.k.cell 1,h.k.cell 2,h.k.cell 3,h.k.cell 4⟩;rw [e2] at x2;clear h hr hm hm' hi hcs z1 z2 z3 hz4 hN hf hA e2 h1 hc ha;generalize slz C.cw=Z at *;go_enter func178,ntmps178
 go_wp2_with fail
 refine (HSZ.o w).mono ?_;rintro e wa ⟨rfl,hba⟩;have HSa:=zh (HS.o.bw hba);have HKa:=zh (bC hba);clear x1 x2 x3 x4 hba HS HSZ;go_wp2_with fail
 go_loopw [15] (fun i wr=>∃ (k:Nat) (oa:qO) (on oc:Nat),k<=N/\i=qI k/\Mg w1 wr G Y { C with rz:=bL C.rz f ws k } { M with rz:=bL C.rz f ws k,oa:=oa,on:=on,oc:=oc,oz:=C.oz } v13 (qS (qP g) 1 1)/\TGx w wr) (qf N)
 .exact ⟨0,_,_,_,xC _,rfl,HSa.o,HKa.o⟩
 .obtain ⟨k,oa,on,oc,hk,rfl,hg,hr⟩:=hrel;clear HSa HKa;by_cases hlt:k<N
  .have hlt':(k:Int)<(N:Int):=by omega
   have x17:wr.cell? (qR G 17)=some (qS Y.a2 Y.L.slots.length Y.c2):=hg.k.cell 17;rw [ea] at x17;have xs:=HSS.o wr hg.b;have HC:=zh (HWR.o k wr oa on oc hlt hg (hr.blk HK.o (by unfold gkd;decide)));have HTR:=zh hr;have hss:(s:Int)<(Y.L.slots.length:Int):=by omega
   have hs0:(0:Int)<=(s:Int):=by omega
   by_cases c1:k<bn
   .have c1':(k:Int)<(bn:Int):=by omega
    obtain ⟨gb,ob,eb,hcb⟩:=(HI.o k wr oa on oc hg).2.2.2.1 (by omega);have xb:=hcb k c1;generalize ws.getD k 0=z at *;subst eb;clear hg hr hcb;go_wp2_with fail
    refine HC.o.mono ?_;rintro e wb ⟨rfl,oa',on',oc',hg',hr'⟩;have HE:=zh (xA hg' (HTR.o.trans hr'));clear hg' hr' x17 xs xb HC;go_wp2
    go_roundw
    .exact ⟨k+1,oa',on',oc',by omega,by go_num,HE.o⟩
    .simp [qf,intOf];omega
   .have c1':¬ (k:Int)<(bn:Int):=by omega
    have ez:ws.getD k 0=0:=by rw [xB,xO (by omega)];rfl
    rw [ez] at HC;clear hg hr ez;go_wp2_with fail
    refine HC.o.mono ?_;rintro e wb ⟨rfl,oa',on',oc',hg',hr'⟩;have HE:=zh (xA hg' (HTR.o.trans hr'));clear hg' hr' x17 xs HC;go_wp2
    go_roundw
    .exact ⟨k+1,oa',on',oc',by omega,by go_num,HE.o⟩
    .simp [qf,intOf];omega
  .obtain rfl:k=N:=by omega
   have HE:=zh (xA hg hr);clear hg hr;go_wp2
   go_end0
   exact ⟨rfl,oa,on,oc,HE.o⟩
