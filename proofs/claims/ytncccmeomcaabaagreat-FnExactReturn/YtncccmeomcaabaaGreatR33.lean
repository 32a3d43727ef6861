import Derived.Test.YtncccmeomcaabaaGreatR32
set_option linter.all false
namespace Go.Proofs.YtncccmeomcaabaaGreat
open Go.RowKit Classical
open Go.Proofs.Tryz
set_option maxRecDepth 100000
variable {C:Cn}{L:Lay}{b m:Int}{ps:List PMod}{xs:List SlT}
theorem oF (m b:Int):∀ (xs:List SlT) (i:Nat),(fK m b i xs=-1->∀ j,j<xs.length->¬ usd m b (xs.getD j zSl))/\(∀ k:Nat,k<xs.length->usd m b (xs.getD k zSl)->(∀ j,j<k->¬ usd m b (xs.getD j zSl))->fK m b i xs=(i+k:Nat))/\(∀ j:Nat,((i+j:Nat):Int)<fK m b i xs->¬ usd m b (xs.getD j zSl))
 | [],i=>⟨fun _ j hj=>by simp at hj,fun k hk=>by simp at hk,fun j hj=>by unfold fK at hj;omega⟩
 | x::xs,i=>by
   obtain ⟨h1,h2,h3⟩:=oF m b xs (i+1);unfold fK;by_cases c:usd m b x
   .rw [if_pos c];refine ⟨fun e=>by omega,fun k hk hu hn=>?_,fun j hj=>by omega⟩;cases k with
    | zero=>rfl
    | succ k=>exact absurd c (by simpa using hn 0 (by omega))
   .rw [if_neg c];refine ⟨fun e j hj=>?_,fun k hk hu hn=>?_,fun j hj=>?_⟩
    .cases j with
     | zero=>simpa using c
     | succ j=>simpa using h1 e j (by simpa using hj)
    .cases k with
     | zero=>exact absurd (by simpa using hu) c
     | succ k=>
       rw [h2 k (by simpa using hk) (by simpa using hu) (fun j hj=>by simpa using hn (j+1) (by omega))];congr 1;omega
    .cases j with
     | zero=>simpa using c
     | succ j=>simpa using h3 j (by rw [show i+1+j=i+(j+1) by omega];exact hj)
theorem aF8 (h:xs.length≠0)(T:Int):hld (xs.set (slq xs m b) (true,m,b,T)) m b=((slq xs m b:Nat):Int):=by
 have hs:=lW (xs:=xs) m b h;obtain ⟨h1,_,h3⟩:=oF m b xs 0
 have e:=(oF m b (xs.set (slq xs m b) (true,m,b,T)) 0).2.1 (slq xs m b) (by simpa using hs) (by simp [xB,hs,usd]) (fun j hj=>by
  have e1:(xs.set (slq xs m b) (true,m,b,T)).getD j zSl=xs.getD j zSl:=by
   rw [xB,List.getElem?_set_ne (by omega),<- xB]
  rw [e1];by_cases c:hld xs m b=-1
  .exact h1 c j (by omega)
  .refine h3 j ?_;have q:slq xs m b=(hld xs m b).toNat:=by unfold slq;rw [if_neg c]
   have r:=fZ xs m b;show ((0+j:Nat):Int)<hld xs m b
   omega)
 rw [Nat.zero_add] at e;exact e
theorem aEt {cs cw T:Int}{rz:qi}(h:cU ps L cs cw T rz xs)(m:Int):hld xs m (-1)=-1:=by
 have key:∀ (ys:List SlT) (i:Nat),(∀ j,j<ys.length->¬ usd m (-1) (ys.getD j zSl))->fK m (-1) i ys=-1:=by
  intro ys
  induction ys with
  | nil=>intro i _;rfl
  | cons y ys ih=>
    intro i hy;unfold fK;rw [if_neg (by simpa using hy 0 (by simp))];exact ih (i+1) (fun j hj=>by simpa using hy (j+1) (by simpa using hj))
 refine key xs 0 (fun j hj hu=>?_);have h0:=(h.2 j hj).1;unfold slk at h0;obtain ⟨u1,u2,u3⟩:=hu;rcases h0 with h1|h1
 .rw [u1] at h1;exact absurd h1.1 (by decide)
 .have:=h1.2.1;omega
theorem Cv.cz (h:Cv C L):Cz C L:=by
 obtain ⟨_,h1,h2,h3,h4⟩:=h.cf;refine ⟨h4,h1,h.n.1,?_⟩;by_cases e:C.bk=-1
 .rw [e];exact .inl (aEt h.s _)
 .rcases fZ C.lz C.md C.bk with q|q
  .exact .inl q
  .exact .inr ⟨e,q.1,by omega⟩
theorem aO0 (h:Cv C L){t:Int}(hp:0<=pcq C.ps m b):Cz (dI C L m b t) L:=by
 obtain ⟨_,h1,h2,h3,h4⟩:=h.cf;unfold dI;by_cases c:C.lz.length≠0/\b≠-1
 .rw [if_pos c];refine ⟨h4,h1,hp,.inr ⟨c.2,?_⟩⟩;show 0<=hld (C.lz.set (slq C.lz m b) (true,m,b,C.tn+1)) m b/\hld (C.lz.set (slq C.lz m b) (true,m,b,C.tn+1)) m b<_;rw [aF8 c.1];have:=lW (xs:=C.lz) m b c.1;omega
 .rw [if_neg c];refine ⟨h4,h1,hp,.inl ?_⟩;show hld C.lz m b=-1;by_cases e:b=-1
  .rw [e];exact aEt h.s _
  .have:C.lz=[]:=xE (xZ.1 (fun q=>c ⟨q,e⟩));rw [this];rfl
section
variable {W:qw}{base mid:Nat}{C:Cn}{M:Mn}{Ls:List (PMod×Mb)}{β:Nat->Nat}
theorem MxO.smd (h:MxO W base mid C M Ls β)(v:Int):MxO W base mid { C with md:=v } { M with md:=v } Ls β:=⟨h.m,h.e,h.k,h.q,h.l,h.h,h.bm,h.bh,⟨h.vs.1,h.vs.2.1,h.vs.2.2.1,h.vs.2.2.2.1,h.vs.2.2.2.2.1,rfl,h.vs.2.2.2.2.2.2⟩,h.vz⟩
theorem MxO.sbk (h:MxO W base mid C M Ls β)(v:Int):MxO W base mid { C with bk:=v } { M with bk:=v } Ls β:=⟨h.m,h.e,h.k,h.q,h.l,h.h,h.bm,h.bh,⟨h.vs.1,h.vs.2.1,h.vs.2.2.1,h.vs.2.2.2.1,h.vs.2.2.2.2.1,h.vs.2.2.2.2.2.1,rfl,h.vs.2.2.2.2.2.2.2⟩,h.vz⟩
theorem MxO.spc (h:MxO W base mid C M Ls β)(v:Int):MxO W base mid { C with pc:=v } { M with pc:=v } Ls β:=⟨h.m,h.e,h.k,h.q,h.l,h.h,h.bm,h.bh,⟨h.vs.1,h.vs.2.1,h.vs.2.2.1,h.vs.2.2.2.1,rfl,h.vs.2.2.2.2.2⟩,h.vz⟩
end
theorem Mg.reg {w1 W:qw}{G:Nat}{Y:Lyb}{M:Mn}{v13 vr:Value}(h:Mg w1 W G Y C M v13 vr){gk:Nat}(e:M.ka=some (qR gk 0))(i:Nat)(hi:i<M.kn)(z:Int)(hz:wfi z):Mg w1 (W.setCell (qR gk i) (.int .i64 z)) G Y { C with kz:=C.kz.set i z } { M with kz:=C.kz.set i z } v13 vr:=by
 obtain ⟨base,mid,Ls,β,mm,q1,q2⟩:=h.m;have mk:=mm.k;rw [e] at mk;obtain ⟨cs,kb⟩:=aD mk.1 (k:=gk) rfl;have lo:=(mk.lt gk rfl).1;have bm:=mm.bm;have T:=aC W gk i (.int .i64 z);exact ⟨aG h.b T (fun j hj=>by omega) h.b.size,h.g,aF T h.k (fun s=>by have s':G=gk:=s;have k:=h.k;rw [s'] at k;exact absurd (aI kb k) (by decide)),⟨base,mid,Ls,β,mm.reg e i hi z hz,q1,q2⟩,h.l⟩
theorem aJj (h:Lok ps L)(hp:0<=pcq ps m b):0<=gB L (plc ps m.toNat) b (-1)/\gB L (plc ps m.toNat) b (-1)<=100000:=by
 have K:=jZ h
 have hm:0<=m/\m<(ps.length:Int):=by
  unfold pcq at hp;split at hp
  .assumption
  .exact absurd hp (by decide)
 have hv:=K.v m.toNat (by omega);have v4:=(bZ hv).2.2.2.1;have n4:=K.n.2;have r1:=cL K.v m.toNat (by omega);have r2:=dW hv;unfold gB;unfold pcq at hp;rw [if_pos hm] at hp;by_cases c:b=-1
 .rw [if_pos c];show 0<=Fl ps m.toNat/\Fl ps m.toNat<=100000;omega
 .rw [if_neg c] at hp;rw [if_neg c,if_pos rfl];split at hp
  .rename_i hb;have r3:=cC hv b.toNat (by omega)
   have e:(plc ps m.toNat).banks.getD b.toNat 0=Fl ps m.toNat+tsz (ps.getD m.toNat zP)+cA (ps.getD m.toNat zP) b.toNat:=by
    unfold plc;generalize ps.getD m.toNat zP=P at *;simp [xB,show b.toNat<P.bl.length by omega]
   rw [e];omega
  .exact absurd hp (by decide)
def EtP (w1 w:qw)(G:Nat)(Y:Lyb)(C:Cn)(M:Mn)(v13:Value)(m b t:Int)(e:Ending)(w':qw):Prop:=
 if C.tn<1000000000/\tgk C.ps m b t then e=.returned (.bool true)/\∃ M' vr',Mg w1 w' G Y (dI C Y.L m b t) M' v13 vr'/\TGx w w' else e=.returned (.bool false)/\∃ vr',Mg w1 w' G Y C M v13 vr'/\TGx w w'
set_option maxHeartbeats 16000000 in
theorem aH6 (w1:qw)(G:Nat)(Y:Lyb)(C:Cn)(M:Mn)(v13 vr:Value)(m b t:Int)(w:qw)(h:Mg w1 w G Y C M v13 vr)(hv:Cv C Y.L):
 qC 68 #[.pointer (some (qR G 0)),.agg (qT m b t)] w (EtP w1 w G Y C M v13 m b t):=by
 obtain ⟨V,hV,bV,kV⟩:=nwb w (qT m b t) 58;have hGw:G<w.heap.size:=h.k.lt;have HRA:=zh (aHb w1 G Y C M v13 vr V (h.bw bV));have HTB:=zh (fun (X:qw) (hX:TGx V X)=>show X.cell? (qR w.heap.size 0)=some (.int .i64 m)/\X.cell? (qR w.heap.size 1)=some (.int .i64 b)/\X.cell? (qR w.heap.size 2)=some (.int .i64 t) from ⟨(hX.blk kV (by unfold gkd;decide)).cell 0,(hX.blk kV (by unfold gkd;decide)).cell 1,(hX.blk kV (by unfold gkd;decide)).cell 2⟩);have HTK:=zh (fun (X:qw) (vr':Value) (hX:Mg w1 X G Y C M v13 vr')=>aGx w1 G Y C M v13 vr' m b t X hX hv.cf.2.1);have HV:=zh hV;obtain ⟨y0,y1,y2,_⟩:=kV.three;have HKV:=zh kV;have HTV:=zh (bC bV);clear hV bV kV;by_cases c0:C.tn<1000000000/\tgk C.ps m b t
 .refine Calls.mono (R:=fun e w'=>e=.returned (.bool true)/\∃ M' vr',Mg w1 w' G Y (dI C Y.L m b t) M' v13 vr'/\TGx w w') ?_ (fun e w' he=>by unfold EtP;rw [if_pos c0];exact he);rw [xR c0] at HTK;obtain ⟨ht,hp,t0,t1⟩:=c0;obtain ⟨_,hn4,hcs,hlz,hLk⟩:=hv.cf;have hz3:=aO0 (t:=t) hv hp;have KN:=rW (s:=0) h.l hLk hp;have hn3:¬ G=w.heap.size:=by omega
  have hn4':¬ w.heap.size=G:=by omega
  have hcs1:=h.vs.1.1;have hk8:=hv.g;have HDO:=zh (fun (X:qw) (M':Mn) (vr':Value) (hX:Mg w1 X G Y (dI C Y.L m b t) M' v13 vr')=>(oC w1 G Y _ M' v13 vr' X hX hz3).2 .returning);by_cases K:C.lz.length≠0/\b≠-1
  focus
   have hb:0<=b:=by have:=KN.bb;omega
   have HBI:=zh (fun (X:qw) (g:Nat) (hX:Mg w1 X G Y C M v13 (.slice (some (qR g 0)) 1 1)) (hr:Blk X g #[.int .i64 65536,.int .i64 14,.int .i64 0,.bool false,.bool true,.bool false] 214)=>aDa w1 G g Y C M v13 m b t X hX hr hv hp hb K.1 ht);have hc1:(M.cs !=0)=true:=by rw [hcs1];simp;omega
   have hc2:(b !=-1)=true:=by simp [K.2]
   have HSQ:=zh (show 65536<=Y.L.slots.getD (slq C.lz m b) 0/\Y.L.slots.getD (slq C.lz m b) 0<=100000 from by have:=hv.slot (lW (xs:=C.lz) m b K.1);omega);clear hv
   go_enter_defers func68,ntmps68
   go_wp2_with (rw [<- HV.o])
   refine HRA.o.mono ?_;rintro e X1 ⟨rfl,g,h1,k1,T1⟩;have HE1:=zh (xA h1 (xA k1 T1));obtain ⟨z0,z1,z2⟩:=HTB.o X1 T1;clear y0 y1 y2 h1 k1 T1 HRA HV;go_wp2_with fail
   refine (HTK.o X1 _ HE1.o.1).mono ?_;rintro e X2 ⟨rfl,hb2⟩;have HE2:=zh (xA (HE1.o.1.bw hb2) (xA (HE1.o.2.1.bw hb2) (HE1.o.2.2.trans (bC hb2))));clear hb2 z0 z1 z2 HE1;obtain ⟨z0,z1,z2⟩:=HTB.o X2 HE2.o.2.2;have x1:X2.cell? (qR G 1)=some (.int .i64 M.cs):=HE2.o.1.k.cell 1;go_wp2_with fail
   refine (HBI.o X2 g HE2.o.1 HE2.o.2.1).mono ?_;rintro e X3 ⟨rfl,oa,on,oc,h3⟩;obtain ⟨h3,T3⟩:=h3;obtain ⟨C1,hC1⟩:∃ C1:Cn,C1={ C with tn:=C.tn+1,lz:=C.lz.set (slq C.lz m b) (true,m,b,C.tn+1),rz:=ovr C.rz (Y.L.slots.getD (slq C.lz m b) 0-65536).toNat (bkb C.ps C.cw m b) }:=⟨_,rfl⟩;obtain ⟨M1,hM1⟩:∃ M1:Mn,M1={ M with tn:=C.tn+1,lz:=C.lz.set (slq C.lz m b) (true,m,b,C.tn+1),rz:=ovr C.rz (Y.L.slots.getD (slq C.lz m b) 0-65536).toNat (bkb C.ps C.cw m b),oa:=oa,on:=on,oc:=oc,oz:=C.oz }:=⟨_,rfl⟩;rw [<- hC1,<- hM1] at h3;have hC1k:C1.kz=C.kz:=by rw [hC1]
   have hC1p:C1.ps=C.ps:=by rw [hC1]
   obtain ⟨S,hS⟩:∃ S:Int,S=((slq C.lz m b:Nat):Int):=⟨_,rfl⟩;have hC1s:hld C1.lz m b=S:=by rw [hC1,hS];exact aF8 K.1 _
   have hSfit:S=-1\/(b≠-1/\0<=S/\S<(Y.L.slots.length:Int)):=.inr ⟨K.2,by omega,by have:=lW (xs:=C.lz) m b K.1;omega⟩
   have hSb:0<=gB Y.L (plc C.ps m.toNat) b S/\gB Y.L (plc C.ps m.toNat) b S<=100000:=by
    unfold gB;rw [if_neg K.2,if_neg (by omega),hS,xY];have:=HSQ.o;omega
   have HE:=zh (xA h3 (HE2.o.2.2.trans T3));have HFN:=zh (show { C1 with md:=m,bk:=b,pc:=gB Y.L (plc C.ps m.toNat) b S+4*t,kz:=C1.kz.set 7 (plc C.ps m.toNat).data }=dI C Y.L m b t by rw [hC1,hS];unfold dI;rw [if_pos K]);clear h3 T3 z0 z1 z2 x1 hC1 hM1;obtain ⟨z0,z1,z2⟩:=HTB.o X3 HE.o.2
  rotate_left
  focus
   have hK:C.lz.length=0\/b=-1:=by
    by_cases q:b=-1
    .exact .inr q
    .exact .inl (xZ.1 (fun q'=>K ⟨q',q⟩))
   have hcc:(M.cs !=0)=false\/((M.cs !=0)=true/\(b !=-1)=false):=by
    by_cases q:M.cs=0
    .exact .inl (by simp [q])
    .refine .inr ⟨by simp [q],?_⟩;rcases hK with hK|hK
     .exact absurd (by omega) q
     .simp [hK]
   obtain ⟨C1,hC1⟩:∃ C1:Cn,C1=C:=⟨_,rfl⟩;obtain ⟨M1,hM1⟩:∃ M1:Mn,M1=M:=⟨_,rfl⟩;obtain ⟨S,hS⟩:∃ S:Int,S=-1:=⟨_,rfl⟩
   have HC1s:=zh (show hld C1.lz m b=S by
    rw [hC1,hS];rcases hK with hK|hK
    .rw [xE hK];rfl
    .rw [hK];exact aEt hv.s _)
   have HSfit:Zh (S=-1\/(b≠-1/\0<=S/\S<(Y.L.slots.length:Int))):=.inl hS;have HSb:=zh (show 0<=gB Y.L (plc C.ps m.toNat) b S/\gB Y.L (plc C.ps m.toNat) b S<=100000 by rw [hS];exact aJj hLk hp);have HFN:=zh (show { C1 with md:=m,bk:=b,pc:=gB Y.L (plc C.ps m.toNat) b S+4*t,kz:=C1.kz.set 7 (plc C.ps m.toNat).data }=dI C Y.L m b t by rw [hC1,hS];unfold dI;rw [if_neg K]);have HM1:=zh (xA hC1 hM1);have HS:=zh hS;clear hv hK K hC1 hM1 hS hcs1;rcases hcc with hc1|⟨hc1,hc2⟩
   all_goals
    go_enter_defers func68,ntmps68
    go_wp2_with (rw [<- HV.o])
    refine HRA.o.mono ?_;rintro e X1 ⟨rfl,g,h1,k1,T1⟩;have HE1:=zh (xA h1 T1);obtain ⟨z0,z1,z2⟩:=HTB.o X1 T1;clear y0 y1 y2 h1 k1 T1 HRA HV;go_wp2_with fail
    refine (HTK.o X1 _ HE1.o.1).mono ?_;rintro e X3 ⟨rfl,hb2⟩;have HE:Zh (Mg w1 X3 G Y C1 M1 v13 (.slice (some (qR g 0)) 1 1)/\TGx V X3):=⟨by rw [HM1.o.1,HM1.o.2];exact HE1.o.1.bw hb2,HE1.o.2.trans (bC hb2)⟩;clear hb2 z0 z1 z2 HE1;obtain ⟨z0,z1,z2⟩:=HTB.o X3 HE.o.2;have x1:X3.cell? (qR G 1)=some (.int .i64 M.cs):=by rw [<- HM1.o.2];exact HE.o.1.k.cell 1
    have hC1k:C1.kz=C.kz:=by rw [HM1.o.1]
    have hC1p:C1.ps=C.ps:=by rw [HM1.o.1]
    have hC1s:=HC1s.o;have hSfit:=HSfit.o;have hSb:=HSb.o;have hS:=HS.o
  all_goals
   have e3:C1.kz.length=8:=by rw [hC1k];exact hk8
   obtain ⟨gk,hgk,hgkn⟩:∃ gk,M1.ka=some ⟨gk,0,none⟩/\M1.kn=8:=by
    obtain ⟨base,mid,Ls,β,mm,_⟩:=HE.o.1.m;have hl:=mB mm.k;obtain ⟨g',cp,e,_⟩:=World.ownsRow.form mm.k.1 (by omega);simp only [Value.slice.injEq] at e;exact ⟨g',e.1,by omega⟩
   have x10:X3.cell? (qR G 10)=some (.int .i64 M1.md):=HE.o.1.k.cell 10;have x11:X3.cell? (qR G 11)=some (.int .i64 M1.bk):=HE.o.1.k.cell 11;have f1:=HE.o.1.k.frozen;obtain ⟨X4,hX4⟩:=eqx (((X3.setCell ⟨G,10,none⟩ (.int .i64 m)).setCell ⟨G,11,none⟩ (.int .i64 b)).drew);have h4:Mg w1 X4 G Y { C1 with md:=m,bk:=b } { M1 with md:=m,bk:=b } v13 (.slice (some (qR g 0)) 1 1):=by rw [hX4];exact ((HE.o.1.put 10 (.int .i64 m) rfl (fun x=>x.smd m)).put 11 (.int .i64 b) rfl (fun x=>x.sbk b)).bw brf.drew
   have T4:TGx V X4:=by rw [hX4];exact (HE.o.2.trans (dR ((aC _ G 10 _).trans (aC _ G 11 _)) (fun j hj=>by subst hj;exact ⟨_,_,HE.o.1.k,.inr (.inl rfl)⟩))).trans (bC brf.drew)
   have HX4:=zh hX4;have HE4:=zh (xA h4 T4);have HSL:=zh (fun (X:qw) (hX:qY X4 X)=>(aBu w1 G Y _ _ v13 (.slice (some (qR g 0)) 1 1) X (h4.bw hX)).mono (fun e w' he=>show e=.returned (.int .i64 S)/\qY X4 w' from ⟨by rw [he.1];show Ending.returned (.int .i64 (hld C1.lz m b))=_;rw [hC1s],hX.trans (he.2.mono hX.size)⟩));obtain ⟨Z,hZ⟩:=eqx (gB Y.L (plc C.ps m.toNat) b S)
   have HOR:=zh (fun (X:qw) (hX:qY X4 X)=>(mS Y.L Y.a0 Y.c0 Y.xs Y.a2 Y.c2 Y.a5 Y.c5 Y.ts m b t S X (h4.bw hX).ly KN.m0 KN.m1 KN.bb hSfit).mono (fun e w' he=>show e=.returned (.int .i64 Z)/\qY X4 w'/\((w'.setCell (qR G 5) (.int .i64 (Z+4*t))).cell? (qR G 15)=some (.slice Y.a0 Y.xs.length Y.c0)/\(w'.setCell (qR G 5) (.int .i64 (Z+4*t))).cell? (qR G 16)=some (.int .i64 Y.L.stack)/\(w'.setCell (qR G 5) (.int .i64 (Z+4*t))).cell? (qR G 17)=some (.slice Y.a2 Y.L.slots.length Y.c2)/\(w'.setCell (qR G 5) (.int .i64 (Z+4*t))).cell? (qR G 18)=some (.int .i64 Y.L.flash)/\(w'.setCell (qR G 5) (.int .i64 (Z+4*t))).cell? (qR G 19)=some (.int .i64 Y.L.ram)/\(w'.setCell (qR G 5) (.int .i64 (Z+4*t))).cell? (qR G 20)=some (.slice Y.a5 Y.ts.length Y.c5))/\(w'.cell? (qR G 5)=some (.int .i64 M1.pc)/\w'.frozen? (qR G 5)=false) from by
    have hb:=hX.trans (he.2.mono hX.size);have q:=(h4.bw hb);have q5:=q.put 5 (.int .i64 (Z+4*t)) rfl (fun x=>x.spc (Z+4*t))
    exact ⟨by rw [he.1,hZ,aJi,KN.p],hb,⟨q5.k.cell 15,q5.k.cell 16,q5.k.cell 17,q5.k.cell 18,q5.k.cell 19,q5.k.cell 20⟩,q.k.cell 5,q.k.frozen 5⟩))
   have HC:=zh (fun (X:qw) (hX:qY X4 X)=>show (X.cell? (qR G 15)=some (.slice Y.a0 Y.xs.length Y.c0)/\X.cell? (qR G 16)=some (.int .i64 Y.L.stack)/\X.cell? (qR G 17)=some (.slice Y.a2 Y.L.slots.length Y.c2)/\X.cell? (qR G 18)=some (.int .i64 Y.L.flash)/\X.cell? (qR G 19)=some (.int .i64 Y.L.ram)/\X.cell? (qR G 20)=some (.slice Y.a5 Y.ts.length Y.c5))/\X.cell? (qR w.heap.size 0)=some (.int .i64 m)/\X.cell? (qR w.heap.size 1)=some (.int .i64 b)/\X.cell? (qR w.heap.size 2)=some (.int .i64 t) from ⟨⟨(h4.bw hX).k.cell 15,(h4.bw hX).k.cell 16,(h4.bw hX).k.cell 17,(h4.bw hX).k.cell 18,(h4.bw hX).k.cell 19,(h4.bw hX).k.cell 20⟩,HTB.o X (T4.trans (bC hX))⟩);have HFN2:=zh (show { C1 with md:=m,bk:=b,pc:=Z+4*t,kz:=C1.kz.set 7 (plc C.ps m.toNat).data }=dI C Y.L m b t by rw [hZ];exact HFN.o);have hz0:0<=Z:=by rw [hZ];exact hSb.1
   have hz1:Z<=100000:=by rw [hZ];exact hSb.2
   have ht2:t<=200:=by have:=KN.w.2;omega
   have hw1:IntKind.i64.wrap (4*t)=4*t:=by rw [xP,xQ _ (by omega)]
   have hw2:IntKind.i64.wrap (Z+4*t)=Z+4*t:=by rw [xP,xQ _ (by omega)]
   have hmm:=xA KN.m0 KN.m1;have hdd:=xA KN.d.1 KN.d.2.1
   have HPC:=zh (fun (X:qw) (hX:qY w1 X)=>show ∃ gp op,Y.a0=some (qR gp op)/\gp<w1.heap.size/\X.cell? (qR gp (op+m.toNat*4+2))=some (.int .i64 (plc C.ps m.toNat).data) from by
    obtain ⟨gp,op,e,_,_,q2,_⟩:=h.l.p.at m.toNat (by have:=KN.m0;have:=KN.m1;omega);rw [KN.p] at q2
    exact ⟨gp,op,e,xD w1 _ q2,aB hX q2⟩)
   have hax:=h.l.p.2.1;unfold maxLen at hax;clear h h4 T4 hX4 hC1k hC1p hC1s hZ hSfit hSb HFN KN hz3 hLk hcs hlz hn4 hS e3;generalize (plc C.ps m.toNat).data=dd at *;go_wp2_with fail
   go_region_held3 (fun w'=>w'.cell? (qR w.heap.size 0)=some (.int .i64 m)/\w'.cell? (qR w.heap.size 1)=some (.int .i64 b)/\w'.cell? (qR w.heap.size 2)=some (.int .i64 t)) (go_keep) (fail)
   rw [<- HX4.o];obtain ⟨⟨l0,l1,l2,l3,l4,l5⟩,z0',z1',z2'⟩:=HC.o X4 brf;clear x10 x11 f1 z0 z1 z2 HX4 HE;go_wp2_with fail
   go_region_held3 (fun w'=>(w'.cell? (qR G 15)=some (.slice Y.a0 Y.xs.length Y.c0)/\w'.cell? (qR G 16)=some (.int .i64 Y.L.stack)/\w'.cell? (qR G 17)=some (.slice Y.a2 Y.L.slots.length Y.c2)/\w'.cell? (qR G 18)=some (.int .i64 Y.L.flash)/\w'.cell? (qR G 19)=some (.int .i64 Y.L.ram)/\w'.cell? (qR G 20)=some (.slice Y.a5 Y.ts.length Y.c5))/\w'.cell? (qR w.heap.size 0)=some (.int .i64 m)/\w'.cell? (qR w.heap.size 1)=some (.int .i64 b)/\w'.cell? (qR w.heap.size 2)=some (.int .i64 t)) (go_keep)
    (first
      | (go_at_call 131;first
          | with_reducible refine (HSL.o _ brf).mono ?_
          | with_reducible refine (HSL.o _ brf.drew).mono ?_
         rintro e Xa ⟨rfl,hba⟩
         obtain ⟨⟨l0,l1,l2,l3,l4,l5⟩,z0',z1',z2'⟩:=HC.o Xa hba)
      | (go_at_call 130;with_reducible refine (HOR.o _ hba).mono ?_
         rintro e Xb ⟨rfl,hbb,⟨m0,m1,m2,m3,m4,m5⟩,p5,pf5⟩
         obtain ⟨⟨l0,l1,l2,l3,l4,l5⟩,z0',z1',z2'⟩:=HC.o Xb hbb))
   have hg5:Mg w1 Xb G Y { C1 with md:=m,bk:=b } { M1 with md:=m,bk:=b } v13 (.slice (some (qR g 0)) 1 1):=HE4.o.1.bw hbb;obtain ⟨X5,hX5⟩:=eqx (Xb.setCell ⟨G,5,none⟩ (.int .i64 (Z+4*t)));have h5:Mg w1 X5 G Y { C1 with md:=m,bk:=b,pc:=Z+4*t } { M1 with md:=m,bk:=b,pc:=Z+4*t } v13 (.slice (some (qR g 0)) 1 1):=by rw [hX5];exact hg5.put 5 (.int .i64 (Z+4*t)) rfl (fun x=>x.spc (Z+4*t))
   have T5:TGx V X5:=by rw [hX5];exact (HE4.o.2.trans (bC hbb)).trans (dR (aC _ G 5 _) (fun j hj=>by subst hj;exact ⟨_,_,hg5.k,.inr (.inl rfl)⟩))
   have x6:X5.cell? (qR G 6)=some (.slice (some (qR gk 0)) 8 M1.kc):=by have q:=h5.k.cell 6;rw [q];show some (Value.slice M1.ka M1.kn M1.kc)=_;rw [hgk,hgkn]
   obtain ⟨gp,op,ea0,hgp,xd⟩:=HPC.o X5 h5.b;have x15:X5.cell? (qR G 15)=some (.slice (some (qR gp op)) Y.xs.length Y.c0):=by rw [<- ea0];exact h5.k.cell 15
   obtain ⟨y0,_,_⟩:=HTB.o X5 T5
   obtain ⟨⟨u,x7⟩,xf,hkG,hkw,hk1,kgs,kgk⟩:(∃ u,X5.cell? ⟨gk,7,none⟩=some u)/\(∀ i,X5.frozen? ⟨gk,i,none⟩=false)/\gk≠G/\gk≠w.heap.size/\w1.heap.size<=gk/\∃ cs,Blk X5 gk cs 3:=by
    obtain ⟨base,mid,Ls,β,mm,q1,q2⟩:=h5.m;have mk:=mm.k;have mk':OI X5 mid (.slice (some (qR gk 0)) M1.kn M1.kc) C1.kz:=by rw [<- hgk];exact mk
    obtain ⟨cs,kb⟩:=aD mk'.1 (k:=gk) rfl;have lo:=(mk'.lt gk rfl).1;have bm:=mm.bm;refine ⟨⟨_,mk'.is.at 7 (by omega)⟩,kb.frozen,fun e=>?_,fun e=>?_,by omega,cs,kb⟩
    .subst e;exact absurd (aI kb h5.k) (by decide)
    .have kt:=T5.blk HKV.o (by unfold gkd;decide);rw [<- e] at kt;exact absurd (aI kb kt) (by decide)
   have hn5:¬ gk=G:=hkG;have hn6:¬ G=gk:=fun e=>hkG e.symm;have hn7:¬ gk=w.heap.size:=hkw;have hn8:¬ w.heap.size=gk:=fun e=>hkw e.symm;have hn9:¬ gk=gp:=by omega
   have hn10:¬ gp=gk:=by omega
   have h6:Mg w1 (X5.setCell (qR gk 7) (.int .i64 dd)).drew G Y (dI C Y.L m b t) { M1 with md:=m,bk:=b,pc:=Z+4*t,kz:=C1.kz.set 7 dd } v13 (.slice (some (qR g 0)) 1 1):=by
    rw [<- HFN2.o];exact (h5.reg hgk 7 (by show 7<M1.kn;omega) dd (by unfold wfi;omega)).bw brf.drew
   have HE6:=zh (xA h6 ((T5.trans (dR (aC _ gk 7 (.int .i64 dd)) (fun j hj=>by subst hj;exact ⟨_,_,kgk,.inr (.inr (.inr rfl))⟩))).trans (bC brf.drew)));have HX5:=zh hX5;clear h5 T5 h6 kgk kgs hg5 hX5 HE4 hkG hkw hk1 ea0 hba hbb l0 l1 l2 l3 l4 l5 z0' z1' z2' HC HOR HSL HPC HFN2 HTB;go_wp2_with (rw [<- HX5.o])
   clear m0 m1 m2 m3 m4 m5 p5 pf5
   go_region_held3 (fun w'=>w'.cell? (qR G 6)=some (.slice (some (qR gk 0)) 8 M1.kc)/\w'.cell? (qR G 15)=some (.slice (some (qR gp op)) Y.xs.length Y.c0)/\w'.cell? (qR w.heap.size 0)=some (.int .i64 m)/\w'.cell? (qR gp (op+m.toNat*4+2))=some (.int .i64 dd)) (go_keep) (fail)
   go_wp2;refine leaves_cons (f:=91) (args:=#[.pointer (some (qR G 0))]) (by simp) (by simp [go_sem]) ?_;refine (HDO.o _ _ _ HE6.o.1).mono ?_;rintro e u' w'' ⟨rfl,rfl,A,k,c,hM,_,hT⟩;exact ⟨_,results_tmp rfl _ _ _,rfl,_,_,hM,HTV.o.trans (HE6.o.2.trans (dR hT (fun j hj=>by subst hj;exact ⟨_,_,HE6.o.1.k,.inr (.inl rfl)⟩)))⟩
 .refine Calls.mono (R:=fun e w'=>e=.returned (.bool false)/\∃ vr',Mg w1 w' G Y C M v13 vr'/\TGx w w') ?_ (fun e w' he=>by unfold EtP;rw [if_neg c0];exact he);rw [xS c0] at HTK;have HDO:=zh (fun (X:qw) (vr':Value) (hX:Mg w1 X G Y C M v13 vr')=>(oC w1 G Y C M v13 vr' X hX hv.cz).2 .returning);clear h hv c0
  go_enter_defers func68,ntmps68
  go_wp2_with (rw [<- HV.o])
  refine HRA.o.mono ?_;rintro e X1 ⟨rfl,g,h1,k1,T1⟩;have HE1:=zh (xA h1 (xA k1 T1));obtain ⟨z0,z1,z2⟩:=HTB.o X1 T1;clear y0 y1 y2 h1 k1 T1 HRA HV;go_wp2_with fail
  refine (HTK.o X1 _ HE1.o.1).mono ?_;rintro e X2 ⟨rfl,hb2⟩;have HE2:=zh (xA (HE1.o.1.bw hb2) (HE1.o.2.2.trans (bC hb2)));clear hb2 z0 z1 z2;go_wp2;refine leaves_cons (f:=91) (args:=#[.pointer (some (qR G 0))]) (by simp) (by simp [go_sem]) ?_;refine (HDO.o _ _ HE2.o.1).mono ?_;rintro e u' w'' ⟨rfl,rfl,A,k,c,hM,_,hT⟩;exact ⟨_,results_tmp rfl _ _ _,rfl,_,hM,HTV.o.trans (HE2.o.2.trans (dR hT (fun j hj=>by subst hj;exact ⟨_,_,HE2.o.1.k,.inr (.inl rfl)⟩)))⟩
