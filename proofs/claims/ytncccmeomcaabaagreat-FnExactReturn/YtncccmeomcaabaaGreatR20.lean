import Derived.Laws.CopyOwn
import Derived.Laws.AppendOwnNone
import Derived.Test.YtncccmeomcaabaaGreatR16
import Derived.Test.YtncccmeomcaabaaGreatR13
set_option linter.all false
set_option maxHeartbeats 8000000
namespace Go.Proofs.YtncccmeomcaabaaGreat
open Go.RowKit Classical
open Go.Proofs.Tryz
set_option maxRecDepth 100000
variable {L:List (Hd×Ct)}{N b base base' c c0 c1 c2 c3 c5 c6 c7 cap g gm i j k m n o sz:Nat}{P:PMod}{Q S:Nat->Prop}{a a0 a1 a2 a3 a5 a6 a7:qO}{bl:List Bk}{c':Ct}{cs:Array Value}{es:List Ex}{hs:List Hd}{ss:List ByteArray}{ts:List TB}{v v' v1 v2 v3' v4' v5' v6' v7':Value}{x:Hd}{xs:List Value}{β:Nat->Nat}
structure Mkg (w W:qw)(base:Nat)(Q:Nat->Prop)(v:Value)(hs:List Hd)(L:List (Hd×Ct))(β:Nat->Nat)(k m:Nat):Prop where
 o:OMs W base v L β
 h:L.map (fun x=>x.1)=hs
 d:∀ i,i<m->L[i]?=some (hs.getD i zHd,mkC (hs.getD i zHd) (k+upS (fun j=>aY (hs.getD j zHd)) i))
 t:Turn Q w W
theorem aNw (h:L.map (fun x=>x.1)=hs)(hm:m<hs.length):∃ c,L[m]?=some (hs.getD m zHd,c):=by
 subst h;rw [xH] at hm;exact ⟨L[m].2,by simp [xB,hm]⟩
theorem aJ5 (h:L.map (fun x=>x.1)=hs){c:Ct}(hx:L[i]?=some (x,c)):(L.set i (x,c')).map (fun x=>x.1)=hs:=by
 subst h;apply List.ext_getElem?;intro n;rw [List.getElem?_map,List.getElem?_map,List.getElem?_set];by_cases e:i=n
 .subst e;rw [if_pos rfl,if_pos (dH hx),hx];rfl
 .rw [if_neg e]
theorem aKm {α:Type}{L:List α}{x x':α}(h:L[i]?=some x):(L.set i x')[i]?=some x':=by rw [List.getElem?_set_self (dH h)]
structure Mkm (w W:qw)(base:Nat)(Q:Nat->Prop)(g n cap:Nat)(hs:List Hd)(L:List (Hd×Ct))(β:Nat->Nat)(k m:Nat)(x:Hd)(c:Ct):Prop where
 o:OMs W base (qS (qP g) n cap) L β
 h:L.map (fun x=>x.1)=hs
 d:∀ i,i<m->L[i]?=some (hs.getD i zHd,mkC (hs.getD i zHd) (k+upS (fun j=>aY (hs.getD j zHd)) i))
 t:Turn Q w W
 x:L[m]?=some (x,c)
theorem Mkm.bw {w W W':qw}{c:Ct}(H:Mkm w W base Q g n cap hs L β k m x c)(hb:qY W W'):Mkm w W' base Q g n cap hs L β k m x c:=⟨H.o.bw hb,H.h,H.d,H.t.trans (aJ hb),H.x⟩
theorem Mkm.mod {w W W':qw}{c:Ct}(H:Mkm w W base Q g n cap hs L β k m x c)(M':M6h W' (β m) (x,c'))(e:clH (x,c')=clH (x,c))(hS:∀ j,S j->Sh x j)(hb:∀ j,Sh x j->Q j)(T:Turn S W W'):Mkm w W' base Q g n cap hs (L.set m (x,c')) β k m x c':=
 ⟨H.o.mod H.x M' e hS T,aJ5 H.h H.x,fun i hi=>by rw [List.getElem?_set_ne (by omega)];exact H.d i hi,H.t.trans (T.mono (fun j s=>hb j (hS j s))),aKm H.x⟩
theorem Mkm.cell {w W:qw}{c:Ct}(H:Mkm w W base Q g n cap hs L β k m x c)(hn:L.length=n)(j:Nat)(hj:j<8)(u:Value)(e:clH (x,c')=(clH (x,c)).set j u)(hM:M6h W (β m) (x,c'))(hg:Q g):Mkm w (W.setCell (qR g (m*8+j)) u) base Q g n cap hs (L.set m (x,c')) β k m x c':=
 ⟨H.o.cell hn H.x j hj u e hM,aJ5 H.h H.x,fun i hi=>by rw [List.getElem?_set_ne (by omega)];exact H.d i hi,H.t.trans ((aC W g _ u).mono (fun j s=>by subst s;exact hg)),aKm H.x⟩
theorem nZ (g n cap base k:Nat)(Q:Nat->Prop)(hs:List Hd)(L:List (Hd×Ct))(β:Nat->Nat)(w:qw)(H:OMs w base (qS (qP g) n cap) L β)(hL:L.map (fun x=>x.1)=hs)(hl:L.length=n)(h0:0<k)(hz:k+upS (fun j=>aY (hs.getD j zHd)) n<=4194305)(hb:∀ i,i<n->(hs.getD i zHd).bn<=1048576)(hn:n<=1048576)(hg:Q g)(hsh:∀ i,i<n->∀ j,Sh (hs.getD i zHd) j->Q j):
 qC 48 #[qS (qP g) n cap,qI k] w fun e w'=>e=.returned (qI ((k+upS (fun j=>aY (hs.getD j zHd)) n:Nat):Int))/\∃ L',Mkg w w' base Q (qS (qP g) n cap) hs L' β k n:=by
 have hsl:hs.length=n:=by rw [<- hL,xH,hl]
 have HH:=zh (xA H hL);clear H hL hl;go_enter func48,ntmps48
 go_wp2;go_loopw [1,5] (fun x i wr=>∃ m:Nat,m<=n/\i=qI m/\x=qI ((k+upS (fun j=>aY (hs.getD j zHd)) m:Nat):Int)/\∃ L',Mkg w wr base Q (qS (qP g) n cap) hs L' β k m) (fun _ i _=>n-(intOf i).toNat)
 .exact ⟨0,xC _,rfl,rfl,L,HH.o.1,HH.o.2,fun i hi=>absurd hi (Nat.not_lt_zero _),Turn.refl _ _⟩
 .obtain ⟨m,hm,rfl,rfl,L',R⟩:=hrel;by_cases hlt:m<n
  .have hlt':(m:Int)<(n:Int):=by omega
   obtain ⟨c,hc⟩:=aNw R.h (show m<hs.length by omega);have y7:=hb m hlt;have hle:aY (hs.getD m zHd)+upS (fun j=>aY (hs.getD j zHd)) m<=upS (fun j=>aY (hs.getD j zHd)) n:=yL (fun j=>aY (hs.getD j zHd)) n m hlt;have HSU:Zh (upS (fun j=>aY (hs.getD j zHd)) (m+1)=upS (fun j=>aY (hs.getD j zHd)) m+aY (hs.getD m zHd)):=rfl;have HSH:=zh (hsh m hlt);have HCN:Zh (aY (hs.getD m zHd)=2+(hs.getD m zHd).tn+bJ (hs.getD m zHd).f (hs.getD m zHd).bn+(hs.getD m zHd).dn+(hs.getD m zHd).rn+(hs.getD m zHd).im+3*(hs.getD m zHd).en):=rfl;have HX:Zh (Mkm w wr base Q g n cap hs L' β k m (hs.getD m zHd) c):=zh ⟨R.o,R.h,R.d,R.t,hc⟩;have HLN:Zh (∀ (L:List (Hd×Ct)),L.map (fun x=>x.1)=hs->L.length=n):=fun L h=>by rw [<- hsl,<- h,xH]
   have HFI:=zh (fun (W:qw) (L2:List (Hd×Ct)) (c2:Ct) (Z:Mkm w W base Q g n cap hs L2 β k m (hs.getD m zHd) c2) (e:c2=mkC (hs.getD m zHd) (k+upS (fun j=>aY (hs.getD j zHd)) m))=>(⟨Z.o,Z.h,fun i hi=>by
    by_cases q:i=m
    .subst q;rw [Z.x,e]
    .exact Z.d i (by omega),Z.t⟩:Mkg w W base Q (qS (qP g) n cap) hs L2 β k (m+1)))
   have HMK:Zh (mkC (hs.getD m zHd) (k+upS (fun j=>aY (hs.getD j zHd)) m)=mkC (hs.getD m zHd) (k+upS (fun j=>aY (hs.getD j zHd)) m)):=rfl;clear R hc hsh HH;generalize upS (fun j=>aY (hs.getD j zHd)) m=sm at *;generalize hs.getD m zHd=q at *;have hC:=HCN.o;clear HMK HCN;generalize hsb:bJ q.f q.bn=sb at *;have HSB:=zh hsb;generalize aY q=cm at *;obtain ⟨nm,T,X,D,s,R,I,E⟩:=c;go_wp2_with fail
   refine (dK (k+sm) wr).mono ?_;rintro e w1 ⟨rfl,hb1⟩;have Z1:=HX.o.bw hb1;obtain ⟨⟨p0,p1,p2,p3,p4,p5,p6,p7⟩,pf⟩:=Z1.o.at Z1.x;have f0:=pf (m*8);have Z2:=Z1.cell (c':=⟨mtx (k+sm),T,X,D,s,R,I,E⟩) (HLN.o _ Z1.h) 0 (by omega) (.string (mtx (k+sm))) rfl (Z1.o.m m _ Z1.x).1 hg;simp only [Nat.add_zero] at Z2;clear HX Z1 hb1 p1 p2 p3 p4 p5 p6 p7 pf hsb;obtain ⟨⟨_,q1,_⟩,_⟩:=Z2.o.at Z2.x;go_wp2_with fail
   refine (fT q.a1 q.tn q.c1 (β m) _ (k+sm+1) _ (Z2.o.m m _ Z2.x).1.t).mono ?_;rintro e w2 ⟨rfl,O,U⟩;have Z3:=Z2.mod (c':=⟨mtx (k+sm),bE (k+sm+1) q.tn,X,D,s,R,I,E⟩) ((Z2.o.m m _ Z2.x).1.set_t O U) rfl (fun j s=>.inl s) HSH.o U;clear Z2 O U q1 p0 f0;obtain ⟨⟨_,_,q2,_⟩,_⟩:=Z3.o.at Z3.x;go_wp2_with fail
   refine (vF q.a2 q.bn q.c2 (k+sm+1+q.tn) (β m) q.f _ _ (Z3.o.m m _ Z3.x).1.b (by omega) (by rw [HSB.o];omega) (by omega)).mono ?_;rw [HSB.o];rintro e w3 ⟨rfl,O,U⟩;have Z4:=Z3.mod (c':=⟨mtx (k+sm),bE (k+sm+1) q.tn,mrk (k+sm+1+q.tn) q.f,D,s,R,I,E⟩) ((Z3.o.m m _ Z3.x).1.set_b O U) rfl (fun j s=>.inr (.inl s)) HSH.o U;clear Z3 O U q2;obtain ⟨⟨_,_,_,q3,_⟩,_⟩:=Z4.o.at Z4.x;go_wp2_with fail
   refine (eN q.a3 q.dn q.c3 (β m) _ (k+sm+1+q.tn+sb) _ (Z4.o.m m _ Z4.x).1.d).mono ?_;rintro e w4 ⟨rfl,O,U⟩;have Z5:=Z4.mod (c':=⟨mtx (k+sm),bE (k+sm+1) q.tn,mrk (k+sm+1+q.tn) q.f,cH (k+sm+1+q.tn+sb) q.dn,s,R,I,E⟩) ((Z4.o.m m _ Z4.x).1.set_d O U) rfl (fun j s=>.inr (.inr (.inl s))) HSH.o U;clear Z4 O U q3;obtain ⟨⟨_,_,_,_,q4,_⟩,qf⟩:=Z5.o.at Z5.x;have f4:=qf (m*8+4);have Z6:=Z5.cell (c':=⟨mtx (k+sm),bE (k+sm+1) q.tn,mrk (k+sm+1+q.tn) q.f,cH (k+sm+1+q.tn+sb) q.dn,((k+sm+1+q.tn+sb+q.dn:Nat):Int),R,I,E⟩) (HLN.o _ Z5.h) 4 (by omega) (qI ((k+sm+1+q.tn+sb+q.dn:Nat):Int)) rfl (Z5.o.m m _ Z5.x).1 hg;clear Z5 qf;obtain ⟨⟨_,_,_,_,_,q5,_⟩,_⟩:=Z6.o.at Z6.x;go_wp2_with fail
   refine (fT q.a5 q.rn q.c5 (β m) _ (k+sm+1+q.tn+sb+q.dn+1) _ (Z6.o.m m _ Z6.x).1.r).mono ?_;rintro e w5 ⟨rfl,O,U⟩;have Z7:=Z6.mod (c':=⟨mtx (k+sm),bE (k+sm+1) q.tn,mrk (k+sm+1+q.tn) q.f,cH (k+sm+1+q.tn+sb) q.dn,((k+sm+1+q.tn+sb+q.dn:Nat):Int),bE (k+sm+1+q.tn+sb+q.dn+1) q.rn,I,E⟩) ((Z6.o.m m _ Z6.x).1.set_r O U) rfl (fun j s=>.inr (.inr (.inr (.inl s)))) HSH.o U;clear Z6 O U q5 q4 f4;obtain ⟨⟨_,_,_,_,_,_,q6,_⟩,_⟩:=Z7.o.at Z7.x;go_wp2_with fail
   refine (pL q.a6 q.im q.c6 (β m) _ (k+sm+1+q.tn+sb+q.dn+1+q.rn) _ (Z7.o.m m _ Z7.x).1.i (by omega) (by omega) (by omega)).mono ?_;rintro e w6 ⟨rfl,O,U⟩;have Z8:=Z7.mod (c':=⟨mtx (k+sm),bE (k+sm+1) q.tn,mrk (k+sm+1+q.tn) q.f,cH (k+sm+1+q.tn+sb) q.dn,((k+sm+1+q.tn+sb+q.dn:Nat):Int),bE (k+sm+1+q.tn+sb+q.dn+1) q.rn,fJ (k+sm+1+q.tn+sb+q.dn+1+q.rn) q.im,E⟩) ((Z7.o.m m _ Z7.x).1.set_i O U) rfl (fun j s=>.inr (.inr (.inr (.inr (.inl s))))) HSH.o U;clear Z7 O U q6;obtain ⟨⟨_,_,_,_,_,_,_,q7⟩,_⟩:=Z8.o.at Z8.x;go_wp2_with fail
   refine (pQ q.a7 q.en q.c7 (β m) _ (k+sm+1+q.tn+sb+q.dn+1+q.rn+q.im) _ (Z8.o.m m _ Z8.x).1.e (by omega) (by omega) (by omega)).mono ?_;rintro e w7 ⟨rfl,O,U⟩;have Z9:=zh (Z8.mod (c':=⟨mtx (k+sm),bE (k+sm+1) q.tn,mrk (k+sm+1+q.tn) q.f,cH (k+sm+1+q.tn+sb) q.dn,((k+sm+1+q.tn+sb+q.dn:Nat):Int),bE (k+sm+1+q.tn+sb+q.dn+1) q.rn,fJ (k+sm+1+q.tn+sb+q.dn+1+q.rn) q.im,gG (k+sm+1+q.tn+sb+q.dn+1+q.rn+q.im) q.en⟩) ((Z8.o.m m _ Z8.x).1.set_e O U) rfl (fun j s=>.inr (.inr (.inr (.inr (.inr s))))) HSH.o U);clear Z8 O U q7;go_wp2
   go_roundw
   .exact ⟨m+1,by omega,by go_num,by rw [HSU.o];go_num,_,HFI.o _ _ _ Z9.o (by unfold mkC;rw [HSB.o])⟩
   .simp [intOf];omega
  .have e:Zh (m=n):=by show m=n;omega
   have HX:=zh R;clear R HH;go_wp2;go_ret;exact ⟨aH (by rw [e.o]),L',by have:=HX.o;rw [e.o] at this;exact this⟩
theorem oH (g n cap base k:Nat)(hs:List Hd)(L:List (Hd×Ct))(β:Nat->Nat)(w:qw)(H:OMs w base (qS (qP g) n cap) L β)(hd:∀ i,i<n->L[i]?=some (hs.getD i zHd,mkC (hs.getD i zHd) (k+upS (fun j=>aY (hs.getD j zHd)) i)))(h0:0<k)(hz:k+upS (fun j=>aY (hs.getD j zHd)) n<=4194305)(hb:∀ i,i<n->(hs.getD i zHd).bn<=1048576)(hn:n<=1048576):
 qC 53 #[qS (qP g) n cap,qI k] w fun e w'=>e=.returned (qI ((k+upS (fun j=>aY (hs.getD j zHd)) n:Nat):Int))/\qY w w':=by
 go_enter func53,ntmps53
 go_wp2;go_loopw [1,5] (fun x i wr=>∃ m:Nat,m<=n/\i=qI m/\x=qI ((k+upS (fun j=>aY (hs.getD j zHd)) m:Nat):Int)/\qY w wr) (fun _ i _=>n-(intOf i).toNat)
 .exact ⟨0,xC _,rfl,rfl,brf⟩
 .obtain ⟨m,hm,rfl,rfl,B⟩:=hrel;by_cases hlt:m<n
  .have hlt':(m:Int)<(n:Int):=by omega
   have y7:=hb m hlt;have hle:aY (hs.getD m zHd)+upS (fun j=>aY (hs.getD j zHd)) m<=upS (fun j=>aY (hs.getD j zHd)) n:=yL (fun j=>aY (hs.getD j zHd)) n m hlt;have HSU:Zh (upS (fun j=>aY (hs.getD j zHd)) (m+1)=upS (fun j=>aY (hs.getD j zHd)) m+aY (hs.getD m zHd)):=rfl;have HCN:Zh (aY (hs.getD m zHd)=2+(hs.getD m zHd).tn+bJ (hs.getD m zHd).f (hs.getD m zHd).bn+(hs.getD m zHd).dn+(hs.getD m zHd).rn+(hs.getD m zHd).im+3*(hs.getD m zHd).en):=rfl;have HZ:=zh (fun (X:qw) (hX:qY w X)=>xA ((H.bw hX).at (hd m hlt)) ((H.bw hX).m m _ (hd m hlt)).1);generalize upS (fun j=>aY (hs.getD j zHd)) m=sm at *;generalize hs.getD m zHd=q at *;unfold mkC at HZ;have hC:=HCN.o;clear HCN;generalize hsb:bJ q.f q.bn=sb at *;have HSB:=zh hsb;generalize aY q=cm at *;have HB:=zh B;clear B hsb hd;dsimp only at HZ;obtain ⟨⟨p0,_⟩,_⟩:=(HZ.o wr HB.o).1;have HT:=zh (fun W=>dK (k+sm) W);obtain ⟨s,hs⟩:=eqx (mtx (k+sm));rw [<- hs] at HT HZ p0;clear hs;have hne:(s.toList !=s.toList)=false:=by simp
   go_wp2_with fail
   go_region_held3 (fun w'=>w'.cell? (qR g (m*8))=some (.string s)) (go_keep) (first
    | (go_at_call 103;refine (HT.o _).mono ?_;rintro e w1 ⟨rfl,hb⟩;replace hb:=HB.o.trans ((dF hb).mono HB.o.size);have c1:=(HZ.o w1 hb).1.1.1;have HB1:=zh hb;clear hb))
   clear p0 HB HT c1;obtain ⟨⟨_,q1,q2,q3,q4,q5,q6,q7⟩,_⟩:=(HZ.o w1 HB1.o).1;have M1:=(HZ.o w1 HB1.o).2;have n1:¬ (((k+sm+1+q.tn:Nat):Int)<0):=by omega
   have n2:¬ (((k+sm+1+q.tn+sb:Nat):Int)<0):=by omega
   have n3:¬ (((k+sm+1+q.tn+sb+q.dn:Nat):Int)<0):=by omega
   have n5:¬ (((k+sm+1+q.tn+sb+q.dn+1+q.rn:Nat):Int)<0):=by omega
   have n6:¬ (((k+sm+1+q.tn+sb+q.dn+1+q.rn+q.im:Nat):Int)<0):=by omega
   have n7:¬ (((k+sm+1+q.tn+sb+q.dn+1+q.rn+q.im+3*q.en:Nat):Int)<0):=by omega
   have H1:=zh (fW q.a1 q.tn q.c1 (k+sm+1) w1 M1.t.is);go_wp2_with fail
   refine H1.o.mono ?_;rintro e w2 ⟨rfl,rfl⟩;have H2:=zh (vR q.a2 q.bn q.c2 (k+sm+1+q.tn) (β m) q.f w1 M1.b (by omega) (by rw [HSB.o];omega) (by omega));rw [HSB.o] at H2;have H3:=zh (eP q.a3 q.dn q.c3 (k+sm+1+q.tn+sb) w1 M1.d.bs);have H5:=zh (fW q.a5 q.rn q.c5 (k+sm+1+q.tn+sb+q.dn+1) w1 M1.r.is);have H6:=zh (pS q.a6 q.im q.c6 (β m) (k+sm+1+q.tn+sb+q.dn+1+q.rn) w1 M1.i (by omega) (by omega) (by omega));clear H1 M1;go_wp2_with fail
   refine H2.o.mono ?_;rintro e w2 ⟨rfl,rfl⟩;go_wp2_with fail
   refine H3.o.mono ?_;rintro e w2 ⟨rfl,rfl⟩;go_wp2_with fail
   refine H5.o.mono ?_;rintro e w2 ⟨rfl,rfl⟩;go_wp2_with fail
   refine H6.o.mono ?_;rintro e w2 ⟨rfl,hb⟩;have HB2:=zh (HB1.o.trans (hb.mono HB1.o.size));have H7:=zh (pV q.a7 q.en q.c7 (β m) (k+sm+1+q.tn+sb+q.dn+1+q.rn+q.im) w2 (HZ.o w2 HB2.o).2.e (by omega) (by omega) (by omega));clear H2 H3 H5 H6 hb q1 q2 q3 q4 q5 q6 q7;obtain ⟨⟨_,q1,q2,q3,q4,q5,q6,q7⟩,_⟩:=(HZ.o w2 HB2.o).1;go_wp2_with fail
   refine H7.o.mono ?_;rintro e w4 ⟨rfl,hb⟩;have HB4:=zh (HB2.o.trans (hb.mono HB2.o.size));clear hb H7 q1 q2 q3 q4 q5 q6 q7 HB1 HB2;go_wp2
   go_roundw
   .exact ⟨m+1,by omega,by go_num,by rw [HSU.o];go_num,HB4.o⟩
   .simp [intOf];omega
  .have e:Zh (m=n):=by show m=n;omega
   have HX:=zh B;clear B;go_wp2;go_ret;exact ⟨aH (by rw [e.o]),HX.o⟩
theorem nY (a:qO)(cap k:Nat)(w:qw):
 qC 48 #[qS a 0 cap,qI k] w fun e w'=>e=.returned (qI (k:Nat))/\w=w':=by
 go_enter func48,ntmps48
 go_wp2;go_loopw [1,5] (fun x i wr=>x=qI (k:Nat)/\i=qI 0/\w=wr) (fun _ _ _=>0)
 .exact ⟨rfl,rfl,rfl⟩
 .obtain ⟨rfl,rfl,rfl⟩:=hrel;go_wp2;go_ret;exact ⟨rfl,rfl⟩
theorem oG (a:qO)(cap k:Nat)(w:qw):
 qC 53 #[qS a 0 cap,qI k] w fun e w'=>e=.returned (qI (k:Nat))/\w=w':=by
 go_enter func53,ntmps53
 go_wp2;go_loopw [1,5] (fun x i wr=>x=qI (k:Nat)/\i=qI 0/\w=wr) (fun _ _ _=>0)
 .exact ⟨rfl,rfl,rfl⟩
 .obtain ⟨rfl,rfl,rfl⟩:=hrel;go_wp2;go_ret;exact ⟨rfl,rfl⟩
theorem aOv {W:qw}{L:Lay}{xs:List PB}(hp:OPl W base base (qS a0 xs.length c0) xs)(hps:xs.map (fun x=>x.1)=L.places)(hs:OG 3 1 clI W base (qS a2 L.slots.length c2) L.slots)(ht:OTg W base base (qS a5 ts.length c5) ts)(htt:ts.map (fun x=>x.1)=L.targets)(R:LayR L)(hv:wfi L.stack/\wfi L.flash/\wfi L.ram):LyT W L a0 c0 xs a2 c2 a5 c5 ts where
 p:=by
  obtain ⟨_,h2,h3,h4⟩:=aQ hp.head;refine ⟨rfl,by omega,fun hn=>?_,fun i hi=>?_,by omega⟩
  .obtain ⟨g,hg,_⟩:=h4 hn;refine ⟨g,0,hg,fun i hi=>?_⟩;obtain ⟨g',hg',q1,q2,q3,q4,_⟩:=aJl hp i hi;rw [hg] at hg';simp at hg';subst hg';simp only [Nat.zero_add];exact ⟨q1,q2,q3,q4⟩
  .obtain ⟨_,_,_,_,_,_,o⟩:=aJl hp i hi;exact aCc o (R.p _ (by rw [<- hps];exact List.mem_map.2 ⟨xs.getD i zPB,by simp [xB,hi],rfl⟩))
 ps:=hps
 s:=aCc hs R.s
 t:=by
  obtain ⟨_,h2,h3,h4⟩:=aQ ht.head;refine ⟨rfl,by omega,fun hn=>?_,fun i hi=>?_,by omega⟩
  .obtain ⟨g,hg,_⟩:=h4 hn;refine ⟨g,0,hg,fun i hi=>?_⟩;obtain ⟨g',hg',q1,_⟩:=aJh ht i hi;rw [hg] at hg';simp at hg';subst hg';simp only [Nat.zero_add];exact q1
  .obtain ⟨_,_,_,o⟩:=aJh ht i hi;obtain ⟨k1,k2,k3,k4⟩:=aQ o;refine ⟨k1,by omega,fun hn=>?_,by omega⟩;obtain ⟨g,hg,_⟩:=k4 hn;refine ⟨g,0,hg,fun j hj=>?_⟩;obtain ⟨g',hg',u0,u1,u2⟩:=aOo o j hj;rw [hg] at hg';simp at hg';subst hg';simp only [Nat.zero_add];exact ⟨u0,u1,u2⟩
 tt:=htt
 v:=hv
theorem LayO.lyt {W:qw}{L:Lay}{xs:List PB}(h:LayO W base L a0 c0 xs a2 c2 a5 c5 ts)(R:LayR L)(hv:wfi L.stack/\wfi L.flash/\wfi L.ram):LyT W L a0 c0 xs a2 c2 a5 c5 ts:=aOv h.p h.ps h.s h.t h.tt R hv
theorem aPr {ps:List PMod}{s w k d:Int}(h:lkc ps s w k d=0):wfi (lay ps s w k).stack/\wfi (lay ps s w k).flash/\wfi (lay ps s w k).ram:=by
 obtain ⟨hc,h1,h2,hv,_⟩:=fY h;unfold cfo at hc;simp at hc;obtain ⟨c1,c2,c3,c4,c5,c6,_⟩:=hc;have a1:=bO hv ps.length aN;have a2:=cL hv ps.length aN;have a4:=aR (x:=4*w);have a5:(0:Int)<=(s.toNat:Int)*rnd (4*w):=Int.mul_nonneg (by omega) (by omega);have a6:(s.toNat:Int)*rnd (4*w)<=4*287:=Int.mul_le_mul (by omega) (by omega) (by omega) (by omega);simp only [lay];unfold wfi;omega
theorem aF5 (ps:List PMod)(s w k d:Int):wfi (lkL ps s w k d).stack/\wfi (lkL ps s w k d).flash/\wfi (lkL ps s w k d).ram:=by
 unfold lkL;by_cases h:lkc ps s w k d=0
 .rw [if_pos h];exact aPr h
 .rw [if_neg h];unfold L0 wfi;simp
structure OM (w:qw)(base:Nat)(v1 v2 v3:Value)(x1 x2 x3:qi):Prop where
 o1:OB w base v1 x1
 o2:OB w base v2 x2
 o3:OB w base v3 x3
 a12:∀ k,v1.ownBlock=some k->v2.ownBlock≠some k
 a13:∀ k,v1.ownBlock=some k->v3.ownBlock≠some k
 a23:∀ k,v2.ownBlock=some k->v3.ownBlock≠some k
def imF (ps:List PMod)(L:Lay):List Int:=@ite _ (Lok ps L) (lokD ps L) (flB ps L ps.length) []
def imR (ps:List PMod)(L:Lay):List Int:=@ite _ (Lok ps L) (lokD ps L) (raB ps L ps.length) []
def ImM (w:qw)(ps:List PMod)(L:Lay)(e:Ending)(w':qw):Prop:=qY w w'/\∃ a1 n1 c1 a2 n2 c2 a3 n3 c3,e=.returned (.tuple #[.agg (qV a1 n1 c1 a2 n2 c2 a3 n3 c3),.bool (decide (Lok ps L))])/\OM w' w.heap.size (qS a1 n1 c1) (qS a2 n2 c2) (qS a3 n3 c3) (imF ps L) (imR ps L) []
theorem aP5 {S F:Nat->Nat->Nat->Nat->World->Prop}{G:Prop}(main:(∀ a b c d W,F a b c d W->S a b c d W)->G)(pf:∀ a b c d W,F a b c d W->S a b c d W):G:=main pf
theorem pG {W:qw}{x:Obj}(h:W.cell? (qR b o)=some v):(W.alloc x).cell? (qR b o)=some v:=aB bal h
theorem uF {W:qw}(h:W.cell? (qR b o)=some v):W.drew.cell? (qR b o)=some v:=h
theorem yH {W:qw}{u:Value}(hb:b<g)(h:W.cell? (qR b o)=some v):(W.setCell (qR g i) u).cell? (qR b o)=some v:=(aP (.inl (by omega))).trans h
structure Mk4 (N:Nat)(w1 W:qw)(ZF ZR:Array Value)(F R gf gr go gm:Nat):Prop where
 be:Below N w1 W
 f:Blk W gf ZF 5
 r:Blk W gr ZR 5
 o:Blk W go #[] 5
 m:Blk W gm (qV (qP gf) F F (qP gr) R R (qP go) 0 0) 39
 lo:N<=gf/\N<=gr/\N<=go/\N<=gm
 ne:gf≠gr/\gf≠go/\gr≠go
theorem gH (w:qw):w.drew.heap.size=w.heap.size:=rfl
theorem gK {W:qw}{t:TypeId}(h:Blk W g cs t):Blk W.drew g cs t:=h
theorem gJ {W:qw}{t:TypeId}(h:g=W.heap.size):Blk (W.alloc (.cells cs t)) g cs t:=by subst h;exact Blk.new W cs t
theorem dJ {W:qw}{t:TypeId}(hn:g≠b)(h:Blk W g cs t):Blk (W.setCell (qR b i) v) g cs t:=h.other _ _ hn
theorem dB {W:qw}{t:TypeId}{v0:Value}(h:Blk W g (qV none 0 0 none 0 0 none 0 0) t):Blk (((W.setCell (qR g 0) v0).setCell (qR g 1) v1).setCell (qR g 2) v2) g #[v0,v1,v2] t:=by
 have:=((h.set 0 v0).set 1 v1).set 2 v2;simpa only [yA,yB,yC] using this
theorem yI {a W:qw}{x:Obj}(hN:N<=a.heap.size)(h:Below N a W):Below N a (W.alloc x):=h.alloc (xM hN h.size) _
theorem aGk {a W:qw}(hg:N<=g)(h:Below N a W):Below N a (W.setCell (qR g i) v):=h.setCell (p:=(qR g i)) hg v
theorem aDc {a W:qw}(h:Below N a W):Below N a W.drew:=h.drew
structure ImS (w:qw)(V:Array Value)(F R gf gr go gm:Nat)(fz rz:qi)(W:qw):Prop where
 be:qY w W
 kl:Blk W w.heap.size V 71
 kr:Blk W (w.heap.size+1) (qV none 0 0 none 0 0 none 0 0) 39
 km:Blk W gm (qV (qP gf) F F (qP gr) R R (qP go) 0 0) 39
 f:OB W w.heap.size (qS (qP gf) F F) fz
 r:OB W w.heap.size (qS (qP gr) R R) rz
 o:Blk W go #[] 5
 lo:w.heap.size+1<gf/\w.heap.size+1<gr/\w.heap.size+1<go/\w.heap.size+1<gm
 ne:gf≠gr/\gf≠go/\gr≠go
section
variable {w:qw}{V:Array Value}{F R gf gr go gm:Nat}{fz rz:qi}{W W':qw}
theorem ImS.bw (h:ImS w V F R gf gr go gm fz rz W)(hb:qY W W'):ImS w V F R gf gr go gm fz rz W':=⟨h.be.trans (hb.mono h.be.size),h.kl.bw hb,h.kr.bw hb,h.km.bw hb,h.f.bw hb,h.r.bw hb,h.o.bw hb,h.lo,h.ne⟩
theorem gX {zs:qi}(h:OB W base (qS (qP g) n c) zs):∃ cs,Blk W g cs 5:=aD h.1 rfl
theorem ImS.mf (h:ImS w V F R gf gr go gm fz rz W):gm≠gf/\gm≠gr:=by
 obtain ⟨c1,k1⟩:=gX h.f;obtain ⟨c2,k2⟩:=gX h.r;exact ⟨fun e=>by subst e;exact absurd (aI h.km k1) (by decide),fun e=>by subst e;exact absurd (aI h.km k2) (by decide)⟩
theorem ImS.setf (h:ImS w V F R gf gr go gm fz rz W){fz':qi}(O:OB W' w.heap.size (qS (qP gf) F F) fz')(T:fF gf W W'):ImS w V F R gf gr go gm fz' rz W':=
 ⟨cW h.be T (by have:=h.lo;omega),bT T h.kl (by have:=h.lo;omega),bT T h.kr (by have:=h.lo;omega),bT T h.km h.mf.1,O,qH T h.r (by have:=h.ne.1;simp [Value.ownBlock];omega),bT T h.o (by have:=h.ne;omega),h.lo,h.ne⟩
theorem ImS.setr (h:ImS w V F R gf gr go gm fz rz W){rz':qi}(O:OB W' w.heap.size (qS (qP gr) R R) rz')(T:fF gr W W'):ImS w V F R gf gr go gm fz rz' W':=
 ⟨cW h.be T (by have:=h.lo;omega),bT T h.kl (by have:=h.lo;omega),bT T h.kr (by have:=h.lo;omega),bT T h.km h.mf.2,qH T h.f (by have:=h.ne.1;simp [Value.ownBlock];omega),O,bT T h.o (by have:=h.ne;omega),h.lo,h.ne⟩
structure Im5 (w:qw)(V:Array Value)(F R gf gr go gm gp:Nat)(PV:Array Value)(fz rz:qi)(W:qw):Prop where
 s:ImS w V F R gf gr go gm fz rz W
 p:Blk W gp PV 171
variable {gp:Nat}{PV:Array Value}
theorem Im5.bw (h:Im5 w V F R gf gr go gm gp PV fz rz W)(hb:qY W W'):Im5 w V F R gf gr go gm gp PV fz rz W':=⟨h.s.bw hb,h.p.bw hb⟩
theorem Im5.drew (h:Im5 w V F R gf gr go gm gp PV fz rz W):Im5 w V F R gf gr go gm gp PV fz rz W.drew:=h.bw brf.drew
theorem Im5.pf (h:Im5 w V F R gf gr go gm gp PV fz rz W):gp≠gf/\gp≠gr:=by
 obtain ⟨c1,k1⟩:=gX h.s.f;obtain ⟨c2,k2⟩:=gX h.s.r;exact ⟨fun e=>by subst e;exact absurd (aI h.p k1) (by decide),fun e=>by subst e;exact absurd (aI h.p k2) (by decide)⟩
theorem Im5.setf (h:Im5 w V F R gf gr go gm gp PV fz rz W){fz':qi}(O:OB W' w.heap.size (qS (qP gf) F F) fz')(T:fF gf W W'):Im5 w V F R gf gr go gm gp PV fz' rz W':=⟨h.s.setf O T,bT T h.p h.pf.1⟩
theorem Im5.setr (h:Im5 w V F R gf gr go gm gp PV fz rz W){rz':qi}(O:OB W' w.heap.size (qS (qP gr) R R) rz')(T:fF gr W W'):Im5 w V F R gf gr go gm gp PV fz rz' W':=⟨h.s.setr O T,bT T h.p h.pf.2⟩
end
section
variable {W W':qw}{base:Nat}{v1 v2 v3:Value}{x1 x2 x3:qi}
theorem OM.bw (h:OM W base v1 v2 v3 x1 x2 x3)(hb:qY W W'):OM W' base v1 v2 v3 x1 x2 x3:=⟨h.o1.bw hb,h.o2.bw hb,h.o3.bw hb,h.a12,h.a13,h.a23⟩
theorem OM.mono (h:OM W base v1 v2 v3 x1 x2 x3)(hb:base'<=base):OM W base' v1 v2 v3 x1 x2 x3:=⟨h.o1.mono hb,h.o2.mono hb,h.o3.mono hb,h.a12,h.a13,h.a23⟩
theorem OM.lt (h:OM W base v1 v2 v3 x1 x2 x3)(hj:pX v1 v2 v3 j):base<=j/\j<W.heap.size:=by
 rcases hj with e|e|e
 .exact h.o1.lt j e
 .exact h.o2.lt j e
 .exact h.o3.lt j e
theorem OM.kept (h:OM W base v1 v2 v3 x1 x2 x3)(t:Turn S W W')(hs:∀ j,pX v1 v2 v3 j->¬ S j):OM W' base v1 v2 v3 x1 x2 x3:=⟨aU t h.o1 (fun k hk=>hs k (.inl hk)),aU t h.o2 (fun k hk=>hs k (.inr (.inl hk))),aU t h.o3 (fun k hk=>hs k (.inr (.inr hk))),h.a12,h.a13,h.a23⟩
end
def ShL (hs:List Hd)(j:Nat):Prop:=∃ i,i<hs.length/\Sh (hs.getD i zHd) j
structure MnO (W:qw)(base:Nat)(v0:Value)(hs:List Hd)(L:List (Hd×Ct))(β:Nat->Nat)(v1 vf vr vo vl vh:Value)(K F R O:qi)(S:List SlT)(H:List FrT):Prop where
 m:OMs W base v0 L β
 e:L.map (fun x=>x.1)=hs
 k:OI W base v1 K
 q:OM W base vf vr vo F R O
 l:OG 142 4 bR W base vl S
 h:OG 135 4 cO W base vh H
 km:∀ j,v1.ownBlock=some j->¬ ShL hs j
 qm:∀ j,pX vf vr vo j->¬ ShL hs j
 lo:∀ (i:Nat) (x:Hd×Ct),L[i]?=some x->base<=β i
section
variable {W W':qw}{base:Nat}{v0:Value}{hs:List Hd}{L L':List (Hd×Ct)}{β:Nat->Nat}{v1 vf vr vo vl vh:Value}{K F R O K' F' R' O':qi}{S S':List SlT}{H H':List FrT}
theorem MnO.bw (h:MnO W base v0 hs L β v1 vf vr vo vl vh K F R O S H)(hb:qY W W'):MnO W' base v0 hs L β v1 vf vr vo vl vh K F R O S H:=⟨h.m.bw hb,h.e,h.k.bw hb,h.q.bw hb,h.l.bw hb,h.h.bw hb,h.km,h.qm,h.lo⟩
theorem aIv (h:MnO W base v0 hs L β v1 vf vr vo vl vh K F R O S H)(hj:ShL hs j):∃ (i:Nat) (x:Hd×Ct),L[i]?=some x/\Sh x.1 j:=by
 obtain ⟨i,hi,hj⟩:=hj;obtain ⟨c,hc⟩:=aNw h.e hi;exact ⟨i,_,hc,hj⟩
theorem MnO.no (h:MnO W base v0 hs L β v1 vf vr vo vl vh K F R O S H)(hj:ShL hs j){t:TypeId}(hb:Blk W j cs t)(ht:t≠3/\t≠5/\t≠9/\t≠163):False:=by
 obtain ⟨i,x,hx,hs⟩:=aIv h hj;exact (h.m.m i x hx).1.no hs hb ht
theorem eG {f r o:Value}{x1 x2 x3:qi}(h:OM W base f r o x1 x2 x3)(hj:pX f r o j):∃ cs,Blk W j cs 5:=by
 rcases hj with e|e|e
 .exact aD h.o1.1 e
 .exact aD h.o2.1 e
 .exact aD h.o3.1 e
theorem MnO.mods (h:MnO W base v0 hs L β v1 vf vr vo vl vh K F R O S H)(M:OMs W' base v0 L' β)(e:L'.map (fun x=>x.1)=hs)(T:Turn (fun j=>v0.ownBlock=some j\/ShL hs j) W W'):MnO W' base v0 hs L' β v1 vf vr vo vl vh K F R O S H:=by
 have hd:∀ {j:Nat} {cs:Array Value} {t:TypeId},Blk W j cs t->t≠138->v0.ownBlock≠some j:=fun hb hne e=>by
  obtain ⟨c,k⟩:=aD h.m.o e;exact hne (aI hb k)
 refine ⟨M,e,aW T h.k (fun k hk s=>?_),h.q.kept T (fun j hj s=>?_),h.l.kept T (fun k hk s=>?_),h.h.kept T (fun k hk s=>?_),h.km,h.qm,fun i x hx=>?_⟩
 .obtain ⟨c,kb⟩:=aD h.k.1 hk;rcases s with s|s
  .exact hd kb (by decide) s
  .exact h.km k hk s
 .obtain ⟨c,kb⟩:=eG h.q hj;rcases s with s|s
  .exact hd kb (by decide) s
  .exact h.qm j hj s
 .obtain ⟨c,kb⟩:=aD h.l hk;rcases s with s|s
  .exact hd kb (by decide) s
  .exact h.no s kb (by decide)
 .obtain ⟨c,kb⟩:=aD h.h hk;rcases s with s|s
  .exact hd kb (by decide) s
  .exact h.no s kb (by decide)
 .have hl:L.length=L'.length:=by have q:=congrArg List.length (h.e.trans e.symm);simpa using q
  exact h.lo i _ (xN (by have:=dH hx;omega))
theorem OMs.far (M:OMs W base v0 L β)(e:L.map (fun x=>x.1)=hs)(T:Turn Q W W')(h1:∀ j,Q j->¬ ShL hs j)(h2:∀ j,Q j->∃ cs t,Blk W j cs t/\t≠138/\t≠25):OMs W' base v0 L β:=
 M.kept T (fun j hj s=>by
  obtain ⟨cs,t,kb,n1,_⟩:=h2 j s;obtain ⟨c,k⟩:=aD M.o hj
  exact n1 (aI kb k)) (fun i x hx j hj s=>h1 j s ⟨i,by rw [<- e,xH];exact dH hx,by rw [<- e];simp [xB,hx];exact hj⟩) (fun j cs hb s=>by
  obtain ⟨cs',t,kb,_,n2⟩:=h2 j s
  exact n2 (aI kb hb))
theorem MnO.core (h:MnO W base v0 hs L β v1 vf vr vo vl vh K F R O S H)(k':OI W' base v1 K')(T:Turn (fun j=>v1.ownBlock=some j) W W'):MnO W' base v0 hs L β v1 vf vr vo vl vh K' F R O S H:=by
 have kd:∀ {j:Nat} {cs:Array Value} {t:TypeId},Blk W j cs t->t≠3->v1.ownBlock≠some j:=fun hb hne e=>by
  obtain ⟨c,k⟩:=aD h.k.1 e;exact hne (aI hb k)
 refine ⟨h.m.far h.e T h.km (fun j hj=>?_),h.e,k',h.q.kept T (fun j hj s=>?_),h.l.kept T (fun k hk s=>?_),h.h.kept T (fun k hk s=>?_),h.km,h.qm,h.lo⟩
 .obtain ⟨c,kb⟩:=aD h.k.1 hj;exact ⟨c,_,kb,by decide,by decide⟩
 .obtain ⟨c,kb⟩:=eG h.q hj;exact kd kb (by decide) s
 .obtain ⟨c,kb⟩:=aD h.l hk;exact kd kb (by decide) s
 .obtain ⟨c,kb⟩:=aD h.h hk;exact kd kb (by decide) s
theorem MnO.mem (h:MnO W base v0 hs L β v1 vf vr vo vl vh K F R O S H)(q':OM W' base vf vr vo F' R' O')(T:Turn (pX vf vr vo) W W'):MnO W' base v0 hs L β v1 vf vr vo vl vh K F' R' O' S H:=by
 have kd:∀ {j:Nat} {cs:Array Value} {t:TypeId},Blk W j cs t->t≠5->¬ pX vf vr vo j:=fun hb hne e=>by
  obtain ⟨c,k⟩:=eG h.q e;exact hne (aI hb k)
 refine ⟨h.m.far h.e T h.qm (fun j hj=>?_),h.e,aW T h.k (fun k hk s=>?_),q',h.l.kept T (fun k hk s=>?_),h.h.kept T (fun k hk s=>?_),h.km,h.qm,h.lo⟩
 .obtain ⟨c,kb⟩:=eG h.q hj;exact ⟨c,_,kb,by decide,by decide⟩
 .obtain ⟨c,kb⟩:=aD h.k.1 hk;exact kd kb (by decide) s
 .obtain ⟨c,kb⟩:=aD h.l hk;exact kd kb (by decide) s
 .obtain ⟨c,kb⟩:=aD h.h hk;exact kd kb (by decide) s
theorem MnO.slot (h:MnO W base v0 hs L β v1 vf vr vo vl vh K F R O S H)(l':OG 142 4 bR W' base vl S')(T:Turn (fun j=>vl.ownBlock=some j) W W'):MnO W' base v0 hs L β v1 vf vr vo vl vh K F R O S' H:=by
 have kd:∀ {j:Nat} {cs:Array Value} {t:TypeId},Blk W j cs t->t≠142->vl.ownBlock≠some j:=fun hb hne e=>by
  obtain ⟨c,k⟩:=aD h.l e;exact hne (aI hb k)
 refine ⟨h.m.far h.e T (fun j hj s=>?_) (fun j hj=>?_),h.e,aW T h.k (fun k hk s=>?_),h.q.kept T (fun j hj s=>?_),l',h.h.kept T (fun k hk s=>?_),h.km,h.qm,h.lo⟩
 .obtain ⟨c,kb⟩:=aD h.l hj;exact h.no s kb (by decide)
 .obtain ⟨c,kb⟩:=aD h.l hj;exact ⟨c,_,kb,by decide,by decide⟩
 .obtain ⟨c,kb⟩:=aD h.k.1 hk;exact kd kb (by decide) s
 .obtain ⟨c,kb⟩:=eG h.q hj;exact kd kb (by decide) s
 .obtain ⟨c,kb⟩:=aD h.h hk;exact kd kb (by decide) s
theorem MnO.frame (h:MnO W base v0 hs L β v1 vf vr vo vl vh K F R O S H)(h':OG 135 4 cO W' base vh H')(T:Turn (fun j=>vh.ownBlock=some j) W W'):MnO W' base v0 hs L β v1 vf vr vo vl vh K F R O S H':=by
 have kd:∀ {j:Nat} {cs:Array Value} {t:TypeId},Blk W j cs t->t≠135->vh.ownBlock≠some j:=fun hb hne e=>by
  obtain ⟨c,k⟩:=aD h.h e;exact hne (aI hb k)
 refine ⟨h.m.far h.e T (fun j hj s=>?_) (fun j hj=>?_),h.e,aW T h.k (fun k hk s=>?_),h.q.kept T (fun j hj s=>?_),h.l.kept T (fun k hk s=>?_),h',h.km,h.qm,h.lo⟩
 .obtain ⟨c,kb⟩:=aD h.h hj;exact h.no s kb (by decide)
 .obtain ⟨c,kb⟩:=aD h.h hj;exact ⟨c,_,kb,by decide,by decide⟩
 .obtain ⟨c,kb⟩:=aD h.k.1 hk;exact kd kb (by decide) s
 .obtain ⟨c,kb⟩:=eG h.q hj;exact kd kb (by decide) s
 .obtain ⟨c,kb⟩:=aD h.l hk;exact kd kb (by decide) s
end
theorem aEv (W:qw)(row:Option Nat):W.grownBy W row:=⟨rfl,rfl,rfl,aN,fun _ _ _=>rfl⟩
def Srd {α:Type}(f:α->List Value)(W:qw)(a:qO)(n c:Nat)(ys:List α):Prop:=ys.length=n/\((a=none/\n=0/\c=0)\/∃ g off,a=some (qR g off)/\∀ j u,(ys.flatMap f)[j]?=some u->W.cell? (qR g (off+j))=some u)
theorem Srd.bw {α:Type}{f:α->List Value}{W W':qw}{ys:List α}(h:Srd f W a n c ys)(hb:qY W W'):Srd f W' a n c ys:=by
 obtain ⟨h1,h2|⟨g,off,e,h3⟩⟩:=h
 .exact ⟨h1,.inl h2⟩
 .exact ⟨h1,.inr ⟨g,off,e,fun j u hu=>(hb.cell (xD W _ (h3 j u hu))).trans (h3 j u hu)⟩⟩
theorem aJo {α:Type}{t:TypeId}{f:α->List Value}{W:qw}{ys:List α}(h:OG t sz f W b (qS a n c) ys):Srd f W a n c ys:=by
 obtain ⟨a',c',e⟩:=aS h;simp only [Value.slice.injEq] at e;obtain ⟨rfl,rfl,rfl⟩:=e;refine ⟨rfl,?_⟩;obtain ⟨_,⟨h0,_⟩|⟨g,cap,cur,hv,_⟩⟩:=id h
 .simp only [Value.slice.injEq] at h0;exact .inl h0
 .simp only [Value.slice.injEq] at hv;obtain ⟨rfl,-,rfl⟩:=hv;exact .inr ⟨g,0,rfl,fun j u hu=>by have q:=World.ownsRow.cells h (g:=g) rfl j u hu;rwa [bN] at q⟩
theorem aBi {α:Type}{f:α->List Value}{o:Oper}{ac:Act}{K:Act->World->Prop}{Q:Exit->Act->World->Prop}{W:qw}(s x:Operand)(t:TypeId)
 (ho:o.op=.call { callee:=.builtin .append,args:=#[s,x],argTypes:=#[t,t] })
 (base:Nat) (e:TypeId) (i:TypeInfo) (z:Value) (size bytes:Nat) (ht:prog.underlying t=some (.slice e)) (hi:prog.info? e=some i) (hz:i.zero=some z)
 (hsize:i.size=size) (hby:i.bytes=bytes) (hzs:z.cells.size=size) (hsz:0<size)
 (v:Value) (xs:List α) (hs:ac.eval s=v) (hown:OG e size f W base v xs)
 (sa:qO) (sn sc:Nat) (ys:List α) (hx:ac.eval x=qS sa sn sc) (src:Srd f W sa sn sc ys) (hf:∀ y,(f y).length=size) (h1:∀ y,∀ u∈f y,u.oneCell'=true)
 (h63:xs.length+ys.length<=maxLen) (hbytes:(xs.length+ys.length)*bytes<=140737488355328) (hbase:base<=W.heap.size)
 (h:∀ v' w',OG e size f w' base v' (xs++ys)->W.grownBy w' v.ownBlock->K (ac.put o.dst v') w'):o.wp prog ac W K Q:=by
 have key:∀ {v':Value} {w':qw},w'.ownsRow base e size v' (xs.length+ys.length) (xs.flatMap f++ys.flatMap f)->OG e size f w' base v' (xs++ys):=fun hq=>by
  unfold OG;rw [xI,xU];exact hq
 obtain ⟨rfl,⟨rfl,hn,rfl⟩|⟨g,off,rfl,hcl⟩⟩:=src
 .obtain rfl:ys=[]:=xE hn;have hrun:=run_append_owned_none (P:=prog) (w:=W) base t o.type e i size ht hi v xs.length (xs.flatMap f) hown;unfold Oper.wp;simp [execOp,ho,resolve,invoke,builtin,hs,hx,hrun,Result.andThen];exact h v W (by rw [List.append_nil];exact hown) (aEv _ _)
 .have hl:(ys.flatMap f).length=ys.length*size:=by
   clear hcl h key hx h63 hbytes
   induction ys with
   | nil=>simp
   | cons y ys ih=>rw [xT,xI,hf,ih,List.length_cons,Nat.add_mul];omega
  refine wp_append_own W s x t ho base e i z size bytes ht hi hz hsize hby hzs hsz v xs.length (xs.flatMap f) hs hown (qR g off) ys.length sc (ys.flatMap f) hx hl (fun j u hu=>by rw [bN];exact hcl j u hu) (fun u hu=>?_) h63 hbytes hbase fun v' w' q1 q2 _=>h v' w' (key q1) q2;rw [List.mem_flatMap] at hu;obtain ⟨y,_,hu⟩:=hu;exact h1 y u hu
theorem bG {α:Type}{f:α->List Value}{ops:Array Oper}{rest:List Oper}{o:Oper}{ac:Act}{Q:Exit->Act->World->Prop}{W:qw}(hgd:o.guard=none)(s x:Operand)(t:TypeId)
 (ho:o.op=.call { callee:=.builtin .append,args:=#[s,x],argTypes:=#[t,t] })
 (base:Nat) (e:TypeId) (i:TypeInfo) (z:Value) (size bytes:Nat) (ht:prog.underlying t=some (.slice e)) (hi:prog.info? e=some i) (hz:i.zero=some z)
 (hsize:i.size=size) (hby:i.bytes=bytes) (hzs:z.cells.size=size) (hsz:0<size)
 (v:Value) (xs:List α) (hs:ac.eval s=v) (hown:OG e size f W base v xs)
 (sa:qO) (sn sc:Nat) (ys:List α) (hx:ac.eval x=qS sa sn sc) (src:Srd f W sa sn sc ys) (hf:∀ y,(f y).length=size) (h1:∀ y,∀ u∈f y,u.oneCell'=true)
 (h63:xs.length+ys.length<=maxLen) (hbytes:(xs.length+ys.length)*bytes<=140737488355328) (hbase:base<=W.heap.size)
 (h:∀ v' w',OG e size f w' base v' (xs++ys)->W.grownBy w' v.ownBlock->wpList prog ops Q rest (ac.put o.dst v') w'):wpList prog ops Q (o::rest) ac W:=
 wpList_plain hgd fun _ hK=>aBi s x t ho base e i z size bytes ht hi hz hsize hby hzs hsz v xs hs hown sa sn sc ys hx src hf h1 h63 hbytes hbase fun v' w' q1 q2=>hK _ _ (h v' w' q1 q2)
theorem aDm {α:Type}{f:α->List Value}{ops:Array Oper}{o:Oper}{ac:Act}{K:Act->World->Prop}{Q:Exit->Act->World->Prop}{E:Prop}{W:qw}(hgd:o.guard=none)(s x:Operand)(t:TypeId)
 (ho:o.op=.call { callee:=.builtin .append,args:=#[s,x],argTypes:=#[t,t] })
 (base:Nat) (e:TypeId) (i:TypeInfo) (z:Value) (size bytes:Nat) (ht:prog.underlying t=some (.slice e)) (hi:prog.info? e=some i) (hz:i.zero=some z)
 (hsize:i.size=size) (hby:i.bytes=bytes) (hzs:z.cells.size=size) (hsz:0<size)
 (v:Value) (xs:List α) (hs:ac.eval s=v) (hown:OG e size f W base v xs)
 (sa:qO) (sn sc:Nat) (ys:List α) (hx:ac.eval x=qS sa sn sc) (src:Srd f W sa sn sc ys) (hf:∀ y,(f y).length=size) (h1:∀ y,∀ u∈f y,u.oneCell'=true)
 (h63:xs.length+ys.length<=maxLen) (hbytes:(xs.length+ys.length)*bytes<=140737488355328) (hbase:base<=W.heap.size)
 (h:∀ v' w',OG e size f w' base v' (xs++ys)->W.grownBy w' v.ownBlock->K (ac.put o.dst v') w'):
 if Region.wanted o (yielded ops ac.tmps)=true then Oper.wp prog o ac W K Q else E:=by
 have hw:Region.wanted o (yielded ops ac.tmps)=true:=by simp [Region.wanted,hgd]
 rw [if_pos hw];exact aBi s x t ho base e i z size bytes ht hi hz hsize hby hzs hsz v xs hs hown sa sn sc ys hx src hf h1 h63 hbytes hbase h
theorem aJv {nm:ByteArray}{ta:qO}{tn tc:Nat}{tz:qi}{ba:qO}{bn bc:Nat}{da:qO}{dn dc:Nat}{dz:qi}{bss:Int}{ra:qO}{rn rc:Nat}{rz:qi}{ia:qO}{im ic:Nat}{ea:qO}{en ec:Nat}{w:qw}(h:MD w nm ta tn tc tz ba bn bc bl da dn dc dz bss ra rn rc rz ia im ic ss ea en ec es):MT w nm ta tn tc tz ba bn bc bl da dn dc dz bss ra rn rc rz ia im ic ss ea en ec es where
 n:=by have:=h.n;unfold maxLen;omega
 t:=h.t
 b:=h.b
 d:=h.d
 s:=h.s
 r:=h.r
 i:=by
  obtain ⟨h1,h2,h3,h4,h5⟩:=h.i;refine ⟨h1,h2,fun i=>?_,h4,h5⟩;by_cases hi:i<ss.length
  .have:=h3 (ss.getD i zS) (by simp [xB,hi]);unfold maxLen;omega
  .rw [xB,xO (by omega)];decide
 e:=by
  obtain ⟨h1,h2,h3,h4,h5⟩:=h.e;refine ⟨h1,h2,fun i=>?_,h4,h5⟩;by_cases hi:i<es.length
  .have:=h3 (es.getD i zE) (by simp [xB,hi]);unfold maxLen;omega
  .rw [xB,xO (by omega)];decide
def bkF (bl:List Bk)(i:Nat):qO×Nat×Nat:=((bl.getD i zB).1,(bl.getD i zB).2.1,(bl.getD i zB).2.2.1)
def bkX (bl:List Bk)(i:Nat):List Int:=(bl.getD i zB).2.2.2
theorem aJp {w:qw}{xs:qi}(h:OG 3 1 clI w base v xs)(hx:∀ z∈xs,wfi z):OI w base v xs:=by
 unfold OG at h;rw [aC2] at h;exact ⟨h,hx⟩
theorem aBr (bl:List Bk):∀ n,n<=bl.length->bJ (bkF bl) n=((bl.take n).map fun B=>B.2.1).sum
 | 0,_=>by simp [bJ]
 | n+1,h=>by
   show bJ (bkF bl) n+(bkF bl n).2.1=_;have e:(bkF bl n).2.1=(bl[n]'(by omega)).2.1:=by simp [bkF,xB,show n<bl.length by omega]
   rw [aBr bl n (by omega),List.take_add_one,xN (by omega),e];simp only [Option.toList_some,List.map_append,List.map_cons,List.map_nil,List.sum_append,List.sum_cons,List.sum_nil,Nat.add_zero]
theorem aOp {w:qw}(h:OBk w base (qS a bl.length c) bl)(hx:∀ B∈bl,∀ z∈B.2.2.2,wfi z):Rr w base a bl.length (bkF bl) (bkX bl):=by
 have hmem:∀ i,i<bl.length->bl.getD i zB∈bl:=fun i hi=>by simp [xB,hi]
 have rows:∀ i,i<bl.length->OI w base (.slice (bkF bl i).1 (bkF bl i).2.1 (bkF bl i).2.2) (bkX bl i):=fun i hi=>aJp (h.rows _ (hmem i hi)).2 (hx _ (hmem i hi));refine ⟨fun hn=>?_,rows,fun i j hi hj hij k hk=>?_⟩
 .obtain ⟨hl,⟨h0,h1⟩|⟨g,cap,cur,hv,hg,hh,h1,h2,h3,h4⟩⟩:=h.head
  .exact absurd h1 hn
  .simp at hv;refine ⟨g,cur,hv.1,fun ⟨i,hi,e⟩=>?_,hh,fun i hi=>?_⟩
   .obtain ⟨c1,k1⟩:=aD (rows i hi).1 e;exact absurd (aI k1 hh) (by decide)
   .have:(cur.toList.take (bl.length*1))[i]?=(bl.map fun B=>qS B.1 B.2.1 B.2.2.1)[i]?:=by rw [h4]
    rw [List.getElem?_take] at this;rw [if_pos (by omega)] at this;rw [<- Array.getElem?_toList,this];simp [bkF,xB,hi]
 .have hp:=List.pairwise_iff_getElem.1 h.apart;have gi:bl.getD i zB=bl[i]:=by simp [xB,hi]
  have gj:bl.getD j zB=bl[j]:=by simp [xB,hj]
  unfold bkF at hk ⊢;rw [gi] at hk;rw [gj];rcases Nat.lt_or_gt_of_ne hij with h'|h'
  .exact hp i j hi hj h' k hk
  .exact fun e=>hp j i hj hi h' k e hk
theorem ModO.m6G {W:qw}(h:ModO W base P a1 c1 a2 c2 bl a3 c3 a5 c5 a6 c6 a7 c7)(R:PmG P):
 M6 W base (qS a1 P.tz.length c1) (qS a3 P.dz.length c3) (qS a5 P.rz.length c5) (qS a6 P.ss.length c6) (qS a7 P.es.length c7) a2 bl.length (bkF bl) P.tz (bkX bl) P.dz P.rz P.ss P.es where
 t:=aJp h.t R.t.2
 b:=aOp h.b (fun B hB z hz=>by
  have hm:B.2.2.2∈P.bl:=by rw [<- h.bls];exact List.mem_map.2 ⟨B,hB,rfl⟩
  exact (R.b.2 _ hm).2 z hz)
 d:=h.d
 r:=aJp h.r R.r.2
 i:=h.i
 e:=h.e
 tr:=h.tr
 tb:=fun k hk ⟨i,hi,e⟩=>h.tb k hk _ (by simp [xB,hi]) e
 rb:=fun k hk ⟨i,hi,e⟩=>h.br k hk _ (by simp [xB,hi]) e
theorem ModO.sum {W:qw}(h:ModO W base P a1 c1 a2 c2 bl a3 c3 a5 c5 a6 c6 a7 c7):bJ (bkF bl) bl.length=(P.bl.map List.length).sum/\bl.length=P.bl.length:=by
 refine ⟨?_,by rw [<- h.bls,xH]⟩;rw [aBr bl bl.length aN,List.take_length,<- h.bls,List.map_map];congr 1;apply List.map_congr_left;intro B hB;exact (h.b.rows B hB).1
theorem ModO.same {W W':qw}{a1':qO}{c1':Nat}{a2':qO}{c2':Nat}{bl':List Bk}{a3':qO}{c3':Nat}{a5':qO}{c5':Nat}{a6':qO}{c6':Nat}{a7':qO}{c7':Nat}(h:ModO W base P a1 c1 a2 c2 bl a3 c3 a5 c5 a6 c6 a7 c7)(h':ModO W' base' P a1' c1' a2' c2' bl' a3' c3' a5' c5' a6' c6' a7' c7'):bl.length=bl'.length/\∀ i,i<bl.length->(bl'.getD i zB).2.1=(bl.getD i zB).2.1/\(bl'.getD i zB).2.2.2=(bl.getD i zB).2.2.2:=by
 have e:bl.map (fun B=>B.2.2.2)=bl'.map (fun B=>B.2.2.2):=h.bls.trans h'.bls.symm;have hl:bl.length=bl'.length:=by have:=congrArg List.length e;simpa using this
 refine ⟨hl,fun i hi=>?_⟩
 have e2:(bl.getD i zB).2.2.2=(bl'.getD i zB).2.2.2:=by
  have:=congrArg (fun l=>l[i]?) e;simp [hi,show i<bl'.length by omega] at this;simpa [xB,hi,show i<bl'.length by omega] using this
 have m1:bl.getD i zB∈bl:=by simp [xB,hi]
 have m2:bl'.getD i zB∈bl':=by simp [xB,show i<bl'.length by omega]
 exact ⟨by rw [(h'.b.rows _ m2).1,(h.b.rows _ m1).1,e2],e2.symm⟩
structure Mb where
 a1:qO
 c1:Nat
 a2:qO
 c2:Nat
 bl:List Bk
 a3:qO
 c3:Nat
 a5:qO
 c5:Nat
 a6:qO
 c6:Nat
 a7:qO
 c7:Nat
abbrev MOb (W:qw)(base:Nat)(x:PMod×Mb):Prop:=ModO W base x.1 x.2.a1 x.2.c1 x.2.a2 x.2.c2 x.2.bl x.2.a3 x.2.c3 x.2.a5 x.2.c5 x.2.a6 x.2.c6 x.2.a7 x.2.c7
def hdP (x:PMod×Mb):Hd×Ct:=(⟨x.2.a1,x.1.tz.length,x.2.c1,x.2.a2,x.2.bl.length,x.2.c2,bkF x.2.bl,x.2.a3,x.1.dz.length,x.2.c3,x.2.a5,x.1.rz.length,x.2.c5,x.2.a6,x.1.ss.length,x.2.c6,x.2.a7,x.1.es.length,x.2.c7⟩,⟨x.1.nm,x.1.tz,bkX x.2.bl,x.1.dz,x.1.bss,x.1.rz,x.1.ss,x.1.es⟩)
def clB (x:PMod×Mb):List Value:=clH (hdP x)
def mdP (x:PMod×Mb):Md:=⟨x.1.nm,x.2.a1,x.1.tz.length,x.2.c1,x.1.tz,x.2.a2,x.2.bl.length,x.2.c2,x.2.bl,x.2.a3,x.1.dz.length,x.2.c3,x.1.dz,x.1.bss,x.2.a5,x.1.rz.length,x.2.c5,x.1.rz,x.2.a6,x.1.ss.length,x.2.c6,x.1.ss,x.2.a7,x.1.es.length,x.2.c7,x.1.es⟩
theorem ModO.keptS {W W':qw}{x:PMod×Mb}(h:MOb W base x)(ht:Turn S W W')(hS:∀ {t:TypeId} {sz n:Nat} {v:Value} {xs:List Value},W.ownsRow base t sz v n xs->t≠138->∀ k,v.ownBlock=some k->¬ S k):MOb W' base x:=by
 have row:∀ {t:TypeId} {sz n:Nat} {v:Value} {xs:List Value},W.ownsRow base t sz v n xs->t≠138->W'.ownsRow base t sz v n xs:=fun {t} {sz} {n} {v} {xs} ho hne=>by
  have hk:=hS ho hne;obtain ⟨hl,h0|⟨g,cap,cur,hv,hg,hh,h1,h2,h3,h4⟩⟩:=ho
  .exact ⟨hl,.inl h0⟩
  .exact ⟨hl,.inr ⟨g,cap,cur,hv,hg,aF (w:=W) ht hh (hk g (by rw [hv];rfl)),h1,h2,h3,h4⟩⟩
 exact ⟨row h.t (by decide),⟨row h.b.head (by decide),fun B hB=>⟨(h.b.rows B hB).1,row (h.b.rows B hB).2 (by decide)⟩,h.b.apart⟩,h.bls,⟨row h.d.1 (by decide),h.d.2⟩,row h.r (by decide),row h.i (by decide),row h.e (by decide),h.tb,h.tr,h.br⟩
theorem ModO.blw {W W':qw}{x:PMod×Mb}(h:MOb W base x)(hb:qY W W'):MOb W' base x:=ModO.keptS h (S:=fun _=>False) (aJ hb) (fun _ _ _ _ s=>s)
structure OMp (W:qw)(base:Nat)(v:Value)(L:List (PMod×Mb))(β:Nat->Nat):Prop where
 o:OG 138 8 clB W base v L
 m:∀ (i:Nat) (x:PMod×Mb),L[i]?=some x->MOb W (β i) x/\PmG x.1/\∀ j,Sh (hdP x).1 j->j<β (i+1)
 mono:∀ i k,i<=k->k<=L.length->β i<=β k
 lo:base<=β 0
 hi:β L.length<=W.heap.size
theorem OMp.bw {W W':qw}{L:List (PMod×Mb)}(H:OMp W base v L β)(hb:qY W W'):OMp W' base v L β:=⟨H.o.bw hb,fun i x hx=>⟨ModO.blw (H.m i x hx).1 hb,(H.m i x hx).2⟩,H.mono,H.lo,xM H.hi hb.size⟩
theorem aKq (L:List (PMod×Mb)):(L.map hdP).flatMap clH=L.flatMap clB:=by
 rw [List.flatMap_map];rfl
theorem OMp.oms {W:qw}{L:List (PMod×Mb)}(H:OMp W base v L β):OMs W base v (L.map hdP) β where
 o:=by
  have o:=H.o;unfold OG at o ⊢;rw [xH,aKq];exact o
 m:=fun i y hy=>by
  rw [List.getElem?_map,Option.map_eq_some_iff] at hy;obtain ⟨x,hx,rfl⟩:=hy;obtain ⟨h1,h2,h3⟩:=H.m i x hx;exact ⟨ModO.m6G h1 h2,h3⟩
 mono:=by rw [xH];exact H.mono
theorem OMp.msd {W:qw}{L:List (PMod×Mb)}(H:OMp W base v L β)(hl:L.length<=1048576):∃ a cap,v=qS a L.length cap/\MSD W a L.length cap (L.map mdP):=by
 obtain ⟨a,cap,rfl⟩:=aS H.o;refine ⟨a,cap,rfl,?_⟩;have hg:∀ i,i<L.length->∃ x,L[i]?=some x/\(L.map mdP).getD i aK=mdP x:=fun i hi=>⟨L[i],xN hi,by simp [xB,hi]⟩
 have hd:∀ i,i<L.length->((L.map mdP).getD i aK).md W:=fun i hi=>by
  obtain ⟨x,hx,e⟩:=hg i hi;rw [e];exact ModO.mdG (H.m i x hx).1 (H.m i x hx).2.1
 refine ⟨⟨by simp,by unfold maxLen;omega,fun hn=>?_,fun i hi=>?_,?_⟩,hd⟩
 .obtain ⟨g,cp,e,_⟩:=World.ownsRow.form H.o (by omega);simp only [Value.slice.injEq] at e;obtain ⟨rfl,-,rfl⟩:=e;refine ⟨g,0,rfl,fun i hi=>?_⟩;obtain ⟨x,hx,e⟩:=hg i hi;rw [e,Nat.zero_add]
  have k:∀ j,j<8->∀ u,(clB x)[j]?=some u->W.cell? (qR g (i*8+j))=some u:=fun j hj u hu=>by
   have q:=World.ownsRow.cells H.o (g:=g) rfl _ _ ((aAw (fun _=>rfl) L i x hx j hj).trans hu)
   rwa [bN,Nat.zero_add] at q
  exact ⟨k 0 (by omega) _ rfl,k 1 (by omega) _ rfl,k 2 (by omega) _ rfl,k 3 (by omega) _ rfl,k 4 (by omega) _ rfl,k 5 (by omega) _ rfl,k 6 (by omega) _ rfl,k 7 (by omega) _ rfl⟩
 .obtain ⟨x,hx,e⟩:=hg i hi;have q:=hd i hi;rw [e] at q ⊢;exact aJv q
 .obtain ⟨_,h0|⟨g,cp,cur,hv,_,_,h1,_⟩⟩:=H.o
  .simp at h0;rw [h0.1.2.1];exact xC _
  .simp only [Value.slice.injEq] at hv;omega
theorem OMp.pms {W:qw}{L:List (PMod×Mb)}(H:OMp W base v L β):aE (L.map mdP)=L.map (fun x=>x.1):=by
 unfold aE;rw [List.map_map];apply List.ext_getElem
 .simp
 .intro i h1 h2;simp only [xH] at h1;have hb:=(H.m i L[i] (xN h1)).1.bls;simp only [List.getElem_map,Function.comp];generalize L[i]=x at *;obtain ⟨⟨nm,tz,bl,dz,bss,rz,ss,es⟩,y⟩:=x;simp only [Md.pm,mdP] at hb ⊢;rw [hb]
def bup (β:Nat->Nat)(n a b:Nat)(j:Nat):Nat:=if j<=n then (if j=n then a else β j) else b
theorem OMp.push {W w1 w2 w4:qw}{L:List (PMod×Mb)}{x:PMod×Mb}(H:OMp W base (qS a n c) L β)(hl:L.length=n)(b1:qY W w1)(hm:MOb w1 W.heap.size x)(R:PmG x.1)(b2:qY w1 w2)(hown:w4.ownsRow base 138 8 v' (n+1) (L.flatMap clB++clB x))(hgr:w2.grownBy w4 (qS a n c).ownBlock):OMp w4 base v' (L++[x]) (bup β n W.heap.size w1.heap.size):=by
 have b12:qY W w2:=b1.trans (b2.mono b1.size);have H2:=H.bw b12;have T:Turn (fun j=>(qS a n c).ownBlock=some j) w2 w4:=⟨hgr.os,hgr.tape,hgr.output,hgr.size,fun j hj hs=>hgr.block j hj (fun e=>hs e.symm)⟩
 have key:∀ {b:Nat} {y:PMod×Mb},MOb w2 b y->MOb w4 b y:=fun hy=>ModO.keptS hy T (fun ho hne k hk s=>by
  obtain ⟨c1,k1⟩:=aD ho hk;obtain ⟨c2,k2⟩:=aD H2.o s
  exact hne (aI k1 k2))
 have hb0:∀ i,i<n->bup β n W.heap.size w1.heap.size i=β i:=fun i hi=>by unfold bup;rw [if_pos (by omega),if_neg (by omega)]
 have hbn:bup β n W.heap.size w1.heap.size n=W.heap.size:=by unfold bup;rw [if_pos (by omega),if_pos rfl]
 have hb1:bup β n W.heap.size w1.heap.size (n+1)=w1.heap.size:=by unfold bup;rw [if_neg (by omega)]
 have hi:=H.hi;rw [hl] at hi;have mono:=H.mono;rw [hl] at mono;refine ⟨?_,fun i y hy=>?_,fun i k hik hk=>?_,?_,?_⟩
 .unfold OG;rw [xI,hl,xU,xX];exact hown
 .by_cases e:i=n
  .subst e;rw [List.getElem?_append_right (by omega),hl,Nat.sub_self] at hy;simp at hy;subst hy;rw [hbn,hb1];exact ⟨key (ModO.blw hm b2),R,fun j hj=>(M6h.sh (x:=hdP x) (ModO.m6G hm R) hj).1.2⟩
  .have hlt:=dH hy;rw [xI,hl] at hlt;simp at hlt;rw [List.getElem?_append_left (by omega)] at hy;obtain ⟨q1,q2,q3⟩:=H2.m i y hy;rw [hb0 i (by omega)];refine ⟨key q1,q2,fun j hj=>?_⟩;have:=q3 j hj;by_cases e2:i+1=n
   .rw [e2,hbn];rw [e2] at this;omega
   .rw [hb0 (i+1) (by omega)];exact this
 .rw [xI,hl] at hk;simp at hk;have s1:=b1.size;unfold bup;by_cases c1:k<=n
  .rw [if_pos (by omega),if_pos c1];by_cases c2:k=n
   .rw [if_pos c2];split
    .exact aN
    .have:=mono i n (by omega) aN;omega
   .rw [if_neg c2,if_neg (by omega)];exact mono i k hik (by omega)
  .rw [if_neg c1];split
   .split
    .exact s1
    .have:=mono i n (by omega) aN;omega
   .exact aN
 .have lo:=H.lo;unfold bup;rw [if_pos (xC _)];split
  .have:=mono 0 n (xC _) aN;omega
  .exact lo
 .rw [xI,hl];show bup β n W.heap.size w1.heap.size (n+1)<=_;rw [hb1];have:=b2.size;have:=hgr.size;omega
theorem OMp.turn {W W':qw}{L:List (PMod×Mb)}(H:OMp W base v L β)(t:Turn S W W')(hS:∀ j,S j->j<base):OMp W' base v L β:=
 ⟨H.o.kept t (fun k hk s=>by have:=(H.o.lt k hk).1;have:=hS k s;omega),fun i x hx=>⟨ModO.keptS (H.m i x hx).1 t (fun ho _ k hk s=>by
  have h1:=(World.ownsRow.lt ho k hk).1;have h2:=hS k s;have h3:=H.mono 0 i (xC _) (Nat.le_of_lt (dH hx));have h4:=H.lo
  omega),(H.m i x hx).2⟩,H.mono,H.lo,xM H.hi t.size⟩
theorem ModO.keptU {W W':qw}{x:PMod×Mb}(h:MOb W base x)(ht:Turn S W W')(hu:∀ j,Sh (hdP x).1 j->¬ S j)(h2:∀ j cs,Blk W j cs 25->¬ S j):MOb W' base x:=by
 have row:∀ {t:TypeId} {sz n:Nat} {v:Value} {xs:List Value},W.ownsRow base t sz v n xs->(∀ k,v.ownBlock=some k->¬ S k)->W'.ownsRow base t sz v n xs:=fun {t} {sz} {n} {v} {xs} ho hk=>by
  obtain ⟨hl,h0|⟨g,cap,cur,hv,hg,hh,h1,h2,h3,h4⟩⟩:=ho
  .exact ⟨hl,.inl h0⟩
  .exact ⟨hl,.inr ⟨g,cap,cur,hv,hg,aF (w:=W) ht hh (hk g (by rw [hv];rfl)),h1,h2,h3,h4⟩⟩
 exact ⟨row h.t (fun k hk=>hu k (.inl hk)),⟨row h.b.head (fun k hk s=>by obtain ⟨c,kb⟩:=aD h.b.head hk;exact h2 k c kb s),fun B hB=>⟨(h.b.rows B hB).1,row (h.b.rows B hB).2 (fun k hk=>hu k (.inr (.inl (by
  obtain ⟨i,hi,rfl⟩:=List.getElem_of_mem hB
  exact ⟨i,hi,by simpa [hdP,bkF,xB,hi] using hk⟩))))⟩,h.b.apart⟩,h.bls,⟨row h.d.1 (fun k hk=>hu k (.inr (.inr (.inl hk)))),h.d.2⟩,row h.r (fun k hk=>hu k (.inr (.inr (.inr (.inl hk))))),row h.i (fun k hk=>hu k (.inr (.inr (.inr (.inr (.inl hk)))))),row h.e (fun k hk=>hu k (.inr (.inr (.inr (.inr (.inr hk)))))),h.tb,h.tr,h.br⟩
theorem OMp.keep {W W':qw}{L:List (PMod×Mb)}(H:OMp W base v L β)(t:Turn S W W')(hv:∀ j,v.ownBlock=some j->¬ S j)(hS:∀ j,S j->β L.length<=j)(h2:∀ j cs,Blk W j cs 25->¬ S j):OMp W' base v L β:=
 ⟨H.o.kept t hv,fun i x hx=>⟨ModO.keptU (H.m i x hx).1 t (fun j hj s=>by
  have q1:=(H.m i x hx).2.2 j hj;have q2:=H.mono (i+1) L.length (dH hx) aN;have q3:=hS j s
  omega) h2,(H.m i x hx).2⟩,H.mono,H.lo,xM H.hi t.size⟩
theorem aL9 (W:qw)(base:Nat)(hb:base<=W.heap.size):OMp W base (qS none 0 0) [] (fun _=>W.heap.size):=⟨fI _ _ _ _ _,fun i x hx=>by simp at hx,fun _ _ _ _=>aN,hb,aN⟩
structure Cpm (W0 X:qw)(gm:Nat)(cs:Array Value):Prop where
 b:qY W0 X
 k:Blk X gm cs 138
 g:W0.heap.size<=gm
theorem Cpm.bw {W0 X X':qw}(h:Cpm W0 X gm cs)(hb:qY X X'):Cpm W0 X' gm cs:=⟨h.b.trans (hb.mono h.b.size),h.k.bw hb,h.g⟩
theorem Cpm.grown {W0 X A X':qw}(h:Cpm W0 X gm cs)(ha:qY X A)(hg:X.heap.size<=g)(G:A.grownBy X' (some g)):Cpm W0 X' gm cs/\Turn (fun j=>j=gm\/X.heap.size<=j) X X':=by
 have T:Turn (fun j=>j=gm\/X.heap.size<=j) X X':=(aJ ha).trans ⟨G.os,G.tape,G.output,G.size,fun k hk hs=>G.block k hk (fun e=>hs (.inr (by cases e;exact hg)))⟩;have hlt:=h.k.lt;exact ⟨⟨aG (h.b.trans (ha.mono h.b.size)) (S:=fun k=>k=g) ⟨G.os,G.tape,G.output,G.size,fun k hk hs=>G.block k hk (fun e=>hs (by cases e;rfl))⟩ (fun k hk=>by have:=h.b.size;omega) (xM h.b.size ha.size),cJ G (h.k.bw ha) (fun e=>by cases e;omega),h.g⟩,T⟩
theorem Cpm.set {W0 X:qw}(h:Cpm W0 X gm cs)(j:Nat)(u:Value):Cpm W0 (X.setCell (qR gm j) u) gm (cs.setIfInBounds j u)/\Turn (fun k=>k=gm) X (X.setCell (qR gm j) u):=⟨⟨aG h.b (aC X gm j u) (fun k hk=>by have:=h.g;omega) h.b.size,h.k.set j u,h.g⟩,aC X gm j u⟩
theorem cF {X X':qw}{t:TypeId}(T:Turn (fun j=>j=gm\/X.heap.size<=j) X X')(kg:Blk X gm cs 138)(h:X.ownsRow b t sz v n xs)(hne:t≠138):X'.ownsRow b t sz v n xs:=by
 have hk:∀ k,v.ownBlock=some k->¬ (k=gm\/X.heap.size<=k):=fun k hk s=>by
  rcases s with rfl|s
  .obtain ⟨c,kb⟩:=aD h hk;exact hne (aI kb kg)
  .have:=(World.ownsRow.lt h k hk).2;omega
 obtain ⟨hl,h0|⟨g,cap,cur,hv,hg,hh,h1,h2,h3,h4⟩⟩:=h
 .exact ⟨hl,.inl h0⟩
 .exact ⟨hl,.inr ⟨g,cap,cur,hv,hg,aF (w:=X) T hh (hk g (by rw [hv];rfl)),h1,h2,h3,h4⟩⟩
theorem Cpm.row {α:Type}{f:α->List Value}{W0 X w':qw}{t:TypeId}{ys:List α}(h:Cpm W0 X gm cs)(j:Nat)(O:OG t sz f w' X.heap.size v' ys)(hne:t≠138)(G:(X.alloc (.cells #[] t)).grownBy w' (some X.heap.size)):
 Blk w' gm cs 138/\Cpm W0 (w'.setCell (qR gm j) v') gm (cs.setIfInBounds j v')/\OG t sz f (w'.setCell (qR gm j) v') X.heap.size v' ys/\Turn (fun j=>j=gm\/X.heap.size<=j) X (w'.setCell (qR gm j) v'):=by
 obtain ⟨c1,t1⟩:=h.grown bal aN G;obtain ⟨c2,t2⟩:=c1.set j v';refine ⟨c1.k,c2,O.kept t2 (fun k hk e=>?_),t1.trans (t2.mono (fun k hk=>.inl hk))⟩;subst e;obtain ⟨c,kb⟩:=aD O hk;exact hne (aI kb c1.k)
theorem aAv (zs:qi):zs.flatMap (fun z=>[Value.int .u8 z])=zs.map (Value.int .u8):=cY _ zs
theorem aPj {W:qw}{zs:qi}(h:OB W base v zs):OG 5 1 (fun z=>[Value.int .u8 z]) W base v zs:=by
 unfold OG;rw [aAv];exact h.1
theorem aNk {W:qw}{zs:qi}(h:OG 5 1 (fun z=>[Value.int .u8 z]) W base v zs)(hz:∀ z∈zs,0<=z/\z<=255):OB W base v zs:=by
 unfold OG at h;rw [aAv] at h;exact ⟨h,hz⟩
theorem aCs (a:qO)(n cap:Nat)(zs:qi)(w:qw)(h:Srd (fun z=>[Value.int .u8 z]) w a n cap zs)(hb8:∀ z∈zs,0<=z/\z<=255)(hl:zs.length=n)(hn:n<=1048576):
 qC 149 #[qS a n cap] w fun e w'=>∃ a cap',e=.returned (qS a n cap')/\OB w' w.heap.size (qS a n cap') zs/\qY w w':=by
 obtain ⟨i0,hi,hz0,hz1,hz2⟩:=info_parts wU;have hsrc:=zh (h.bw ((Below.refl w.heap.size w).alloc aN (.cells #[] 5)));have hz:=zh hb8;have hown:=zh (bI 5 1 (fun z=>[Value.int .u8 z]) w w.heap.size aN);have hb:=zh ((Below.refl w.heap.size w).alloc aN (.cells #[] 5));clear h hb8;go_enter func149,ntmps149
 go_wp2_with (at_builtin;refine bG rfl _ _ 28 rfl w.heap.size 5 i0 (.int .u8 0) 1 1 underlying28 hi hz0 hz1 hz2 rfl (by decide) _ [] rfl hown.o a n cap zs rfl hsrc.o (fun _=>rfl) (fun y u hu=>by simp at hu;subst hu;rfl) (by unfold maxLen;simp;omega) (by simp;omega) (by simp) ?_;intro v' w1 hown1 hgr1)
 rw [List.nil_append] at hown1;obtain ⟨a',c',rfl⟩:=aS hown1;have HF:=zh (xA (aNk hown1 hz.o) (aG hb.o (S:=fun k=>k=w.heap.size) ⟨hgr1.os,hgr1.tape,hgr1.output,hgr1.size,fun k hk hs=>hgr1.block k hk (fun e=>hs (by cases e;rfl))⟩ (fun k hk=>by omega) (by simp)));rw [hl] at HF ⊢;clear hown1 hgr1;go_ret;exact ⟨a',c',rfl,HF.o.1,HF.o.2⟩
theorem oU {X W w6:qw}(h:Below b X W)(hs:b<=W.heap.size)(hv:v.ownBlock=some b)(G:W.grownBy w6 v.ownBlock):Below b X w6:=aG h (S:=fun k=>k=b) ⟨G.os,G.tape,G.output,G.size,fun k hk hs=>G.block k hk (fun e=>hs (by rw [hv] at e;cases e;rfl))⟩ (fun k hk=>by omega) hs
structure Cpb (W0 X:qw)(gm lo:Nat)(t1:qO)(e1:Nat)(tz:qi)(a2:qO)(c2:Nat)(bl:List Bk)(nm v3 v4 v5 v6 v7:Value):Prop where
 c:Cpm W0 X gm #[nm,qS t1 tz.length e1,qS a2 bl.length c2,v3,v4,v5,v6,v7]
 t:OG 3 1 clI X W0.heap.size (qS t1 tz.length e1) tz
 b:OBk X lo (qS a2 bl.length c2) bl
 tl:∀ k,(qS t1 tz.length e1).ownBlock=some k->k<lo
 gl:gm<lo
 lh:lo<=X.heap.size
section
variable {W0 X X' w' w4:qw}{gm lo:Nat}{t1:qO}{e1:Nat}{tz:qi}{a2:qO}{c2:Nat}{bl:List Bk}{nm v2 v3 v4 v5 v6 v7 u:Value}
theorem Cpb.bw (h:Cpb W0 X gm lo t1 e1 tz a2 c2 bl nm v3 v4 v5 v6 v7)(hb:qY X X'):Cpb W0 X' gm lo t1 e1 tz a2 c2 bl nm v3 v4 v5 v6 v7:=⟨h.c.bw hb,h.t.bw hb,h.b.turn (S:=fun _=>False) (aJ hb) (fun _ s=>absurd s id),h.tl,h.gl,xM h.lh hb.size⟩
theorem jJ {t:TypeId}(G:(X.alloc (.cells #[] t)).grownBy w' (some X.heap.size)):qY X w':=aG (brf.alloc aN (.cells #[] t)) (S:=fun k=>k=X.heap.size) ⟨G.os,G.tape,G.output,G.size,fun k hk hs=>G.block k hk (fun e=>hs (by cases e;rfl))⟩ (fun k hk=>by omega) (by simp)
theorem Cpb.new (h:Cpm W0 X gm #[nm,qS t1 tz.length e1,v2,v3,v4,v5,v6,v7])(ht:OG 3 1 clI X W0.heap.size (qS t1 tz.length e1) tz):Cpb W0 ((X.alloc (.cells #[] 25)).setCell (qR gm 2) (qS (qP X.heap.size) 0 0)) gm X.heap.size t1 e1 tz (qP X.heap.size) 0 [] nm v3 v4 v5 v6 v7:=by
 have hb:qY X (X.alloc (.cells #[] 25)):=bal;have c1:=h.bw hb;obtain ⟨c2,t2⟩:=c1.set 2 (qS (qP X.heap.size) 0 0);refine ⟨c2,(ht.bw hb).kept t2 (fun k hk e=>?_),OBk.turn (w:=X.alloc (.cells #[] 25)) ⟨bI 25 1 (fun v:Value=>[v]) X X.heap.size aN,by simp,by simp⟩ t2 (fun k e hk=>by have:=h.k.lt;omega),fun k hk=>(ht.lt k hk).2,h.k.lt,by simp⟩;subst e;obtain ⟨c,kb⟩:=aD (ht.bw hb) hk;exact absurd (aI kb c1.k) (by decide)
theorem Cpb.bank {A:qO}{C:Nat}{x:qi}{d:Value}(h:Cpb W0 X gm lo t1 e1 tz a2 c2 bl nm v3 v4 v5 v6 v7)(O:OG 3 1 clI w' X.heap.size (qS A x.length C) x)(hb:qY X w')
 (hown:w4.ownsRow lo 25 1 d (bl.length+1) (bl.map (fun B=>qS B.1 B.2.1 B.2.2.1)++[qS A x.length C])) (hg:w'.grownBy w4 (qS a2 bl.length c2).ownBlock):
 Cpm W0 w4 gm #[nm,qS t1 tz.length e1,qS a2 bl.length c2,v3,v4,v5,v6,v7]/\∃ a2' c2',d=.slice a2' (bl++[((A,x.length,C,x):Bk)]).length c2'/\Cpb W0 (w4.setCell (qR gm 2) d) gm lo t1 e1 tz a2' c2' (bl++[((A,x.length,C,x):Bk)]) nm v3 v4 v5 v6 v7:=by
 have h1:=h.bw hb;have hX:=h.b;have B4:=h1.b.push rfl O h.lh (fun B hB j hj=>((h.b.rows B hB).2.lt j hj).2) hown hg;have lw:W0.heap.size<=lo:=by have:=h.c.g;have:=h.gl;omega
 have T:Turn (fun k=>(qS a2 bl.length c2).ownBlock=some k) w' w4:=⟨hg.os,hg.tape,hg.output,hg.size,fun k hk hs=>hg.block k hk (fun e=>hs e.symm)⟩
 have k4:Blk w4 gm #[nm,qS t1 tz.length e1,qS a2 bl.length c2,v3,v4,v5,v6,v7] 138:=cJ hg h1.c.k (fun e=>by
  obtain ⟨c,kb⟩:=aD h1.b.head e.symm
  exact absurd (aI kb h1.c.k) (by decide))
 have t4:=h1.t.kept T (fun k hk s=>by
  obtain ⟨c,kb⟩:=aD h1.t hk;obtain ⟨c',kb'⟩:=aD h1.b.head s
  exact absurd (aI kb kb') (by decide))
 have c4:Cpm W0 w4 gm #[nm,qS t1 tz.length e1,qS a2 bl.length c2,v3,v4,v5,v6,v7]:=⟨aG h1.c.b T (fun k hk=>by have:=(h1.b.lt k hk).1;omega) h1.c.b.size,k4,h1.c.g⟩;obtain ⟨a',c',rfl⟩:=aHm B4;obtain ⟨c5,t5⟩:=c4.set 2 (.slice a' (bl++[((A,x.length,C,x):Bk)]).length c');refine ⟨c4,a',c',rfl,c5,t4.kept t5 (fun k hk e=>?_),B4.turn t5 (fun k e hk=>by have:=h.gl;omega),h.tl,h.gl,by rw [aL];exact xM h1.lh hg.size⟩;subst e;obtain ⟨c,kb⟩:=aD t4 hk;exact absurd (aI kb k4) (by decide)
theorem Cpb.put (h:Cpb W0 X gm lo t1 e1 tz a2 c2 bl nm v3 v4 v5 v6 v7)(hb:qY X w')(j:Nat)(e:(#[nm,qS t1 tz.length e1,qS a2 bl.length c2,v3,v4,v5,v6,v7]:Array Value).setIfInBounds j u=#[nm,qS t1 tz.length e1,qS a2 bl.length c2,v3',v4',v5',v6',v7']):
 Cpb W0 (w'.setCell (qR gm j) u) gm lo t1 e1 tz a2 c2 bl nm v3' v4' v5' v6' v7'/\Turn (fun j=>j=gm\/X.heap.size<=j) X (w'.setCell (qR gm j) u):=by
 have h1:=h.bw hb;obtain ⟨c5,t5⟩:=h1.c.set j u;rw [e] at c5;refine ⟨⟨c5,h1.t.kept t5 (fun k hk e=>?_),h1.b.turn t5 (fun k e hk=>by have:=h.gl;omega),h.tl,h.gl,by rw [aL];exact h1.lh⟩,(aJ hb).trans (t5.mono (fun k hk=>.inl hk))⟩;subst e;obtain ⟨c,kb⟩:=aD h1.t hk;exact absurd (aI kb h1.c.k) (by decide)
theorem aFs {t:TypeId}(h:X.ownsRow b t sz v n xs)(kg:Blk X gm cs 138)(hne:t≠138)(j:Nat)(u:Value):(X.setCell (qR gm j) u).ownsRow b t sz v n xs:=cF ((aC X gm j u).mono (fun k hk=>.inl hk)) kg h hne
theorem Cpb.row {α:Type}{f:α->List Value}{t:TypeId}{ys:List α}(h:Cpb W0 X gm lo t1 e1 tz a2 c2 bl nm v3 v4 v5 v6 v7)(O:OG t sz f w' X.heap.size v' ys)(hb:qY X w')(hne:t≠138)(j:Nat)(e:(#[nm,qS t1 tz.length e1,qS a2 bl.length c2,v3,v4,v5,v6,v7]:Array Value).setIfInBounds j v'=#[nm,qS t1 tz.length e1,qS a2 bl.length c2,v3',v4',v5',v6',v7']):
 Cpb W0 w' gm lo t1 e1 tz a2 c2 bl nm v3 v4 v5 v6 v7/\Cpb W0 (w'.setCell (qR gm j) v') gm lo t1 e1 tz a2 c2 bl nm v3' v4' v5' v6' v7'/\OG t sz f (w'.setCell (qR gm j) v') X.heap.size v' ys/\Turn (fun j=>j=gm\/X.heap.size<=j) X (w'.setCell (qR gm j) v')/\X.heap.size<=w'.heap.size:=by
 have h1:=h.bw hb;obtain ⟨c2,t2⟩:=h.put hb j e;exact ⟨h1,c2,aFs O h1.c.k hne j v',t2,hb.size⟩
theorem Cpb.apart {α:Type}{f:α->List Value}{t:TypeId}{ys:List α}(h:Cpb W0 X gm lo t1 e1 tz a2 c2 bl nm v3 v4 v5 v6 v7)(O:OG t sz f w' X.heap.size v' ys):∀ k,v'.ownBlock=some k->(qS t1 tz.length e1).ownBlock≠some k/\∀ B∈bl,(qS B.1 B.2.1 B.2.2.1).ownBlock≠some k:=fun k hk=>by
 have h0:=(O.lt k hk).1;exact ⟨fun e=>by have:=(h.t.lt k e).2;omega,fun B hB e=>by have:=((h.b.rows B hB).2.lt k e).2;omega⟩
theorem Cpb.done {q3 q5 q6 q7:Nat}(h:Cpb W0 X gm lo t1 e1 P.tz a2 c2 bl nm v3 v4 v5 v6 v7)(hbl:bl.map (fun B=>B.2.2.2)=P.bl)(hz:∀ z∈P.dz,0<=z/\z<=255)
 (h3:OG 5 1 (fun z=>[Value.int .u8 z]) X q3 (qS a3 P.dz.length c3) P.dz) (l3:W0.heap.size<=q3) (h5:OG 3 1 clI X q5 (qS a5 P.rz.length c5) P.rz) (l5:W0.heap.size<=q5) (h6:OG 9 1 clT X q6 (qS a6 P.ss.length c6) P.ss) (l6:W0.heap.size<=q6) (h7:OG 163 3 clX X q7 (qS a7 P.es.length c7) P.es) (l7:W0.heap.size<=q7)
 (hap:∀ k,(qS a5 P.rz.length c5).ownBlock=some k->(qS t1 P.tz.length e1).ownBlock≠some k/\∀ B∈bl,(qS B.1 B.2.1 B.2.2.1).ownBlock≠some k):ModO X W0.heap.size P t1 e1 a2 c2 bl a3 c3 a5 c5 a6 c6 a7 c7 where
 t:=h.t
 b:=h.b.mono (by have:=h.c.g;have:=h.gl;omega)
 bls:=hbl
 d:=aNk (h3.mono l3) hz
 r:=h5.mono l5
 i:=h6.mono l6
 e:=h7.mono l7
 tb:=fun k hk B hB e=>by have h1:=h.tl k hk;have h2:=((h.b.rows B hB).2.lt k e).1;omega
 tr:=fun k hk e=>(hap k e).1 hk
 br:=fun k hk B hB=>(hap k hk).2 B hB
end
theorem aGe {α:Type}{f:α->List Value}{sz:Nat}(hf:∀ x,(f x).length=sz):∀ (L:List α) (j:Nat) (u:Value),(L.flatMap f)[j]?=some u->∃ i x r,L[i]?=some x/\j=i*sz+r/\(f x)[r]?=some u
 | [],j,u,h=>by simp at h
 | y::L,j,u,h=>by
   have hy:=hf y;rw [xT] at h;by_cases c:j<(f y).length
   .rw [List.getElem?_append_left c] at h;exact ⟨0,y,j,rfl,by omega,h⟩
   .rw [List.getElem?_append_right (by omega)] at h;obtain ⟨i,x,r,h1,h2,h3⟩:=aGe hf L _ u h;exact ⟨i+1,x,r,by simpa using h1,by rw [Nat.add_mul];omega,h3⟩
section
variable {w:qw}{b off n cap:Nat}
theorem aEm {zs:qi}(h:IS w (some (qR b off)) n cap zs):Srd clI w (some (qR b off)) n cap zs:=⟨h.1,.inr ⟨b,off,rfl,fun j u hu=>by
 have e:zs.flatMap clI=zs.map (Value.int .i64):=cY _ zs;rw [e] at hu;have q:=aAs h j u hu
 rwa [bN] at q⟩⟩
theorem aO4 {zs:qi}(h:BS w (some (qR b off)) n cap zs):Srd (fun z=>[Value.int .u8 z]) w (some (qR b off)) n cap zs:=⟨h.1,.inr ⟨b,off,rfl,fun j u hu=>by
 rw [aAv] at hu;have q:=aA9 h j u hu
 rwa [bN] at q⟩⟩
theorem aN8 (h:SS w (some (qR b off)) n cap ss):Srd clT w (some (qR b off)) n cap ss:=⟨h.1,.inr ⟨b,off,rfl,fun j u hu=>by
 have e:ss.flatMap clT=ss.map Value.string:=cY _ ss;rw [e,List.getElem?_map,Option.map_eq_some_iff] at hu;obtain ⟨s,hs,rfl⟩:=hu;have hj:=dH hs;have hl:=h.1;obtain ⟨b',off',e',hc⟩:=h.2.2.2.1 (by omega);cases e'
 have:=hc j (by omega)
 simpa [xB,hs] using this⟩⟩
theorem aOz (h:ES w (some (qR b off)) n cap es):Srd clX w (some (qR b off)) n cap es:=⟨h.1,.inr ⟨b,off,rfl,fun j u hu=>by
 obtain ⟨i,x,r,h1,rfl,h3⟩:=aGe (sz:=3) (fun _=>rfl) es j u hu;have hj:=dH h1;have hl:=h.1;obtain ⟨b',off',e',hc⟩:=h.2.2.2.1 (by omega);cases e'
 obtain ⟨c0,c1,c2⟩:=hc i (by omega);have ex:es.getD i zE=x:=by simp [xB,h1]
 rw [ex] at c0 c1 c2
 match r,h3 with
 | 0,h3=>simp [clX] at h3;subst h3;exact c0
 | 1,h3=>simp [clX] at h3;subst h3;exact c1
 | 2,h3=>simp [clX] at h3;subst h3;exact c2
 | _+3,h3=>simp [clX] at h3⟩⟩
end
theorem gD {α:Type}{t:TypeId}{f:α->List Value}{w:qw}{xs:List α}(h:OG t sz f w base (qS a n c) xs):n=xs.length:=by
 obtain ⟨a',c',e⟩:=aS h;simp only [Value.slice.injEq] at e;exact e.2.1
theorem mB {w:qw}{zs:qi}(h:OI w base (qS a n c) zs):n=zs.length:=by
 obtain ⟨_,h0|⟨g,cp,cur,hv,_⟩⟩:=h.1
 .simp at h0;rw [h0.1.2.1,h0.2];rfl
 .simp only [Value.slice.injEq] at hv;exact hv.2.1
theorem dZ {w:qw}{zs:qi}(h:OB w base (qS a n c) zs):n=zs.length:=by
 obtain ⟨_,h0|⟨g,cp,cur,hv,_⟩⟩:=h.1
 .simp at h0;rw [h0.1.2.1,h0.2];rfl
 .simp only [Value.slice.injEq] at hv;exact hv.2.1
structure Msr (W:qw)(x:PMod×Mb):Prop where
 t:Srd clI W x.2.a1 x.1.tz.length x.2.c1 x.1.tz
 b:∀ k,k<x.2.bl.length->∃ gb A C zs,x.2.a2=some (qR gb 0)/\x.2.bl[k]?=some (A,zs.length,C,zs)/\W.cell? (qR gb k)=some (qS A zs.length C)/\Srd clI W A zs.length C zs
 bls:x.2.bl.map (fun B=>B.2.2.2)=x.1.bl
 d:Srd (fun z=>[Value.int .u8 z]) W x.2.a3 x.1.dz.length x.2.c3 x.1.dz
 r:Srd clI W x.2.a5 x.1.rz.length x.2.c5 x.1.rz
 i:Srd clT W x.2.a6 x.1.ss.length x.2.c6 x.1.ss
 e:Srd clX W x.2.a7 x.1.es.length x.2.c7 x.1.es
theorem aGj {W W':qw}(hb:qY W W'){a:Addr}(h:W.cell? a=some v):W'.cell? a=some v:=(hb.cell (xD W _ h)).trans h
theorem Msr.bw {W W':qw}{x:PMod×Mb}(h:Msr W x)(hb:qY W W'):Msr W' x:=
 ⟨h.t.bw hb,fun k hk=>by obtain ⟨gb,A,C,zs,e1,e2,e3,o⟩:=h.b k hk;exact ⟨gb,A,C,zs,e1,e2,aGj hb e3,o.bw hb⟩,h.bls,h.d.bw hb,h.r.bw hb,h.i.bw hb,h.e.bw hb⟩
structure OMq (W:qw)(a:qO)(L:List (PMod×Mb)):Prop where
 o:∀ (i:Nat) (x:PMod×Mb),L[i]?=some x->∃ g,a=some (qR g 0)/\At8 W g (i*8) (mdP x)
 m:∀ (i:Nat) (x:PMod×Mb),L[i]?=some x->Msr W x/\PmG x.1
theorem OMq.bw {W W':qw}{L:List (PMod×Mb)}(h:OMq W a L)(hb:qY W W'):OMq W' a L:=
 ⟨fun i x hx=>by obtain ⟨g,e,h8⟩:=h.o i x hx;exact ⟨g,e,h8.bw hb⟩,fun i x hx=>⟨(h.m i x hx).1.bw hb,(h.m i x hx).2⟩⟩
theorem OMq.srcM {W:qw}{L:List (PMod×Mb)}{b1 b2 b3 b5 b6 b7:qO}{d1 d2 d3 d5 d6 d7:Nat}{bq:List Bk}(H:OMq W (qP g) L)(hx:L[i]?=some (P,⟨b1,d1,b2,d2,bq,b3,d3,b5,d5,b6,d6,b7,d7⟩)):
 (W.cell? (qR g (i*8))=some (.string P.nm)/\W.cell? (qR g (i*8+1))=some (qS b1 P.tz.length d1)/\W.cell? (qR g (i*8+2))=some (qS b2 bq.length d2)/\W.cell? (qR g (i*8+3))=some (qS b3 P.dz.length d3)/\W.cell? (qR g (i*8+4))=some (qI P.bss)/\W.cell? (qR g (i*8+5))=some (qS b5 P.rz.length d5)/\W.cell? (qR g (i*8+6))=some (qS b6 P.ss.length d6)/\W.cell? (qR g (i*8+7))=some (qS b7 P.es.length d7))/\Msr W (P,⟨b1,d1,b2,d2,bq,b3,d3,b5,d5,b6,d6,b7,d7⟩)/\PmG P:=by
 obtain ⟨g',e,h8⟩:=H.o i _ hx;cases e
 exact ⟨h8,(H.m i _ hx).1,(H.m i _ hx).2⟩
theorem lA {α β:Type}{f:α->β}{l:List α}{x:α}(h:l[k]?=some x):(l.take (k+1)).map f=(l.take k).map f++[f x]:=by
 rw [List.take_add_one,h,List.map_append];rfl
theorem aFw {W:qw}{L:List (PMod×Mb)}(hl:L.length=n)(h:OG 138 8 clB W base v L):W.ownsRow base 138 8 v n (L.flatMap clB):=by
 subst hl;exact h
theorem aDw {w W0 X w4:qw}{L:List (PMod×Mb)}(O:OMp W0 w.heap.size v L β)(B:qY w W0)(B1:qY W0 X)(hgr:X.grownBy w4 v.ownBlock):qY w w4:=
 aG (B.trans (B1.mono B.size)) (S:=fun q=>v.ownBlock=some q) ⟨hgr.os,hgr.tape,hgr.output,hgr.size,fun q hq hs=>hgr.block q hq (fun e=>hs e.symm)⟩ (fun q hq=>(O.o.lt q hq).1) (xM B.size B1.size)
def TMx (W W':qw):Prop:=Turn (fun j=>∃ cs,Blk W j cs 43) W W'
theorem ModO.keptM {W W':qw}{x:PMod×Mb}(h:MOb W base x)(ht:Turn S W W')(hS:∀ {t:TypeId} {sz n:Nat} {v:Value} {xs:List Value},W.ownsRow base t sz v n xs->t≠43->∀ k,v.ownBlock=some k->¬ S k):MOb W' base x:=by
 have row:∀ {t:TypeId} {sz n:Nat} {v:Value} {xs:List Value},W.ownsRow base t sz v n xs->t≠43->W'.ownsRow base t sz v n xs:=fun {t} {sz} {n} {v} {xs} ho hne=>by
  have hk:=hS ho hne;obtain ⟨hl,h0|⟨g,cap,cur,hv,hg,hh,h1,h2,h3,h4⟩⟩:=ho
  .exact ⟨hl,.inl h0⟩
  .exact ⟨hl,.inr ⟨g,cap,cur,hv,hg,aF (w:=W) ht hh (hk g (by rw [hv];rfl)),h1,h2,h3,h4⟩⟩
 exact ⟨row h.t (by decide),⟨row h.b.head (by decide),fun B hB=>⟨(h.b.rows B hB).1,row (h.b.rows B hB).2 (by decide)⟩,h.b.apart⟩,h.bls,⟨row h.d.1 (by decide),h.d.2⟩,row h.r (by decide),row h.i (by decide),row h.e (by decide),h.tb,h.tr,h.br⟩
theorem lQ {W:qw}{t:TypeId}(h:W.ownsRow base t sz v n xs)(ht:t≠43):∀ k,v.ownBlock=some k->¬ ∃ cs,Blk W k cs 43:=fun k hk ⟨cs,kk⟩=>by
 obtain ⟨c1,k1⟩:=aD h hk;exact ht (aI k1 kk)
theorem dQ {W W':qw}(h:qY W W'):TMx W W':=aJ h
theorem TMx.trans {A B C:qw}(h:TMx A B)(k:TMx B C):TMx A C:=
 ⟨k.os.trans h.os,k.tape.trans h.tape,k.output.trans h.output,xM h.size k.size,fun j hj hs=>by
  have e:=h.block j hj hs
  exact (k.block j (Nat.lt_of_lt_of_le hj h.size) (fun ⟨cs,kb⟩=>hs ⟨cs,e.symm.trans kb⟩)).trans e⟩
theorem fP {W W':qw}(kb:Blk W g cs 43)(t:Turn (fun j=>j=g) W W'):TMx W W':=t.mono (fun j hj=>by subst hj;exact ⟨_,kb⟩)
theorem OMp.tm {W W':qw}{L:List (PMod×Mb)}(h:OMp W base v L β)(t:TMx W W'):OMp W' base v L β:=
 ⟨h.o.kept t (lQ h.o (by decide)),fun i x hx=>⟨ModO.keptM (h.m i x hx).1 t (fun ho hne=>lQ ho hne),(h.m i x hx).2⟩,h.mono,h.lo,xM h.hi t.size⟩
theorem OI.tm {W W':qw}{zs:qi}(h:OI W base v zs)(t:TMx W W'):OI W' base v zs:=aW t h (lQ h.1 (by decide))
theorem qE {W:qw}{v3:Value}{x1 x2 x3:qi}(h:gL W base v1 v2 v3 x1 x2 x3):OM W base v1 v2 v3 x1 x2 x3:=by
 obtain ⟨h1,h2,h3,a12,a13,a23⟩:=h;exact ⟨h1,h2,h3,fun k hk e=>Nat.lt_irrefl k (a12 k k hk e),fun k hk e=>Nat.lt_irrefl k (a13 k k hk e),fun k hk e=>Nat.lt_irrefl k (a23 k k hk e)⟩
section
variable {W W':qw}{base base':Nat}{v1 v2 v3:Value}{x1 x2 x3:qi}
theorem dY (h:gL W base v1 v2 v3 x1 x2 x3)(t:Turn S W W')(hs:∀ j,pX v1 v2 v3 j->¬ S j):gL W' base v1 v2 v3 x1 x2 x3:=⟨aU t h.1 (fun k hk=>hs k (.inl hk)),aU t h.2.1 (fun k hk=>hs k (.inr (.inl hk))),aU t h.2.2.1 (fun k hk=>hs k (.inr (.inr hk))),h.2.2.2⟩
theorem aFx (h:gL W base v1 v2 v3 x1 x2 x3)(t:TMx W W'):gL W' base v1 v2 v3 x1 x2 x3:=dY h t (fun j hj=>by rcases hj with e|e|e;exact lQ h.1.1 (by decide) j e;exact lQ h.2.1.1 (by decide) j e;exact lQ h.2.2.1.1 (by decide) j e)
end
theorem mI (a:qO)(n cap:Nat)(ys:qi)(w:qw)(h:Srd clI w a n cap ys)(hn:n<=1048576):
 qC 163 #[qS a n cap] w fun e w'=>∃ a' c',e=.returned (qS a' n c')/\OG 3 1 clI w' w.heap.size (qS a' n c') ys/\qY w w':=by
 obtain ⟨i0,hi,hz0,hz1,hz2⟩:=info_parts jL;have hnil:=fun (w:qw)=>Lib.run_eql_slice_nil (P:=prog) w 25 3 a n cap 0 0 underlying25;cases a with
 | none=>
   obtain ⟨hl,⟨_,rfl,rfl⟩|⟨g,off,e,_⟩⟩:=h
   .obtain rfl:ys=[]:=xE hl;go_enter func163,ntmps163
    go_wp2;go_ret;exact ⟨none,0,rfl,fI _ _ _ _ _,brf⟩
   .cases e
 | some ad=>
   have hl:=h.1;have hsrc:=zh (h.bw ((Below.refl w.heap.size w).alloc aN (.cells #[] 3)));have hown:=zh (bI 3 1 clI w w.heap.size aN);have hb:=zh ((Below.refl w.heap.size w).alloc aN (.cells #[] 3));clear h;go_enter func163,ntmps163
   go_wp2_with (at_builtin;refine bG rfl _ _ 25 rfl w.heap.size 3 i0 (qI 0) 1 8 underlying25 hi hz0 hz1 hz2 rfl (by decide) _ [] rfl hown.o (some ad) n cap ys rfl hsrc.o (fun _=>rfl) (fun y u hu=>by simp [clI] at hu;subst hu;rfl) (by unfold maxLen;simp;omega) (by simp;omega) (by simp) ?_;intro v' w1 hown1 hgr1)
   rw [List.nil_append] at hown1;obtain ⟨a',c',rfl⟩:=aS hown1;have HF:=zh (xA hown1 (aG hb.o (S:=fun k=>k=w.heap.size) ⟨hgr1.os,hgr1.tape,hgr1.output,hgr1.size,fun k hk hs=>hgr1.block k hk (fun e=>hs (by cases e;rfl))⟩ (fun k hk=>by omega) (by simp)));rw [hl] at HF ⊢;clear hown1 hgr1;go_ret;exact ⟨a',c',rfl,HF.o.1,HF.o.2⟩
theorem aE7 (a:qO)(n cap:Nat)(ys:List ByteArray)(w:qw)(h:Srd clT w a n cap ys)(hn:n<=1048576):
 qC 165 #[qS a n cap] w fun e w'=>∃ a' c',e=.returned (qS a' n c')/\OG 9 1 clT w' w.heap.size (qS a' n c') ys/\qY w w':=by
 obtain ⟨i0,hi,hz0,hz1,hz2⟩:=info_parts aKg;have hnil:=fun (w:qw)=>Lib.run_eql_slice_nil (P:=prog) w 115 9 a n cap 0 0 underlying115;cases a with
 | none=>
   obtain ⟨hl,⟨_,rfl,rfl⟩|⟨g,off,e,_⟩⟩:=h
   .obtain rfl:ys=[]:=xE hl;go_enter func165,ntmps165
    go_wp2;go_ret;exact ⟨none,0,rfl,fI _ _ _ _ _,brf⟩
   .cases e
 | some ad=>
   have hl:=h.1;have hsrc:=zh (h.bw ((Below.refl w.heap.size w).alloc aN (.cells #[] 9)));have hown:=zh (bI 9 1 clT w w.heap.size aN);have hb:=zh ((Below.refl w.heap.size w).alloc aN (.cells #[] 9));clear h;go_enter func165,ntmps165
   go_wp2_with (at_builtin;refine bG rfl _ _ 115 rfl w.heap.size 9 i0 (.string ⟨#[]⟩) 1 16 underlying115 hi hz0 hz1 hz2 rfl (by decide) _ [] rfl hown.o (some ad) n cap ys rfl hsrc.o (fun _=>rfl) (fun y u hu=>by simp [clT] at hu;subst hu;rfl) (by unfold maxLen;simp;omega) (by simp;omega) (by simp) ?_;intro v' w1 hown1 hgr1)
   rw [List.nil_append] at hown1;obtain ⟨a',c',rfl⟩:=aS hown1;have HF:=zh (xA hown1 (aG hb.o (S:=fun k=>k=w.heap.size) ⟨hgr1.os,hgr1.tape,hgr1.output,hgr1.size,fun k hk hs=>hgr1.block k hk (fun e=>hs (by cases e;rfl))⟩ (fun k hk=>by omega) (by simp)));rw [hl] at HF ⊢;clear hown1 hgr1;go_ret;exact ⟨a',c',rfl,HF.o.1,HF.o.2⟩
theorem aE6 (a:qO)(n cap:Nat)(ys:List Ex)(w:qw)(h:Srd clX w a n cap ys)(hn:n<=1048576):
 qC 166 #[qS a n cap] w fun e w'=>∃ a' c',e=.returned (qS a' n c')/\OG 163 3 clX w' w.heap.size (qS a' n c') ys/\qY w w':=by
 obtain ⟨i0,hi,hz0,hz1,hz2⟩:=info_parts aKe;have hnil:=fun (w:qw)=>Lib.run_eql_slice_nil (P:=prog) w 136 163 a n cap 0 0 underlying136;cases a with
 | none=>
   obtain ⟨hl,⟨_,rfl,rfl⟩|⟨g,off,e,_⟩⟩:=h
   .obtain rfl:ys=[]:=xE hl;go_enter func166,ntmps166
    go_wp2;go_ret;exact ⟨none,0,rfl,fI _ _ _ _ _,brf⟩
   .cases e
 | some ad=>
   have hl:=h.1;have hsrc:=zh (h.bw ((Below.refl w.heap.size w).alloc aN (.cells #[] 163)));have hown:=zh (bI 163 3 clX w w.heap.size aN);have hb:=zh ((Below.refl w.heap.size w).alloc aN (.cells #[] 163));clear h;go_enter func166,ntmps166
   go_wp2_with (at_builtin;refine bG rfl _ _ 136 rfl w.heap.size 163 i0 _ 3 32 underlying136 hi hz0 hz1 hz2 rfl (by decide) _ [] rfl hown.o (some ad) n cap ys rfl hsrc.o (fun _=>rfl) (fun y u hu=>by simp [clX] at hu;rcases hu with rfl|rfl|rfl<;>rfl) (by unfold maxLen;simp;omega) (by simp;omega) (by simp) ?_;intro v' w1 hown1 hgr1)
   rw [List.nil_append] at hown1;obtain ⟨a',c',rfl⟩:=aS hown1;have HF:=zh (xA hown1 (aG hb.o (S:=fun k=>k=w.heap.size) ⟨hgr1.os,hgr1.tape,hgr1.output,hgr1.size,fun k hk hs=>hgr1.block k hk (fun e=>hs (by cases e;rfl))⟩ (fun k hk=>by omega) (by simp)));rw [hl] at HF ⊢;clear hown1 hgr1;go_ret;exact ⟨a',c',rfl,HF.o.1,HF.o.2⟩
theorem aE8 (a:qO)(n cap:Nat)(ys:List SlT)(w:qw)(h:Srd bR w a n cap ys)(hn:n<=1048576):
 qC 97 #[qS a n cap] w fun e w'=>∃ a' c',e=.returned (qS a' n c')/\OG 142 4 bR w' w.heap.size (qS a' n c') ys/\qY w w':=by
 obtain ⟨i0,hi,hz0,hz1,hz2⟩:=info_parts aEo;have hnil:=fun (w:qw)=>Lib.run_eql_slice_nil (P:=prog) w 40 142 a n cap 0 0 underlying40;cases a with
 | none=>
   obtain ⟨hl,⟨_,rfl,rfl⟩|⟨g,off,e,_⟩⟩:=h
   .obtain rfl:ys=[]:=xE hl;go_enter func97,ntmps97
    go_wp2;go_ret;exact ⟨none,0,rfl,fI _ _ _ _ _,brf⟩
   .cases e
 | some ad=>
   have hl:=h.1;have hsrc:=zh (h.bw ((Below.refl w.heap.size w).alloc aN (.cells #[] 142)));have hown:=zh (bI 142 4 bR w w.heap.size aN);have hb:=zh ((Below.refl w.heap.size w).alloc aN (.cells #[] 142));clear h;go_enter func97,ntmps97
   go_wp2_with (at_builtin;refine bG rfl _ _ 40 rfl w.heap.size 142 i0 _ 4 32 underlying40 hi hz0 hz1 hz2 rfl (by decide) _ [] rfl hown.o (some ad) n cap ys rfl hsrc.o (fun _=>rfl) (fun y u hu=>by simp [bR] at hu;rcases hu with rfl|rfl|rfl|rfl<;>rfl) (by unfold maxLen;simp;omega) (by simp;omega) (by simp) ?_;intro v' w1 hown1 hgr1)
   rw [List.nil_append] at hown1;obtain ⟨a',c',rfl⟩:=aS hown1;have HF:=zh (xA hown1 (aG hb.o (S:=fun k=>k=w.heap.size) ⟨hgr1.os,hgr1.tape,hgr1.output,hgr1.size,fun k hk hs=>hgr1.block k hk (fun e=>hs (by cases e;rfl))⟩ (fun k hk=>by omega) (by simp)));rw [hl] at HF ⊢;clear hown1 hgr1;go_ret;exact ⟨a',c',rfl,HF.o.1,HF.o.2⟩
theorem aE9 (a:qO)(n cap:Nat)(ys:List FrT)(w:qw)(h:Srd cO w a n cap ys)(hn:n<=1048576):
 qC 98 #[qS a n cap] w fun e w'=>∃ a' c',e=.returned (qS a' n c')/\OG 135 4 cO w' w.heap.size (qS a' n c') ys/\qY w w':=by
 obtain ⟨i0,hi,hz0,hz1,hz2⟩:=info_parts aEp;have hnil:=fun (w:qw)=>Lib.run_eql_slice_nil (P:=prog) w 41 135 a n cap 0 0 underlying41;cases a with
 | none=>
   obtain ⟨hl,⟨_,rfl,rfl⟩|⟨g,off,e,_⟩⟩:=h
   .obtain rfl:ys=[]:=xE hl;go_enter func98,ntmps98
    go_wp2;go_ret;exact ⟨none,0,rfl,fI _ _ _ _ _,brf⟩
   .cases e
 | some ad=>
   have hl:=h.1;have hsrc:=zh (h.bw ((Below.refl w.heap.size w).alloc aN (.cells #[] 135)));have hown:=zh (bI 135 4 cO w w.heap.size aN);have hb:=zh ((Below.refl w.heap.size w).alloc aN (.cells #[] 135));clear h;go_enter func98,ntmps98
   go_wp2_with (at_builtin;refine bG rfl _ _ 41 rfl w.heap.size 135 i0 _ 4 32 underlying41 hi hz0 hz1 hz2 rfl (by decide) _ [] rfl hown.o (some ad) n cap ys rfl hsrc.o (fun _=>rfl) (fun y u hu=>by simp [cO] at hu;rcases hu with rfl|rfl|rfl|rfl<;>rfl) (by unfold maxLen;simp;omega) (by simp;omega) (by simp) ?_;intro v' w1 hown1 hgr1)
   rw [List.nil_append] at hown1;obtain ⟨a',c',rfl⟩:=aS hown1;have HF:=zh (xA hown1 (aG hb.o (S:=fun k=>k=w.heap.size) ⟨hgr1.os,hgr1.tape,hgr1.output,hgr1.size,fun k hk hs=>hgr1.block k hk (fun e=>hs (by cases e;rfl))⟩ (fun k hk=>by omega) (by simp)));rw [hl] at HF ⊢;clear hown1 hgr1;go_ret;exact ⟨a',c',rfl,HF.o.1,HF.o.2⟩
theorem aFa (a:qO)(n cap:Nat)(ys:qi)(w:qw)(h:Srd (fun z=>[Value.int .u8 z]) w a n cap ys)(hn:n<=1048576):
 qC 164 #[qS a n cap] w fun e w'=>∃ a' c',e=.returned (qS a' n c')/\OG 5 1 (fun z=>[Value.int .u8 z]) w' w.heap.size (qS a' n c') ys/\qY w w':=by
 obtain ⟨i0,hi,hz0,hz1,hz2⟩:=info_parts wU;have hnil:=fun (w:qw)=>Lib.run_eql_slice_nil (P:=prog) w 28 5 a n cap 0 0 underlying28;cases a with
 | none=>
   obtain ⟨hl,⟨_,rfl,rfl⟩|⟨g,off,e,_⟩⟩:=h
   .obtain rfl:ys=[]:=xE hl;go_enter func164,ntmps164
    go_wp2;go_ret;exact ⟨none,0,rfl,fI _ _ _ _ _,brf⟩
   .cases e
 | some ad=>
   have hl:=h.1;have hsrc:=zh (h.bw ((Below.refl w.heap.size w).alloc aN (.cells #[] 5)));have hown:=zh (bI 5 1 (fun z=>[Value.int .u8 z]) w w.heap.size aN);have hb:=zh ((Below.refl w.heap.size w).alloc aN (.cells #[] 5));clear h;go_enter func164,ntmps164
   go_wp2_with (at_builtin;refine bG rfl _ _ 28 rfl w.heap.size 5 i0 (.int .u8 0) 1 1 underlying28 hi hz0 hz1 hz2 rfl (by decide) _ [] rfl hown.o (some ad) n cap ys rfl hsrc.o (fun _=>rfl) (fun y u hu=>by simp at hu;subst hu;rfl) (by unfold maxLen;simp;omega) (by simp;omega) (by simp) ?_;intro v' w1 hown1 hgr1)
   rw [List.nil_append] at hown1;obtain ⟨a',c',rfl⟩:=aS hown1;have HF:=zh (xA hown1 (aG hb.o (S:=fun k=>k=w.heap.size) ⟨hgr1.os,hgr1.tape,hgr1.output,hgr1.size,fun k hk hs=>hgr1.block k hk (fun e=>hs (by cases e;rfl))⟩ (fun k hk=>by omega) (by simp)));rw [hl] at HF ⊢;clear hown1 hgr1;go_ret;exact ⟨a',c',rfl,HF.o.1,HF.o.2⟩
def sbO (x:qi):ByteArray:=⟨(x.map fun z=>UInt8.ofNat z.toNat).toArray⟩
theorem aI0:∀ x y:List Int,(∀ z∈x,0<=z/\z<=255)->(∀ z∈y,0<=z/\z<=255)->(x.map fun z=>UInt8.ofNat z.toNat)=(y.map fun z=>UInt8.ofNat z.toNat)->x=y
 | [],[],_,_,_=>rfl
 | [],b::y,_,_,h=>by simp at h
 | a::x,[],_,_,h=>by simp at h
 | a::x,b::y,hx,hy,h=>by
   simp only [List.map_cons,List.cons.injEq] at h;have h1:=hx a (by simp);have h2:=hy b (by simp);have e:=congrArg UInt8.toNat h.1;rw [UInt8.toNat_ofNat',UInt8.toNat_ofNat'] at e;have e':a=b:=by omega
   rw [e',aI0 x y (fun z hz=>hx z (by simp [hz])) (fun z hz=>hy z (by simp [hz])) h.2]
theorem aOc {x y:qi}(hx:∀ z∈x,0<=z/\z<=255)(hy:∀ z∈y,0<=z/\z<=255):sbO x=sbO y ↔ x=y:=by
 constructor
 .intro h;unfold sbO at h;simp at h;exact aI0 x y hx hy (by simpa using h)
 .rintro rfl;rfl
theorem aC8 (w:qw)(a:qO)(n c:Nat)(x:qi)(h:BS w a n c x):(convert 28 9 (qS a n c)).run prog w=.ok (.string (sbO x)) w:=by
 obtain ⟨rfl,h2,h3,h4,h5⟩:=h;by_cases hn:x.length=0
 .obtain rfl:x=[]:=xE hn;rw [run_convert_bytes_string w 28 9 5 a _ c underlying28 underlying5 underlying9];cases a<;>simp [Conv.bytesToString,sbO]<;>rfl
 .obtain ⟨b,k,rfl,hc⟩:=h4 hn;have hl:(x.map fun z=>UInt8.ofNat z.toNat).length=x.length:=by simp
  have:=run_convert_bytes_back (P:=prog) w 28 9 5 (qR b k) c (x.map fun z=>UInt8.ofNat z.toNat) underlying28 underlying5 underlying9 (fun j hj=>by
   have hj':j<x.length:=by simpa using hj
   rw [bN,hc j hj'];have e1:x.getD j 0=x[j]:=by simp [xB,hj']
   have hz:=h3 _ (List.getElem_mem hj');have e2:(UInt8.ofNat (x[j]).toNat).toNat=(x[j]).toNat%256:=UInt8.toNat_ofNat';rw [List.getElem_map,e2,e1];congr 2
   omega)
  rw [hl] at this;exact this
theorem kP (a a':qO)(n c n' c':Nat)(x y:qi)(w:qw)(h:BS w a n c x)(h':BS w a' n' c' y):
 qC 193 #[qS a n c,qS a' n' c'] w fun e w'=>e=.returned (.bool (decide (x=y)))/\w=w':=by
 have h1:=aC8 w a n c x h;have h2:=aC8 w a' n' c' y h';have HE:=zh (aOc h.2.2.1 h'.2.2.1);clear h h';generalize sbO x=s at *;generalize sbO y=t at *;go_enter func193,ntmps193
 go_wp2;go_ret;refine ⟨aA ?_,rfl⟩;rw [xJ];simp [<- HE.o,ByteArray.toList_eq];exact ⟨fun h=>by cases s;cases t;cases h;rfl,fun h=>by rw [h]⟩
theorem RowI.oi {w:qw}{zs:qi}(h:RowI w g zs)(hb:base<=g)(hm:zs.length<=maxLen)(hz:∀ z∈zs,wfi z):OI w base (qS (qP g) zs.length zs.length) zs:=
 ⟨⟨by simp,.inr ⟨g,zs.length,(zs.map (Value.int .i64)).toArray,rfl,hb,h,aN,hm,by simp,by simp [xG]⟩⟩,hz⟩
