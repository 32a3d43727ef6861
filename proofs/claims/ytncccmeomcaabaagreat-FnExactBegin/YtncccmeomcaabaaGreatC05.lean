import Derived.Deep.OwnRows
import Derived.Laws.CopyOwn
import Derived.Laws.AppendOwnNone
import Derived.Test.YtncccmeomcaabaaGreatC03
set_option linter.all false
set_option maxHeartbeats 8000000
namespace Go.Proofs.YtncccmeomcaabaaGreat
open Go.RowKit Classical
open Go.Proofs.Tryz
set_option maxRecDepth 100000
variable {L:Lay}{P:PMod}{Q S:Nat->Prop}{a a0 a2 a5:qO}{b base c c0 c2 c5 cap f g gm i j m n o sz:Nat}{c':Ct}{cs:Array Value}{d k s w:Int}{hs:List Hd}{m':Md}{ms ms':List Md}{ps:List PMod}{rs:List Rg}{ts:List TB}{v v' v1 v3:Value}{x:Hd}{xs:List PB}{zs:List Tg}{β:Nat->Nat}
structure Mkg (w W:qw)(base:Nat)(Q:Nat->Prop)(v:Value)(hs:List Hd)(L:List (Hd×Ct))(β:Nat->Nat)(k m:Nat):Prop where
 o:OMs W base v L β
 h:L.map (fun x=>x.1)=hs
 d:∀ i,i<m->L[i]?=some (hs.getD i zHd,mkC (hs.getD i zHd) (k+upS (fun j=>aY (hs.getD j zHd)) i))
 t:Turn Q w W
theorem aOx {L:List (Hd×Ct)}(h:L.map (fun x=>x.1)=hs)(hm:m<hs.length):∃ c,L[m]?=some (hs.getD m zHd,c):=by
 subst h;rw [xH] at hm;exact ⟨L[m].2,by simp [xB,hm]⟩
theorem aK1 {L:List (Hd×Ct)}(h:L.map (fun x=>x.1)=hs){c:Ct}(hx:L[i]?=some (x,c)):(L.set i (x,c')).map (fun x=>x.1)=hs:=by
 subst h;apply List.ext_getElem?;intro n;rw [List.getElem?_map,List.getElem?_map,List.getElem?_set];by_cases e:i=n
 .subst e;rw [if_pos rfl,if_pos (dK hx),hx];rfl
 .rw [if_neg e]
theorem aLi {α:Type}{L:List α}{x x':α}(h:L[i]?=some x):(L.set i x')[i]?=some x':=by rw [List.getElem?_set_self (dK h)]
structure Mkm (w W:qw)(base:Nat)(Q:Nat->Prop)(g n cap:Nat)(hs:List Hd)(L:List (Hd×Ct))(β:Nat->Nat)(k m:Nat)(x:Hd)(c:Ct):Prop where
 o:OMs W base (qS (qP g) n cap) L β
 h:L.map (fun x=>x.1)=hs
 d:∀ i,i<m->L[i]?=some (hs.getD i zHd,mkC (hs.getD i zHd) (k+upS (fun j=>aY (hs.getD j zHd)) i))
 t:Turn Q w W
 x:L[m]?=some (x,c)
theorem Mkm.bw {w W W':qw}{L:List (Hd×Ct)}{k:Nat}{c:Ct}(H:Mkm w W base Q g n cap hs L β k m x c)(hb:qY W W'):Mkm w W' base Q g n cap hs L β k m x c:=⟨H.o.bw hb,H.h,H.d,H.t.trans (aJ hb),H.x⟩
theorem Mkm.mod {w W W':qw}{L:List (Hd×Ct)}{k:Nat}{c:Ct}(H:Mkm w W base Q g n cap hs L β k m x c)(M':M6h W' (β m) (x,c'))(e:clH (x,c')=clH (x,c))(hS:∀ j,S j->Sh x j)(hb:∀ j,Sh x j->Q j)(T:Turn S W W'):Mkm w W' base Q g n cap hs (L.set m (x,c')) β k m x c':=
 ⟨H.o.mod H.x M' e hS T,aK1 H.h H.x,fun i hi=>by rw [List.getElem?_set_ne (by omega)];exact H.d i hi,H.t.trans (T.mono (fun j s=>hb j (hS j s))),aLi H.x⟩
theorem Mkm.cell {w W:qw}{L:List (Hd×Ct)}{k:Nat}{c:Ct}(H:Mkm w W base Q g n cap hs L β k m x c)(hn:L.length=n)(j:Nat)(hj:j<8)(u:Value)(e:clH (x,c')=(clH (x,c)).set j u)(hM:M6h W (β m) (x,c'))(hg:Q g):Mkm w (W.setCell (qR g (m*8+j)) u) base Q g n cap hs (L.set m (x,c')) β k m x c':=
 ⟨H.o.cell hn H.x j hj u e hM,aK1 H.h H.x,fun i hi=>by rw [List.getElem?_set_ne (by omega)];exact H.d i hi,H.t.trans ((aC W g _ u).mono (fun j s=>by subst s;exact hg)),aLi H.x⟩
theorem oR (g n cap base k:Nat)(Q:Nat->Prop)(hs:List Hd)(L:List (Hd×Ct))(β:Nat->Nat)(w:qw)(H:OMs w base (qS (qP g) n cap) L β)(hL:L.map (fun x=>x.1)=hs)(hl:L.length=n)(h0:0<k)(hz:k+upS (fun j=>aY (hs.getD j zHd)) n<=4194305)(hb:∀ i,i<n->(hs.getD i zHd).bn<=1048576)(hn:n<=1048576)(hg:Q g)(hsh:∀ i,i<n->∀ j,Sh (hs.getD i zHd) j->Q j):
 qC 48 #[qS (qP g) n cap,qI k] w fun e w'=>e=.returned (qI ((k+upS (fun j=>aY (hs.getD j zHd)) n:Nat):Int))/\∃ L',Mkg w w' base Q (qS (qP g) n cap) hs L' β k n:=by
 have hsl:hs.length=n:=by rw [<- hL,xH,hl]
 have HH:=zh (xA H hL);clear H hL hl;go_enter func48,ntmps48
 go_wp2;go_loopw [1,5] (fun x i wr=>∃ m:Nat,m<=n/\i=qI m/\x=qI ((k+upS (fun j=>aY (hs.getD j zHd)) m:Nat):Int)/\∃ L',Mkg w wr base Q (qS (qP g) n cap) hs L' β k m) (fun _ i _=>n-(intOf i).toNat)
 .exact ⟨0,xC _,rfl,rfl,L,HH.o.1,HH.o.2,fun i hi=>absurd hi (Nat.not_lt_zero _),Turn.refl _ _⟩
 .obtain ⟨m,hm,rfl,rfl,L',R⟩:=hrel;by_cases hlt:m<n
  .have hlt':(m:Int)<(n:Int):=by omega
   obtain ⟨c,hc⟩:=aOx R.h (show m<hs.length by omega);have y7:=hb m hlt;have hle:aY (hs.getD m zHd)+upS (fun j=>aY (hs.getD j zHd)) m<=upS (fun j=>aY (hs.getD j zHd)) n:=zQ (fun j=>aY (hs.getD j zHd)) n m hlt;have HSU:Zh (upS (fun j=>aY (hs.getD j zHd)) (m+1)=upS (fun j=>aY (hs.getD j zHd)) m+aY (hs.getD m zHd)):=rfl;have HSH:=zh (hsh m hlt);have HCN:Zh (aY (hs.getD m zHd)=2+(hs.getD m zHd).tn+bL (hs.getD m zHd).f (hs.getD m zHd).bn+(hs.getD m zHd).dn+(hs.getD m zHd).rn+(hs.getD m zHd).im+3*(hs.getD m zHd).en):=rfl;have HX:Zh (Mkm w wr base Q g n cap hs L' β k m (hs.getD m zHd) c):=zh ⟨R.o,R.h,R.d,R.t,hc⟩;have HLN:Zh (∀ (L:List (Hd×Ct)),L.map (fun x=>x.1)=hs->L.length=n):=fun L h=>by rw [<- hsl,<- h,xH]
   have HFI:=zh (fun (W:qw) (L2:List (Hd×Ct)) (c2:Ct) (Z:Mkm w W base Q g n cap hs L2 β k m (hs.getD m zHd) c2) (e:c2=mkC (hs.getD m zHd) (k+upS (fun j=>aY (hs.getD j zHd)) m))=>(⟨Z.o,Z.h,fun i hi=>by
    by_cases q:i=m
    .subst q;rw [Z.x,e]
    .exact Z.d i (by omega),Z.t⟩:Mkg w W base Q (qS (qP g) n cap) hs L2 β k (m+1)))
   have HMK:Zh (mkC (hs.getD m zHd) (k+upS (fun j=>aY (hs.getD j zHd)) m)=mkC (hs.getD m zHd) (k+upS (fun j=>aY (hs.getD j zHd)) m)):=rfl;clear R hc hsh HH;generalize upS (fun j=>aY (hs.getD j zHd)) m=sm at *;generalize hs.getD m zHd=q at *;have hC:=HCN.o;clear HMK HCN;generalize hsb:bL q.f q.bn=sb at *;have HSB:=zh hsb;generalize aY q=cm at *;obtain ⟨nm,T,X,D,s,R,I,E⟩:=c;go_wp2_with fail
   refine (dN (k+sm) wr).mono ?_;rintro e w1 ⟨rfl,hb1⟩;have Z1:=HX.o.bw hb1;obtain ⟨⟨p0,p1,p2,p3,p4,p5,p6,p7⟩,pf⟩:=Z1.o.at Z1.x;have f0:=pf (m*8);have Z2:=Z1.cell (c':=⟨mtx (k+sm),T,X,D,s,R,I,E⟩) (HLN.o _ Z1.h) 0 (by omega) (.string (mtx (k+sm))) rfl (Z1.o.m m _ Z1.x).1 hg;simp only [Nat.add_zero] at Z2;clear HX Z1 hb1 p1 p2 p3 p4 p5 p6 p7 pf hsb;obtain ⟨⟨_,q1,_⟩,_⟩:=Z2.o.at Z2.x;go_wp2_with fail
   refine (fU q.a1 q.tn q.c1 (β m) _ (k+sm+1) _ (Z2.o.m m _ Z2.x).1.t).mono ?_;rintro e w2 ⟨rfl,O,U⟩;have Z3:=Z2.mod (c':=⟨mtx (k+sm),bG (k+sm+1) q.tn,X,D,s,R,I,E⟩) ((Z2.o.m m _ Z2.x).1.set_t O U) rfl (fun j s=>.inl s) HSH.o U;clear Z2 O U q1 p0 f0;obtain ⟨⟨_,_,q2,_⟩,_⟩:=Z3.o.at Z3.x;go_wp2_with fail
   refine (wD q.a2 q.bn q.c2 (k+sm+1+q.tn) (β m) q.f _ _ (Z3.o.m m _ Z3.x).1.b (by omega) (by rw [HSB.o];omega) (by omega)).mono ?_;rw [HSB.o];rintro e w3 ⟨rfl,O,U⟩;have Z4:=Z3.mod (c':=⟨mtx (k+sm),bG (k+sm+1) q.tn,mrk (k+sm+1+q.tn) q.f,D,s,R,I,E⟩) ((Z3.o.m m _ Z3.x).1.set_b O U) rfl (fun j s=>.inr (.inl s)) HSH.o U;clear Z3 O U q2;obtain ⟨⟨_,_,_,q3,_⟩,_⟩:=Z4.o.at Z4.x;go_wp2_with fail
   refine (eP q.a3 q.dn q.c3 (β m) _ (k+sm+1+q.tn+sb) _ (Z4.o.m m _ Z4.x).1.d).mono ?_;rintro e w4 ⟨rfl,O,U⟩;have Z5:=Z4.mod (c':=⟨mtx (k+sm),bG (k+sm+1) q.tn,mrk (k+sm+1+q.tn) q.f,cJ (k+sm+1+q.tn+sb) q.dn,s,R,I,E⟩) ((Z4.o.m m _ Z4.x).1.set_d O U) rfl (fun j s=>.inr (.inr (.inl s))) HSH.o U;clear Z4 O U q3;obtain ⟨⟨_,_,_,_,q4,_⟩,qf⟩:=Z5.o.at Z5.x;have f4:=qf (m*8+4);have Z6:=Z5.cell (c':=⟨mtx (k+sm),bG (k+sm+1) q.tn,mrk (k+sm+1+q.tn) q.f,cJ (k+sm+1+q.tn+sb) q.dn,((k+sm+1+q.tn+sb+q.dn:Nat):Int),R,I,E⟩) (HLN.o _ Z5.h) 4 (by omega) (qI ((k+sm+1+q.tn+sb+q.dn:Nat):Int)) rfl (Z5.o.m m _ Z5.x).1 hg;clear Z5 qf;obtain ⟨⟨_,_,_,_,_,q5,_⟩,_⟩:=Z6.o.at Z6.x;go_wp2_with fail
   refine (fU q.a5 q.rn q.c5 (β m) _ (k+sm+1+q.tn+sb+q.dn+1) _ (Z6.o.m m _ Z6.x).1.r).mono ?_;rintro e w5 ⟨rfl,O,U⟩;have Z7:=Z6.mod (c':=⟨mtx (k+sm),bG (k+sm+1) q.tn,mrk (k+sm+1+q.tn) q.f,cJ (k+sm+1+q.tn+sb) q.dn,((k+sm+1+q.tn+sb+q.dn:Nat):Int),bG (k+sm+1+q.tn+sb+q.dn+1) q.rn,I,E⟩) ((Z6.o.m m _ Z6.x).1.set_r O U) rfl (fun j s=>.inr (.inr (.inr (.inl s)))) HSH.o U;clear Z6 O U q5 q4 f4;obtain ⟨⟨_,_,_,_,_,_,q6,_⟩,_⟩:=Z7.o.at Z7.x;go_wp2_with fail
   refine (qG q.a6 q.im q.c6 (β m) _ (k+sm+1+q.tn+sb+q.dn+1+q.rn) _ (Z7.o.m m _ Z7.x).1.i (by omega) (by omega) (by omega)).mono ?_;rintro e w6 ⟨rfl,O,U⟩;have Z8:=Z7.mod (c':=⟨mtx (k+sm),bG (k+sm+1) q.tn,mrk (k+sm+1+q.tn) q.f,cJ (k+sm+1+q.tn+sb) q.dn,((k+sm+1+q.tn+sb+q.dn:Nat):Int),bG (k+sm+1+q.tn+sb+q.dn+1) q.rn,fM (k+sm+1+q.tn+sb+q.dn+1+q.rn) q.im,E⟩) ((Z7.o.m m _ Z7.x).1.set_i O U) rfl (fun j s=>.inr (.inr (.inr (.inr (.inl s))))) HSH.o U;clear Z7 O U q6;obtain ⟨⟨_,_,_,_,_,_,_,q7⟩,_⟩:=Z8.o.at Z8.x;go_wp2_with fail
   refine (rA q.a7 q.en q.c7 (β m) _ (k+sm+1+q.tn+sb+q.dn+1+q.rn+q.im) _ (Z8.o.m m _ Z8.x).1.e (by omega) (by omega) (by omega)).mono ?_;rintro e w7 ⟨rfl,O,U⟩;have Z9:=zh (Z8.mod (c':=⟨mtx (k+sm),bG (k+sm+1) q.tn,mrk (k+sm+1+q.tn) q.f,cJ (k+sm+1+q.tn+sb) q.dn,((k+sm+1+q.tn+sb+q.dn:Nat):Int),bG (k+sm+1+q.tn+sb+q.dn+1) q.rn,fM (k+sm+1+q.tn+sb+q.dn+1+q.rn) q.im,gE (k+sm+1+q.tn+sb+q.dn+1+q.rn+q.im) q.en⟩) ((Z8.o.m m _ Z8.x).1.set_e O U) rfl (fun j s=>.inr (.inr (.inr (.inr (.inr s))))) HSH.o U);clear Z8 O U q7;go_wp2
   go_roundw
   .exact ⟨m+1,by omega,by go_num,by rw [HSU.o];go_num,_,HFI.o _ _ _ Z9.o (by unfold mkC;rw [HSB.o])⟩
   .simp [intOf];omega
  .have e:Zh (m=n):=by show m=n;omega
   have HX:=zh R;clear R HH;go_wp2;go_ret;exact ⟨aI (by rw [e.o]),L',by have:=HX.o;rw [e.o] at this;exact this⟩
theorem pA (g n cap base k:Nat)(hs:List Hd)(L:List (Hd×Ct))(β:Nat->Nat)(w:qw)(H:OMs w base (qS (qP g) n cap) L β)(hd:∀ i,i<n->L[i]?=some (hs.getD i zHd,mkC (hs.getD i zHd) (k+upS (fun j=>aY (hs.getD j zHd)) i)))(h0:0<k)(hz:k+upS (fun j=>aY (hs.getD j zHd)) n<=4194305)(hb:∀ i,i<n->(hs.getD i zHd).bn<=1048576)(hn:n<=1048576):
 qC 53 #[qS (qP g) n cap,qI k] w fun e w'=>e=.returned (qI ((k+upS (fun j=>aY (hs.getD j zHd)) n:Nat):Int))/\qY w w':=by
 go_enter func53,ntmps53
 go_wp2;go_loopw [1,5] (fun x i wr=>∃ m:Nat,m<=n/\i=qI m/\x=qI ((k+upS (fun j=>aY (hs.getD j zHd)) m:Nat):Int)/\qY w wr) (fun _ i _=>n-(intOf i).toNat)
 .exact ⟨0,xC _,rfl,rfl,brf⟩
 .obtain ⟨m,hm,rfl,rfl,B⟩:=hrel;by_cases hlt:m<n
  .have hlt':(m:Int)<(n:Int):=by omega
   have y7:=hb m hlt;have hle:aY (hs.getD m zHd)+upS (fun j=>aY (hs.getD j zHd)) m<=upS (fun j=>aY (hs.getD j zHd)) n:=zQ (fun j=>aY (hs.getD j zHd)) n m hlt;have HSU:Zh (upS (fun j=>aY (hs.getD j zHd)) (m+1)=upS (fun j=>aY (hs.getD j zHd)) m+aY (hs.getD m zHd)):=rfl;have HCN:Zh (aY (hs.getD m zHd)=2+(hs.getD m zHd).tn+bL (hs.getD m zHd).f (hs.getD m zHd).bn+(hs.getD m zHd).dn+(hs.getD m zHd).rn+(hs.getD m zHd).im+3*(hs.getD m zHd).en):=rfl;have HZ:=zh (fun (X:qw) (hX:qY w X)=>xA ((H.bw hX).at (hd m hlt)) ((H.bw hX).m m _ (hd m hlt)).1);generalize upS (fun j=>aY (hs.getD j zHd)) m=sm at *;generalize hs.getD m zHd=q at *;unfold mkC at HZ;have hC:=HCN.o;clear HCN;generalize hsb:bL q.f q.bn=sb at *;have HSB:=zh hsb;generalize aY q=cm at *;have HB:=zh B;clear B hsb hd;dsimp only at HZ;obtain ⟨⟨p0,_⟩,_⟩:=(HZ.o wr HB.o).1;have HT:=zh (fun W=>dN (k+sm) W);obtain ⟨s,hs⟩:=eqx (mtx (k+sm));rw [<- hs] at HT HZ p0;clear hs;have hne:(s.toList !=s.toList)=false:=by simp
   go_wp2_with fail
   go_region_held3 (fun w'=>w'.cell? (qR g (m*8))=some (.string s)) (go_keep) (first
    | (go_at_call 103;refine (HT.o _).mono ?_;rintro e w1 ⟨rfl,hb⟩;replace hb:=HB.o.trans ((dH hb).mono HB.o.size);have c1:=(HZ.o w1 hb).1.1.1;have HB1:=zh hb;clear hb))
   clear p0 HB HT c1;obtain ⟨⟨_,q1,q2,q3,q4,q5,q6,q7⟩,_⟩:=(HZ.o w1 HB1.o).1;have M1:=(HZ.o w1 HB1.o).2;have n1:¬ (((k+sm+1+q.tn:Nat):Int)<0):=by omega
   have n2:¬ (((k+sm+1+q.tn+sb:Nat):Int)<0):=by omega
   have n3:¬ (((k+sm+1+q.tn+sb+q.dn:Nat):Int)<0):=by omega
   have n5:¬ (((k+sm+1+q.tn+sb+q.dn+1+q.rn:Nat):Int)<0):=by omega
   have n6:¬ (((k+sm+1+q.tn+sb+q.dn+1+q.rn+q.im:Nat):Int)<0):=by omega
   have n7:¬ (((k+sm+1+q.tn+sb+q.dn+1+q.rn+q.im+3*q.en:Nat):Int)<0):=by omega
   have H1:=zh (fW q.a1 q.tn q.c1 (k+sm+1) w1 M1.t.is);go_wp2_with fail
   refine H1.o.mono ?_;rintro e w2 ⟨rfl,rfl⟩;have H2:=zh (wP q.a2 q.bn q.c2 (k+sm+1+q.tn) (β m) q.f w1 M1.b (by omega) (by rw [HSB.o];omega) (by omega));rw [HSB.o] at H2;have H3:=zh (eV q.a3 q.dn q.c3 (k+sm+1+q.tn+sb) w1 M1.d.bs);have H5:=zh (fW q.a5 q.rn q.c5 (k+sm+1+q.tn+sb+q.dn+1) w1 M1.r.is);have H6:=zh (rC q.a6 q.im q.c6 (β m) (k+sm+1+q.tn+sb+q.dn+1+q.rn) w1 M1.i (by omega) (by omega) (by omega));clear H1 M1;go_wp2_with fail
   refine H2.o.mono ?_;rintro e w2 ⟨rfl,rfl⟩;go_wp2_with fail
   refine H3.o.mono ?_;rintro e w2 ⟨rfl,rfl⟩;go_wp2_with fail
   refine H5.o.mono ?_;rintro e w2 ⟨rfl,rfl⟩;go_wp2_with fail
   refine H6.o.mono ?_;rintro e w2 ⟨rfl,hb⟩;have HB2:=zh (HB1.o.trans (hb.mono HB1.o.size));have H7:=zh (rH q.a7 q.en q.c7 (β m) (k+sm+1+q.tn+sb+q.dn+1+q.rn+q.im) w2 (HZ.o w2 HB2.o).2.e (by omega) (by omega) (by omega));clear H2 H3 H5 H6 hb q1 q2 q3 q4 q5 q6 q7;obtain ⟨⟨_,q1,q2,q3,q4,q5,q6,q7⟩,_⟩:=(HZ.o w2 HB2.o).1;go_wp2_with fail
   refine H7.o.mono ?_;rintro e w4 ⟨rfl,hb⟩;have HB4:=zh (HB2.o.trans (hb.mono HB2.o.size));clear hb H7 q1 q2 q3 q4 q5 q6 q7 HB1 HB2;go_wp2
   go_roundw
   .exact ⟨m+1,by omega,by go_num,by rw [HSU.o];go_num,HB4.o⟩
   .simp [intOf];omega
  .have e:Zh (m=n):=by show m=n;omega
   have HX:=zh B;clear B;go_wp2;go_ret;exact ⟨aI (by rw [e.o]),HX.o⟩
theorem oQ (a:qO)(cap k:Nat)(w:qw):
 qC 48 #[qS a 0 cap,qI k] w fun e w'=>e=.returned (qI (k:Nat))/\w=w':=by
 go_enter func48,ntmps48
 go_wp2;go_loopw [1,5] (fun x i wr=>x=qI (k:Nat)/\i=qI 0/\w=wr) (fun _ _ _=>0)
 .exact ⟨rfl,rfl,rfl⟩
 .obtain ⟨rfl,rfl,rfl⟩:=hrel;go_wp2;go_ret;exact ⟨rfl,rfl⟩
theorem oZ (a:qO)(cap k:Nat)(w:qw):
 qC 53 #[qS a 0 cap,qI k] w fun e w'=>e=.returned (qI (k:Nat))/\w=w':=by
 go_enter func53,ntmps53
 go_wp2;go_loopw [1,5] (fun x i wr=>x=qI (k:Nat)/\i=qI 0/\w=wr) (fun _ _ _=>0)
 .exact ⟨rfl,rfl,rfl⟩
 .obtain ⟨rfl,rfl,rfl⟩:=hrel;go_wp2;go_ret;exact ⟨rfl,rfl⟩
structure LayB (L:Lay):Prop where
 r:LayR L
 p:L.places.length<=4/\∀ x∈L.places,x.banks.length<=4
 s:L.slots.length<=4
 t:L.targets.length<=4/\∀ x∈L.targets,x.length<=16
theorem aIt:LayB L0:=⟨⟨by simp [L0],by simp [L0],by simp [L0]⟩,by simp [L0],by simp [L0],by simp [L0]⟩
theorem fY (h:lkc ps s w k d=0):cfo s w k d=true/\1<=ps.length/\ps.length<=4/\fR ps/\jZ ps:=by
 unfold lkc at h;split at h
 .rename_i h1;exact absurd h h1
 rename_i h1;split at h
 .exact absurd h (by decide)
 rename_i h2;simp at h1;unfold dU at h1;split at h1
 .exact absurd h1 (by decide)
 rename_i h3;split at h1
 .exact absurd h1 (by decide)
 rename_i h4;split at h1
 .exact absurd h1 (by decide)
 rename_i h5;exact ⟨by simpa using h3,by omega,by omega,xZ.1 h5,xZ.1 h2⟩
theorem aK7 (h:lkc ps s w k d=0):LayB (lay ps s w k):=by
 obtain ⟨hc,h1,h2,hv,_⟩:=fY h;unfold cfo at hc;simp at hc;obtain ⟨c1,c2,c3,c4,c5,c6,_⟩:=hc;have hmem:∀ i,i<ps.length->fD (ps.getD i zP)=0:=hv;refine ⟨⟨fun x hx z hz=>?_,fun z hz=>?_,?_,?_,fun x hx=>?_⟩,⟨?_,fun x hx=>?_⟩,?_,⟨?_,fun x hx=>?_⟩⟩
 .simp only [lay,List.mem_map,List.mem_range] at hx;obtain ⟨i,hi,rfl⟩:=hx;simp only [plc,List.mem_map,List.mem_range] at hz;obtain ⟨q,hq,rfl⟩:=hz;have a1:=cO hv i (by omega);have a2:=cE (hmem i hi) q (by omega);have a3:=cB (hmem i hi);have a4:=aQ (x:=4*((ps.getD i zP).tz.length:Int));have a5:tsz (ps.getD i zP)=rnd (4*((ps.getD i zP).tz.length:Int)):=rfl;rw [a5];unfold wfi;omega
 .simp only [lay,List.mem_map,List.mem_range] at hz;obtain ⟨i,hi,rfl⟩:=hz;have a1:=bQ hv ps.length aN;have a4:=aQ (x:=4*w);have a5:(0:Int)<=(i:Int)*rnd (4*w):=Int.mul_nonneg (by omega) (by omega);have a6:(i:Int)*rnd (4*w)<=4*287:=Int.mul_le_mul (by omega) (by omega) (by omega) (by omega);unfold slt wfi;omega
 .simp [lay];omega
 .simp [lay];omega
 .simp only [lay,List.mem_map,List.mem_range] at hx;obtain ⟨i,hi,rfl⟩:=hx;have a3:=cB (hmem i hi);simp only [tgs,xH,List.length_range];omega
 .simp [lay];omega
 .simp only [lay,List.mem_map,List.mem_range] at hx;obtain ⟨i,hi,rfl⟩:=hx;have a3:=cB (hmem i hi);simp only [plc,xH,List.length_range];omega
 .simp [lay];omega
 .simp [lay];omega
 .simp only [lay,List.mem_map,List.mem_range] at hx;obtain ⟨i,hi,rfl⟩:=hx;have a3:=cB (hmem i hi);simp only [tgs,xH,List.length_range];omega
theorem rW (ps:List PMod)(s w k d:Int):LayB (lkL ps s w k d):=by
 unfold lkL;by_cases h:lkc ps s w k d=0
 .rw [if_pos h];exact aK7 h
 .rw [if_neg h];exact aIt
def TgS (w:qw)(a:qO)(n cap:Nat)(zs:List Tg):Prop:=
 zs.length=n/\n<=maxLen/\(n≠0->∃ b off,a=some (qR b off)/\∀ i,i<n->w.cell? (qR b (off+i*3))=some (qI (zs.getD i zT).1)/\w.cell? (qR b (off+i*3+1))=some (qI (zs.getD i zT).2.1)/\w.cell? (qR b (off+i*3+2))=some (qI (zs.getD i zT).2.2))/\n<=cap
theorem aB {w w':qw}(hb:qY w w')(h:w.cell? (qR b o)=some v):w'.cell? (qR b o)=some v:=(hb.cell (xD w _ h)).trans h
theorem TgS.bw {w w':qw}(h:TgS w a n cap zs)(hb:qY w w'):TgS w' a n cap zs:=by
 obtain ⟨h1,h2,h3,h4⟩:=h;refine ⟨h1,h2,fun hn=>?_,h4⟩;obtain ⟨b,off,e,hc⟩:=h3 hn;exact ⟨b,off,e,fun i hi=>⟨aB hb (hc i hi).1,aB hb (hc i hi).2.1,aB hb (hc i hi).2.2⟩⟩
theorem TgS.at {w:qw}(h:TgS w a n cap zs)(i:Nat)(hi:i<n):∃ b off,a=some (qR b off)/\w.cell? (qR b (off+i*3))=some (qI (zs.getD i zT).1)/\w.cell? (qR b (off+i*3+1))=some (qI (zs.getD i zT).2.1)/\w.cell? (qR b (off+i*3+2))=some (qI (zs.getD i zT).2.2):=by
 obtain ⟨b,off,e,hc⟩:=h.2.2.1 (by omega);exact ⟨b,off,e,hc i hi⟩
def TsS (w:qw)(a:qO)(n cap:Nat)(ts:List TB):Prop:=
 ts.length=n/\n<=maxLen/\(n≠0->∃ b off,a=some (qR b off)/\∀ i,i<n->w.cell? (qR b (off+i))=some (svT (ts.getD i zTB)))/\(∀ i,i<n->TgS w (ts.getD i zTB).2.1 (ts.getD i zTB).1.length (ts.getD i zTB).2.2 (ts.getD i zTB).1)/\n<=cap
theorem TsS.bw {w w':qw}(h:TsS w a n cap ts)(hb:qY w w'):TsS w' a n cap ts:=by
 obtain ⟨h1,h2,h3,h4,h5⟩:=h;refine ⟨h1,h2,fun hn=>?_,fun i hi=>(h4 i hi).bw hb,h5⟩;obtain ⟨b,off,e,hc⟩:=h3 hn;exact ⟨b,off,e,fun i hi=>aB hb (hc i hi)⟩
theorem TsS.at {w:qw}(h:TsS w a n cap ts)(i:Nat)(hi:i<n):∃ b off,a=some (qR b off)/\w.cell? (qR b (off+i))=some (svT (ts.getD i zTB)):=by
 obtain ⟨b,off,e,hc⟩:=h.2.2.1 (by omega);exact ⟨b,off,e,hc i hi⟩
def PlS (w:qw)(a:qO)(n cap:Nat)(xs:List PB):Prop:=
 xs.length=n/\n<=maxLen/\(n≠0->∃ b off,a=some (qR b off)/\∀ i,i<n->w.cell? (qR b (off+i*4))=some (qI (xs.getD i zPB).1.text)/\w.cell? (qR b (off+i*4+1))=some (svP (xs.getD i zPB))/\w.cell? (qR b (off+i*4+2))=some (qI (xs.getD i zPB).1.data)/\w.cell? (qR b (off+i*4+3))=some (qI (xs.getD i zPB).1.size))/\(∀ i,i<n->IS w (xs.getD i zPB).2.1 (xs.getD i zPB).1.banks.length (xs.getD i zPB).2.2 (xs.getD i zPB).1.banks)/\n<=cap
theorem PlS.bw {w w':qw}(h:PlS w a n cap xs)(hb:qY w w'):PlS w' a n cap xs:=by
 obtain ⟨h1,h2,h3,h4,h5⟩:=h;refine ⟨h1,h2,fun hn=>?_,fun i hi=>(h4 i hi).bw hb,h5⟩;obtain ⟨b,off,e,hc⟩:=h3 hn;exact ⟨b,off,e,fun i hi=>⟨aB hb (hc i hi).1,aB hb (hc i hi).2.1,aB hb (hc i hi).2.2.1,aB hb (hc i hi).2.2.2⟩⟩
theorem PlS.at {w:qw}(h:PlS w a n cap xs)(i:Nat)(hi:i<n):∃ b off,a=some (qR b off)/\w.cell? (qR b (off+i*4))=some (qI (xs.getD i zPB).1.text)/\w.cell? (qR b (off+i*4+1))=some (svP (xs.getD i zPB))/\w.cell? (qR b (off+i*4+2))=some (qI (xs.getD i zPB).1.data)/\w.cell? (qR b (off+i*4+3))=some (qI (xs.getD i zPB).1.size):=by
 obtain ⟨b,off,e,hc⟩:=h.2.2.1 (by omega);exact ⟨b,off,e,hc i hi⟩
structure LyT (w:qw)(L:Lay)(a0:qO)(c0:Nat)(xs:List PB)(a2:qO)(c2:Nat)(a5:qO)(c5:Nat)(ts:List TB):Prop where
 p:PlS w a0 xs.length c0 xs
 ps:xs.map (fun x=>x.1)=L.places
 s:IS w a2 L.slots.length c2 L.slots
 t:TsS w a5 ts.length c5 ts
 tt:ts.map (fun x=>x.1)=L.targets
 v:wfi L.stack/\wfi L.flash/\wfi L.ram
theorem LyT.bw {w w':qw}(h:LyT w L a0 c0 xs a2 c2 a5 c5 ts)(hb:qY w w'):LyT w' L a0 c0 xs a2 c2 a5 c5 ts:=⟨h.p.bw hb,h.ps,h.s.bw hb,h.t.bw hb,h.tt,h.v⟩
theorem aPv {W:qw}(hp:OPl W base base (qS a0 xs.length c0) xs)(hps:xs.map (fun x=>x.1)=L.places)(hs:OG 3 1 clI W base (qS a2 L.slots.length c2) L.slots)(ht:OTg W base base (qS a5 ts.length c5) ts)(htt:ts.map (fun x=>x.1)=L.targets)(R:LayR L)(hv:wfi L.stack/\wfi L.flash/\wfi L.ram):LyT W L a0 c0 xs a2 c2 a5 c5 ts where
 p:=by
  obtain ⟨_,h2,h3,h4⟩:=aS hp.head;refine ⟨rfl,by omega,fun hn=>?_,fun i hi=>?_,by omega⟩
  .obtain ⟨g,hg,_⟩:=h4 hn;refine ⟨g,0,hg,fun i hi=>?_⟩;obtain ⟨g',hg',q1,q2,q3,q4,_⟩:=aKg hp i hi;rw [hg] at hg';simp at hg';subst hg';simp only [Nat.zero_add];exact ⟨q1,q2,q3,q4⟩
  .obtain ⟨_,_,_,_,_,_,o⟩:=aKg hp i hi;exact aC1 o (R.p _ (by rw [<- hps];exact List.mem_map.2 ⟨xs.getD i zPB,by simp [xB,hi],rfl⟩))
 ps:=hps
 s:=aC1 hs R.s
 t:=by
  obtain ⟨_,h2,h3,h4⟩:=aS ht.head;refine ⟨rfl,by omega,fun hn=>?_,fun i hi=>?_,by omega⟩
  .obtain ⟨g,hg,_⟩:=h4 hn;refine ⟨g,0,hg,fun i hi=>?_⟩;obtain ⟨g',hg',q1,_⟩:=aKd ht i hi;rw [hg] at hg';simp at hg';subst hg';simp only [Nat.zero_add];exact q1
  .obtain ⟨_,_,_,o⟩:=aKd ht i hi;obtain ⟨k1,k2,k3,k4⟩:=aS o;refine ⟨k1,by omega,fun hn=>?_,by omega⟩;obtain ⟨g,hg,_⟩:=k4 hn;refine ⟨g,0,hg,fun j hj=>?_⟩;obtain ⟨g',hg',u0,u1,u2⟩:=aPq o j hj;rw [hg] at hg';simp at hg';subst hg';simp only [Nat.zero_add];exact ⟨u0,u1,u2⟩
 tt:=htt
 v:=hv
theorem LayO.lyt {W:qw}(h:LayO W base L a0 c0 xs a2 c2 a5 c5 ts)(R:LayR L)(hv:wfi L.stack/\wfi L.flash/\wfi L.ram):LyT W L a0 c0 xs a2 c2 a5 c5 ts:=aPv h.p h.ps h.s h.t h.tt R hv
theorem aQs (h:lkc ps s w k d=0):wfi (lay ps s w k).stack/\wfi (lay ps s w k).flash/\wfi (lay ps s w k).ram:=by
 obtain ⟨hc,h1,h2,hv,_⟩:=fY h;unfold cfo at hc;simp at hc;obtain ⟨c1,c2,c3,c4,c5,c6,_⟩:=hc;have a1:=bQ hv ps.length aN;have a2:=cO hv ps.length aN;have a4:=aQ (x:=4*w);have a5:(0:Int)<=(s.toNat:Int)*rnd (4*w):=Int.mul_nonneg (by omega) (by omega);have a6:(s.toNat:Int)*rnd (4*w)<=4*287:=Int.mul_le_mul (by omega) (by omega) (by omega) (by omega);simp only [lay];unfold wfi;omega
theorem aGz (ps:List PMod)(s w k d:Int):wfi (lkL ps s w k d).stack/\wfi (lkL ps s w k d).flash/\wfi (lkL ps s w k d).ram:=by
 unfold lkL;by_cases h:lkc ps s w k d=0
 .rw [if_pos h];exact aQs h
 .rw [if_neg h];unfold L0 wfi;simp
theorem dE {α:Type}(z:α)(xs ys:List α)(k:Nat)(h:xs.take k=ys.take k)(hx:k<xs.length)(hy:k<ys.length)(he:xs.getD k z=ys.getD k z):xs.take (k+1)=ys.take (k+1):=by
 rw [List.take_succ_eq_append_getElem hx,List.take_succ_eq_append_getElem hy,h];simp [xB,hx,hy] at he;rw [he]
theorem lE (a a':qO)(n cap n' cap':Nat)(xs ys:qi)(w:qw)(h:IS w a n cap xs)(h':IS w a' n' cap' ys):
 qC 208 #[qS a n cap,qS a' n' cap'] w (qB w (.bool (decide (xs=ys)))):=by
 obtain ⟨hl,hmx,hr,hc,_⟩:=h;obtain ⟨hl',hmx',hr',hc',_⟩:=h';unfold maxLen at hmx hmx';by_cases hn:n=n'
 .subst hn;have hne:((n:Int) !=(n:Int))=false:=by simp
  by_cases hn0:n=0
  .subst hn0;obtain rfl:xs=[]:=xE hl;obtain rfl:ys=[]:=xE hl';clear hc hc';go_enter func208,ntmps208
   go_wp2;go_loop [5] (fun i=>i=qI 0) (fun _=>0)
   .rfl
   .obtain rfl:=hrel;go_wp2;go_ret;exact ⟨rfl,brf⟩
  .obtain ⟨b,off,rfl,hd⟩:=hc hn0;obtain ⟨b',off',rfl,hd'⟩:=hc' hn0;clear hc hc';go_enter func208,ntmps208
   go_wp2;go_loopw [5] (fun i wr=>∃ k:Nat,k<=n/\i=qI k/\xs.take k=ys.take k/\qY w wr) (qf n)
   .exact ⟨0,xC _,rfl,by simp,brf⟩
   .obtain ⟨k,hk,rfl,hT,hB⟩:=hrel;by_cases hlt:k<n
    .have hlt':(k:Int)<(n:Int):=by omega
     have hck:wr.cell? (qR b (off+k))=some (qI (xs.getD k 0)):=(hB.cell (xD w _ (hd k hlt))).trans (hd k hlt);have hck':wr.cell? (qR b' (off'+k))=some (qI (ys.getD k 0)):=(hB.cell (xD w _ (hd' k hlt))).trans (hd' k hlt);by_cases he:xs.getD k 0=ys.getD k 0
     .have hS:=gW xs ys k hT (by omega) (by omega) he;have HS:Zh (xs.take (k+1)=ys.take (k+1)):=hS;rw [he] at hck;clear hS hT hd hd' he;generalize ys.getD k 0=z at *;have hz:(z !=z)=false:=by simp
      go_wp2
      go_quiet (fail)
      go_wp2
      go_roundw
      .exact ⟨k+1,by omega,by go_num,HS.o,below_drewN hB _⟩
      .simp [qf,intOf];omega
     .have hf:Zh (decide (xs=ys)=false):=by
       show _=_;simp;intro e;exact he (by rw [e])
      have hz:(xs.getD k 0 !=ys.getD k 0)=true:=by simpa using he
      clear hT hd hd' he;generalize ys.getD k 0=z at *;generalize xs.getD k 0=z' at *;go_wp2
      go_quiet (fail)
      go_wp2;go_ret;exact ⟨aA hf.o.symm,below_drewN hB _⟩
    .have hf:Zh (decide (xs=ys)=true):=by
      show _=_;simp;rw [xG (by omega),xG (by omega)] at hT;exact hT
     clear hT hd hd';go_wp2;go_ret;exact ⟨aA hf.o.symm,hB⟩
 .have hf:Zh (decide (xs=ys)=false):=by
   show _=_;simp;intro e;rw [e] at hl;omega
  have hne:((n:Int) !=(n':Int))=true:=by simp;omega
  clear hc hc';go_enter func208,ntmps208
  go_wp2;go_ret;exact ⟨aA hf.o.symm,brf⟩
theorem nE (a a':qO)(n cap n' cap':Nat)(xs ys:qi)(w:qw)(h:IS w a n cap xs)(h':IS w a' n' cap' ys):
 qC 247 #[qS a n cap,qS a' n' cap'] w (qB w (.bool (decide (xs=ys)))):=by
 obtain ⟨hl,hmx,hr,hc,_⟩:=h;obtain ⟨hl',hmx',hr',hc',_⟩:=h';unfold maxLen at hmx hmx';by_cases hn:n=n'
 .subst hn;have hne:((n:Int) !=(n:Int))=false:=by simp
  by_cases hn0:n=0
  .subst hn0;obtain rfl:xs=[]:=xE hl;obtain rfl:ys=[]:=xE hl';clear hc hc';go_enter func247,ntmps247
   go_wp2;go_loop [13] (fun i=>i=qI 0) (fun _=>0)
   .rfl
   .obtain rfl:=hrel;go_wp2;go_ret;exact ⟨rfl,brf⟩
  .obtain ⟨b,off,rfl,hd⟩:=hc hn0;obtain ⟨b',off',rfl,hd'⟩:=hc' hn0;clear hc hc';go_enter func247,ntmps247
   go_wp2;go_loopw [13] (fun i wr=>∃ k:Nat,k<=n/\i=qI k/\xs.take k=ys.take k/\qY w wr) (qf n)
   .exact ⟨0,xC _,rfl,by simp,brf⟩
   .obtain ⟨k,hk,rfl,hT,hB⟩:=hrel;by_cases hlt:k<n
    .have hlt':(k:Int)<(n:Int):=by omega
     have hck:wr.cell? (qR b (off+k))=some (qI (xs.getD k 0)):=(hB.cell (xD w _ (hd k hlt))).trans (hd k hlt);have hck':wr.cell? (qR b' (off'+k))=some (qI (ys.getD k 0)):=(hB.cell (xD w _ (hd' k hlt))).trans (hd' k hlt);by_cases he:xs.getD k 0=ys.getD k 0
     .have hS:=gW xs ys k hT (by omega) (by omega) he;have HS:Zh (xs.take (k+1)=ys.take (k+1)):=hS;rw [he] at hck;clear hS hT hd hd' he;generalize ys.getD k 0=z at *;have hz:(z !=z)=false:=by simp
      go_wp2
      go_quiet (fail)
      go_wp2
      go_roundw
      .exact ⟨k+1,by omega,by go_num,HS.o,below_drewN hB _⟩
      .simp [qf,intOf];omega
     .have hf:Zh (decide (xs=ys)=false):=by
       show _=_;simp;intro e;exact he (by rw [e])
      have hz:(xs.getD k 0 !=ys.getD k 0)=true:=by simpa using he
      clear hT hd hd' he;generalize ys.getD k 0=z at *;generalize xs.getD k 0=z' at *;go_wp2
      go_quiet (fail)
      go_wp2;go_ret;exact ⟨aA hf.o.symm,below_drewN hB _⟩
    .have hf:Zh (decide (xs=ys)=true):=by
      show _=_;simp;rw [xG (by omega),xG (by omega)] at hT;exact hT
     clear hT hd hd';go_wp2;go_ret;exact ⟨aA hf.o.symm,hB⟩
 .have hf:Zh (decide (xs=ys)=false):=by
   show _=_;simp;intro e;rw [e] at hl;omega
  have hne:((n:Int) !=(n':Int))=true:=by simp;omega
  clear hc hc';go_enter func247,ntmps247
  go_wp2;go_ret;exact ⟨aA hf.o.symm,brf⟩
def dB (L:Lay):Int:=if L.slots=[] then wrap64 (65536+L.ram) else L.slots.getD 0 0
theorem tY (L:Lay)(a0:qO)(c0:Nat)(xs:List PB)(a2:qO)(c2:Nat)(a5:qO)(c5:Nat)(ts:List TB)(w:qw)(h:LyT w L a0 c0 xs a2 c2 a5 c5 ts):
 qC 60 #[.agg (qL L a0 xs.length c0 a2 L.slots.length c2 a5 ts.length c5)] w (qB w (qI (dB L))):=by
 have HB:Zh (qY w (w.alloc (.cells (qL L a0 xs.length c0 a2 L.slots.length c2 a5 ts.length c5) 71))):=brf.alloc aN _;have hs:=h.s.bw HB.o;have hmx:=h.s.2.1;unfold maxLen at hmx;unfold dB;by_cases c:L.slots=[]
 .rw [if_pos c];have hl:L.slots.length=0:=by rw [c];rfl
  rw [hl];rw [hl] at HB;go_enter func60,ntmps60
  go_wp2;go_ret;exact ⟨rfl,HB.o⟩
 .rw [if_neg c];have hl:0<L.slots.length:=List.length_pos_iff.2 c;have hl':(0:Int)<(L.slots.length:Int):=by omega
  obtain ⟨b,off,rfl,hc⟩:=hs.2.2.2.1 (by omega);have q:=hc 0 hl;rw [Nat.add_zero] at q;generalize L.slots.length=n at *;generalize L.slots.getD 0 0=z at *;clear hs hc c;go_enter func60,ntmps60
  go_wp2;go_ret;exact ⟨rfl,HB.o⟩
def cfQ (L:Lay):Int:=wrap64 ((wrap64 (wrap64 (65536+L.ram)-L.slots.getD 0 0)).tdiv (L.slots.length:Int))
def cfW (L:Lay):Int:=if L.slots=[] then 1 else wrap64 ((cfQ L).tdiv 4)
def cfK (L:Lay):Int:=wrap64 (dB L-L.stack)
theorem aBw (L:Lay)(a0:qO)(c0:Nat)(xs:List PB)(a2:qO)(c2:Nat)(a5:qO)(c5:Nat)(ts:List TB)(w:qw)(h:LyT w L a0 c0 xs a2 c2 a5 c5 ts):
 qC 231 #[.agg (qL L a0 xs.length c0 a2 L.slots.length c2 a5 ts.length c5)] w (qB w (.agg (qW L.slots.length (cfW L) (cfK L) 0))):=by
 have hmx:=h.s.2.1;unfold maxLen at hmx;by_cases c:L.slots=[]
 .have hl:L.slots.length=0:=by rw [c];rfl
  have hW:=zh (show cfW L=1 by unfold cfW;rw [if_pos c]);have hK:=zh (show cfK L=wrap64 (wrap64 (65536+L.ram)-L.stack) by unfold cfK dB;rw [if_pos c]);rw [hW.o,hK.o,hl];go_enter func231,ntmps231
  go_wp2;refine bodyPost_ret (v:=.agg #[qI 0,qI 1,qI (wrap64 (wrap64 (65536+L.ram)-L.stack)),qI 0]) (by simp [results,results231,go_sem]) rfl ⟨rfl,?_⟩;exact (brf.alloc aN _).alloc (by simp) _
 .have hl:0<L.slots.length:=List.length_pos_iff.2 c;have hl':(0:Int)<(L.slots.length:Int):=by omega
  have he:((L.slots.length:Int)==0)=false:=by simp;omega
  have hW:=zh (show cfW L=wrap64 ((cfQ L).tdiv 4) by unfold cfW;rw [if_neg c]);have hK:=zh (show cfK L=wrap64 (L.slots.getD 0 0-L.stack) by unfold cfK dB;rw [if_neg c]);rw [hW.o,hK.o];have hQ:Zh (cfQ L=wrap64 ((wrap64 (wrap64 (65536+L.ram)-L.slots.getD 0 0)).tdiv (L.slots.length:Int))):=rfl;clear hW hK;obtain ⟨b,off,rfl,hc⟩:=h.s.2.2.2.1 (by omega);have q:=hc 0 hl;have qlt:=xD _ _ q;rw [Nat.add_zero] at q;generalize L.slots.length=n at *;generalize L.slots.getD 0 0=z at *;generalize cfQ L=Q at *;clear hc c h;have B0:qY w ((w.alloc (.cells (qL L a0 xs.length c0 (some (qR b off)) n c2 a5 ts.length c5) 71)).alloc (.cells (qW 0 0 0 0) 37)):=(brf.alloc aN _).alloc (by simp) _;have u:=(Blk.new w (qL L a0 xs.length c0 (some (qR b off)) n c2 a5 ts.length c5) 71).alloc (.cells (qW 0 0 0 0) 37);have v:=Blk.new (w.alloc (.cells (qL L a0 xs.length c0 (some (qR b off)) n c2 a5 ts.length c5) 71)) (qW 0 0 0 0) 37;try unfold qY at *
  simp only [xF] at v;have HF:=zh (fun (nq:Nat)=>xA (below_drewN B0 nq) (xA (u.bw (below_drewN brf nq)) (v.bw (below_drewN brf nq))));clear B0 u v;go_enter func231,ntmps231
  go_wp2
  go_quiet (fail)
  rw [<- hQ.o];go_wp2;obtain ⟨B1,u,v⟩:=HF.o nq;clear HF;generalize (((w.alloc (.cells (qL L a0 xs.length c0 (some (qR b off)) n c2 a5 ts.length c5) 71)).alloc (.cells (qW 0 0 0 0) 37)).drewN nq)=W at *;have q':=aB B1 q;have p1:=u.e1;have p2:=u.e2;obtain ⟨v0,v1,v2,v3⟩:=v.z4;have vf:=v.frozen;have nb:b≠w.heap.size+1:=by omega
  have nb':w.heap.size+1≠b:=by omega
  have HB1:=zh (xA B1 v);clear u v B1
  go_region_held3 (fun w'=>w'.cell? (qR w.heap.size 1)=some (qI L.stack)/\w'.cell? (qR w.heap.size 2)=some (qS (some (qR b off)) n c2)/\w'.cell? (qR b off)=some (qI z)) (go_keep) (fail)
  simp only [xP];have kz:=(((HB1.o.2.set 0 (qI n)).set 1 (qI (wrap64 (Q.tdiv 4)))).set 2 (qI (wrap64 (z-L.stack)))).set 3 (qI 0);have T:Turn (fun j=>j=w.heap.size+1) W ((((W.setCell (qR (w.heap.size+1) 0) (qI n)).setCell (qR (w.heap.size+1) 1) (qI (wrap64 (Q.tdiv 4)))).setCell (qR (w.heap.size+1) 2) (qI (wrap64 (z-L.stack)))).setCell (qR (w.heap.size+1) 3) (qI 0)):=(((aC _ _ _ _).trans (aC _ _ _ _)).trans (aC _ _ _ _)).trans (aC _ _ _ _);have HB2:=zh (aG HB1.o.1 T (fun k e=>by omega) HB1.o.1.size);simp only [yA,yB,yC] at kz;generalize ((((W.setCell (qR (w.heap.size+1) 0) (qI n)).setCell (qR (w.heap.size+1) 1) (qI (wrap64 (Q.tdiv 4)))).setCell (qR (w.heap.size+1) 2) (qI (wrap64 (z-L.stack)))).setCell (qR (w.heap.size+1) 3) (qI 0))=W2 at *;obtain ⟨s0,s1,s2,s3⟩:=kz.z4;clear T kz HB1;go_wp2;exact bodyPost_ret (v:=.agg (qW n (wrap64 (Q.tdiv 4)) (wrap64 (z-L.stack)) 0)) (by simp [results,results231,go_sem,s0,s1,s2,s3]) rfl ⟨rfl,HB2.o.drew⟩
def Lok (ps:List PMod)(L:Lay):Prop:=lkc ps (L.slots.length:Int) (cfW L) (cfK L) 0=0/\lkL ps (L.slots.length:Int) (cfW L) (cfK L) 0=L
def plE (a b:Pl):Decidable (a=b):=decidable_of_iff (a.text=b.text /\ a.banks=b.banks /\ a.data=b.data /\ a.size=b.size) (by cases a;cases b;simp)
def layE (a b:Lay):Decidable (a=b):=
 have:DecidableEq Pl:=plE
 decidable_of_iff (a.places=b.places /\ a.stack=b.stack /\ a.slots=b.slots /\ a.flash=b.flash /\ a.ram=b.ram /\ a.targets=b.targets) (by cases a;cases b;simp)
def lokD (ps:List PMod)(L:Lay):Decidable (Lok ps L):=@instDecidableAnd _ _ _ (layE _ _)
def lokB (ps:List PMod)(L:Lay):Bool:=@decide _ (lokD ps L)
theorem lokB_iff {ps:List PMod}{L:Lay}:lokB ps L=true ↔ Lok ps L:=⟨@of_decide_eq_true _ (lokD ps L),@decide_eq_true _ (lokD ps L)⟩
theorem aAj (a a':qO)(n cap n' cap':Nat)(xs ys:List Tg)(w:qw)(h:TgS w a n cap xs)(h':TgS w a' n' cap' ys):
 qC 251 #[qS a n cap,qS a' n' cap'] w (qB w (.bool (decide (xs=ys)))):=by
 have hl:=h.1;have hl':=h'.1;have hmx:=h.2.1;have hmx':=h'.2.1;unfold maxLen at hmx hmx';by_cases hn:n=n'
 .subst hn;have hne:((n:Int) !=(n:Int))=false:=by simp
  go_enter func251,ntmps251
  go_wp2;go_loopw [13] (fun i wr=>∃ k:Nat,k<=n/\i=qI k/\xs.take k=ys.take k/\qY w wr) (qf n)
  .exact ⟨0,xC _,rfl,by simp,brf⟩
  .obtain ⟨k,hk,rfl,hT,hB⟩:=hrel;by_cases hlt:k<n
   .have hlt':(k:Int)<(n:Int):=by omega
    obtain ⟨b,off,rfl,q0,q1,q2⟩:=(h.bw hB).at k hlt;obtain ⟨b',off',rfl,p0,p1,p2⟩:=(h'.bw hB).at k hlt;by_cases he:xs.getD k zT=ys.getD k zT
    .have HS:Zh (xs.take (k+1)=ys.take (k+1)):=dE zT xs ys k hT (by omega) (by omega) he;rw [he] at q0 q1 q2;clear hT he;generalize ys.getD k zT=z at *;obtain ⟨z0,z1,z2⟩:=z;dsimp only at q0 q1 q2 p0 p1 p2;go_wp2
     go_quiet (fail)
     go_wp2
     go_roundw
     .exact ⟨k+1,by omega,by go_num,HS.o,below_drewN hB _⟩
     .simp [qf,intOf];omega
    .have hf:Zh (decide (xs=ys)=false):=by
      show _=_;simp;intro e;exact he (by rw [e])
     clear hT;generalize ys.getD k zT=z at *;generalize xs.getD k zT=z' at *;obtain ⟨z0,z1,z2⟩:=z;obtain ⟨x0,x1,x2⟩:=z';dsimp only at q0 q1 q2 p0 p1 p2;have hne3:¬ (x0=z0/\x1=z1/\x2=z2):=fun e=>he (by rw [e.1,e.2.1,e.2.2]);clear he;by_cases f0:x0=z0
     .by_cases f1:x1=z1
      .have f2:¬ x2=z2:=fun e=>hne3 ⟨f0,f1,e⟩;subst f0 f1;have f2':(x2==z2)=false:=by simpa using f2
       go_wp2
       go_quiet (fail)
       go_wp2;go_ret;exact ⟨aA hf.o.symm,below_drewN hB _⟩
      .subst f0;have f1':(x1==z1)=false:=by simpa using f1
       go_wp2
       go_quiet (fail)
       go_wp2;go_ret;exact ⟨aA hf.o.symm,below_drewN hB _⟩
     .have f0':(x0==z0)=false:=by simpa using f0
      go_wp2
      go_quiet (fail)
      go_wp2;go_ret;exact ⟨aA hf.o.symm,below_drewN hB _⟩
   .have hf:Zh (decide (xs=ys)=true):=by
     show _=_;simp;rw [xG (by omega),xG (by omega)] at hT;exact hT
    clear hT;go_wp2;go_ret;exact ⟨aA hf.o.symm,hB⟩
 .have hf:Zh (decide (xs=ys)=false):=by
   show _=_;simp;intro e;rw [e] at hl;omega
  have hne:((n:Int) !=(n':Int))=true:=by simp;omega
  go_enter func251,ntmps251
  go_wp2;go_ret;exact ⟨aA hf.o.symm,brf⟩
theorem vV (t d z:Int)(a:qO)(n c:Nat)(bs:qi)(t' d' z':Int)(a':qO)(n' c':Nat)(bs':qi)(w:qw)(h:IS w a n c bs)(h':IS w a' n' c' bs'):
 qC 249 #[.agg #[qI t,qS a n c,qI d,qI z],.agg #[qI t',qS a' n' c',qI d',qI z']] w fun e w'=>e=.returned (.bool (decide ((⟨t,bs,d,z⟩:Pl)=⟨t',bs',d',z'⟩)))/\qY w w':=by
 have B0:qY w ((w.alloc (.cells #[qI t,qS a n c,qI d,qI z] 171)).alloc (.cells #[qI t',qS a' n' c',qI d',qI z'] 171)):=bal.alloc (by simp) _;have HB0:=zh B0;have HEQ:=zh (nE a a' n c n' c' bs bs' _ (h.bw B0) (h'.bw B0));clear B0 h h';obtain ⟨r,hr⟩:=eqx (decide ((⟨t,bs,d,z⟩:Pl)=⟨t',bs',d',z'⟩));rw [<- hr];simp only [Pl.mk.injEq] at hr;have HR:=zh hr;clear hr;by_cases c1:t=t'
 .by_cases c2:d=d'
  .by_cases c3:z=z'
   .have g1:(t==t')=true:=by simpa using c1
    have g2:(d==d')=true:=by simpa using c2
    have g3:(z==z')=true:=by simpa using c3
    have HV:=zh (show decide (bs=bs')=r by rw [HR.o];simp [c1,c2,c3]);rw [HV.o] at HEQ;clear c1 c2 c3 HR;go_enter func249,ntmps249
    go_wp2_with fail
    refine HEQ.o.mono ?_;rintro e w1 ⟨rfl,hb1⟩;cases r
    all_goals
     go_wp2;go_ret;exact ⟨rfl,HB0.o.trans (hb1.mono HB0.o.size)⟩
   .have g1:(t==t')=true:=by simpa using c1
    have g2:(d==d')=true:=by simpa using c2
    have g3:(z==z')=false:=by simpa using c3
    have HV:=zh (show r=false by rw [HR.o];simp [c3]);clear c1 c2 c3 HR HEQ;go_enter func249,ntmps249
    go_wp2;go_ret;exact ⟨aA HV.o.symm,HB0.o⟩
  .have g1:(t==t')=true:=by simpa using c1
   have g2:(d==d')=false:=by simpa using c2
   have HV:=zh (show r=false by rw [HR.o];simp [c2]);clear c1 c2 HR HEQ;go_enter func249,ntmps249
   go_wp2;go_ret;exact ⟨aA HV.o.symm,HB0.o⟩
 .have g1:(t==t')=false:=by simpa using c1
  have HV:=zh (show r=false by rw [HR.o];simp [c1]);clear c1 HR HEQ;go_enter func249,ntmps249
  go_wp2;go_ret;exact ⟨aA HV.o.symm,HB0.o⟩
theorem bE {α β:Type}(f:α->β)(xs:List α)(i:Nat)(a:α)(b:β)(h:i<xs.length:=by omega):(xs.map f).getD i b=f (xs.getD i a):=by
 simp [xB,h]
theorem uO (a a':qO)(n cap n' cap':Nat)(xs ys:List PB)(w:qw)(h:PlS w a n cap xs)(h':PlS w a' n' cap' ys):
 qC 248 #[qS a n cap,qS a' n' cap',.func (.func 249) #[] #[]] w fun e w'=>e=.returned (.bool (decide (xs.map (fun x=>x.1)=ys.map (fun x=>x.1))))/\qY w w':=by
 have hl:=h.1;have hl':=h'.1;have hmx:=h.2.1;have hmx':=h'.2.1;unfold maxLen at hmx hmx';obtain ⟨r,hr⟩:=eqx (decide (xs.map (fun x=>x.1)=ys.map (fun x=>x.1)));rw [<- hr];have HR:=zh hr;clear hr;by_cases hn:n=n'
 .subst hn;have hne:((n:Int) !=(n:Int))=false:=by simp
  go_enter func248,ntmps248
  go_wp2;go_loopw [17] (fun i wr=>∃ k:Nat,k<=n/\i=qI k/\(xs.map (fun x=>x.1)).take k=(ys.map (fun x=>x.1)).take k/\qY w wr) (qf n)
  .exact ⟨0,xC _,rfl,by simp,brf⟩
  .obtain ⟨k,hk,rfl,hT,hB⟩:=hrel;by_cases hlt:k<n
   .have hlt':(k:Int)<(n:Int):=by omega
    obtain ⟨b,off,rfl,q0,q1,q2,q3⟩:=(h.bw hB).at k hlt;obtain ⟨b',off',rfl,p0,p1,p2,p3⟩:=(h'.bw hB).at k hlt;have i1:=(h.bw hB).2.2.2.1 k hlt;have i2:=(h'.bw hB).2.2.2.1 k hlt;have HGO:Zh ((xs.getD k zPB).1=(ys.getD k zPB).1->(xs.map (fun x=>x.1)).take (k+1)=(ys.map (fun x=>x.1)).take (k+1)):=fun he=>dE zPB.1 _ _ k hT (by simp;omega) (by simp;omega) (by rw [bE _ _ _ zPB _,bE _ _ _ zPB _,he])
    have HNO:=zh (show (xs.getD k zPB).1≠(ys.getD k zPB).1->r=false from fun he=>by
     rw [HR.o,decide_eq_false_iff_not];intro e;have e2:=congrArg (fun l=>l.getD k zPB.1) e;try simp only at e2
     rw [bE _ _ _ zPB _,bE _ _ _ zPB _] at e2
     exact he e2)
    clear hT;unfold svP at q1 p1;generalize xs.getD k zPB=x at *;generalize ys.getD k zPB=y at *;obtain ⟨⟨xt,xb,xd,xz⟩,xa,xc⟩:=x;obtain ⟨⟨yt,yb,yd,yz⟩,ya,yc⟩:=y;dsimp only at q0 q1 q2 q3 p0 p1 p2 p3 i1 i2 HGO HNO;have hlb:=xD _ _ q0;have hlb':=xD _ _ p0;have HB2:qY wr ((wr.alloc (.cells #[qI xt,qS xa xb.length xc,qI xd,qI xz] 171)).alloc (.cells #[qI yt,qS ya yb.length yc,qI yd,qI yz] 171)):=bal.alloc (by simp) _;have HSP:=zh (vV xt xd xz xa xb.length xc xb yt yd yz ya yb.length yc yb _ (i1.bw HB2) (i2.bw HB2));have HB3:=zh (hB.trans (HB2.mono hB.size));clear i1 i2 HB2 hB;by_cases he:(⟨xt,xb,xd,xz⟩:Pl)=⟨yt,yb,yd,yz⟩
    .rw [xR he] at HSP;have HG:=zh (HGO.o he);clear he HGO HNO;go_wp2_with fail
     refine HSP.o.mono ?_;rintro e w1 ⟨rfl,hb1⟩;have HB4:=zh (HB3.o.trans (hb1.mono HB3.o.size));clear q0 q1 q2 q3 p0 p1 p2 p3 hb1 HSP;go_wp2
     go_roundw
     .exact ⟨k+1,by omega,by go_num,HG.o,HB4.o⟩
     .simp [qf,intOf];omega
    .rw [xS he] at HSP;have HG:=zh (HNO.o he);clear he HGO HNO;go_wp2_with fail
     refine HSP.o.mono ?_;rintro e w1 ⟨rfl,hb1⟩;have HB4:=zh (HB3.o.trans (hb1.mono HB3.o.size));clear q0 q1 q2 q3 p0 p1 p2 p3 hb1 HSP;go_wp2;go_ret;exact ⟨aA HG.o.symm,HB4.o⟩
   .have hf:Zh (r=true):=by
     show _=_;rw [HR.o];simp;rw [xG (by simp;omega),xG (by simp;omega)] at hT;exact hT
    clear hT;go_wp2;go_ret;exact ⟨aA hf.o.symm,hB⟩
 .have hf:Zh (r=false):=by
   show _=_;rw [HR.o,decide_eq_false_iff_not];intro e;have:=congrArg List.length e;simp at this;omega
  have hne:((n:Int) !=(n':Int))=true:=by simp;omega
  go_enter func248,ntmps248
  go_wp2;go_ret;exact ⟨aA hf.o.symm,brf⟩
theorem uN (a a':qO)(n cap n' cap':Nat)(xs ys:List TB)(w:qw)(h:TsS w a n cap xs)(h':TsS w a' n' cap' ys):
 qC 250 #[qS a n cap,qS a' n' cap',.func (.func 251) #[] #[]] w fun e w'=>e=.returned (.bool (decide (xs.map (fun x=>x.1)=ys.map (fun x=>x.1))))/\qY w w':=by
 have hl:=h.1;have hl':=h'.1;have hmx:=h.2.1;have hmx':=h'.2.1;unfold maxLen at hmx hmx';obtain ⟨r,hr⟩:=eqx (decide (xs.map (fun x=>x.1)=ys.map (fun x=>x.1)));rw [<- hr];have HR:=zh hr;clear hr;by_cases hn:n=n'
 .subst hn;have hne:((n:Int) !=(n:Int))=false:=by simp
  go_enter func250,ntmps250
  go_wp2;go_loopw [17] (fun i wr=>∃ k:Nat,k<=n/\i=qI k/\(xs.map (fun x=>x.1)).take k=(ys.map (fun x=>x.1)).take k/\qY w wr) (qf n)
  .exact ⟨0,xC _,rfl,by simp,brf⟩
  .obtain ⟨k,hk,rfl,hT,hB⟩:=hrel;by_cases hlt:k<n
   .have hlt':(k:Int)<(n:Int):=by omega
    obtain ⟨b,off,rfl,q0⟩:=(h.bw hB).at k hlt;obtain ⟨b',off',rfl,p0⟩:=(h'.bw hB).at k hlt;have i1:=(h.bw hB).2.2.2.1 k hlt;have i2:=(h'.bw hB).2.2.2.1 k hlt;have HGO:Zh ((xs.getD k zTB).1=(ys.getD k zTB).1->(xs.map (fun x=>x.1)).take (k+1)=(ys.map (fun x=>x.1)).take (k+1)):=fun he=>dE zTB.1 _ _ k hT (by simp;omega) (by simp;omega) (by rw [bE _ _ _ zTB _,bE _ _ _ zTB _,he])
    have HNO:=zh (show (xs.getD k zTB).1≠(ys.getD k zTB).1->r=false from fun he=>by
     rw [HR.o,decide_eq_false_iff_not];intro e;have e2:=congrArg (fun l=>l.getD k zTB.1) e;try simp only at e2
     rw [bE _ _ _ zTB _,bE _ _ _ zTB _] at e2
     exact he e2)
    clear hT;unfold svT at q0 p0;generalize xs.getD k zTB=x at *;generalize ys.getD k zTB=y at *;obtain ⟨xl,xa,xc⟩:=x;obtain ⟨yl,ya,yc⟩:=y;dsimp only at q0 p0 i1 i2 HGO HNO;have HSP:=zh (aAj xa ya xl.length xc yl.length yc xl yl _ i1 i2);have HB3:=zh hB;clear i1 i2 hB;by_cases he:xl=yl
    .rw [xR he] at HSP;have HG:=zh (HGO.o he);clear he HGO HNO;go_wp2_with fail
     refine HSP.o.mono ?_;rintro e w1 ⟨rfl,hb1⟩;have HB4:=zh (HB3.o.trans (hb1.mono HB3.o.size));clear q0 p0 hb1 HSP;go_wp2
     go_roundw
     .exact ⟨k+1,by omega,by go_num,HG.o,HB4.o⟩
     .simp [qf,intOf];omega
    .rw [xS he] at HSP;have HG:=zh (HNO.o he);clear he HGO HNO;go_wp2_with fail
     refine HSP.o.mono ?_;rintro e w1 ⟨rfl,hb1⟩;have HB4:=zh (HB3.o.trans (hb1.mono HB3.o.size));clear q0 p0 hb1 HSP;go_wp2;go_ret;exact ⟨aA HG.o.symm,HB4.o⟩
   .have hf:Zh (r=true):=by
     show _=_;rw [HR.o];simp;rw [xG (by simp;omega),xG (by simp;omega)] at hT;exact hT
    clear hT;go_wp2;go_ret;exact ⟨aA hf.o.symm,hB⟩
 .have hf:Zh (r=false):=by
   show _=_;rw [HR.o,decide_eq_false_iff_not];intro e;have:=congrArg List.length e;simp at this;omega
  have hne:((n:Int) !=(n':Int))=true:=by simp;omega
  go_enter func250,ntmps250
  go_wp2;go_ret;exact ⟨aA hf.o.symm,brf⟩
theorem Blk.ly6 {w:qw}{t:TypeId}{v0 v2 v4 v5:Value}(h:Blk w b #[v0,v1,v2,v3,v4,v5] t):w.cell? (qR b 0)=some v0/\w.cell? (qR b 1)=some v1/\w.cell? (qR b 2)=some v2/\w.cell? (qR b 3)=some v3/\w.cell? (qR b 4)=some v4/\w.cell? (qR b 5)=some v5:=⟨h.cell 0,h.cell 1,h.cell 2,h.cell 3,h.cell 4,h.cell 5⟩
theorem sJ (L:Lay)(a0:qO)(c0:Nat)(xs:List PB)(a2:qO)(c2:Nat)(a5:qO)(c5:Nat)(ts:List TB)(L':Lay)(a0':qO)(c0':Nat)(xs':List PB)(a2':qO)(c2':Nat)(a5':qO)(c5':Nat)(ts':List TB)(w:qw)(h:LyT w L a0 c0 xs a2 c2 a5 c5 ts)(h':LyT w L' a0' c0' xs' a2' c2' a5' c5' ts'):
 qC 232 #[.agg (qJ L a0 xs c0 a2 c2 a5 ts c5),.agg (qL L' a0' xs'.length c0' a2' L'.slots.length c2' a5' ts'.length c5')] w (qB w (.bool (decide (L=L')))):=by
 have hps:=h.ps;have hps':=h'.ps;have htt:=h.tt;have htt':=h'.tt;have HE1:=zh (fun (W:qw) (hb:qY w W)=>nE a2 a2' L.slots.length c2 L'.slots.length c2' L.slots L'.slots W (h.s.bw hb) (h'.s.bw hb));have HE2:=zh (fun (W:qw) (hb:qY w W)=>uO a0 a0' xs.length c0 xs'.length c0' xs xs' W (h.p.bw hb) (h'.p.bw hb));have HE3:=zh (fun (W:qw) (hb:qY w W)=>uN a5 a5' ts.length c5 ts'.length c5' ts ts' W (h.t.bw hb) (h'.t.bw hb));rw [hps,hps'] at HE2;rw [htt,htt'] at HE3;clear h h' hps hps' htt htt';obtain ⟨pl,st,sl,fl,rm,tg⟩:=L;obtain ⟨pl',st',sl',fl',rm',tg'⟩:=L';dsimp only at HE1 HE2 HE3 ⊢;obtain ⟨r,hr⟩:=eqx (decide ((⟨pl,st,sl,fl,rm,tg⟩:Lay)=⟨pl',st',sl',fl',rm',tg'⟩));rw [<- hr];simp only [Lay.mk.injEq] at hr;have HR:=zh hr;clear hr;have B0:qY w ((w.alloc (.cells #[qS a0 xs.length c0,qI st,qS a2 sl.length c2,qI fl,qI rm,qS a5 ts.length c5] 71)).alloc (.cells #[qS a0' xs'.length c0',qI st',qS a2' sl'.length c2',qI fl',qI rm',qS a5' ts'.length c5'] 71)):=bal.alloc (by simp) _;have u:=(Blk.new w #[qS a0 xs.length c0,qI st,qS a2 sl.length c2,qI fl,qI rm,qS a5 ts.length c5] 71).alloc (.cells #[qS a0' xs'.length c0',qI st',qS a2' sl'.length c2',qI fl',qI rm',qS a5' ts'.length c5'] 71);have v:=Blk.new (w.alloc (.cells #[qS a0 xs.length c0,qI st,qS a2 sl.length c2,qI fl,qI rm,qS a5 ts.length c5] 71)) #[qS a0' xs'.length c0',qI st',qS a2' sl'.length c2',qI fl',qI rm',qS a5' ts'.length c5'] 71;try unfold qY at *
 simp only [xF] at v;have HK:=zh (xA B0 (xA u v));clear u v;by_cases k1:st=st'
 rotate_left
 .have g1:(st==st')=false:=by simpa using k1
  have HV:=zh (show r=false by rw [HR.o];simp [k1]);clear HR HE1 HE2 HE3;go_enter func232,ntmps232
  go_wp2;go_ret;exact ⟨aA HV.o.symm,HK.o.1⟩
 have g1:(st==st')=true:=by simpa using k1
 have HC1:=zh k1;clear k1;by_cases k2:fl=fl'
 rotate_left
 .have g2:(fl==fl')=false:=by simpa using k2
  have HV:=zh (show r=false by rw [HR.o];simp [k2]);clear HR HE1 HE2 HE3;go_enter func232,ntmps232
  go_wp2;go_ret;exact ⟨aA HV.o.symm,HK.o.1⟩
 have g2:(fl==fl')=true:=by simpa using k2
 have HC2:=zh k2;clear k2;by_cases k3:rm=rm'
 rotate_left
 .have g3:(rm==rm')=false:=by simpa using k3
  have HV:=zh (show r=false by rw [HR.o];simp [k3]);clear HR HE1 HE2 HE3;go_enter func232,ntmps232
  go_wp2;go_ret;exact ⟨aA HV.o.symm,HK.o.1⟩
 have g3:(rm==rm')=true:=by simpa using k3
 have HC3:=zh k3;clear k3;go_enter func232,ntmps232
 go_wp2_with fail
 refine (HE1.o _ HK.o.1).mono ?_;rintro e w1 ⟨rfl,hb1⟩;have HK1:=zh (xA (HK.o.1.trans (hb1.mono HK.o.1.size)) (xA (HK.o.2.1.bw hb1) (HK.o.2.2.bw hb1)));clear hb1 HK B0;by_cases k4:sl=sl'
 rotate_left
 .rw [xS k4];have HV:=zh (show r=false by rw [HR.o];simp [k4]);go_wp2;go_ret;exact ⟨aA HV.o.symm,HK1.o.1⟩
 rw [xR k4];have HC4:=zh k4;clear k4;obtain ⟨p0,p1,p2,p3,p4,p5⟩:=(HK1.o.2.1).ly6;obtain ⟨q0,q1,q2,q3,q4,q5⟩:=(HK1.o.2.2).ly6;go_wp2_with fail
 refine (HE2.o _ HK1.o.1).mono ?_;rintro e w2 ⟨rfl,hb2⟩;have HK2:=zh (xA (HK1.o.1.trans (hb2.mono HK1.o.1.size)) (xA (HK1.o.2.1.bw hb2) (HK1.o.2.2.bw hb2)));clear hb2 p0 p1 p2 p3 p4 p5 q0 q1 q2 q3 q4 q5;by_cases k5:pl=pl'
 rotate_left
 .rw [xS k5];have HV:=zh (show r=false by rw [HR.o];simp [k5]);go_wp2;go_ret;exact ⟨aA HV.o.symm,HK2.o.1⟩
 rw [xR k5];have HC5:=zh k5;clear k5;obtain ⟨p0,p1,p2,p3,p4,p5⟩:=(HK2.o.2.1).ly6;obtain ⟨q0,q1,q2,q3,q4,q5⟩:=(HK2.o.2.2).ly6;go_wp2_with fail
 refine (HE3.o _ HK2.o.1).mono ?_;rintro e w3 ⟨rfl,hb3⟩;have HB3:=zh (HK2.o.1.trans (hb3.mono HK2.o.1.size));have HV:=zh (show decide (tg=tg')=r by rw [HR.o];simp [HC1.o,HC2.o,HC3.o,HC4.o,HC5.o]);rw [HV.o];clear hb3 p0 p1 p2 p3 p4 p5 q0 q1 q2 q3 q4 q5 HR;cases r
 all_goals
  go_wp2;go_ret;exact ⟨rfl,HB3.o⟩
theorem oW (a0:qO)(n c0:Nat)(xs:List PB)(st:Int)(a2:qO)(sn c2:Nat)(fl rm:Int)(a5:qO)(m0 c5:Nat)(ts:List TB)(a0':qO)(n' c0':Nat)(xs':List PB)(st':Int)(a2':qO)(sn' c2':Nat)(fl' rm':Int)(a5':qO)(m0' c5':Nat)(ts':List TB)(w:qw)(h0:PlS w a0 n c0 xs)(h1:TsS w a5 m0 c5 ts)(h0':PlS w a0' n' c0' xs')(h1':TsS w a5' m0' c5' ts'):
 qC 207 #[.agg #[qS a0 n c0,qI st,qS a2 sn c2,qI fl,qI rm,qS a5 m0 c5],.agg #[qS a0' n' c0',qI st',qS a2' sn' c2',qI fl',qI rm',qS a5' m0' c5']] w fun e w'=>e=.returned (.bool (decide (xs.map (fun x=>x.1)=xs'.map (fun x=>x.1)/\ts.map (fun x=>x.1)=ts'.map (fun x=>x.1))))/\qY w w':=by
 obtain ⟨r,hr⟩:=eqx (decide (xs.map (fun x=>x.1)=xs'.map (fun x=>x.1)/\ts.map (fun x=>x.1)=ts'.map (fun x=>x.1)));rw [<- hr];have HR:=zh hr;clear hr;have hm0:=h0.2.1;have hm1:=h1.2.1;have hm0':=h0'.2.1;have hm1':=h1'.2.1;unfold maxLen at hm0 hm1 hm0' hm1';have hl0:=h0.1;have hl1:=h1.1;have hl0':=h0'.1;have hl1':=h1'.1;have B0:qY w ((w.alloc (.cells #[qS a0 n c0,qI st,qS a2 sn c2,qI fl,qI rm,qS a5 m0 c5] 71)).alloc (.cells #[qS a0' n' c0',qI st',qS a2' sn' c2',qI fl',qI rm',qS a5' m0' c5'] 71)):=bal.alloc (by simp) _;have u:=(Blk.new w #[qS a0 n c0,qI st,qS a2 sn c2,qI fl,qI rm,qS a5 m0 c5] 71).alloc (.cells #[qS a0' n' c0',qI st',qS a2' sn' c2',qI fl',qI rm',qS a5' m0' c5'] 71);have v:=Blk.new (w.alloc (.cells #[qS a0 n c0,qI st,qS a2 sn c2,qI fl,qI rm,qS a5 m0 c5] 71)) #[qS a0' n' c0',qI st',qS a2' sn' c2',qI fl',qI rm',qS a5' m0' c5'] 71;try unfold qY at *
 simp only [xF] at v;have HK:=zh (xA B0 (xA u v));clear u v;by_cases n1:n=n'
 rotate_left
 .have g1:((n:Int) !=(n':Int))=true:=by simp;omega
  have HV:=zh (show r=false by
   rw [HR.o,decide_eq_false_iff_not];intro e;have:=congrArg List.length e.1;simp at this
   omega)
  clear HR;go_enter func207,ntmps207
  go_wp2;go_ret;exact ⟨aA HV.o.symm,HK.o.1⟩
 subst n1;have g1:((n:Int) !=(n:Int))=false:=by simp
 by_cases n2:m0=m0'
 rotate_left
 .have g2:((m0:Int) !=(m0':Int))=true:=by simp;omega
  have HV:=zh (show r=false by
   rw [HR.o,decide_eq_false_iff_not];intro e;have:=congrArg List.length e.2;simp at this
   omega)
  clear HR;go_enter func207,ntmps207
  go_wp2;go_ret;exact ⟨aA HV.o.symm,HK.o.1⟩
 subst n2;have g2:((m0:Int) !=(m0:Int))=false:=by simp
 have HP:=zh (xA h0 (xA h0' (xA h1 h1')));clear h0 h0' h1 h1' B0;go_enter func207,ntmps207
 go_wp2;go_loopw [5] (fun i wr=>∃ k:Nat,k<=n/\i=qI k/\(xs.map (fun x=>x.1)).take k=(xs'.map (fun x=>x.1)).take k/\qY w wr/\Blk wr w.heap.size #[qS a0 n c0,qI st,qS a2 sn c2,qI fl,qI rm,qS a5 m0 c5] 71/\Blk wr (w.heap.size+1) #[qS a0' n c0',qI st',qS a2' sn' c2',qI fl',qI rm',qS a5' m0 c5'] 71) (qf n)
 .exact ⟨0,xC _,rfl,by simp,HK.o⟩
 .obtain ⟨k,hk,rfl,hT,HB⟩:=hrel;clear HK;have HB:=zh HB;generalize wr=wo at *;obtain ⟨p0,p1,p2,p3,p4,p5⟩:=(HB.o.2.1).ly6;obtain ⟨q0,q1,q2,q3,q4,q5⟩:=(HB.o.2.2).ly6;by_cases hlt:k<n
  .have hlt':(k:Int)<(n:Int):=by omega
   obtain ⟨b,off,rfl,s0,s1,s2,s3⟩:=(HP.o.1.bw HB.o.1).at k hlt;obtain ⟨b',off',rfl,t0,t1,t2,t3⟩:=(HP.o.2.1.bw HB.o.1).at k (by omega);have i1:=(HP.o.1.bw HB.o.1).2.2.2.1 k hlt;have i2:=(HP.o.2.1.bw HB.o.1).2.2.2.1 k (by omega);have HGO:Zh ((xs.getD k zPB).1=(xs'.getD k zPB).1->(xs.map (fun x=>x.1)).take (k+1)=(xs'.map (fun x=>x.1)).take (k+1)):=fun he=>dE zPB.1 _ _ k hT (by simp;omega) (by simp;omega) (by rw [bE _ _ _ zPB _,bE _ _ _ zPB _,he])
   have HNO:=zh (show (xs.getD k zPB).1≠(xs'.getD k zPB).1->r=false from fun he=>by
    rw [HR.o,decide_eq_false_iff_not];intro e;have e2:=congrArg (fun l=>l.getD k zPB.1) e.1;try simp only at e2
    rw [bE _ _ _ zPB _,bE _ _ _ zPB _] at e2
    exact he e2)
   clear hT;unfold svP at s1 t1;generalize xs.getD k zPB=x at *;generalize xs'.getD k zPB=y at *;obtain ⟨⟨xt,xb,xd,xz⟩,xa,xc⟩:=x;obtain ⟨⟨yt,yb,yd,yz⟩,ya,yc⟩:=y;dsimp only at s0 s1 s2 s3 t0 t1 t2 t3 i1 i2 HGO HNO;have hlw:=HB.o.2.1.lt;have hlw':=HB.o.2.2.lt;have hlb:=xD _ _ s0;have hlb':=xD _ _ t0;have HB2:qY wo ((wo.alloc (.cells #[qI xt,qS xa xb.length xc,qI xd,qI xz] 171)).alloc (.cells #[qI yt,qS ya yb.length yc,qI yd,qI yz] 171)):=bal.alloc (by simp) _;have HEQ:=zh (lE xa ya xb.length xc yb.length yc xb yb _ (i1.bw HB2) (i2.bw HB2));have HB4:=zh (xA (HB.o.1.trans (HB2.mono HB.o.1.size)) (xA (HB.o.2.1.bw HB2) (HB.o.2.2.bw HB2)));have kp:=(Blk.new wo #[qI xt,qS xa xb.length xc,qI xd,qI xz] 171).alloc (.cells #[qI yt,qS ya yb.length yc,qI yd,qI yz] 171);have kq:=Blk.new (wo.alloc (.cells #[qI xt,qS xa xb.length xc,qI xd,qI xz] 171)) #[qI yt,qS ya yb.length yc,qI yd,qI yz] 171;try unfold qY at *
   simp only [xF] at kq;have HKP:=zh (xA kp kq);clear i1 i2 HB2 HB kp kq;by_cases e1:xt=yt
   rotate_left
   .have g3:(xt !=yt)=true:=by simpa using e1
    have HV:Zh (r=false):=HNO.o (fun e=>e1 (by injection e));clear HNO HGO HEQ;go_wp2;go_ret;exact ⟨aA HV.o.symm,HB4.o.1⟩
   have g3:(xt !=yt)=false:=by simpa using e1
   have HE1:=zh e1;clear e1;go_wp2_with fail
   refine HEQ.o.mono ?_;rintro e w1 ⟨rfl,hb1⟩;have HB5:=zh (xA (HB4.o.1.trans (hb1.mono HB4.o.1.size)) (xA (HB4.o.2.1.bw hb1) (HB4.o.2.2.bw hb1)));have kp:=HKP.o.1.bw hb1;have kq:=HKP.o.2.bw hb1;have x0:=kp.e2;have x1:=kp.e3;have y0:=kq.e2;have y1:=kq.e3;clear hb1 kp kq HKP HB4 p0 p1 p2 p3 p4 p5 q0 q1 q2 q3 q4 q5 s0 s1 s2 s3 t0 t1 t2 t3;by_cases e2:xb=yb
   rotate_left
   .rw [xS e2];have HV:Zh (r=false):=HNO.o (fun e=>e2 (by injection e));clear HNO HGO HEQ;go_wp2;go_ret;exact ⟨aA HV.o.symm,HB5.o.1⟩
   rw [xR e2];have HE2:=zh e2;clear e2;by_cases e3:xd=yd
   rotate_left
   .have g4:(xd !=yd)=true:=by simpa using e3
    have HV:Zh (r=false):=HNO.o (fun e=>e3 (by injection e));clear HNO HGO HEQ;go_wp2;go_ret;exact ⟨aA HV.o.symm,HB5.o.1⟩
   have g4:(xd !=yd)=false:=by simpa using e3
   have HE3:=zh e3;clear e3;by_cases e4:xz=yz
   rotate_left
   .have g5:(xz !=yz)=true:=by simpa using e4
    have HV:Zh (r=false):=HNO.o (fun e=>e4 (by injection e));clear HNO HGO HEQ;go_wp2;go_ret;exact ⟨aA HV.o.symm,HB5.o.1⟩
   have g5:(xz !=yz)=false:=by simpa using e4
   have HE4:=zh e4;clear e4;have HG:=zh (HGO.o (by rw [HE1.o,HE2.o,HE3.o,HE4.o]));clear HGO HNO HEQ;go_wp2
   go_roundw
   .exact ⟨k+1,by omega,by go_num,HG.o,HB5.o⟩
   .simp [qf,intOf];omega
  .have HPE:=zh (show xs.map (fun x=>x.1)=xs'.map (fun x=>x.1) from by
    rw [xG (by simp;omega),xG (by simp;omega)] at hT
    exact hT)
   clear hT;go_wp2;clear p0 p1 p2 p3 p4 p5 q0 q1 q2 q3 q4 q5;go_loopw [8] (fun i wr=>∃ m:Nat,m<=m0/\i=qI m/\(ts.map (fun x=>x.1)).take m=(ts'.map (fun x=>x.1)).take m/\qY w wr/\Blk wr w.heap.size #[qS a0 n c0,qI st,qS a2 sn c2,qI fl,qI rm,qS a5 m0 c5] 71/\Blk wr (w.heap.size+1) #[qS a0' n c0',qI st',qS a2' sn' c2',qI fl',qI rm',qS a5' m0 c5'] 71) (qf m0)
   .exact ⟨0,xC _,rfl,by simp,HB.o⟩
   .clear HB;obtain ⟨m,hm,rfl,hT,HC⟩:=hrel;have HC:=zh HC;generalize wr=wn at *;obtain ⟨p0,p1,p2,p3,p4,p5⟩:=(HC.o.2.1).ly6;obtain ⟨q0,q1,q2,q3,q4,q5⟩:=(HC.o.2.2).ly6;by_cases hmt:m<m0
    .have hmt':(m:Int)<(m0:Int):=by omega
     obtain ⟨b,off,rfl,s0⟩:=(HP.o.2.2.1.bw HC.o.1).at m hmt;obtain ⟨b',off',rfl,t0⟩:=(HP.o.2.2.2.bw HC.o.1).at m (by omega);have I1:=zh (HP.o.2.2.1.2.2.2.1 m hmt);have I2:=zh (HP.o.2.2.2.2.2.2.1 m (by omega));have HGO:Zh ((ts.getD m zTB).1=(ts'.getD m zTB).1->(ts.map (fun x=>x.1)).take (m+1)=(ts'.map (fun x=>x.1)).take (m+1)):=fun he=>dE zTB.1 _ _ m hT (by simp;omega) (by simp;omega) (by rw [bE _ _ _ zTB _,bE _ _ _ zTB _,he])
     have HNO:=zh (show (ts.getD m zTB).1≠(ts'.getD m zTB).1->r=false from fun he=>by
      rw [HR.o,decide_eq_false_iff_not];intro e;have e2:=congrArg (fun l=>l.getD m zTB.1) e.2;try simp only at e2
      rw [bE _ _ _ zTB _,bE _ _ _ zTB _] at e2
      exact he e2)
     have HHD:=zh (fun (W:qw) (hb:qY wn W)=>xA (aB hb s0) (aB hb t0));clear hT;unfold svT at s0 t0 HHD;generalize ts.getD m zTB=x at *;generalize ts'.getD m zTB=y at *;obtain ⟨xl,xa,xc⟩:=x;obtain ⟨yl,ya,yc⟩:=y;dsimp only at s0 t0 I1 I2 HGO HNO HHD;have hx1:=I1.o.2.1;have hy1:=I2.o.2.1;unfold maxLen at hx1 hy1;by_cases e1:xl.length=yl.length
     rotate_left
     .have g3:((xl.length:Int) !=(yl.length:Int))=true:=by simp;omega
      have HV:Zh (r=false):=HNO.o (fun e=>e1 (by rw [e]));clear HNO HGO;go_wp2
      go_quiet (fail)
      go_wp2;go_ret;exact ⟨aA HV.o.symm,below_drewN HC.o.1 _⟩
     have g3:((xl.length:Int) !=(yl.length:Int))=false:=by simp;omega
     go_wp2
     go_quiet (fail)
     go_wp2;clear p0 p1 p2 p3 p4 p5 q0 q1 q2 q3 q4 q5 s0 t0;go_loopw [9] (fun i wr=>∃ j:Nat,j<=xl.length/\i=qI j/\xl.take j=yl.take j/\qY wn wr) (qf xl.length)
     .exact ⟨0,xC _,rfl,by simp,below_drewN brf _⟩
     .obtain ⟨j,hj,rfl,hT,HD⟩:=hrel;have HD:=zh HD;generalize wr=wm at *;obtain ⟨s0,t0⟩:=HHD.o wm HD.o;obtain ⟨p0,p1,p2,p3,p4,p5⟩:=(HC.o.2.1.bw HD.o).ly6;obtain ⟨q0,q1,q2,q3,q4,q5⟩:=(HC.o.2.2.bw HD.o).ly6;have HCD:=zh (HC.o.1.trans (HD.o.mono HC.o.1.size));by_cases hjl:j<xl.length
      .have hjl':(j:Int)<(xl.length:Int):=by omega
       have hjlb':(j:Int)<(yl.length:Int):=by omega
       obtain ⟨bx,ox,rfl,u0,u1,u2⟩:=((I1.o.bw HCD.o)).at j hjl;obtain ⟨by',oy,rfl,v0,v1,v2⟩:=((I2.o.bw HCD.o)).at j (by omega);have HS:Zh (xl.getD j zT=yl.getD j zT->xl.take (j+1)=yl.take (j+1)):=fun he=>dE zT _ _ j hT (by omega) (by omega) he;have HF:Zh (xl.getD j zT≠yl.getD j zT->r=false):=fun he=>HNO.o (fun e=>he (by rw [e]));clear hT;generalize xl.getD j zT=z at *;generalize yl.getD j zT=z' at *;obtain ⟨z0,z1,z2⟩:=z;obtain ⟨z0',z1',z2'⟩:=z';dsimp only at u0 u1 u2 v0 v1 v2;by_cases he:(z0,z1,z2)=((z0',z1',z2'):Tg)
       .have HS2:=zh (HS.o he);simp only [Prod.mk.injEq] at he;obtain ⟨rfl,rfl,rfl⟩:=he;clear HS HF;go_wp2
        go_quiet (fail)
        go_wp2
        go_roundw
        .exact ⟨j+1,by omega,by go_num,HS2.o,below_drewN HD.o _⟩
        .simp [qf,intOf];omega
       .have HV:=zh (HF.o he);have hne3:¬ (z0=z0'/\z1=z1'/\z2=z2'):=fun e=>he (by rw [e.1,e.2.1,e.2.2]);clear HS HF he;by_cases f0:z0=z0'
        .by_cases f1:z1=z1'
         .have f2:¬ z2=z2':=fun e=>hne3 ⟨f0,f1,e⟩;subst f0 f1;have f2':(z2==z2')=false:=by simpa using f2
          go_wp2
          go_quiet (fail)
          go_wp2;go_ret;exact ⟨aA HV.o.symm,below_drewN HCD.o _⟩
         .subst f0;have f1':(z1==z1')=false:=by simpa using f1
          go_wp2
          go_quiet (fail)
          go_wp2;go_ret;exact ⟨aA HV.o.symm,below_drewN HCD.o _⟩
        .have f0':(z0==z0')=false:=by simpa using f0
         go_wp2
         go_quiet (fail)
         go_wp2;go_ret;exact ⟨aA HV.o.symm,below_drewN HCD.o _⟩
      .have HG:=zh (HGO.o (by
        rw [xG (by omega),xG (by omega)] at hT
        exact hT))
       have HCE:=zh (xA HCD.o (xA (HC.o.2.1.bw HD.o) (HC.o.2.2.bw HD.o)));clear hT HGO HNO;go_wp2
       go_roundw
       .exact ⟨m+1,by omega,by go_num,HG.o,HCE.o⟩
       .simp [qf,intOf];omega
    .have HV:=zh (show r=true from by
      rw [HR.o];simp only [decide_eq_true_eq];rw [xG (by simp;omega),xG (by simp;omega)] at hT
      exact ⟨HPE.o,hT⟩)
     clear hT;go_wp2;go_ret;exact ⟨aA HV.o.symm,HC.o.1⟩
theorem aJ6 (gs:List Nat)(bl:List Bk):(reb gs bl).map (fun B=>B.2.2.2)=bl.map (fun B=>B.2.2.2):=by
 apply List.ext_getElem
 .simp [nH]
 .intro i h1 h2;simp [reb] at h1 ⊢;simp [h1]
theorem aN2 {m:Md}{W:qw}(h:eO c m m' W):m'.pm=m.pm:=by
 obtain ⟨g1,g2,g3,g5,g6,g7,gs,rfl,_⟩:=h;simp only [Md.pm,aJ6]
theorem aCn {W:qw}(h:RowM W c n ms ms')(hl:ms'.length=n)(hl0:ms.length=n):aE ms'=aE ms:=by
 apply List.ext_getElem
 .simp [aE,hl,hl0]
 .intro i h1 h2;simp only [aE,xH] at h1 h2;have e:=aN2 (h.2.2 i (by omega)).2;simpa [aE,xB,h1,h2] using e
theorem zJ {m:Md}{W:qw}(h:eO c m m' W)(hb:m.bl.length=m.bn):m'.size=m.size:=by
 obtain ⟨g1,g2,g3,g5,g6,g7,gs,rfl,_⟩:=h;exact aJ5 _ _ _ _ _ _ _ _ _ _ _ hb
theorem aJ2 {W w:qw}(h:RowM W c n ms ms')(hl:ms'.length=n)(hm:MS w a n cap ms)(hs:∀ i,i<n->(ms.getD i aK).size<=1048576):MSD W (qP c) n n ms':=
 ⟨h.ms hl hm,fun i hi=>aKz (aHc (hm.2.2.2.1 i hi) (h.2.2 i (by omega)).2) (by
  have e:=zJ (h.2.2 i (by omega)).2 (hm.2.2.2.1 i hi).b.1;have:=hs i hi;unfold Md.size at e this;rw [e]
  exact this)⟩
def Sm (W:qw)(c j:Nat):Prop:=c<j/\j<W.heap.size/\¬ ∃ cs,Blk W j cs 25
def bnF (m:Md)(j:Nat):Rw3:=((m.bl.getD j zB).1,(m.bl.getD j zB).2.1,(m.bl.getD j zB).2.2.1)
theorem SlB.congr {w:qw}{f f':Nat->Rw3}(h:SlB S w a n f)(e:∀ i,i<n->f' i=f i):SlB S w a n f':=
 ⟨fun hn=>by obtain ⟨g,o,cs,t,ha,hs,hb,hl⟩:=h.head hn;exact ⟨g,o,cs,t,ha,hs,hb,fun i hi=>by rw [e i hi];exact hl i hi⟩,fun i hi=>by rw [e i hi];exact h.rows i hi⟩
theorem sC {f f':Nat->Rw3}:∀ n,(∀ i,i<n->f' i=f i)->bL f' n=bL f n
 | 0,_=>rfl
 | n+1,e=>by show bL f' n+(f' n).2.1=bL f n+(f n).2.1;rw [sC n (fun i hi=>e i (by omega)),e n (by omega)]
theorem yI {W:qw}{t:TypeId}(h1:c<j)(hb:Blk W j cs t)(hne:t≠25):Sm W c j:=⟨h1,hb.lt,fun ⟨c2,k2⟩=>hne (aH hb k2)⟩
theorem uV {m:Md}{w W:qw}(hm:m.mt w)(h:eO c m m' W):Rws (Sm W c) W c m' (bnF m')/\bL (bnF m') m'.bn=upS (fun j=>(m.bl.getD j zB).2.1) m.bn:=by
 obtain ⟨g1,g2,g3,g5,g6,g7,gs,rfl,l1,l2,l3,l4,l5,l6,hg,r1,r2,r3,r5,r6,r7⟩:=h;have hbl:m.bl.length=m.bn:=hm.b.1;have s1:Sm W c g1:=yI (by omega) (show Blk W g1 _ _ from r1) (by decide);have s3:Sm W c g3:=yI (by omega) (show Blk W g3 _ _ from r3) (by decide);have s5:Sm W c g5:=yI (by omega) (show Blk W g5 _ _ from r5) (by decide);have s6:Sm W c g6:=yI (by omega) (show Blk W g6 _ _ from r6) (by decide);have s7:Sm W c g7:=by obtain ⟨⟨cx,hx,_⟩,_⟩:=r7;exact yI (by omega) hx (by decide)
 have s2:¬ Sm W c g2:=fun e=>by obtain ⟨⟨cur,h2,_⟩,_⟩:=r2;exact e.2.2 ⟨cur,h2⟩
 have sb:∀ i,i<m.bn->Sm W c (gs.getD i 0):=fun i hi=>by
  obtain ⟨q1,q2⟩:=r2.2.1 i (by omega);exact yI (by omega) (show Blk W (gs.getD i 0) _ _ from q1) (by decide)
 have e:∀ i,i<m.bn->bnF ⟨m.nm,some (qR g1 0),m.tn,m.tn,m.tz,some (qR g2 0),m.bn,m.bn,reb gs m.bl,some (qR g3 0),m.dn,m.dn,m.dz,m.bss,some (qR g5 0),m.rn,m.rn,m.rz,some (qR g6 0),m.im,m.im,m.ss,some (qR g7 0),m.en,m.en,m.es⟩ i=aD2 gs m.bl i:=fun i hi=>by
  unfold bnF;rw [gX _ _ _];rfl
 obtain ⟨t1,t2,t3,t5,t6,t7⟩:=aPu hm hg r1 r2 r3 r5 r6 r7 s1 s2 sb s3 s5 s6 s7;refine ⟨⟨t1,t2.congr e,t3,t5,t6,t7,fun g o hh=>?_⟩,?_⟩
 .simp at hh;omega
 .rw [sC _ e,yH]
theorem aCo {W w:qw}(h:RowM W c n ms ms')(hl:ms'.length=n)(hm:MS w a n cap ms):Mrs (Sm W c) W c n ms' (fun i=>bnF (ms'.getD i aK)):=by
 obtain ⟨⟨cur,hb,hsz⟩,_,hr⟩:=h;refine ⟨fun e=>by have:=e.1;omega,⟨cur,hb,fun i hi=>?_⟩,fun i hi=>(uV (hm.2.2.2.1 i hi) (hr i (by omega)).2).1⟩;obtain ⟨h0,h1,h2,h3,h4,h5,h6,h7⟩:=(hr i (by omega)).1;exact ⟨⟨_,(hb.cell _).symm.trans h0⟩,(hb.cell _).symm.trans h1,(hb.cell _).symm.trans h2,(hb.cell _).symm.trans h3,⟨_,(hb.cell _).symm.trans h4⟩,(hb.cell _).symm.trans h5,(hb.cell _).symm.trans h6,(hb.cell _).symm.trans h7⟩
theorem aJ3 {W w:qw}(h:RowM W c n ms ms')(hl:ms'.length=n)(hm:MS w a n cap ms)(hz:n+upS (fun j=>(ms.getD j aK).size) n<=1048576):
 upS (gG ms' (fun i=>bnF (ms'.getD i aK))) n<=3145728/\(∀ i,i<n->(ms'.getD i aK).bn<=1048576)/\(∀ i,i<n->gG ms' (fun i=>bnF (ms'.getD i aK)) i<=4194304/\(ms'.getD i aK).tn<=1048576/\(ms'.getD i aK).dn<=1048576/\(ms'.getD i aK).rn<=1048576/\(ms'.getD i aK).im<=1048576/\(ms'.getD i aK).en<=1048576/\bL (bnF (ms'.getD i aK)) (ms'.getD i aK).bn<=1048576):=by
 have key:∀ i,i<n->gG ms' (fun i=>bnF (ms'.getD i aK)) i<=2+3*(ms.getD i aK).size/\(ms'.getD i aK).bn<=(ms.getD i aK).size/\(ms'.getD i aK).tn<=(ms.getD i aK).size/\(ms'.getD i aK).dn<=(ms.getD i aK).size/\(ms'.getD i aK).rn<=(ms.getD i aK).size/\(ms'.getD i aK).im<=(ms.getD i aK).size/\(ms'.getD i aK).en<=(ms.getD i aK).size/\bL (bnF (ms'.getD i aK)) (ms'.getD i aK).bn<=(ms.getD i aK).size:=fun i hi=>by
  have hc:=(h.2.2 i (by omega)).2;have e1:=(uV (hm.2.2.2.1 i hi) hc).2
  have e2:(ms'.getD i aK).tn=(ms.getD i aK).tn/\(ms'.getD i aK).bn=(ms.getD i aK).bn/\(ms'.getD i aK).dn=(ms.getD i aK).dn/\(ms'.getD i aK).rn=(ms.getD i aK).rn/\(ms'.getD i aK).im=(ms.getD i aK).im/\(ms'.getD i aK).en=(ms.getD i aK).en:=by
   obtain ⟨g1,g2,g3,g5,g6,g7,gs,e,_⟩:=hc;rw [e];exact ⟨rfl,rfl,rfl,rfl,rfl,rfl⟩
  obtain ⟨f1,f2,f3,f4,f5,f6⟩:=e2;have e3:(ms.getD i aK).size=(ms.getD i aK).nm.size+(ms.getD i aK).tn+((ms.getD i aK).bn+upS (fun j=>((ms.getD i aK).bl.getD j zB).2.1) (ms.getD i aK).bn)+(ms.getD i aK).dn+(ms.getD i aK).rn+((ms.getD i aK).im+upS (fun j=>((ms.getD i aK).ss.getD j zS).size) (ms.getD i aK).im)+((ms.getD i aK).en+upS (fun j=>((ms.getD i aK).es.getD j zE).1.size) (ms.getD i aK).en):=rfl;unfold gG;rw [e1,f1,f2,f3,f4,f5,f6,e3];omega
 have hle:∀ i,i<n->(ms.getD i aK).size<=1048576:=fun i hi=>by have:=zU (fun j=>(ms.getD j aK).size) n i hi;omega
 refine ⟨?_,fun i hi=>by have:=key i hi;have:=hle i hi;omega,fun i hi=>by have:=key i hi;have:=hle i hi;omega⟩
 have hsum:∀ q,q<=n->upS (gG ms' (fun i=>bnF (ms'.getD i aK))) q<=2*q+3*upS (fun j=>(ms.getD j aK).size) q:=by
  intro q
  induction q with
  | zero=>intro _;simp [upS]
  | succ q ih=>
    intro hq;have h1:=ih (by omega);have h2:=(key q (by omega)).1;show upS _ q+gG ms' (fun i=>bnF (ms'.getD i aK)) q<=2*(q+1)+3*(upS _ q+(ms.getD q aK).size);omega
 have:=hsum n aN;omega
theorem LayO.kept {W W':qw}(h:LayO W base L a0 c0 xs a2 c2 a5 c5 ts)(t:Turn S W W')(hs:∀ j,base<=j->j<W.heap.size->¬ S j):LayO W' base L a0 c0 xs a2 c2 a5 c5 ts where
 p:=h.p.kept t (fun k hk=>hs k (h.p.lt.1 k hk).1 (h.p.lt.1 k hk).2) (fun x hx k hk=>hs k (h.p.lt.2 x hx k hk).1 (h.p.lt.2 x hx k hk).2)
 ps:=h.ps
 s:=h.s.kept t (fun k hk=>hs k (h.s.lt k hk).1 (h.s.lt k hk).2)
 t:=h.t.kept t (fun k hk=>hs k (h.t.lt.1 k hk).1 (h.t.lt.1 k hk).2) (fun x hx k hk=>hs k (h.t.lt.2 x hx k hk).1 (h.t.lt.2 x hx k hk).2)
 tt:=h.tt
 sp:=h.sp
theorem LayO.below' {W W':qw}(h:LayO W base L a0 c0 xs a2 c2 a5 c5 ts)(hb:qY W W'):LayO W' base L a0 c0 xs a2 c2 a5 c5 ts:=h.kept (S:=fun _=>False) (aJ hb) (fun _ _ _ s=>s)
def Zb (zc:Array Value)(t:TypeId)(W0 X:qw)(o:Option Nat):Prop:=qY W0 X/\∀ g,o=some g->W0.heap.size<=g/\Blk X g zc t
section
variable {zc:Array Value}{t:TypeId}{W0 X Y:qw}{o:Option Nat}
theorem aO1 (zc:Array Value)(t:TypeId)(W0:qw):Zb zc t W0 W0 none:=⟨brf,fun g e=>by cases e⟩
theorem Zb.bw (h:Zb zc t W0 X o)(hb:qY X Y):Zb zc t W0 Y o:=⟨h.1.trans (hb.mono h.1.size),fun g e=>⟨(h.2 g e).1,(h.2 g e).2.bw hb⟩⟩
theorem Zb.drew (h:Zb zc t W0 X o):Zb zc t W0 X.drew o:=⟨h.1.drew,fun g e=>⟨(h.2 g e).1,(h.2 g e).2⟩⟩
theorem Zb.box (h:Zb zc t W0 X none):Zb zc t W0 (X.alloc (.cells zc t)) (some X.heap.size):=⟨h.1.alloc h.1.size _,fun g e=>by cases e;exact ⟨h.1.size,Blk.new X zc t⟩⟩
end
section
variable {zc:Array Value}{t:TypeId}{n g:Nat}{ms m:List Md}{W0 X Y:qw}{o:Option Nat}
end
section
variable {base:Nat}{L:Lay}{W0 X:qw}{gb:Nat}{a0:qO}{c0:Nat}{xs:List PB}{a2:qO}{c2:Nat}{a5:qO}{c5:Nat}{ts:List TB}
end
section
variable {cf:Array Value}{tc:TypeId}{base:Nat}{L:Lay}{w W5 W W':qw}{gb:Nat}{a0:qO}{c0:Nat}{xs:List PB}{a2:qO}{c2:Nat}{a5:qO}{c5:Nat}{ts:List TB}
end
theorem aP8 (a1 a2 a3:qO)(n1 c1 n2 c2 n3 c3:Nat)(p:Int)(w:qw)(h:mok n1 n2 n3=true)(hmax:p<=9223372036854775807)(hm:(p.tmod 4 !=0)=false)(hp:(p==131072)=false)(hi:ins p 4 0 n1=true):
 qC 243 #[.agg (qV a1 n1 c1 a2 n2 c2 a3 n3 c3),qI p,qI 4] w (qB w (qI 3)):=by
 have hB0:qY w (w.alloc (.cells (qV a1 n1 c1 a2 n2 c2 a3 n3 c3) 39)):=bal;go_enter func243,ntmps243
 obtain ⟨l1,l2,l3⟩:=aPt h;go_wp2_with fail
 refine (aB5 a1 a2 a3 n1 c1 n2 c2 n3 c3 p _ h hm).mono ?_;rintro e w1 ⟨rfl,hb1⟩;have k1:=(Blk.new w (qV a1 n1 c1 a2 n2 c2 a3 n3 c3) 39).bw hb1;have hB1:=hB0.trans (hb1.mono (by simp));obtain ⟨q1,q2,q3,q4⟩:=k1.three;clear hb1 k1;go_wp2_with fail
 refine (iK a1 n1 c1 _ 4 0 _).mono ?_;rw [hi];rintro e wx ⟨rfl,rfl⟩;go_wp2;go_ret;exact ⟨rfl,hB1⟩
theorem aQ1 (a1 a2 a3:qO)(n1 c1 n2 c2 n3 c3:Nat)(p:Int)(w:qw)(h:mok n1 n2 n3=true)(hmax:p<=9223372036854775807)(hm:(p.tmod 4 !=0)=false)(hp:(p==131072)=false)(hi:ins p 4 0 n1=false)(hj:ins p 4 65536 n2=false):
 qC 243 #[.agg (qV a1 n1 c1 a2 n2 c2 a3 n3 c3),qI p,qI 4] w (qB w (qI 2)):=by
 have hB0:qY w (w.alloc (.cells (qV a1 n1 c1 a2 n2 c2 a3 n3 c3) 39)):=bal;go_enter func243,ntmps243
 obtain ⟨l1,l2,l3⟩:=aPt h;go_wp2_with fail
 refine (aB5 a1 a2 a3 n1 c1 n2 c2 n3 c3 p _ h hm).mono ?_;rintro e w1 ⟨rfl,hb1⟩;have k1:=(Blk.new w (qV a1 n1 c1 a2 n2 c2 a3 n3 c3) 39).bw hb1;have hB1:=hB0.trans (hb1.mono (by simp));obtain ⟨q1,q2,q3,q4⟩:=k1.three;clear hb1 k1;go_wp2_with fail
 refine (iK a1 n1 c1 _ 4 0 _).mono ?_;rw [hi];rintro e wx ⟨rfl,rfl⟩;go_wp2_with fail
 refine (iK a2 n2 c2 _ 4 65536 _).mono ?_;rw [hj];rintro e wx ⟨rfl,rfl⟩;go_wp2;go_ret;exact ⟨rfl,hB1⟩
theorem aMh (a1 a2 a3:qO)(n1 c1 n2 c2 n3 c3:Nat)(p:Int)(w:qw)(h:mok n1 n2 n3=true)(hmax:p<=9223372036854775807)(hm:(p.tmod 4 !=0)=false)(hp:(p==131072)=false)(hi:ins p 4 0 n1=false)(hj:ins p 4 65536 n2=true):
 qC 243 #[.agg (qV a1 n1 c1 a2 n2 c2 a3 n3 c3),qI p,qI 4] w (qB w (qI 0)):=by
 have hB0:qY w (w.alloc (.cells (qV a1 n1 c1 a2 n2 c2 a3 n3 c3) 39)):=bal;go_enter func243,ntmps243
 obtain ⟨l1,l2,l3⟩:=aPt h;go_wp2_with fail
 refine (aB5 a1 a2 a3 n1 c1 n2 c2 n3 c3 p _ h hm).mono ?_;rintro e w1 ⟨rfl,hb1⟩;have k1:=(Blk.new w (qV a1 n1 c1 a2 n2 c2 a3 n3 c3) 39).bw hb1;have hB1:=hB0.trans (hb1.mono (by simp));obtain ⟨q1,q2,q3,q4⟩:=k1.three;clear hb1 k1;go_wp2_with fail
 refine (iK a1 n1 c1 _ 4 0 _).mono ?_;rw [hi];rintro e wx ⟨rfl,rfl⟩;go_wp2_with fail
 refine (iK a2 n2 c2 _ 4 65536 _).mono ?_;rw [hj];rintro e wx ⟨rfl,rfl⟩;go_wp2;go_ret;exact ⟨rfl,hB1⟩
theorem aC2 {w:qw}{zs:qi}(h:OB w base (qS a n cap) zs)(hn:n≠0:=by omega):∃ g,a=some (qR g 0):=by
 obtain ⟨hl,⟨h0',_⟩|⟨g,cap',cur,hv,_⟩⟩:=h.1
 .simp at h0';exact absurd h0'.2.1 hn
 .simp at hv;exact ⟨g,hv.1⟩
theorem tD {w:qw}{zs:qi}(h:OB w base (qS (qP g) n cap) zs)(hm:m<=n:=by omega):Room w g m:=by
 obtain ⟨cur,hb,hn⟩:=nK h;exact ⟨cur,hb,by omega⟩
def aP6 (w:qw)(g o:Nat)(cs:Array Value)(t:TypeId)(base:Nat)(v1 v2 v3:Value)(r:List Int×List Int×List Int×Int)(e:Ending)(w':qw):Prop:=
 ∃ a3 m3 d3,e=.returned (qI r.2.2.2)/\Blk w' g (cs.setIfInBounds (o+2) (qS a3 m3 d3)) t/\gK w' base v1 v2 (qS a3 m3 d3) r.1 r.2.1 r.2.2.1/\(qS a3 m3 d3).ownBlock≠some g/\Turn (fun j=>j=g\/v2.ownBlock=some j\/v3.ownBlock=some j) w w'
theorem aJu (h:cs[i]?=some v):cs.setIfInBounds i v=cs:=by
 apply Array.ext_getElem?;intro j;rw [Array.getElem?_setIfInBounds];split
 .next e=>
  subst e;split
  .exact h.symm
  .next hl=>rw [Array.getElem?_eq_none (by omega)] at h;cases h
 .rfl
theorem aM3 {W W':qw}{gg:Nat}{x1 x2 y2 x3:qi}(h3:gK W base v1 (qS (qP g) n cap) v3 x1 x2 x3)
 (ho:fI g W W') (hy:OB W' base (qS (qP g) n cap) y2):gK W' base v1 (qS (qP g) n cap) v3 x1 y2 x3/\Turn (fun j=>j=gg\/(qS (qP g) n cap).ownBlock=some j\/v3.ownBlock=some j) W W':=by
 refine ⟨⟨?_,hy,?_,h3.2.2.2⟩,?_⟩
 .exact rU ho h3.1 (fun e=>Nat.lt_irrefl _ (h3.2.2.2.1 g g e rfl))
 .exact rU ho h3.2.2.1 (fun e=>Nat.lt_irrefl _ (h3.2.2.2.2.2 g g rfl e))
 .obtain ⟨e1,e2,e3,e4,e5⟩:=ho;refine ⟨by assumption,by assumption,by assumption,by omega,fun k hk hn=>e2 k (fun e=>hn (Or.inr (Or.inl (by rw [e];rfl))))⟩
theorem sY {a b c:qw}(h:fI g a b)(k:fI g b c):fI g a c:=⟨k.1.trans h.1,fun j hj=>(k.2.1 j hj).trans (h.2.1 j hj),k.2.2.1.trans h.2.2.1,k.2.2.2.1.trans h.2.2.2.1,k.2.2.2.2.trans h.2.2.2.2⟩
theorem sX {w w':qw}(h:fI g w w'):Turn (fun j=>j=g) w w':=⟨h.2.2.1,h.2.2.2.1,h.2.2.2.2,by rw [h.1];exact aN,fun k hk hn=>h.2.1 k hn⟩
def bN (zs:qi)(k:Nat)(ws:qi):Nat->List Int
 | 0=>zs
 | i+1=>put (bN zs k ws i) (k+4*i) (ws.getD i 0) 4
theorem fB (zs:qi)(k:Nat)(ws:qi):∀ i,(bN zs k ws i).length=zs.length
 | 0=>rfl
 | i+1=>by rw [bN,rN,fB zs k ws i]
theorem mW (g n cap k:Nat)(a:qO)(wn wc:Nat)(ws zs:qi)(base:Nat)(w0 w:qw)(h0:IS w0 a wn wc ws)(hb:qY w0 w)(hg:w0.heap.size<=g)(ho:OB w base (qS (qP g) n cap) zs)(hn:n<=16384)(hk:k+4*wn<=n)(hw:∀ i,i<wn->0<=ws.getD i 0/\ws.getD i 0<=4294967295):
 qC 144 #[qS (qP g) n cap,qI k,qS a wn wc] w fun e w'=>e=.returned (.tuple #[])/\OB w' base (qS (qP g) n cap) (bN zs k ws wn)/\fI g w w':=by
 have HO:=zh ho;have HB:=zh hb;clear ho hb;go_enter func144,ntmps144
 go_wp2;go_loopw [6] (fun i wr=>∃ m:Nat,m<=wn/\i=qI m/\OB wr base (qS (qP g) n cap) (bN zs k ws m)/\fI g w wr) (qf wn)
 .exact ⟨0,xC _,rfl,HO.o,iJ _ _⟩
 .obtain ⟨m,hm,rfl,O,T⟩:=hrel;by_cases hlt:m<wn
  .have hlt':(m:Int)<(wn:Int):=by omega
   obtain ⟨b,off,rfl,hc⟩:=(h0.bw (cY HB.o T hg)).2.2.2.1 (by omega);have q:=hc m hlt;obtain ⟨v0,v1⟩:=hw m hlt;have HP:=zh (yZ g n cap (k+4*m) 4 (ws.getD m 0) wr (nK O) hn (by omega) (by omega) (by omega) v0 v1);have HX:=zh (xA (aEr O (k+4*m) (ws.getD m 0) 4 (by omega)) (sY T (sZ g (k+4*m) (ws.getD m 0) wr 4)));have HE:Zh (bN zs k ws (m+1)=put (bN zs k ws m) (k+4*m) (ws.getD m 0) 4):=rfl;have hkm:((k+4*m:Nat):Int)=(k:Int)+4*(m:Int):=by omega
   rw [hkm] at HP;clear O T hc;generalize ws.getD m 0=v at *;go_wp2_with fail
   refine HP.o.mono ?_;rintro e w1 ⟨rfl,rfl⟩;go_wp2
   go_roundw
   .exact ⟨m+1,by omega,by go_num,by rw [HE.o];exact HX.o.1,HX.o.2⟩
   .simp [qf,intOf];omega
  .have e:Zh (m=wn):=by show m=wn;omega
   have HX:=zh (xA O T);clear O T;go_wp2
   go_end0
   exact ⟨rfl,by have:=HX.o.1;rw [e.o] at this;exact this,HX.o.2⟩
theorem jE (g n cap k m c:Nat)(a:qO)(wn wc:Nat)(ws zs:qi)(base:Nat)(w0 w:qw)(h0:IS w0 a wn wc ws)(hb:qY w0 w)(hg:w0.heap.size<=g)(ho:OB w base (qS (qP g) n cap) zs)(hn:n<=16384)(hk:k+4*wn<=n)(hm:4*wn<=m)(hc:m<=c)(hc2:c<=16384):
 qC 219 #[qS (some (qR g k)) m c,qS a wn wc] w fun e w'=>e=.returned (.tuple #[])/\OB w' base (qS (qP g) n cap) (bN zs k ws wn)/\fI g w w':=by
 have HO:=zh ho;have HB:=zh hb;clear ho hb;go_enter func219,ntmps219
 go_wp2;go_loopw [8] (fun i wr=>∃ j:Nat,j<=wn/\i=qI j/\OB wr base (qS (qP g) n cap) (bN zs k ws j)/\fI g w wr) (qf wn)
 .exact ⟨0,xC _,rfl,HO.o,iJ _ _⟩
 .obtain ⟨j,hj,rfl,O,T⟩:=hrel;by_cases hlt:j<wn
  .have hlt':(j:Int)<(wn:Int):=by omega
   obtain ⟨b,off,rfl,hcc⟩:=(h0.bw (cY HB.o T hg)).2.2.2.1 (by omega);have q:=hcc j hlt;have wv:-9223372036854775808<=ws.getD j 0/\ws.getD j 0<=9223372036854775807:=h0.2.2.1 _ (by have:=h0.1;simp [xB,show j<ws.length by omega]);have HP:=zh (mQ g (m-4*j) (c-4*j) (k+4*j) (ws.getD j 0) wr (tD O) (by omega) wv);have HX:=zh (xA (tE O (k+4*j) (ws.getD j 0)) (sY T (jG g (k+4*j) (ws.getD j 0) wr)));have HE:Zh (bN zs k ws (j+1)=put (bN zs k ws j) (k+4*j) (ws.getD j 0) 4):=rfl;have t0:(0:Int)<=4*(j:Int):=by omega
   have t1:4*(j:Int)<=(m:Int):=by omega
   have t2:4*(j:Int)<(c:Int):=by omega
   have t3:(4*(j:Int)).toNat=4*j:=by omega
   clear O T hcc wv;generalize ws.getD j 0=v at *;go_wp2_with fail
   refine HP.o.mono ?_;rintro e w1 ⟨rfl,rfl⟩;go_wp2
   go_roundw
   .exact ⟨j+1,by omega,by go_num,by rw [HE.o];exact HX.o.1,HX.o.2⟩
   .simp [qf,intOf];omega
  .have e:Zh (j=wn):=by show j=wn;omega
   have HX:=zh (xA O T);clear O T;go_wp2
   go_end0
   exact ⟨rfl,by have:=HX.o.1;rw [e.o] at this;exact this,HX.o.2⟩
def zby (n:Nat):Array Value:=((List.replicate n (0:Int)).map (Value.int .u8)).toArray
theorem yU (n:Nat)(hn:n<=16384)(W:qw):(Instr.makeSlice 28 (qI (n:Int)) (qI (n:Int))).run prog W=.ok (qS (qP W.heap.size) n n) (W.alloc (.cells (zby n) 5)):=by
 rw [run_make_row' 28 5 (.int .u8 0) 1 underlying28 zC rfl .i64 .i64 n (by omega) (by omega) W];have:=aOl n;rw [Nat.mul_one] at this;unfold zby;rw [<- this];rfl
theorem oD {W:qw}(h:Blk W g (zby n) 5)(hg:base<=g)(hn:n<=16384):OB W base (qS (qP g) n n) (List.replicate n 0):=by
 refine ⟨⟨by simp,.inr ⟨g,n,zby n,by simp,hg,h,by simp,by unfold maxLen;omega,by simp [zby],?_⟩⟩,fun z hz=>by have:=List.eq_of_mem_replicate hz;omega⟩;unfold zby;simp only [List.toList_toArray,List.length_replicate,Nat.mul_one];exact xG (by simp)
def cP (zs:qi)(P:PMod)(p:Pl):Nat->List Int
 | 0=>bN zs p.text.toNat P.tz P.tz.length
 | j+1=>bN (cP zs P p j) (p.banks.getD j 0).toNat (P.bl.getD j []) (P.bl.getD j []).length
theorem aIb (zs:qi)(P:PMod)(p:Pl):∀ j,(cP zs P p j).length=zs.length
 | 0=>fB _ _ _ _
 | j+1=>by rw [cP,fB,aIb zs P p j]
def flB (ps:List PMod)(L:Lay):Nat->List Int
 | 0=>List.replicate L.flash.toNat 0
 | i+1=>cP (flB ps L i) (ps.getD i zP) (L.places.getD i zPB.1) (ps.getD i zP).bl.length
def iH (zs:qi)(f:Nat)(rz:qi)(d:Int):Nat->List Int
 | 0=>zs
 | j+1=>put (iH zs f rz d j) (f+(rz.getD j 0).toNat) (low (((iH zs f rz d j).drop (f+(rz.getD j 0).toNat)).take 4)+d) 4
theorem aCp (zs:qi)(f:Nat)(rz:qi)(d:Int):∀ j,(iH zs f rz d j).length=zs.length
 | 0=>rfl
 | j+1=>by rw [iH,rN,aCp zs f rz d j]
def ovr (zs:qi)(f:Nat)(ds:qi):List Int:=zs.take f++(ds++zs.drop (f+ds.length))
theorem lR (zs:qi)(f:Nat)(ds:qi)(h:f+ds.length<=zs.length):(ovr zs f ds).length=zs.length:=by simp [ovr];omega
def raB (ps:List PMod)(L:Lay):Nat->List Int
 | 0=>List.replicate L.ram.toNat 0
 | i+1=>iH (ovr (raB ps L i) ((L.places.getD i zPB.1).data-65536).toNat (ps.getD i zP).dz) ((L.places.getD i zPB.1).data-65536).toNat (ps.getD i zP).rz (L.places.getD i zPB.1).data (ps.getD i zP).rz.length
theorem aNm (h:lkc ps s w k d=0):(lay ps s w k).flash<=16384/\(lay ps s w k).ram<=16384:=by
 unfold lkc at h;split at h
 .rename_i h1;exact absurd h h1
 split at h
 .exact absurd h (by decide)
 split at h
 .exact absurd h (by decide)
 split at h
 .exact absurd h (by decide)
 split at h
 .exact absurd h (by decide)
 rename_i h1 h2;omega
theorem aHl {ps:List PMod}(hv:fR ps):∀ i j,i<=j->j<=ps.length->Fl ps i<=Fl ps j
 | i,0,h,_=>by
    have:i=0:=by omega
    subst this;exact Int.le_refl _
 | i,j+1,h,hj=>by
   by_cases e:i=j+1
   .subst e;exact Int.le_refl _
   .have h1:=aHl hv i j (by omega) (by omega);have hm:=hv j (by omega);have h2:=eC hm;have h3:=cE hm _ aN;show Fl ps i<=Fl ps j+(tsz (ps.getD j zP)+cC (ps.getD j zP) (ps.getD j zP).bl.length);omega
theorem aHk {ps:List PMod}(hv:fR ps):∀ i j,i<=j->j<=ps.length->Ra ps i<=Ra ps j
 | i,0,h,_=>by
    have:i=0:=by omega
    subst this;exact Int.le_refl _
 | i,j+1,h,hj=>by
   by_cases e:i=j+1
   .subst e;exact Int.le_refl _
   .have h1:=aHk hv i j (by omega) (by omega);have h2:=iL (hv j (by omega));show Ra ps i<=Ra ps j+dsz (ps.getD j zP);omega
theorem zH {P:PMod}(hv:fD P=0):∀ i j,i<=j->j<=P.bl.length->cC P i<=cC P j
 | i,0,h,_=>by
    have:i=0:=by omega
    subst this;exact Int.le_refl _
 | i,j+1,h,hj=>by
   by_cases e:i=j+1
   .subst e;exact Int.le_refl _
   .have h1:=zH hv i j (by omega) (by omega);have h2:=aQ (x:=4*((P.bl.getD j []).length:Int));show cC P i<=cC P j+rnd (4*((P.bl.getD j []).length:Int));omega
structure Lkn (ps:List PMod)(L:Lay):Prop where
 n:1<=ps.length/\ps.length<=4
 v:fR ps
 im:jZ ps
 pl:L.places=(List.range ps.length).map (plc ps)
 fl:L.flash=Fl ps ps.length
 fr:0<=L.flash/\L.flash<=16384
 ra:Ra ps ps.length<=L.ram
 rr:0<=L.ram/\L.ram<=16384
 tg:L.targets=(List.range ps.length).map fun i=>tgs ps (ps.getD i zP)
 st:L.stack=65536+Ra ps ps.length
theorem kZ (h:Lok ps L):Lkn ps L:=by
 obtain ⟨h1,h2⟩:=h;have e:lay ps (L.slots.length:Int) (cfW L) (cfK L)=L:=by unfold lkL at h2;rw [if_pos h1] at h2;exact h2
 obtain ⟨hc,n1,n2,hv,hi⟩:=fY h1;obtain ⟨b1,b2⟩:=aNm h1;unfold cfo at hc;simp at hc;have a1:=cO hv ps.length aN;have a2:=bQ hv ps.length aN;have a3:(0:Int)<=((L.slots.length:Int).toNat:Int)*rnd (4*cfW L):=Int.mul_nonneg (by omega) (by have:=aQ (x:=4*cfW L);omega);have e1:L.flash=Fl ps ps.length:=by rw [<- e];rfl
 have e2:L.ram=Ra ps ps.length+cfK L+((L.slots.length:Int).toNat:Int)*rnd (4*cfW L):=by
  have:=congrArg Lay.ram e;rw [<- this];rfl
 rw [e] at b1 b2;exact ⟨⟨n1,n2⟩,hv,hi,by rw [<- e];rfl,e1,⟨by omega,b1⟩,by omega,⟨by omega,b2⟩,by rw [<- e];rfl,by have:=congrArg Lay.stack e;rw [<- this];rfl⟩
theorem Lkn.place (h:Lkn ps L)(i:Nat)(hi:i<ps.length):L.places.getD i zPB.1=plc ps i:=by
 rw [h.pl];simp [xB,hi]
theorem aJb (h:fD P=0):∀ j,j<P.rz.length->0<=P.rz.getD j 0/\P.rz.getD j 0+4<=(P.dz.length:Int):=by
 unfold fD mdo at h;split at h
 .exact absurd h (by decide)
 split at h
 .exact absurd h (by decide)
 split at h
 .exact absurd h (by decide)
 split at h
 .exact absurd h (by decide)
 rename_i h1 h2 h3 h4;intro j hj;have h5:rlo P.rz.length P.rz P.dz.length=true:=by simpa using h4
 unfold rlo at h5;rw [Bool.and_eq_true,List.all_eq_true] at h5;have h6:=h5.2 j (by simpa using hj);unfold rlk at h6;rw [decide_eq_true_eq] at h6;omega
theorem aLj {α:Type}(l:List α)(i:Nat)(z:α)(h:i<l.length):l.getD i z∈l:=by simp [xB,h]
theorem aEk {α:Type}(f:Nat->α)(n j:Nat)(z:α)(h:j<n):((List.range n).map f).getD j z=f j:=by simp [xB,h]
theorem aD5 (h:fD P=0):(∀ i,i<P.tz.length->0<=P.tz.getD i 0/\P.tz.getD i 0<=4294967295)/\∀ k,k<P.bl.length->∀ i,i<(P.bl.getD k []).length->0<=(P.bl.getD k []).getD i 0/\(P.bl.getD k []).getD i 0<=4294967295:=by
 unfold fD at h;have V:=lN (by simp [mB]) h;refine ⟨fun i hi=>V.tw _ (by simp [xB,hi]),fun k hk i hi=>?_⟩
 have:=(V.bw k (by simp [mB];exact hk)).2 ((P.bl.getD k []).getD i 0) (by
  have e:((mB P.bl).getD k zB).2.2.2=P.bl.getD k []:=by simp [mB,xB,hk]
  rw [e]
  exact aLj _ _ _ hi)
 exact this
theorem Lkn.at (h:Lkn ps L)(i:Nat)(hi:i<ps.length):
 (0<=(plc ps i).text/\(plc ps i).text+4*((ps.getD i zP).tz.length:Int)<=L.flash)/\(plc ps i).banks.length=(ps.getD i zP).bl.length/\(∀ j,j<(ps.getD i zP).bl.length->0<=(plc ps i).banks.getD j 0/\(plc ps i).banks.getD j 0+4*(((ps.getD i zP).bl.getD j []).length:Int)<=L.flash)/\(65536<=(plc ps i).data/\(plc ps i).data-65536+((ps.getD i zP).dz.length:Int)<=L.ram):=by
 have hm:=h.v i hi;have a1:=cO h.v i (by omega);have a2:=aHl h.v (i+1) ps.length (by omega) aN;have a3:Fl ps (i+1)=Fl ps i+(tsz (ps.getD i zP)+cC (ps.getD i zP) (ps.getD i zP).bl.length):=rfl;have a4:=cE hm _ aN;have a5:=aQ (x:=4*((ps.getD i zP).tz.length:Int));have a6:tsz (ps.getD i zP)=rnd (4*((ps.getD i zP).tz.length:Int)):=rfl;have b1:=bQ h.v i (by omega);have b2:=aHk h.v (i+1) ps.length (by omega) aN;have b3:Ra ps (i+1)=Ra ps i+dsz (ps.getD i zP):=rfl;have b4:=cB hm;have b5:=aQ (x:=((ps.getD i zP).dz.length:Int)+(ps.getD i zP).bss);have b6:dsz (ps.getD i zP)=rnd (((ps.getD i zP).dz.length:Int)+(ps.getD i zP).bss):=rfl;have hfl:=h.fl;have hra:=h.ra;refine ⟨⟨a1.1,?_⟩,by simp [plc],fun j hj=>?_,?_,?_⟩
 .show Fl ps i+4*_<=_;omega
 .have c1:=cE hm j (by omega);have c2:=zH hm (j+1) (ps.getD i zP).bl.length (by omega) aN;have c3:cC (ps.getD i zP) (j+1)=cC (ps.getD i zP) j+rnd (4*(((ps.getD i zP).bl.getD j []).length:Int)):=rfl;have c4:=aQ (x:=4*(((ps.getD i zP).bl.getD j []).length:Int));have e:(plc ps i).banks.getD j 0=Fl ps i+tsz (ps.getD i zP)+cC (ps.getD i zP) j:=aEk _ _ _ _ hj;rw [e];have c5:=eC hm;omega
 .show 65536<=65536+Ra ps i;omega
 .show 65536+Ra ps i-65536+_<=_;omega
structure OM (w:qw)(base:Nat)(v1 v2 v3:Value)(x1 x2 x3:qi):Prop where
 o1:OB w base v1 x1
 o2:OB w base v2 x2
 o3:OB w base v3 x3
 a12:∀ k,v1.ownBlock=some k->v2.ownBlock≠some k
 a13:∀ k,v1.ownBlock=some k->v3.ownBlock≠some k
 a23:∀ k,v2.ownBlock=some k->v3.ownBlock≠some k
def imF (ps:List PMod)(L:Lay):List Int:=@ite _ (Lok ps L) (lokD ps L) (flB ps L ps.length) []
def imR (ps:List PMod)(L:Lay):List Int:=@ite _ (Lok ps L) (lokD ps L) (raB ps L ps.length) []
def ImM (w:qw)(ps:List PMod)(L:Lay)(e:Ending)(w':qw):Prop:=qY w w'/\∃ a1 n1 c1 a2 n2 c2 a3 n3 c3,e=.returned (.tuple #[.agg (qV a1 n1 c1 a2 n2 c2 a3 n3 c3),.bool (decide (Lok ps L))])/\OM w' w.heap.size (qS a1 n1 c1) (qS a2 n2 c2) (qS a3 n3 c3) (imF ps L) (imR ps L) []
theorem rV {W:qw}{zs:qi}(h:OB W base (qS (qP g) n n) zs):W.heap[g]?=some (.cells (zs.map (Value.int .u8)).toArray 5 (0,0))/\zs.length=n/\base<=g/\n<=maxLen:=by
 obtain ⟨hl,⟨h0,_⟩|⟨g',cap',cur,hv,hg,hh,h1,h2,h3,h4⟩⟩:=h.1
 .simp at h0
 .simp at hv;obtain ⟨rfl,rfl,rfl⟩:=hv;refine ⟨?_,rfl,hg,by omega⟩;have e:cur.toList=zs.map (Value.int .u8):=by rw [<- h4,xG (by simp [h3])]
  rw [hh,<- e]
theorem aAz (zs:qi)(f:Nat)(ds:qi):splice (zs.map (Value.int .u8)) f (ds.map (Value.int .u8))=(ovr zs f ds).map (Value.int .u8):=by
 simp [splice,ovr,List.map_take,List.map_drop]
theorem yR {zs ds:qi}(hz:∀ z∈zs,0<=z/\z<=255)(hd:∀ z∈ds,0<=z/\z<=255):∀ z∈ovr zs f ds,0<=z/\z<=255:=fun z h=>by
 unfold ovr at h;rcases List.mem_append.1 h with h|h
 .exact hz z (List.mem_of_mem_take h)
 .rcases List.mem_append.1 h with h|h
  .exact hd z h
  .exact hz z (List.mem_of_mem_drop h)
theorem aM4 (zs:qi)(f:Nat):ovr zs f []=zs:=by simp [ovr]
theorem pR (g:Nat)(w:qw)(cs:Array Value):fI g w (w.setRow g cs):=⟨by simp [World.setRow],fun k hk=>setRow_other w g k cs hk,rfl,rfl,rfl⟩
theorem lS {W:qw}{zs:qi}(h:W.heap[g]?=some (.cells (zs.map (Value.int .u8)).toArray 5 (0,0)))(hl:zs.length=n)(hg:base<=g)(hm:n<=maxLen)(hr:∀ z∈zs,0<=z/\z<=255):OB W base (qS (qP g) n n) zs:=by
 subst hl;refine ⟨⟨by simp,.inr ⟨g,zs.length,_,rfl,hg,h,aN,hm,by simp,?_⟩⟩,hr⟩;simp only [List.toList_toArray,Nat.mul_one];exact xG (by simp)
theorem uW {W:qw}{zs ds:qi}(ho:OB W base (qS (qP g) n n) zs)(ty:TypeId)(dp sp:qO)(dLen dCap sLen sCap:Nat)(hds:BS W sp sLen sCap ds)(hle:sLen<=dLen)(hfit:f+sLen<=n)(hpos:0<sLen->dp=some (qR g f)):
 ∃ w',(Builtin.copy_ #[28,28] ty #[qS dp dLen dCap,qS sp sLen sCap]).run prog W=.ok (goInt sLen) w'/\OB w' base (qS (qP g) n n) (ovr zs f ds)/\fI g W w':=by
 obtain ⟨hrow,hlz,hg,hm⟩:=rV ho;have hld:=hds.1;have hi8:(prog.info? 5).map (·.size)=some 1:=by kernel_rfl
 by_cases h0:sLen=0
 .subst h0;obtain rfl:ds=[]:=xE hld;exact ⟨W,run_copy_none (P:=prog) W _ _ ty 5 dp sp dLen dCap 0 sCap underlying28 hi8 (by simp),by rw [aM4];exact ho,iJ _ _⟩
 .obtain ⟨b,off,rfl,hc⟩:=hds.2.2.2.1 h0;rw [hpos (by omega)];subst hld
  have hrun:=run_copy_row (P:=prog) W 28 28 ty 5 g f dLen dCap (qR b off) ds.length sCap (zs.map (Value.int .u8)).toArray 5 (ds.map (Value.int .u8)) underlying28 hi8 hrow (by rw [xH];exact (Nat.min_eq_left hle).symm) (fun j v hj=>by
   have hjl:j<ds.length:=by
    rcases Nat.lt_or_ge j ds.length with h1|h1
    .exact h1
    .rw [xO (by simp;omega)] at hj;cases hj
   rw [bP,hc j hjl,<- hj]
   simp [xB,show j<ds.length by omega]) (by simp;omega) (fun v hv=>by
   simp at hv;obtain ⟨z,_,rfl⟩:=hv
   rfl)
  rw [xH] at hrun;refine ⟨_,hrun,?_,pR _ _ _⟩;refine lS ?_ (by rw [lR _ _ _ (by omega)];exact hlz) hg hm (yR ho.2 hds.2.2.1);have:=setRow_heap W g (zs.map (Value.int .u8)).toArray (splice (zs.map (Value.int .u8)) f (ds.map (Value.int .u8))).toArray 5 (0,0) hrow;rw [aAz] at this;rw [<- aAz] at this ⊢;simpa [splice] using this
section
variable {W W':qw}{base:Nat}{v1 v2 v3:Value}{x1 x2 x3:qi}
theorem OM.bw (h:OM W base v1 v2 v3 x1 x2 x3)(hb:qY W W'):OM W' base v1 v2 v3 x1 x2 x3:=⟨h.o1.bw hb,h.o2.bw hb,h.o3.bw hb,h.a12,h.a13,h.a23⟩
theorem OM.mono {base':Nat}(h:OM W base v1 v2 v3 x1 x2 x3)(hb:base'<=base):OM W base' v1 v2 v3 x1 x2 x3:=⟨h.o1.mono hb,h.o2.mono hb,h.o3.mono hb,h.a12,h.a13,h.a23⟩
theorem OM.lt (h:OM W base v1 v2 v3 x1 x2 x3)(hj:rK v1 v2 v3 j):base<=j/\j<W.heap.size:=by
 rcases hj with e|e|e
 .exact h.o1.lt j e
 .exact h.o2.lt j e
 .exact h.o3.lt j e
theorem OM.kept (h:OM W base v1 v2 v3 x1 x2 x3)(t:Turn S W W')(hs:∀ j,rK v1 v2 v3 j->¬ S j):OM W' base v1 v2 v3 x1 x2 x3:=⟨aU t h.o1 (fun k hk=>hs k (.inl hk)),aU t h.o2 (fun k hk=>hs k (.inr (.inl hk))),aU t h.o3 (fun k hk=>hs k (.inr (.inr hk))),h.a12,h.a13,h.a23⟩
end
def iU (w:qw)(pc:Int)(n:Nat)(zs:qi)(e:Ending)(w':qw):Prop:=
 ∃ a' cap',e=.returned (.agg #[qI pc,qS a' n cap'])/\OI w' w.heap.size (qS a' n cap') zs/\qY w w'
theorem Blk.two' {w:qw}{a b:Value}{t:TypeId}(h:Blk w g #[a,b] t):w.cell? (qR g 0)=some a/\w.cell? (qR g 1)=some b/\∀ i,w.frozen? (qR g i)=false:=
 ⟨by rw [h.cell];rfl,by rw [h.cell];rfl,fun i=>h.frozen i⟩
theorem aDf (pc:Int)(b off n cap:Nat)(zs:qi)(w:qw)(h:IS w (some (qR b off)) n cap zs)(hn0:0<n)(hn:n<=1048576):
 qC 84 #[.agg #[qI pc,qS (some (qR b off)) n cap]] w (iU w pc n zs):=by
 obtain ⟨i0,hi,hz0,hz1,hz2⟩:=info_parts jV;have hl:=h.1;have hB0:qY w (((w.alloc (.cells #[qI pc,qS (some (qR b off)) n cap] 38)).alloc (.cells #[qI 0,qS none 0 0] 38)).alloc (.cells #[] 3)):=(bal.alloc (by simp) _).alloc (by simp;omega) _;have h':=h.bw hB0;have kr:=(Blk.new (w.alloc (.cells #[qI pc,qS (some (qR b off)) n cap] 38)) #[qI 0,qS none 0 0] 38).alloc (.cells #[] 3);try unfold qY at *
 simp only [xF] at kr;have hown:=zh (aEn ((w.alloc (.cells #[qI pc,qS (some (qR b off)) n cap] 38)).alloc (.cells #[qI 0,qS none 0 0] 38)));have hnews:=zh (aBi h');have hone:=zh (ints_oneCell .i64 zs);have hlen:=zh (show (zs.map (Value.int .i64)).length=n*1 by simp;omega);have HB:=zh hB0;have KR:=zh kr;have HH:=zh h;have kb:=((Blk.new w #[qI pc,qS (some (qR b off)) n cap] 38).alloc (.cells #[qI 0,qS none 0 0] 38)).alloc (.cells #[] 3);have KB:=zh kb;clear hB0 kr h h' kb;try unfold qY at *
 simp only [xF] at hown;go_enter func84,ntmps84
 go_wp2
 go_region_law (first
  | (refine step_append_lies _ rfl _ _ 25 rfl (w.heap.size+1+1) 3 i0 (qI 0) 1 8 underlying25 hi hz0 hz1 hz2 rfl (by decide) (qS (some (qR (w.heap.size+1+1) 0)) 0 0) 0 [] rfl (by exact hown.o) (qR b off) n cap (zs.map (Value.int .i64)) rfl hlen.o (by exact hnews.o) hone.o hn0 (by unfold maxLen;omega) (by omega) (by simp only [heap_drew,xF];omega) _ rfl ?_;intro g cap1 w1 hown1 hgr1 hat1 hlt1;obtain ⟨c1,c2,c3⟩:=(cL hgr1 (by exact KB.o) (by intro e;have e':some w.heap.size=some (w.heap.size+1+1):=e;injection e' with e';omega)).two';have kr1:=zh (cL hgr1 (by exact KR.o) (by intro e;have e':some (w.heap.size+1)=some (w.heap.size+1+1):=e;injection e' with e';omega));obtain ⟨r1,r2,r3⟩:=kr1.o.two'))
 all_goals
  have hown2:w1.ownsRow (w.heap.size+1+1) 3 1 (qS (qP g) n cap1) n (zs.map (Value.int .i64)):=by simpa using hown1
  have o1:OI w1 (w.heap.size+1+1) (qS (qP g) n cap1) zs:=⟨by rw [hl];exact hown2,HH.o.2.2.1⟩;have hB1:qY w w1:=HB.o.drew.grown hgr1 (by simp only [heap_drew,xF];omega) (fun k hk=>by have e':some (w.heap.size+1+1)=some k:=hk;injection e' with e';omega);have hz:=(kr1.o.set 0 (qI pc)).set 1 (qS (qP g) n cap1);have o2:=((o1.other (qR (w.heap.size+1) 0) (qI pc) (by dsimp only;omega)).other (qR (w.heap.size+1) 1) (qS (qP g) n cap1) (by dsimp only;omega)).mono (base':=w.heap.size) (by omega);have hB2:=(hB1.setCell (p:=(qR (w.heap.size+1) 0)) (by dsimp only;omega) (qI pc)).setCell (p:=(qR (w.heap.size+1) 1)) (by dsimp only;omega) (qS (qP g) n cap1);have hz':Blk ((w1.setCell (qR (w.heap.size+1) 0) (qI pc)).setCell (qR (w.heap.size+1) 1) (qS (qP g) n cap1)) (w.heap.size+1) #[qI pc,qS (qP g) n cap1] 38:=by simpa using hz
  obtain ⟨p1,p2,p3⟩:=hz'.two';have HX:=zh (xA o2 hB2);clear hz hz' o1 o2 hB1 hB2 hown1 hown2 hgr1 hat1 hlt1;go_wp2;exact bodyPost_ret (v:=.agg #[qI pc,qS (qP g) n cap1]) (by simp [results,results84,go_sem,p1,p2]) rfl ⟨some (qR g 0),cap1,rfl,HX.o.1,HX.o.2⟩
structure Cpm (W0 X:qw)(gm:Nat)(cs:Array Value):Prop where
 b:qY W0 X
 k:Blk X gm cs 138
 g:W0.heap.size<=gm
theorem Cpm.bw {W0 X X':qw}(h:Cpm W0 X gm cs)(hb:qY X X'):Cpm W0 X' gm cs:=⟨h.b.trans (hb.mono h.b.size),h.k.bw hb,h.g⟩
theorem Cpm.grown {W0 X A X':qw}(h:Cpm W0 X gm cs)(ha:qY X A)(hg:X.heap.size<=g)(G:A.grownBy X' (some g)):Cpm W0 X' gm cs/\Turn (fun j=>j=gm\/X.heap.size<=j) X X':=by
 have T:Turn (fun j=>j=gm\/X.heap.size<=j) X X':=(aJ ha).trans ⟨G.os,G.tape,G.output,G.size,fun k hk hs=>G.block k hk (fun e=>hs (.inr (by cases e;exact hg)))⟩;have hlt:=h.k.lt;exact ⟨⟨aG (h.b.trans (ha.mono h.b.size)) (S:=fun k=>k=g) ⟨G.os,G.tape,G.output,G.size,fun k hk hs=>G.block k hk (fun e=>hs (by cases e;rfl))⟩ (fun k hk=>by have:=h.b.size;omega) (xM h.b.size ha.size),cL G (h.k.bw ha) (fun e=>by cases e;omega),h.g⟩,T⟩
theorem Cpm.set {W0 X:qw}(h:Cpm W0 X gm cs)(j:Nat)(u:Value):Cpm W0 (X.setCell (qR gm j) u) gm (cs.setIfInBounds j u)/\Turn (fun k=>k=gm) X (X.setCell (qR gm j) u):=⟨⟨aG h.b (aC X gm j u) (fun k hk=>by have:=h.g;omega) h.b.size,h.k.set j u,h.g⟩,aC X gm j u⟩
theorem cH {X X':qw}{t:TypeId}{xs:List Value}(T:Turn (fun j=>j=gm\/X.heap.size<=j) X X')(kg:Blk X gm cs 138)(h:X.ownsRow b t sz v n xs)(hne:t≠138):X'.ownsRow b t sz v n xs:=by
 have hk:∀ k,v.ownBlock=some k->¬ (k=gm\/X.heap.size<=k):=fun k hk s=>by
  rcases s with rfl|s
  .obtain ⟨c,kb⟩:=aD h hk;exact hne (aH kb kg)
  .have:=(World.ownsRow.lt h k hk).2;omega
 obtain ⟨hl,h0|⟨g,cap,cur,hv,hg,hh,h1,h2,h3,h4⟩⟩:=h
 .exact ⟨hl,.inl h0⟩
 .exact ⟨hl,.inr ⟨g,cap,cur,hv,hg,aF (w:=X) T hh (hk g (by rw [hv];rfl)),h1,h2,h3,h4⟩⟩
theorem Cpm.row {α:Type}{f:α->List Value}{W0 X w':qw}{t:TypeId}{ys:List α}(h:Cpm W0 X gm cs)(j:Nat)(O:OG t sz f w' X.heap.size v' ys)(hne:t≠138)(G:(X.alloc (.cells #[] t)).grownBy w' (some X.heap.size)):
 Blk w' gm cs 138/\Cpm W0 (w'.setCell (qR gm j) v') gm (cs.setIfInBounds j v')/\OG t sz f (w'.setCell (qR gm j) v') X.heap.size v' ys/\Turn (fun j=>j=gm\/X.heap.size<=j) X (w'.setCell (qR gm j) v'):=by
 obtain ⟨c1,t1⟩:=h.grown bal aN G;obtain ⟨c2,t2⟩:=c1.set j v';refine ⟨c1.k,c2,O.kept t2 (fun k hk e=>?_),t1.trans (t2.mono (fun k hk=>.inl hk))⟩;subst e;obtain ⟨c,kb⟩:=aD O hk;exact hne (aH kb c1.k)
theorem fE (n:Int)(h0:0<=n)(h:n<=20)(w:qw):
 qC 244 #[qI n] w fun e w'=>e=.returned (qI ((2:Int)^n.toNat))/\w'=w:=by
 go_enter func244,ntmps244
 go_wp2;go_loop [3,4] (fun v i=>∃ k:Nat,(k:Int)<=n/\i=qI k/\v=qI ((2:Int)^k)) (fun _ i=>n.toNat-(intOf i).toNat)
 .exact ⟨0,by omega,rfl,rfl⟩
 .obtain ⟨k,hk,rfl,rfl⟩:=hrel;by_cases hlt:(k:Int)<n
  .have hp:=sN k;have hp0:=pow_pos k;have hs:Zh ((2:Int)^(k+1)=(2:Int)^k*2):=Int.pow_succ 2 k;generalize (2:Int)^k=P at *;go_wp2
   go_round
   .exact ⟨k+1,by omega,by go_num,by rw [hs.o]⟩
   .simp [intOf];omega
  .have e:Zh (n.toNat=k):=by show n.toNat=k;omega
   go_wp2;go_ret;exact ⟨aI (by rw [e.o]),rfl⟩
def rok (b l o:Int):Bool:=
 decide (5<=l/\l<=14/\0<=o/\o<=255/\(8<=l\/o=0)/\0<=b/\b<=262144-(2:Int)^l.toNat/\b%(2:Int)^l.toNat=0)
theorem mD (b l o:Int)(r x y:Bool)(w:qw)(hb:(Lit.int .i64 b).wf=true):
 qC 245 #[.agg #[qI b,qI l,qI o,.bool r,.bool x,.bool y]] w (qB w (.bool (rok b l o))):=by
 by_cases h1:l<5
 .have hf:Zh (rok b l o=false):=by show _=_;unfold rok;simp;omega
  go_enter func245,ntmps245
  go_wp2;go_ret;exact ⟨aA hf.o.symm,bal⟩
 .by_cases h2:14<l
  .have hf:Zh (rok b l o=false):=by show _=_;unfold rok;simp;omega
   go_enter func245,ntmps245
   go_wp2;go_ret;exact ⟨aA hf.o.symm,bal⟩
  .by_cases h3:o<0
   .have hf:Zh (rok b l o=false):=by show _=_;unfold rok;simp;omega
    go_enter func245,ntmps245
    go_wp2;go_ret;exact ⟨aA hf.o.symm,bal⟩
   .by_cases h4:255<o
    .have hf:Zh (rok b l o=false):=by show _=_;unfold rok;simp;omega
     go_enter func245,ntmps245
     go_wp2;go_ret;exact ⟨aA hf.o.symm,bal⟩
    .by_cases h5:l<8/\o≠0
     .obtain ⟨h5a,h5b⟩:=h5;have hf:Zh (rok b l o=false):=by show _=_;unfold rok;simp;omega
      have h5c:(o !=0)=true:=by simpa using h5b
      clear h5b;go_enter func245,ntmps245
      go_wp2;go_ret;exact ⟨aA hf.o.symm,bal⟩
     .have hp:=sN l.toNat;have hp0:=pow_pos l.toNat
      have hf:Zh (rok b l o=decide (0<=b/\b<=262144-(2:Int)^l.toNat/\b%(2:Int)^l.toNat=0)):=by
       show _=_;unfold rok;congr 1;apply propext;constructor
       .rintro ⟨_,_,_,_,_,h⟩;exact h
       .intro h;exact ⟨by omega,by omega,by omega,by omega,by omega,h⟩
      by_cases h8:l<8
      .have h0:o=0:=by omega
       subst h0;clear h5 h3 h4;go_enter func245,ntmps245
       go_wp2_with (go_at_call 244;refine (fE _ (by omega) (by omega) _).mono ?_;rintro e w' ⟨rfl,rfl⟩)
       all_goals
        go_ret;refine ⟨aA ?_,bal⟩;rw [hf.o,xJ];simp;try omega
      .clear h5;go_enter func245,ntmps245
       go_wp2_with (go_at_call 244;refine (fE _ (by omega) (by omega) _).mono ?_;rintro e w' ⟨rfl,rfl⟩)
       all_goals
        go_ret;refine ⟨aA ?_,bal⟩;rw [hf.o,xJ];simp;try omega
theorem mI (b l o:Int)(r x y:Bool)(w:qw)(hb:(Lit.int .i64 b).wf=true):
 qC 256 #[.agg #[qI b,qI l,qI o,.bool r,.bool x,.bool y]] w (qB w (.bool (rok b l o))):=by
 by_cases h1:l<5
 .have hf:Zh (rok b l o=false):=by show _=_;unfold rok;simp;omega
  go_enter func256,ntmps256
  go_wp2;go_ret;exact ⟨aA hf.o.symm,bal⟩
 .by_cases h2:14<l
  .have hf:Zh (rok b l o=false):=by show _=_;unfold rok;simp;omega
   go_enter func256,ntmps256
   go_wp2;go_ret;exact ⟨aA hf.o.symm,bal⟩
  .by_cases h3:o<0
   .have hf:Zh (rok b l o=false):=by show _=_;unfold rok;simp;omega
    go_enter func256,ntmps256
    go_wp2;go_ret;exact ⟨aA hf.o.symm,bal⟩
   .by_cases h4:255<o
    .have hf:Zh (rok b l o=false):=by show _=_;unfold rok;simp;omega
     go_enter func256,ntmps256
     go_wp2;go_ret;exact ⟨aA hf.o.symm,bal⟩
    .by_cases h5:l<8/\o≠0
     .obtain ⟨h5a,h5b⟩:=h5;have hf:Zh (rok b l o=false):=by show _=_;unfold rok;simp;omega
      have h5c:(o !=0)=true:=by simpa using h5b
      clear h5b;go_enter func256,ntmps256
      go_wp2;go_ret;exact ⟨aA hf.o.symm,bal⟩
     .have hp:=sN l.toNat;have hp0:=pow_pos l.toNat
      have hf:Zh (rok b l o=decide (0<=b/\b<=262144-(2:Int)^l.toNat/\b%(2:Int)^l.toNat=0)):=by
       show _=_;unfold rok;congr 1;apply propext;constructor
       .rintro ⟨_,_,_,_,_,h⟩;exact h
       .intro h;exact ⟨by omega,by omega,by omega,by omega,by omega,h⟩
      by_cases h8:l<8
      .have h0:o=0:=by omega
       subst h0;clear h5 h3 h4;go_enter func256,ntmps256
       go_wp2
       all_goals
        go_ret;refine ⟨aA ?_,bal⟩;rw [hf.o,xJ];simp [*];try omega
      .clear h5;by_cases ho:o=0
       .subst ho;clear h3 h4;go_enter func256,ntmps256
        go_wp2
        all_goals
         go_ret;refine ⟨aA ?_,bal⟩;rw [hf.o,xJ];simp [*];try omega
       .have ho':(o !=0)=true:=by simpa using ho
        clear ho;go_enter func256,ntmps256
        go_wp2
        all_goals
         go_ret;refine ⟨aA ?_,bal⟩;rw [hf.o,xJ];simp [*];try omega
def dC (g:Rg):List Value:=[qI g.1,qI g.2.1,qI g.2.2.1,.bool g.2.2.2.1,.bool g.2.2.2.2.1,.bool g.2.2.2.2.2]
def dR (rs:List Rg):List Value:=rs.flatMap dC
theorem pE:∀ rs:List Rg,(dR rs).length=rs.length*6
 | []=>rfl
 | g::rs=>by simp only [dR,xT,xI];have:=pE rs;simp only [dR] at this;rw [this];simp [dC];omega
theorem pF:∀ (rs:List Rg) (i j:Nat),i<rs.length->j<6->(dR rs)[i*6+j]?=(dC (rs.getD i z6))[j]?
 | [],i,j,h,_=>absurd h (by simp)
 | g::rs,0,j,_,hj=>by
   simp only [dR,xT];rw [List.getElem?_append_left (by simp [dC];omega)];simp
 | g::rs,i+1,j,h,hj=>by
   have hh:=pF rs i j (by simpa using h) hj;simp only [dR,xT] at hh ⊢;rw [List.getElem?_append_right (by simp [dC];omega)];have e:(i+1)*6+j-(dC g).length=i*6+j:=by simp [dC];omega
   rw [e,hh];simp
def ORg (w:qw)(base:Nat)(v:Value)(rs:List Rg):Prop:=w.ownsRow base 214 6 v rs.length (dR rs)/\∀ g∈rs,wfi g.1/\wfi g.2.1/\wfi g.2.2.1
theorem fC {w:qw}(h:ORg w base (qS a n cap) rs):RS w a n cap rs:=by
 obtain ⟨hl,⟨h0,h0'⟩|⟨g,cap',cur,hv,hg,hh,h1,h2,h3,h4⟩⟩:=h.1
 .simp at h0;obtain ⟨rfl,rfl,rfl⟩:=h0;exact ⟨h0',xC _,h.2,fun hn=>absurd rfl hn,aN⟩
 .simp at hv;obtain ⟨rfl,rfl,rfl⟩:=hv;refine ⟨rfl,by omega,h.2,fun hn=>⟨g,0,rfl,fun i hi=>?_⟩,h1⟩
  have hc:∀ j,j<6->w.cell? (qR g (0+i*6+j))=(dC (rs.getD i z6))[j]?:=by
   intro j hj;rw [Blk.cell (w:=w) hh]
   have:cur.toList[0+i*6+j]?=(dR rs)[i*6+j]?:=by
    rw [<- h4,List.getElem?_take,if_pos (by omega),Nat.zero_add]
   rw [Array.getElem?_toList] at this;rw [this,pF rs i j hi hj]
  exact ⟨hc 0 (by omega),hc 1 (by omega),hc 2 (by omega),hc 3 (by omega),hc 4 (by omega),hc 5 (by omega)⟩
theorem zW {w w':qw}(t:Turn S w w')(h:ORg w base v rs)(hk:∀ k,base<=k->¬ S k):ORg w' base v rs:=by
 refine ⟨?_,h.2⟩;obtain ⟨hl,h0|⟨g',cap,cur,hv,hg,hh,h1,h2,h3,h4⟩⟩:=h.1
 .exact ⟨hl,.inl h0⟩
 .exact ⟨hl,.inr ⟨g',cap,cur,hv,hg,aF t hh (hk g' hg),h1,h2,h3,h4⟩⟩
theorem sV (w:qw)(base:Nat)(hb:base<=w.heap.size):ORg (w.alloc (.cells #[] 214)) base (qS (qP w.heap.size) 0 0) []:=
 ⟨⟨rfl,.inr ⟨w.heap.size,0,#[],rfl,hb,heap_alloc_new w _,aN,xC _,rfl,rfl⟩⟩,fun _ h=>by cases h⟩
theorem nI {w:qw}{t:TypeId}{xs:List Value}(h:w.ownsRow base t sz v n xs):∃ a cap,v=qS a n cap:=by
 obtain ⟨_,⟨rfl,rfl⟩|⟨g,cap,cur,rfl,_⟩⟩:=h
 .exact ⟨_,_,rfl⟩
 .exact ⟨_,_,rfl⟩
theorem aKn (w:qw)(g:Rg):∀ j u,(dC g)[j]?=some u->(w.alloc (.cells #[qI g.1,qI g.2.1,qI g.2.2.1,.bool g.2.2.2.1,.bool g.2.2.2.2.1,.bool g.2.2.2.2.2] 214)).cell? (((qR w.heap.size 0):Addr).add j)=some u:=by
 intro j u hj;rw [bP,Nat.zero_add,Blk.cell (Blk.new w _ _),<- hj]
 match j with
 | 0=>rfl
 | 1=>rfl
 | 2=>rfl
 | 3=>rfl
 | 4=>rfl
 | 5=>rfl
 | j+6=>rfl
theorem aM6 (g:Rg):∀ u∈dC g,u.oneCell'=true:=by
 intro u hu;simp [dC] at hu;rcases hu with rfl|rfl|rfl|rfl|rfl|rfl<;>rfl
theorem aA2 {W W':qw}{v:Value}{g:Rg}(hr:∀ g∈rs,wfi g.1/\wfi g.2.1/\wfi g.2.2.1)(hw:wfi g.1/\wfi g.2.1/\wfi g.2.2.1)(h:W'.ownsRow base 214 6 v' (rs.length+1) (dR rs++dC g)):ORg W' base v' (rs++[g]):=by
 refine ⟨by simpa [dR] using h,fun y hy=>?_⟩;rcases List.mem_append.1 hy with hy|hy
 .exact hr y hy
 .simp at hy;subst hy;exact hw
theorem jM {W W':qw}{row:Option Nat}(h:W.grownBy W' row):Turn (fun j=>row=some j) W W':=⟨h.os,h.tape,h.output,h.size,fun k hk hn=>h.block k hk (fun e=>hn e.symm)⟩
theorem cR {w:qw}{o':Nat}{v:Value}(h:b≠g\/o'≠o:=by omega):(w.setCell (qR g o) v).cell? (qR b o')=w.cell? (qR b o'):=
 World.cell?_setCell_other _ _ _ _ (by intro e;injection e;rcases h with h|h<;>simp_all)
theorem pK {w:qw}{u:Value}(h:w.cell? (qR g o)=some u):(w.setCell (qR g o) v).cell? (qR g o)=some v:=World.cell?_setCell_same _ _ _ h
def RowW (w:qw)(g:Nat)(rs:List Rg):Prop:=
 (∃ cur,Blk w g cur 214)/\∀ i,i<rs.length->At6 w g (i*6) (rs.getD i z6)
theorem RowW.frozen {w:qw}(h:RowW w g rs)(i:Nat):w.frozen? (qR g i)=false:=by obtain ⟨⟨cur,hb⟩,_⟩:=h;exact hb.frozen i
theorem aM5 {w:qw}(h:ORg w base (qS (qP g) n cap) rs)(hn:n≠0):RowW w g rs:=by
 have hr:=fC h;have hl:=hr.1;obtain ⟨_,⟨h0,h0'⟩|⟨g',cap',cur,hv,hg,hh,h1,h2,h3,h4⟩⟩:=h.1
 .simp at h0
 .simp at hv;obtain ⟨rfl,_⟩:=hv;exact ⟨⟨cur,hh⟩,fun i hi=>by have:=hr.at i (by omega);rw [Nat.zero_add] at this;exact this⟩
theorem eZ {w w':qw}(t:Turn S w w')(h:ORg w base v rs)(hk:∀ k,v.ownBlock=some k->¬ S k):ORg w' base v rs:=by
 refine ⟨?_,h.2⟩;obtain ⟨hl,h0|⟨g',cap,cur,rfl,hg,hh,h1,h2,h3,h4⟩⟩:=h.1
 .exact ⟨hl,.inl h0⟩
 .exact ⟨hl,.inr ⟨g',cap,cur,rfl,hg,aF t hh (hk g' rfl),h1,h2,h3,h4⟩⟩
theorem aGs {w:qw}(h:ORg w base v rs)(k:Nat)(hk:v.ownBlock=some k):k<w.heap.size:=by
 obtain ⟨hl,⟨rfl,h0⟩|⟨g',cap,cur,rfl,hg,hh,h1,h2,h3,h4⟩⟩:=h.1
 .cases hk
 .have e:some g'=some k:=hk;injection e with e
  subst e;exact Blk.lt (w:=w) hh
def gB (L:Lay)(P:PB)(b s:Int):Int:=if b=-1 then P.1.text else if s=-1 then P.1.banks.getD b.toNat 0 else L.slots.getD s.toNat 0
theorem jF (L:Lay)(a0:qO)(c0:Nat)(xs:List PB)(a2:qO)(c2:Nat)(a5:qO)(c5:Nat)(ts:List TB)(m b at' s:Int)(w:qw)(h:LyT w L a0 c0 xs a2 c2 a5 c5 ts)
 (hm0:0<=m) (hm1:m<(xs.length:Int)) (hb:b=-1\/(0<=b/\b<((xs.getD m.toNat zPB).1.banks.length:Int))) (hs:s=-1\/(b≠-1/\0<=s/\s<(L.slots.length:Int))):
 qC 130 #[.agg (qJ L a0 xs c0 a2 c2 a5 ts c5),.agg (qT m b at'),qI s] w (qB w (qI (gB L (xs.getD m.toNat zPB) b s))):=by
 obtain ⟨W,hW⟩:=eqx ((w.alloc (.cells (qJ L a0 xs c0 a2 c2 a5 ts c5) 71)).alloc (.cells (qT m b at') 58));have hB:qY w W:=by rw [hW];exact bal.alloc (by simp) _
 have HB:=zh hB;have h1:=h.bw hB;have k0:Blk W w.heap.size (qJ L a0 xs c0 a2 c2 a5 ts c5) 71:=by rw [hW];exact (Blk.new w _ _).alloc _
 have k1:Blk W (w.heap.size+1) (qT m b at') 58:=by rw [hW];have:=Blk.new (w.alloc (.cells (qJ L a0 xs c0 a2 c2 a5 ts c5) 71)) (qT m b at') 58;simpa using this
 have hz:W.heap.size=w.heap.size+1+1:=by rw [hW];simp
 have HZ:=zh hz;clear hz;have d0:=k0.e0;have d2:=k0.e2;have t0:=k1.e0;have t1:=k1.e1;obtain ⟨g,off,rfl,q0,q1,q2,q3⟩:=h1.p.at m.toNat (by omega);have hbk:=h1.p.2.2.2.1 m.toNat (by omega);have hsl:=h1.s;have hmx:=h1.p.2.1;have hmy:=hsl.2.1;have hmz:=hbk.2.1;unfold maxLen at hmx hmy hmz;unfold svP at q1;generalize xs.getD m.toNat zPB=P at *;have HW:=zh hW;clear hW hB k0 k1 h1 h;rcases hb with rfl|⟨hb0,hb1⟩
 .obtain rfl:s=-1:=by rcases hs with h|h;exact h;exact absurd rfl h.1
  have HO:Zh (gB L P (-1) (-1)=P.1.text):=rfl;rw [HO.o];clear hs hbk hsl;generalize P.1.text=x at *;generalize xs.length=n at *;generalize L.slots.length=l at *;go_enter func130,ntmps130
  go_wp2_with (rw [<- HW.o])
  go_ret;exact ⟨rfl,(by first|exact HB.o|exact HB.o.drew)⟩
 .have hb2:¬ b=-1:=by omega
  have hb3:(b == -1)=false:=by simpa using hb2
  rcases hs with rfl|⟨_,hs0,hs1⟩
  .have HO:=zh (show gB L P b (-1)=P.1.banks.getD b.toNat 0 by unfold gB;rw [if_neg hb2,if_pos rfl]);rw [HO.o];obtain ⟨u,v,e,hc⟩:=hbk.2.2.2.1 (by omega);have qq:=hc b.toNat (by omega);rw [e] at q1;clear hbk hsl e hc HO;generalize P.1.banks.getD b.toNat 0=x at *;generalize P.1.banks.length=y at *;generalize xs.length=n at *;generalize L.slots.length=l at *;go_enter func130,ntmps130
   go_wp2_with (rw [<- HW.o])
   go_region_held3 (fun w'=>w'.cell? (qR w.heap.size 0)=some (qS (some (qR g off)) n c0)/\w'.cell? (qR (w.heap.size+1) 0)=some (qI m)/\w'.cell? (qR (w.heap.size+1) 1)=some (qI b)/\w'.cell? (qR g (off+m.toNat*4+1))=some (qS (some (qR u v)) y P.2.2)/\w'.cell? (qR u (v+b.toNat))=some (qI x)) (go_keep) (fail)
   go_wp2;go_ret;exact ⟨rfl,(by first|exact HB.o|exact HB.o.drew)⟩
  .have hs2:¬ s=-1:=by omega
   have hs3:(s == -1)=false:=by simpa using hs2
   have HO:=zh (show gB L P b s=L.slots.getD s.toNat 0 by unfold gB;rw [if_neg hb2,if_neg hs2]);rw [HO.o];obtain ⟨u,v,e,hc⟩:=hsl.2.2.2.1 (by omega);have qq:=hc s.toNat (by omega);rw [e] at d2;clear hbk hsl e hc HO;generalize L.slots.getD s.toNat 0=x at *;generalize P.1.banks.length=y at *;generalize xs.length=n at *;generalize L.slots.length=l at *;go_enter func130,ntmps130
   go_wp2_with (rw [<- HW.o])
   go_ret;exact ⟨rfl,(by first|exact HB.o|exact HB.o.drew)⟩
