import Derived.Test.YtcimaholejajpaaGreatF24
import Derived.Test.YtcimaholejajpaaGreatF27
set_option linter.all false
set_option maxHeartbeats 16000000
namespace Go.Proofs.YtcimaholejajpaaGreat
open Go.RowKit
set_option maxRecDepth 100000
variable {cp g n:Nat}{v':Value}{x:Yx}
def DlP (w:qw)(e:Ending)(w':qw):Prop:=∃ (g n cp:Nat) (gs cz:List Nat) (bl:List Bk) (x1 x2 x3 x4:Int),e=.returned (.tuple #[qS (qP g) n cp,.agg (qW x1 x2 x3 x4)])/\Img w' g n cp gs cz bl/\n<=10/\qY w w'
theorem lH {W:qw}{q:Nat}{va:qO}{vn vc:Nat}{z0 z1 z2 z3:Value}(k1:Blk W q #[z0,z1,z2,z3] 25)(v0 v1 v2 v3:Value)(Q:Ending->World->Prop)(tmps:Array Value)(h2:tmps[2]?=some (qS va vn vc))(h4:tmps[3]?=some (.pointer (qP q)))(hQ:Q (.returned (.tuple #[qS va vn vc,.agg #[v0,v1,v2,v3]])) (st4 W q v0 v1 v2 v3)):
 bodyPost Tryz.prog Tryz.f4 Q Exit.ret ⟨tmps,[]⟩ (st4 W q v0 v1 v2 v3):=by
 obtain ⟨⟨t0,t1,t2,t3⟩,_⟩:=(mV k1 v0 v1 v2 v3).cfr;refine bodyPost_ret_by (v:=.tuple #[qS va vn vc,.agg #[v0,v1,v2,v3]]) ?_ rfl hQ;simp [results,Tryz.results4,go_sem,h2,h4,t0,t1,t2,t3]
def lnV:Value->Nat
 | .slice _ n _=>n
 | _=>0
structure Dls (w W:qw)(q base:Nat)(x1 x2 x3 x4:Int)(v:Value)(Q:List Yx):Prop where
 b:qY w W
 k0:Blk W w.heap.size (qW 0 0 0 0) 25
 k1:Blk W q (qW x1 x2 x3 x4) 25
 n:w.heap.size<q/\q<base
 i:Imo W base v Q
section
variable {w W W':qw}{q base:Nat}{x1 x2 x3 x4:Int}{v:Value}{Q:List Yx}
theorem Dls.bw (h:Dls w W q base x1 x2 x3 x4 v Q)(hb:qY W W'):Dls w W' q base x1 x2 x3 x4 v Q:=⟨h.b.trans (hb.mono h.b.size),h.k0.bw hb,h.k1.bw hb,h.n,h.i.bw hb⟩
theorem Dls.turn {r:Nat}(h:Dls w W q base x1 x2 x3 x4 v Q)(t:Turn (fun j=>j=r) W W')(h1:w.heap.size<r)(h2:r<q):Dls w W' q base x1 x2 x3 x4 v Q:=⟨aI h.b t (fun j hj=>by omega) h.b.size,aA t h.k0 (fun e=>by omega),aA t h.k1 (fun e=>by omega),h.n,h.i.turn t (fun j hj=>by have:=h.n;omega)⟩
theorem Dls.cfg (h:Dls w W q base x1 x2 x3 x4 v Q)(y1 y2 y3 y4:Int):Dls w (st4 W q (qI y1) (qI y2) (qI y3) (qI y4)) q base y1 y2 y3 y4 v Q:=by
 have T:=gL W q (qI y1) (qI y2) (qI y3) (qI y4);have hn:=h.n;exact ⟨aI h.b T (fun j hj=>by omega) h.b.size,aA T h.k0 (fun e=>by omega),mV h.k1 _ _ _ _,hn,h.i.turn T (fun j hj=>by omega)⟩
theorem Dls.fin (h:Dls w W q base x1 x2 x3 x4 (qS (qP g) n cp) Q)(hn:n<=10):DlP w (.returned (.tuple #[qS (qP g) n cp,.agg (qW x1 x2 x3 x4)])) (st4 W w.heap.size (qI x1) (qI x2) (qI x3) (qI x4)):=by
 have T:=gL W w.heap.size (qI x1) (qI x2) (qI x3) (qI x4);have I:=(h.i.turn T (fun j hj=>by have:=h.n;omega)).img;exact ⟨g,n,cp,_,_,_,x1,x2,x3,x4,rfl,I,hn,aI h.b T (fun j hj=>by omega) h.b.size⟩
theorem Imo.at0 (h:Imo W base (qS (qP g) n cp) Q)(hn:n≠0):∃ y,y∈Q/\W.cell? (qR g 0)=some (qS (qP y.1) y.2.2.length y.2.1):=by
 obtain ⟨hl,_,_,hc⟩:=bG h.o;obtain ⟨g',e,c⟩:=hc hn;obtain rfl:g=g':=by simpa using e
 have hq:Q[0]?=some (Q[0]'(by omega)):=List.getElem?_eq_getElem (by omega);refine ⟨Q[0]'(by omega),List.getElem_mem _,c 0 _ ?_⟩;rw [mL,List.getElem?_map,hq];rfl
theorem Dls.push {Q':List Yx}(h:Dls w W q base x1 x2 x3 x4 v Q)(hg:W.grownBy W' v.ownBlock)(i:Imo W' base v' Q'):Dls w W' q base x1 x2 x3 x4 v' Q':=by
 have T:=vC hg;have hn:=h.n;exact ⟨aI h.b T (fun j hj=>by have:=(h.i.o.lt j hj).1;omega) h.b.size,aA T h.k0 (fun e=>by have:=(h.i.o.lt _ e).1;omega),aA T h.k1 (fun e=>by have:=(h.i.o.lt _ e).1;omega),hn,i⟩
theorem Imo.set0 (h:Imo W base (qS (qP g) n cp) Q)(hx:OB W base (qS (qP x.1) x.2.2.length x.2.1) x.2.2)(hl:x.2.2.length<=5001):Imo (W.setCell (qR g 0) (qS (qP x.1) x.2.2.length x.2.1)) base (qS (qP g) n cp) (Q.set 0 x):=by
 have key:∀ {y:Yx},OB W base (qS (qP y.1) y.2.2.length y.2.1) y.2.2->OB (W.setCell (qR g 0) (qS (qP x.1) x.2.2.length x.2.1)) base (qS (qP y.1) y.2.2.length y.2.1) y.2.2:=fun {y} o=>cC (aC W g 0 _) o (fun k hk s=>by
  subst s;obtain ⟨_,k1⟩:=aM o.1 hk;obtain ⟨_,k2⟩:=aM h.o (k:=k) rfl
  exact absurd (aW k1 k2) (by decide))
 refine ⟨?_,fun y hy=>?_⟩
 .have h1:=h.o;unfold OG at h1 ⊢;rw [mL] at h1 ⊢;rw [(bG h.o).1] at h1;rw [List.length_set,List.map_set,(bG h.o).1];exact qU h1 0 _
 .rcases List.mem_or_eq_of_mem_set hy with hy|rfl
  .exact ⟨key (h.m y hy).1,(h.m y hy).2⟩
  .exact ⟨key hx,hl⟩
theorem Dls.set0 (h:Dls w W q base x1 x2 x3 x4 (qS (qP g) n cp) Q)(hx:OB W base (qS (qP x.1) x.2.2.length x.2.1) x.2.2)(hl:x.2.2.length<=5001):Dls w (W.setCell (qR g 0) (qS (qP x.1) x.2.2.length x.2.1)) q base x1 x2 x3 x4 (qS (qP g) n cp) (Q.set 0 x):=by
 have T:=aC W g 0 (qS (qP x.1) x.2.2.length x.2.1);have hn:=h.n;have hg:=(h.i.o.lt g rfl).1;exact ⟨aI h.b T (fun j hj=>by omega) h.b.size,aA T h.k0 (fun e=>by omega),aA T h.k1 (fun e=>by omega),hn,h.i.set0 hx hl⟩
theorem aJa {P:PMod}(h:DnR P):DoR (pOf (cR P)):=by
 unfold cR;by_cases hv:bI P=0
 .rw [if_pos hv];unfold pOf;rw [aI7 hv h.d.2];exact h.dor
 .rw [if_neg hv];have e:pOf []=P0:=by rfl
  rw [e];exact ⟨by decide,by simp [P0],by simp [P0],⟨by decide,fun z hz=>by simp [P0] at hz⟩,by decide,by simp [P0],by simp [P0],by simp [P0]⟩
theorem Dls.app {y:Yx}(h:Dls w W q base x1 x2 x3 x4 (qS (qP g) n cp) Q)(hy:y∈Q)(hg:W.grownBy W' (qS (qP g) n cp).ownBlock)(o:W'.ownsRow base 22 1 v' (n+1) (Q.flatMap clY++clY y)):∃ g' cp',v'=qS (qP g') (n+1) cp'/\Dls w W' q base x1 x2 x3 x4 v' (Q++[y]):=by
 obtain ⟨hl,_⟩:=bG h.i.o
 have O:OG 22 1 clY W' base v' (Q++[y]):=by
  unfold OG;rw [List.length_append,hl,List.flatMap_append,List.flatMap_singleton];exact o
 obtain ⟨a,c,e⟩:=aO O;rw [List.length_append,hl] at e;subst e;obtain ⟨g',rfl⟩:=aDi O (Nat.succ_ne_zero n);exact ⟨g',c,rfl,h.push hg (h.i.push hg O (h.i.m y hy).1 (h.i.m y hy).2)⟩
end
def EdP (X:qw)(e:Ending)(w':qw):Prop:=∃ (B:qi) (g c:Nat),e=.returned (qS (qP g) B.length c)/\OB w' X.heap.size (qS (qP g) B.length c) B/\qY X w'/\B.length<=5001
theorem aC8 {X:qw}{m:Md}(h:m.md X)(hd:m.da=none/\m.dn=0/\m.dc=0):qC 17 #[.agg m.cells] X (EdP X):=by
 by_cases hv:bI m.pm=0
 .have H:=fZ m.nm m.ta m.tn m.tc m.tz m.ba m.bn m.bc m.bl m.da m.dn m.dc m.dz m.bss m.ra m.rn m.rc m.rz m.ia m.im m.ic m.ss m.ea m.en m.ec m.es X h (by rw [wY h];exact hv) (.inl hd)
  have e:aFm m.nm m.tz m.bn m.bl m.dn m.dz m.bss m.rn m.rz m.im m.ss m.en m.es=nP m.pm:=by
   rw [<- aD7 (P:=m.pm) (bl:=m.bl) rfl,<- h.b.1,<- h.d.1,<- h.r.1,<- h.i.1,<- h.e.1];rfl
  rw [e] at H;refine H.mono ?_;rintro e w' ⟨a,n,c,rfl,ob,b,_⟩;have hl:=ob.bs.1;have h3:=sZ (aFs hv);have h2:(nP m.pm).length=2+(yW m.pm).length:=by rw [mQ];simp;omega
  obtain ⟨g,cap,hg,_⟩:=World.ownsRow.form ob.1 (by omega);exact ⟨nP m.pm,g,cap,congrArg Ending.returned hg,by have q:=ob;rw [hg] at q;exact q,b,by omega⟩
 .refine (fG m.nm m.ta m.tn m.tc m.tz m.ba m.bn m.bc m.bl m.da m.dn m.dc m.dz m.bss m.ra m.rn m.rc m.rz m.ia m.im m.ic m.ss m.ea m.en m.ec m.es X h (by rw [wY h];exact hv)).mono ?_;rintro e w' ⟨g,rfl,ob,b⟩;exact ⟨[],g,0,rfl,ob,b,by simp⟩
theorem aOs {W:qw}{base g1 c1 g2 c2:Nat}{B1 B2:qi}(h1:OB W base (qS (qP g1) B1.length c1) B1)(h2:OB W base (qS (qP g2) B2.length c2) B2)(hb:base<=W.heap.size)(l1:B1.length<=5001)(l2:B2.length<=5001):Imo (W.alloc (.cells #[qS (qP g1) B1.length c1,qS (qP g2) B2.length c2] 22)) base (qS (qP W.heap.size) 2 2) [(g1,c1,B1),(g2,c2,B2)]:=by
 refine ⟨⟨rfl,.inr ⟨W.heap.size,2,_,rfl,hb,heap_alloc_new W _,aL,by unfold maxLen;omega,rfl,rfl⟩⟩,fun x hx=>?_⟩;simp only [List.mem_cons,List.not_mem_nil,or_false] at hx;rcases hx with rfl|rfl
 .exact ⟨h1.bw bal,l1⟩
 .exact ⟨h2.bw bal,l2⟩
theorem aOm {W:qw}{ms:List Md}(h:MSD W (qP g) 2 2 ms):At8 W g 0 (ms.getD 0 zMd)/\At8 W g 8 (ms.getD 1 zMd):=by
 obtain ⟨b,o,e,c0⟩:=h.s.at 0 (by omega);obtain ⟨b',o',e',c1⟩:=h.s.at 1 (by omega);simp at e e';obtain ⟨rfl,rfl⟩:=e;obtain ⟨rfl,rfl⟩:=e';exact ⟨c0,c1⟩
theorem zM (a:qO)(n c:Nat)(zs:qi)(w:qw)(h:BS w a n c zs):qC 4 #[qS a n c] w (DlP w):=by
 have hz':=aEm h.2.2.1 1000;obtain ⟨K,E1,z0,z1⟩:=aR hz' 0;have hlt:=aM2 h;obtain ⟨W0,hW0,bW0,kR⟩:=nwb w (qW 0 0 0 0) 25;have HO:=zh (aCi a n c (min n 1000) zs W0 (h.bw bW0) rfl);have hs0:W0.heap.size=w.heap.size+1:=by rw [hW0];simp
 have HLT:=zh (xA hlt (xA bW0 (xA kR hs0)));have HW0:=zh hW0;clear hlt h hW0 bW0 kR hs0;go_enter Tryz.func4,Tryz.ntmps4
 go_wp2_with (rw [<- HW0.o])
 refine HO.o.mono ?_;rintro e w1 ⟨rfl,rd,b1⟩;have hs1:=rd.blk.lt;have D1:=Dst.new rd (fun hn b off e=>by have:=HLT.o.1 (by omega) b off e;have:=HLT.o.2.1.size;have:=b1.size;omega);have HB1:=zh b1;clear rd b1 HO;go_wp2_with fail
 refine (D1.next K E1).mono ?_;rintro e w2 ⟨rfl,D2,t2⟩;have CC:=zh (aAv _ hz' _ w2 _ _ _ _ D2.fresh);have B2:=aI HB1.o t2 (fun k hk=>by omega) HB1.o.size;have HB2:=zh B2;have HSZ:=zh (show W0.heap.size<w2.heap.size by have:=t2.size;omega);clear D1 D2 t2 B2 HB1 hs1;go_wp2_with fail
 refine CC.o.mono ?_;rintro e w3 ⟨x1,x2,x3,x4,k3,hx,rfl,D3⟩;obtain ⟨V3,hV3,bV3,kC⟩:=nwb w3 (qW x1 x2 x3 x4) 25;have CI:=zh (yJ _ hz' k3 V3 _ _ _ _ (D3.bw bV3).fresh);have B3:=aI HB2.o D3.t (fun k hk=>by omega) HB2.o.size;have hs3:=D3.sz;have HB3:=zh (xA (B3.trans (bV3.mono B3.size)) (xA kC (show W0.heap.size<w3.heap.size by have:=HSZ.o;omega)));have HX:=zh hx;have HV3:=zh hV3;clear D3 hV3 bV3 kC B3 HB2 CC hx hs3 HSZ;go_wp2_with (rw [<- HV3.o])
 refine CI.o.mono ?_;rintro e w4 ⟨g,cp,Q,k4,Ps,rfl,I,D4,hQ,p1,p2,pD⟩;have hql:Q.length=Ps.length:=by have:=congrArg List.length hQ;simpa using this
 have S4:Dls w w4 w3.heap.size V3.heap.size x1 x2 x3 x4 (qS (qP g) Q.length cp) Q:=by
  obtain ⟨_,l2,l3,l4⟩:=HLT.o;obtain ⟨n1,n2,n3⟩:=HB3.o;have b:=l2.trans (n1.mono l2.size);exact ⟨aI b D4.t (fun j hj=>by omega) b.size,aA D4.t (l3.bw n1) (fun e=>by omega),aA D4.t n2 (fun e=>by omega),⟨by omega,n2.lt⟩,I⟩
 have HW:=zh (xA HB3.o.2.2 HLT.o.2.2.2);have HQ:=zh (xA hQ pD);rw [hql] at S4 ⊢;generalize Ps.length=pn at *;clear I hQ HV3 CI HB3 HLT HW0 pD;by_cases c7:K%8=7
 .have b7:(K%8==7)=true:=by simp [c7]
  have b6:(K%8==6)=false:=by simp [c7]
  have b5:(K%32==5)=false:=by simp;omega
  have b2:(K%32==2)=false:=by simp;omega
  have b4:(K%64==4)=false:=by simp;omega
  have b3:(K%64==3)=false:=by simp;omega
  have CP:=zh (nF _ hz' k4 w4 _ _ _ _ D4.fresh x1 x2 x3 x4 HX.o);have HS4:=zh S4;obtain ⟨u0,u1,u2,u3⟩:=S4.k1.z4;clear S4 c7 D4;go_wp2_with fail
  refine CP.o.mono ?_;rintro e w5 ⟨y1,y2,y3,y4,k5,hy,rfl,D5⟩;have S5:=HS4.o.turn D5.t (by have:=HW.o.2;omega) HW.o.1;clear u0 u1 u2 u3;obtain ⟨u0,u1,u2,u3⟩:=S5.k1.z4;have uf:=S5.k1.frozen;obtain ⟨V6,hV6⟩:=eqx ((((w5.setCell (qR w3.heap.size 0) (qI y1)).setCell (qR w3.heap.size 1) (qI y2)).setCell (qR w3.heap.size 2) (qI y3)).setCell (qR w3.heap.size 3) (qI y4));have S6:Dls w V6 w3.heap.size V3.heap.size y1 y2 y3 y4 (qS (qP g) pn cp) Q:=by rw [hV6];exact S5.cfg y1 y2 y3 y4
  have HSF:=zh S6;have HV6:=zh hV6;have HPN:Zh (pn<=10):=by show pn<=10;omega
  obtain ⟨v0,v1,v2,v3⟩:=S6.k1.z4;obtain ⟨r0,r1,r2,r3⟩:=S6.k0.z4;have rf:=S6.k0.frozen;have n1:¬ w.heap.size=w3.heap.size:=by have:=S6.n;omega
  have n2:¬ w3.heap.size=w.heap.size:=by have:=S6.n;omega
  clear S5 S6 hV6 D5 hy HS4 CP;go_wp2_with (rw [<- HV6.o])
  clear u0 u1 u2 u3 uf
  go_region_held3 (fun w'=>w'.cell? (qR w3.heap.size 0)=some (qI y1)/\w'.cell? (qR w3.heap.size 1)=some (qI y2)/\w'.cell? (qR w3.heap.size 2)=some (qI y3)/\w'.cell? (qR w3.heap.size 3)=some (qI y4)) (go_keep) (fail)
  go_wp2
  first
   | exact lH (HSF.o.bw brf.drew).k0 _ _ _ _ _ _ rfl rfl ((HSF.o.bw brf.drew).fin HPN.o)
   | go_show
 have b7:(K%8==7)=false:=by simpa using c7
 have HPN:Zh (1<=pn/\pn<=3):=⟨p1,p2⟩;have n1:¬ w.heap.size=w3.heap.size:=by have:=S4.n;omega
 have n2:¬ w3.heap.size=w.heap.size:=by have:=S4.n;omega
 by_cases c6:K%8=6
 .have b6:(K%8==6)=true:=by simp [c6]
  have b5:(K%32==5)=false:=by simp;omega
  have b2:(K%32==2)=false:=by simp;omega
  have b4:(K%64==4)=false:=by simp;omega
  have b3:(K%64==3)=false:=by simp;omega
  obtain ⟨y,hy,q0⟩:=S4.i.at0 (by omega);have hpn:(0:Int)<(pn:Int):=by omega
  have hDP:DoR (pOf y.2.2):=by
   have hm:y.2.2∈Q.map (fun x=>x.2.2):=List.mem_map_of_mem hy;rw [HQ.o.1] at hm;obtain ⟨P,hP,e⟩:=List.mem_map.1 hm;rw [<- e];exact aJa (HQ.o.2 P hP)
  obtain ⟨⟨B,k5⟩,⟨hB,hBl⟩,HI⟩:=aCg _ hz' k4 (pOf y.2.2) hDP;dsimp only at hB hBl HI;have mm:=S4.i.m y hy;have CP:=zh ((gN y.1 y.2.2.length y.2.1 y.2.2 w4 mm.1.bs (by have:=mm.2;omega) (mm.1.lt _ rfl).2).mono (fun e w' he=>aL9 he));have HD4:=zh D4.fresh;have HS4:=zh S4;have HI:=zh (xA HI hBl);have hs4:V3.heap.size<=w4.heap.size:=D4.sz;clear S4 D4 c6 c7 p1 p2 hy mm hB hBl hDP;generalize y.2.2=ys at *;go_wp2_with fail
  refine CP.o.mono ?_;rintro e w5 ⟨hb5,a1,c1,a2,c2,bl,a3,c3,a5,c5,a6,c6,a7,c7,rfl,mo⟩;have al:qY w5 (w5.alloc (.cells (qM (pOf ys).nm a1 (pOf ys).tz.length c1 a2 bl.length c2 a3 (pOf ys).dz.length c3 (pOf ys).bss a5 (pOf ys).rz.length c5 a6 (pOf ys).ss.length c6 a7 (pOf ys).es.length c7) 53)):=bal;have CI:=zh (HI.o.1 w4 _ _ _ _ _ ({ a1:=a1,c1:=c1,a2:=a2,c2:=c2,bl:=bl,a3:=a3,c3:=c3,a5:=a5,c5:=c5,a6:=a6,c6:=c6,a7:=a7,c7:=c7 }:Ma) ((HD4.o.bw hb5).bw al) (MO.bw (M:={ a1:=a1,c1:=c1,a2:=a2,c2:=c2,bl:=bl,a3:=a3,c3:=c3,a5:=a5,c5:=c5,a6:=a6,c6:=c6,a7:=a7,c7:=c7 }) mo al));clear al mo CP;unfold fL;go_wp2_with fail
  refine CI.o.mono ?_;rintro e w6 ⟨g6,m6,cap6,rfl,D6,o6⟩;obtain rfl:B.length=m6:=o6.bs.1;have S6:=HS4.o.turn D6.t (by have:=HW.o.2;omega) HW.o.1;obtain ⟨_,_,q6⟩:=S6.i.at0 (by have:=HPN.o;omega);obtain ⟨_,kc⟩:=aM S6.i.o (k:=g) rfl;have fq:=kc.frozen 0;obtain ⟨V7,hV7⟩:=eqx (w6.setCell (qR g 0) (qS (qP g6) B.length cap6));have S7:Dls w V7 w3.heap.size V3.heap.size x1 x2 x3 x4 (qS (qP g) pn cp) (Q.set 0 (g6,cap6,B)):=by rw [hV7];exact S6.set0 (x:=(g6,cap6,B)) (o6.mono hs4) HI.o.2
  have HSF:=zh S7;have HV7:=zh hV7;obtain ⟨v0,v1,v2,v3⟩:=S7.k1.z4;obtain ⟨r0,r1,r2,r3⟩:=S7.k0.z4;have rf:=S7.k0.frozen;clear S6 S7 hV7 D6 o6 kc CI HI HD4 HS4 q0 hb5;go_wp2_with (rw [<- HV7.o])
  go_region_held3 (fun w'=>w'.cell? (qR w3.heap.size 0)=some (qI x1)/\w'.cell? (qR w3.heap.size 1)=some (qI x2)/\w'.cell? (qR w3.heap.size 2)=some (qI x3)/\w'.cell? (qR w3.heap.size 3)=some (qI x4)) (go_keep) (fail)
  go_wp2
  first
   | exact lH (HSF.o.bw brf.drew).k0 _ _ _ _ _ _ rfl rfl ((HSF.o.bw brf.drew).fin (by have:=HPN.o;omega))
   | go_show
 have b6:(K%8==6)=false:=by simpa using c6
 by_cases c2:K%32=2
 .have b2:(K%32==2)=true:=by simp [c2]
  have b5:(K%32==5)=false:=by simp;omega
  have CW:=zh (aCc (K/32) (by omega) w4);have HS4:=zh (xA S4.b (xA S4.k0 (show w.heap.size<w4.heap.size from by have:=S4.n;have:V3.heap.size<=w4.heap.size:=D4.sz;omega)));clear S4 D4 c2 c6 c7 p1 p2 hql HQ;go_wp2_with fail
  refine CW.o.mono ?_;rintro e w5 ⟨gm,ms,rfl,hms,hb5,hdm⟩;obtain ⟨V6,hV6,bV6,kR⟩:=nwb w5 (qW 0 1 512 3) 25;have N6:MSD V6 (qP gm) 2 2 ms:=hms V6 (aJ bV6);have hd0:=hdm 0 (by omega);have hd1:=hdm 1 (by omega);have HE0:=zh (fun (X:qw) (hX:qY V6 X)=>aC8 ((N6.bw hX).d 0 (by omega)) hd0);have HE1:=zh (fun (X:qw) (hX:qY V6 X)=>aC8 ((N6.bw hX).d 1 (by omega)) hd1);have HCC:=zh (fun (X:qw) (hX:qY V6 X)=>xA ((kR.bw hX).z4) (aOm (N6.bw hX)));have b46:qY w4 V6:=hb5.trans (bV6.mono hb5.size);have HB6:=zh (xA (HS4.o.1.trans (b46.mono HS4.o.1.size)) (xA (HS4.o.2.1.bw b46) (xA kR (show w.heap.size<w5.heap.size by have:=HS4.o.2.2;have:=hb5.size;omega))));have HV6:=zh hV6;clear hms hb5 hdm N6 hd0 hd1 kR b46 bV6 hV6 CW HS4;unfold Md.cells at HE0 HE1;generalize ms.getD 0 zMd=x at *;generalize ms.getD 1 zMd=y at *;simp only [At8,Nat.zero_add,Nat.reduceAdd] at HCC;obtain ⟨⟨v0,v1,v2,v3⟩,⟨a0,a1,a2,a3,a4,a5,a6,a7⟩,d0,d1,d2,d3,d4,d5,d6,d7⟩:=HCC.o V6 brf
  have n5:¬ gm=w.heap.size:=fun e=>by
   have h1:=HB6.o.2.1.z4.1;rw [e,h1] at a0;cases a0
  have n6:¬ w.heap.size=gm:=fun e=>n5 e.symm;have n3:¬ w.heap.size=w5.heap.size:=by have:=HB6.o.2.2.2;omega
  have n4:¬ w5.heap.size=w.heap.size:=by have:=HB6.o.2.2.2;omega
  go_wp2_with (rw [<- HV6.o])
  go_region_held3 (fun w'=>(w'.cell? (qR w5.heap.size 0)=some (qI 0)/\w'.cell? (qR w5.heap.size 1)=some (qI 1)/\w'.cell? (qR w5.heap.size 2)=some (qI 512)/\w'.cell? (qR w5.heap.size 3)=some (qI 3))/\(w'.cell? (qR gm 0)=some (.string x.nm)/\w'.cell? (qR gm 1)=some (qS x.ta x.tn x.tc)/\w'.cell? (qR gm 2)=some (qS x.ba x.bn x.bc)/\w'.cell? (qR gm 3)=some (qS x.da x.dn x.dc)/\w'.cell? (qR gm 4)=some (qI x.bss)/\w'.cell? (qR gm 5)=some (qS x.ra x.rn x.rc)/\w'.cell? (qR gm 6)=some (qS x.ia x.im x.ic)/\w'.cell? (qR gm 7)=some (qS x.ea x.en x.ec))/\w'.cell? (qR gm 8)=some (.string y.nm)/\w'.cell? (qR gm 9)=some (qS y.ta y.tn y.tc)/\w'.cell? (qR gm 10)=some (qS y.ba y.bn y.bc)/\w'.cell? (qR gm 11)=some (qS y.da y.dn y.dc)/\w'.cell? (qR gm 12)=some (qI y.bss)/\w'.cell? (qR gm 13)=some (qS y.ra y.rn y.rc)/\w'.cell? (qR gm 14)=some (qS y.ia y.im y.ic)/\w'.cell? (qR gm 15)=some (qS y.ea y.en y.ec)) (go_keep)
   (first
     | (go_at_call 17;first
         | with_reducible refine (HE0.o _ brf).mono ?_
         | with_reducible refine (HE0.o _ brf.drew).mono ?_
        rintro e X1 ⟨B1,g1,cc1,rfl,o1,hb1,l1⟩;(first|replace hb1:=fE hb1|skip);obtain ⟨⟨v0,v1,v2,v3⟩,⟨a0,a1,a2,a3,a4,a5,a6,a7⟩,d0,d1,d2,d3,d4,d5,d6,d7⟩:=HCC.o X1 hb1;have HX1:=zh hb1;have HO1:=zh (xA o1 l1);clear o1 hb1 l1)
     | (go_at_call 17;with_reducible refine (HE1.o _ HX1.o).mono ?_
        rintro e X2 ⟨B2,g2,cc2,rfl,o2,hb2,l2⟩;have HX2:=zh (xA (HX1.o.trans (hb2.mono HX1.o.size)) (xA (HO1.o.1.bw hb2) (xA (o2.mono HX1.o.size) (xA HO1.o.2 l2))));obtain ⟨⟨v0,v1,v2,v3⟩,⟨a0,a1,a2,a3,a4,a5,a6,a7⟩,d0,d1,d2,d3,d4,d5,d6,d7⟩:=HCC.o X2 HX2.o.1;have KX:=HB6.o.2.1.bw HX2.o.1;have r0:=fun o=>(KX.alloc o).z4.1;have r1:=fun o=>(KX.alloc o).z4.2.1;have r2:=fun o=>(KX.alloc o).z4.2.2.1;have r3:=fun o=>(KX.alloc o).z4.2.2.2;have rf:=fun o i=>(KX.alloc o).frozen i;clear o2 hb2 l2 KX))
  have S7:=zh (show Dls w (X2.alloc (.cells #[qS (qP g1) B1.length cc1,qS (qP g2) B2.length cc2] 22)) w5.heap.size V6.heap.size 0 1 512 3 (qS (qP X2.heap.size) 2 2) [(g1,cc1,B1),(g2,cc2,B2)] from by
   obtain ⟨b6,k0,kR,hlt⟩:=HB6.o;obtain ⟨h1,o1,o2,l1,l2⟩:=HX2.o;have A:qY V6 (X2.alloc (.cells #[qS (qP g1) B1.length cc1,qS (qP g2) B2.length cc2] 22)):=h1.trans (bal.mono h1.size)
   exact ⟨b6.trans (A.mono b6.size),k0.bw A,kR.bw A,⟨hlt,kR.lt⟩,aOs o1 o2 h1.size l1 l2⟩)
  clear r0 r1 r2 r3 rf;go_wp2;exact lH S7.o.k0 _ _ _ _ _ _ rfl rfl (S7.o.fin (by omega))
 have b2:(K%32==2)=false:=by simpa using c2
 by_cases c4:K%64=4
 .have b5:(K%32==5)=false:=by simp;omega
  have b4:(K%64==4)=true:=by simp [c4]
  have hcp:0<cp:=by
   obtain ⟨l1,_,l3,_⟩:=bG S4.i.o;have:=HPN.o;omega
  have hcp':¬ cp=0:=by omega
  obtain ⟨v0,v1,v2,v3⟩:=S4.k1.z4;obtain ⟨r0,r1,r2,r3⟩:=S4.k0.z4;have rf:=S4.k0.frozen;have HSF:=zh S4;clear S4 D4 c4 c2 c6 c7 p1 p2;go_wp2_with fail
  go_region_held3 (fun w'=>w'.cell? (qR w3.heap.size 0)=some (qI x1)/\w'.cell? (qR w3.heap.size 1)=some (qI x2)/\w'.cell? (qR w3.heap.size 2)=some (qI x3)/\w'.cell? (qR w3.heap.size 3)=some (qI x4)) (go_keep) (fail)
  go_wp2;have T:=gL w4.drew w.heap.size (qI x1) (qI x2) (qI x3) (qI x4);have b:=(HSF.o.bw brf.drew).b;exact lH (HSF.o.bw brf.drew).k0 _ _ _ _ _ _ rfl rfl ⟨g,0,cp,[],[],[],x1,x2,x3,x4,rfl,⟨fun i hi=>absurd hi (Nat.not_lt_zero _),rfl,fun i hi=>absurd hi (Nat.not_lt_zero _),fun i hi=>absurd hi (Nat.not_lt_zero _)⟩,by omega,aI b T (fun j hj=>by omega) b.size⟩
 have b4:(K%64==4)=false:=by simpa using c4
 by_cases c3:K%64=3
 .have b5:(K%32==5)=false:=by simp;omega
  have b3:(K%64==3)=true:=by simp [c3]
  obtain ⟨iY,hi,hz0,hz1,hz2⟩:=info_parts aCl;have HSF:=zh (xA S4 (show V3.heap.size<=w4.heap.size from D4.sz));clear S4 D4 c2 c3 c4 c6 c7 p1 p2 hql HQ;go_wp2_with fail
  go_loopw [7] (fun v wr=>∃ (m g' c':Nat) (Q':List Yx),v=qS (qP g') m c'/\(1<=m/\m<=5)/\Dls w wr w3.heap.size V3.heap.size x1 x2 x3 x4 (qS (qP g') m c') Q'/\V3.heap.size<=wr.heap.size) (fun v _=>6-lnV v)
  .exact ⟨_,_,_,_,rfl,by have:=HPN.o;omega,HSF.o⟩
  .obtain ⟨m,g',c',Q',rfl,hm,S,hsz⟩:=hrel;clear HSF HPN;by_cases hlt:m<=4
   .have hlt':(m:Int)<=4:=by omega
    obtain ⟨y,hy,q0⟩:=S.i.at0 (by omega);have hpn:(0:Int)<(m:Int):=by omega
    have HY:=zh hy;have hql:Q'.length=m:=(bG S.i.o).1;have HNW:=zh (aN wr #[qS (qP y.1) y.2.2.length y.2.1] 22 (clY y) rfl);have HAL:=zh (S.bw (bal (w:=wr) (o:=.cells #[qS (qP y.1) y.2.2.length y.2.1] 22)));clear S hy;go_wp2_with (at_builtin;refine wpList_append_own _ rfl _ _ 23 rfl V3.heap.size 22 iY (qS none 0 0) 1 24 Tryz.underlying23 hi hz0 hz1 hz2 rfl (by decide) (qS (qP g') m c') m (Q'.flatMap clY) rfl (by have:=HAL.o.i.o;unfold OG at this;rw [hql] at this;exact this) (qR wr.heap.size 0) 1 1 (clY y) rfl rfl HNW.o (by intro u hu;simp [clY] at hu;rw [hu];rfl) (by unfold maxLen;omega) (by omega) (by simp;omega) ?_;intro v' w5 hown hgr _)
    obtain ⟨g5,cp5,rfl,S5⟩:=HAL.o.app HY.o hgr hown;have HS5:=zh (xA S5 (show V3.heap.size<=w5.heap.size from by have:=hgr.size;simp at this;omega));clear S5 hown hgr HAL HNW q0;go_wp2
    go_roundw
    .exact ⟨m+1,g5,cp5,_,rfl,by omega,HS5.o⟩
    .show 6-(m+1)<6-m;omega
   .have hge:¬ (m:Int)<=4:=by omega
    obtain ⟨v0,v1,v2,v3⟩:=S.k1.z4;obtain ⟨r0,r1,r2,r3⟩:=S.k0.z4;have rf:=S.k0.frozen;have HSF:=zh S;clear S;go_wp2_with fail
    go_region_held3 (fun w'=>w'.cell? (qR w3.heap.size 0)=some (qI x1)/\w'.cell? (qR w3.heap.size 1)=some (qI x2)/\w'.cell? (qR w3.heap.size 2)=some (qI x3)/\w'.cell? (qR w3.heap.size 3)=some (qI x4)) (go_keep) (fail)
    go_wp2
    first
     | exact lH (HSF.o.bw brf.drew).k0 _ _ _ _ _ _ rfl rfl ((HSF.o.bw brf.drew).fin (by omega))
     | go_show
 have b3:(K%64==3)=false:=by simpa using c3
 by_cases c5:K%32=5
 .have b5:(K%32==5)=true:=by simp [c5]
  obtain ⟨y,hy,q0⟩:=S4.i.at0 (by omega);have hpn:(0:Int)<(pn:Int):=by omega
  have HY:=zh hy;have HSF:=zh S4;obtain ⟨iY,hi,hz0,hz1,hz2⟩:=info_parts aCl;have HNW:=zh (aN w4 #[qS (qP y.1) y.2.2.length y.2.1] 22 (clY y) rfl);have HAL:=zh (S4.bw (bal (w:=w4) (o:=.cells #[qS (qP y.1) y.2.2.length y.2.1] 22)));have hs4:V3.heap.size<=w4.heap.size:=D4.sz;clear S4 D4 c2 c3 c4 c5 c6 c7 p1 p2 hy;go_wp2_with (at_builtin;refine wpList_append_own _ rfl _ _ 23 rfl V3.heap.size 22 iY (qS none 0 0) 1 24 Tryz.underlying23 hi hz0 hz1 hz2 rfl (by decide) (qS (qP g) pn cp) pn (Q.flatMap clY) rfl (by have:=HAL.o.i.o;unfold OG at this;rw [hql] at this;exact this) (qR w4.heap.size 0) 1 1 (clY y) rfl rfl HNW.o (by intro u hu;simp [clY] at hu;rw [hu];rfl) (by unfold maxLen;have:=HPN.o;omega) (by have:=HPN.o;omega) (by simp;have:=HPN.o;omega) ?_;intro v' w5 hown hgr _)
  obtain ⟨g',cp',rfl,S5⟩:=HAL.o.app HY.o hgr hown;have HS5:=zh S5;obtain ⟨v0,v1,v2,v3⟩:=S5.k1.z4;obtain ⟨r0,r1,r2,r3⟩:=S5.k0.z4;have rf:=S5.k0.frozen;clear S5 hown hgr HAL HSF HNW q0;go_wp2_with fail
  go_region_held3 (fun w'=>w'.cell? (qR w3.heap.size 0)=some (qI x1)/\w'.cell? (qR w3.heap.size 1)=some (qI x2)/\w'.cell? (qR w3.heap.size 2)=some (qI x3)/\w'.cell? (qR w3.heap.size 3)=some (qI x4)) (go_keep) (fail)
  go_wp2
  first
   | exact lH (HS5.o.bw brf.drew).k0 _ _ _ _ _ _ rfl rfl ((HS5.o.bw brf.drew).fin (by have:=HPN.o;omega))
   | go_show
 have b5:(K%32==5)=false:=by simpa using c5
 obtain ⟨v0,v1,v2,v3⟩:=S4.k1.z4;obtain ⟨r0,r1,r2,r3⟩:=S4.k0.z4;have rf:=S4.k0.frozen;have HSF:=zh S4;clear S4 D4 c2 c3 c4 c5 c6 c7 p1 p2;go_wp2_with fail
 go_region_held3 (fun w'=>w'.cell? (qR w3.heap.size 0)=some (qI x1)/\w'.cell? (qR w3.heap.size 1)=some (qI x2)/\w'.cell? (qR w3.heap.size 2)=some (qI x3)/\w'.cell? (qR w3.heap.size 3)=some (qI x4)) (go_keep) (fail)
 go_wp2;exact lH (HSF.o.bw brf.drew).k0 _ _ _ _ _ _ rfl rfl ((HSF.o.bw brf.drew).fin (by have:=HPN.o;omega))
end Go.Proofs.YtcimaholejajpaaGreat
namespace Go.Proofs.YtcimaholejajpaaGreat
open Go.RowKit Classical
set_option maxRecDepth 100000
theorem uB (g n cap b:Nat)(Lm:List (PMod×Mb))(β:Nat->Nat)(L:Lay)(a0:qO)(c0:Nat)(xs:List PB)(a2:qO)(c2:Nat)(a5:qO)(c5:Nat)(ts:List TB)(ns:Nat)(x2 x3 x4:Int)(w:qw)(H:OMp w b (qS (qP g) n cap) Lm β)(hl:Lm.length=n)(hn4:n<=4)(hL:LyT w L a0 c0 xs a2 c2 a5 c5 ts)(hk:Lok (aF (Lm.map mdP)) L)(hn:ns<=4):
 qC 21 #[qS (qP g) n cap,.agg (qW (ns:Nat) x2 x3 x4),.agg (qJ L a0 xs c0 a2 c2 a5 ts c5)] w (LmP w Lm n (aF (Lm.map mdP)) L ns x2 x3 x4):=by
 obtain ⟨a',cap',e',h⟩:=H.msd (by omega);rw [hl] at e' h;simp only [Value.slice.injEq] at e';obtain ⟨rfl,-,rfl⟩:=e';obtain ⟨V,hV⟩:=eqx (((w.alloc (.cells (qW (ns:Nat) x2 x3 x4) 25)).alloc (.cells (qJ L a0 xs c0 a2 c2 a5 ts c5) 64)).alloc (.cells z15 37));have bV:qY w V:=by rw [hV];exact (bal.alloc (by simp) _).alloc (by simp;omega) _
 have k0:Blk V w.heap.size (qW (ns:Nat) x2 x3 x4) 25:=by rw [hV];exact ((Blk.new w _ _).alloc _).alloc _
 have k1:Blk V (w.heap.size+1) (qJ L a0 xs c0 a2 c2 a5 ts c5) 64:=by rw [hV];have:=(Blk.new (w.alloc (.cells (qW (ns:Nat) x2 x3 x4) 25)) (qJ L a0 xs c0 a2 c2 a5 ts c5) 64).alloc (.cells z15 37);simpa using this
 have k2:Blk V (w.heap.size+1+1) z15 37:=by rw [hV];have:=Blk.new ((w.alloc (.cells (qW (ns:Nat) x2 x3 x4) 25)).alloc (.cells (qJ L a0 xs c0 a2 c2 a5 ts c5) 64)) z15 37;simpa using this
 have CI:=zh (aBw (qP g) n cap (Lm.map mdP) L a0 c0 xs a2 c2 a5 c5 ts V (h.bw bV) (hL.bw bV));unfold ImM at CI;rw [xR hk] at CI;obtain ⟨p0,p1,p2,p3,p4,p5⟩:=k1.ly6;have HV:=zh hV;have HK:=zh (xA bV (xA k0 (xA k2 H)));clear hV bV k0 k1 k2 h hL hk H;unfold z15 at HV;go_enter Tryz.func21,Tryz.ntmps21
 go_wp2_with (rw [<- HV.o])
 refine CI.o.mono ?_;rintro e w1 ⟨b1,a1,n1,e1,a2',n2,e2,a3,n3,e3,rfl,O1⟩;obtain ⟨bV,k0,k2,H⟩:=HK.o;obtain ⟨w2,hw2,b2,k3⟩:=nwb w1 (qV a1 n1 e1 a2' n2 e2 a3 n3 e3) 33;have b12:=b1.trans (b2.mono b1.size);have K0:=k0.bw b12;have K2:=k2.bw b12;have HOM:=zh (H.bw (bV.trans (b12.mono bV.size)));have HE:=zh (xA (bV.trans (b12.mono bV.size)) (xA O1 b2));have HSZ:Zh ((w.heap.size<=w.heap.size+1+1/\w.heap.size+1+1<V.heap.size)/\V.heap.size<=w1.heap.size/\w1.heap.size<w2.heap.size):=⟨⟨by omega,k2.lt⟩,b1.size,k3.lt⟩;have HW2:=zh hw2;have HC0:=zh K0;have HC2:=zh K2;have HC3:=zh k3;clear p0 p1 p2 p3 p4 p5 hw2 b1 b2 b12 k0 k2 k3 K0 K2 O1 bV HK CI H;go_wp2_with (first|rw [<- HW2.o]|fail)
 refine pI (by kernel_rfl) (fun _ listed a W=>I10 w2 g n cap w.heap.size w1.heap.size (w.heap.size+1+1) ns x2 x3 x4 a1 n1 e1 a2' n2 e2 a3 n3 e3 Lm listed a W) ?_ ?_ ?_
 .exact ⟨rfl,rfl,rfl,rfl,rfl,rfl,rfl,fun _=>⟨brf.drew,fun j hj hl=>absurd hl (by simp [Array.getElem?_replicate];split<;>simp)⟩,fun f=>absurd f (by simp [Array.getElem?_replicate])⟩
 .intro listed a W i K hI hi hK;have hlt:i<12:=by obtain ⟨_,o,ho,_⟩:=mem_ready.1 hi;exact (Array.getElem?_eq_some_iff.1 ho).1
  have hb:=(mem_ready.1 hi).1;have BW:=hI.bel hlt hb;rcases (show i=0\/i=1\/i=2\/i=3\/i=4\/i=5\/i=6\/i=7\/i=8\/i=9\/i=10\/i=11 by omega) with rfl|rfl|rfl|rfl|rfl|rfl|rfl|rfl|rfl|rfl|rfl|rfl
  · -- 0
    have y0:=hI.e0;refine tL (o:=_) rfl rfl (w':=W) (v:=qS (qP g) n cap) ?_ (hK _ _ (hI.next (i:=0) (by omega) hb _ _ brf rfl));simp only [xK] at y0;go_simp
  · -- 1
    have t0:=bJ (o:=_) hi rfl ⟨0,.data⟩ (by simp) rfl;have v0:=hI.at hlt hb 0 (by omega) t0;refine aOg (o:=_) (f:=48) (args:=#[qS (qP g) n cap]) rfl rfl (w':=W) ?_ (aCa g n cap Lm W (HOM.o.bw BW).omq hl (by omega)) ?_
    .have y:=show a.tmps.getD 15 undef=qS (qP g) n cap from v0;simp only [xK] at y;go_simp
    .rintro e w5 ⟨a7,cap7,L7,β7,rfl,o7,e7,b7⟩;exact ⟨_,rfl,hK _ _ (hI.next (i:=1) (by omega) hb _ _ b7 ⟨a7,cap7,L7,β7,rfl,OMp.mono' o7 BW.size,e7⟩)⟩
  · -- 2
    have KB:=HC0.o.bw BW;obtain ⟨q0,q1,q2,q3⟩:=show W.cell? ⟨w.heap.size,0,none⟩=some (qI (ns:Nat))/\W.cell? ⟨w.heap.size,1,none⟩=some (qI x2)/\W.cell? ⟨w.heap.size,2,none⟩=some (qI x3)/\W.cell? ⟨w.heap.size,3,none⟩=some (qI x4) from ⟨KB.cell 0,KB.cell 1,KB.cell 2,KB.cell 3⟩;refine tL (o:=_) rfl rfl (w':=W) (v:=.agg (qW (ns:Nat) x2 x3 x4)) ?_ (hK _ _ (hI.next (i:=2) (by omega) hb _ _ brf rfl));have y:=hI.e4;simp only [xK] at y;go_simp
  · -- 3
    refine tL (o:=_) rfl rfl (w':=W.alloc (.cells in0 3)) (v:=qS (qP W.heap.size) 8 8) ?_ (hK _ _ (hI.next (i:=3) (by omega) hb _ _ bal ⟨_,rfl,Blk.new _ _ _,BW.size⟩));have y:=aG4 W;go_simp
  · -- 4
    have t3:=bJ (o:=_) hi rfl ⟨3,.data⟩ (by simp) rfl;have v3:=hI.at hlt hb 3 (by omega) t3;obtain ⟨gk,y,ky,ly⟩:=v3;refine tL (o:=_) rfl rfl (w':=W) (v:=.agg #[qI 0,qS (qP gk) 8 8]) ?_ (hK _ _ (hI.next (i:=4) (by omega) hb _ _ brf ⟨gk,rfl,ky,ly⟩));simp only [xK] at y;go_simp
  · -- 5
    have KB:=HC3.o.bw BW;obtain ⟨q0,q1,q2⟩:=show W.cell? ⟨w1.heap.size,0,none⟩=some (qS a1 n1 e1)/\W.cell? ⟨w1.heap.size,1,none⟩=some (qS a2' n2 e2)/\W.cell? ⟨w1.heap.size,2,none⟩=some (qS a3 n3 e3) from ⟨KB.cell 0,KB.cell 1,KB.cell 2⟩;refine tL (o:=_) rfl rfl (w':=W) (v:=.agg (qV a1 n1 e1 a2' n2 e2 a3 n3 e3)) ?_ (hK _ _ (hI.next (i:=5) (by omega) hb _ _ brf rfl));have y:=hI.e7;simp only [xK] at y;go_simp
  · -- 6
    refine tL (o:=_) rfl rfl (w':=W) (v:=.pointer (qP w.heap.size)) ?_ (hK _ _ (hI.next (i:=6) (by omega) hb _ _ brf rfl));have y:=hI.e4;simp only [xK] at y;go_simp
  · -- 7
    have t6:=bJ (o:=_) hi rfl ⟨6,.data⟩ (by simp) rfl;have v6:=hI.at hlt hb 6 (by omega) t6;have q0:=(HC0.o.bw BW).e0;refine tL (o:=_) rfl rfl (w':=W) (v:=qI (ns:Nat)) ?_ (hK _ _ (hI.next (i:=7) (by omega) hb _ _ brf rfl));have y:=show a.tmps.getD 21 undef=.pointer (qP w.heap.size) from v6;simp only [xK] at y;go_simp
  · -- 8
    have t7:=bJ (o:=_) hi rfl ⟨7,.data⟩ (by simp) rfl;have v7:=hI.at hlt hb 7 (by omega) t7;refine tL (o:=_) rfl rfl (w':=W.alloc (.cells (sl0 ns) 77)) (v:=qS (qP W.heap.size) ns ns) ?_ (hK _ _ (hI.next (i:=8) (by omega) hb _ _ bal ⟨_,rfl,Blk.new _ _ _,BW.size⟩));have y2:=show a.tmps.getD 22 undef=qI (ns:Nat) from v7;simp only [xK] at y2;have y:=aG3 ns hn W;go_simp
  · -- 9
    refine tL (o:=_) rfl rfl (w':=W.alloc (.cells #[] 79)) (v:=qS (qP W.heap.size) 0 0) ?_ (hK _ _ (hI.next (i:=9) (by omega) hb _ _ bal ⟨_,rfl,Blk.new _ _ _,BW.size⟩));go_simp
  · -- 10
    have t1:=bJ (o:=_) hi rfl ⟨1,.data⟩ (by simp) rfl;have v1:=hI.at hlt hb 1 (by omega) t1;have t2:=bJ (o:=_) hi rfl ⟨2,.data⟩ (by simp) rfl;have v2:=hI.at hlt hb 2 (by omega) t2;have t4:=bJ (o:=_) hi rfl ⟨4,.data⟩ (by simp) rfl;have v4:=hI.at hlt hb 4 (by omega) t4;have t5:=bJ (o:=_) hi rfl ⟨5,.data⟩ (by simp) rfl;have v5:=hI.at hlt hb 5 (by omega) t5;have t8:=bJ (o:=_) hi rfl ⟨8,.data⟩ (by simp) rfl;have v8:=hI.at hlt hb 8 (by omega) t8;have t9:=bJ (o:=_) hi rfl ⟨9,.data⟩ (by simp) rfl;have v9:=hI.at hlt hb 9 (by omega) t9;obtain ⟨a7,cap7,L7,β7,y1,o7,m7⟩:=v1;have y2:=show a.tmps.getD 17 undef=.agg (qW (ns:Nat) x2 x3 x4) from v2;obtain ⟨gk,y4,ky,ly⟩:=v4;have y5:=show a.tmps.getD 20 undef=.agg (qV a1 n1 e1 a2' n2 e2 a3 n3 e3) from v5;obtain ⟨gl,y8,kl,ll⟩:=v8;obtain ⟨gs,y9,ks,ls⟩:=v9;refine tL (o:=_) rfl rfl (w':=W) (v:=.agg #[qS a7 n cap7,qI (ns:Nat),qI x2,qI x3,qI x4,qI 0,qS (qP gk) 8 8,qS a1 n1 e1,qS a2' n2 e2,qS a3 n3 e3,qI 0,qI (-1),qS (qP gl) ns ns,qS (qP gs) 0 0,qI 0]) ?_ (hK _ _ (hI.next (i:=10) (by omega) hb _ _ brf ⟨a7,cap7,L7,β7,gk,gl,gs,rfl,⟨o7,m7⟩,⟨ky,ly⟩,⟨kl,ll⟩,ks,ls⟩));simp only [xK] at y1 y2 y4 y5 y8 y9;go_simp
  · -- 11
    have t10:=bJ (o:=_) hi rfl ⟨10,.data⟩ (by simp) rfl;have v10:=hI.at hlt hb 10 (by omega) t10;obtain ⟨a7,cap7,L7,β7,gk,gl,gs,y,⟨o7,m7⟩,⟨ky,ly⟩,⟨kl,ll⟩,ks,ls⟩:=v10
    have hall:∀ j,j<11->listed.getD j false=true:=fun j hj=>by
     rcases (show j=0\/j=1\/j=2\/j=3\/j=4\/j=5\/j=6\/j=7\/j=8\/j=9\/j=10 by omega) with rfl|rfl|rfl|rfl|rfl|rfl|rfl|rfl|rfl|rfl|rfl
     .exact bJ (o:=_) hi rfl ⟨0,.phase⟩ (by simp) rfl
     .exact bJ (o:=_) hi rfl ⟨1,.phase⟩ (by simp) rfl
     .exact bJ (o:=_) hi rfl ⟨2,.phase⟩ (by simp) rfl
     .exact bJ (o:=_) hi rfl ⟨3,.phase⟩ (by simp) rfl
     .exact bJ (o:=_) hi rfl ⟨4,.phase⟩ (by simp) rfl
     .exact bJ (o:=_) hi rfl ⟨5,.phase⟩ (by simp) rfl
     .exact bJ (o:=_) hi rfl ⟨6,.phase⟩ (by simp) rfl
     .exact bJ (o:=_) hi rfl ⟨7,.phase⟩ (by simp) rfl
     .exact bJ (o:=_) hi rfl ⟨8,.phase⟩ (by simp) rfl
     .exact bJ (o:=_) hi rfl ⟨9,.phase⟩ (by simp) rfl
     .exact bJ (o:=_) hi rfl ⟨10,.phase⟩ (by simp) rfl
    have KB:=HC2.o.bw BW;unfold z15 at KB;obtain ⟨c0,c1,c2,c3,c4,c5,c6,c7,c8,c9,c10,c11,c12,c13,c14⟩:=KB.mc;have f0:=KB.frozen 0;have f1:=KB.frozen 1;have f2:=KB.frozen 2;have f3:=KB.frozen 3;have f4:=KB.frozen 4;have f5:=KB.frozen 5;have f6:=KB.frozen 6;have f7:=KB.frozen 7;have f8:=KB.frozen 8;have f9:=KB.frozen 9;have f10:=KB.frozen 10;have f11:=KB.frozen 11;have f12:=KB.frozen 12;have f13:=KB.frozen 13;have f14:=KB.frozen 14;refine aOf (o:=_) rfl rfl (w':=jE W (w.heap.size+1+1) (qS a7 n cap7) (qI (ns:Nat)) (qI x2) (qI x3) (qI x4) (qI 0) (qS (qP gk) 8 8) (qS a1 n1 e1) (qS a2' n2 e2) (qS a3 n3 e3) (qI 0) (qI (-1)) (qS (qP gl) ns ns) (qS (qP gs) 0 0) (qI 0)) ?_ (hK _ _ (hI.last hb hall ⟨W,a7,cap7,L7,β7,gk,gl,gs,rfl,BW,⟨o7,m7⟩,⟨ky,ly⟩,⟨kl,ll⟩,ks,ls⟩));have y6:=hI.e6;have y':=show a.tmps.getD 25 undef=_ from y;simp only [xK] at y' y6;unfold jE;go_simp
 .intro listed a W hI hr;have hal:=aKu hr (by kernel_rfl) hI.sz;have l11:=hal 11 (by show 11<12;omega);obtain ⟨_,X,a7,cap7,L7,β7,gk,gl,gs,hWF,BX,⟨o7,m7⟩,⟨ky,ly⟩,⟨kl,ll⟩,ks,ls⟩:=hI.c l11;have HWF:=zh hWF;have d0:=hI.d;have s0:=hI.s;have y6:=hI.e6;obtain ⟨tmps,defers⟩:=a;dsimp only at d0 s0 y6;subst d0
  have h6:tmps[6]?=some (.pointer (some (qR (w.heap.size+1+1) 0))):=by
   have hlt:6<tmps.size:=by omega
   rw [Array.getElem?_eq_getElem hlt];simp only [xK,Array.getElem?_eq_getElem hlt,Option.getD_some] at y6;rw [y6]
  have HX:=zh (xA (xA BX (xA o7 m7)) (xA (xA ky ly) (xA (xA kl ll) (xA ks ls))));clear hWF BX o7 m7 ky ly kl ll ks ls hI hr hal l11;show Exit.then _ _ _ _ _
  go_wp2;rw [HWF.o];refine aJ6 (HC2.o.bw HX.o.1.1) _ _ _ _ _ _ _ _ _ _ _ _ _ _ _ _ _ h6 ?_;obtain ⟨⟨BX,o7,m7⟩,⟨ky,ly⟩,⟨kl,ll⟩,ks,ls⟩:=HX.o;obtain ⟨B4,O1,b2⟩:=HE.o;obtain ⟨⟨s0',s1⟩,s2,s3⟩:=HSZ.o;have T:=fun v0 v1 v2 v3 v4 v5 v6 v7 v8 v9 v10 v11 v12 v13 v14=>cP X (w.heap.size+1+1) v0 v1 v2 v3 v4 v5 v6 v7 v8 v9 v10 v11 v12 v13 v14;refine ⟨a7,cap7,L7,β7,gk,a1,n1,e1,a2',n2,e2,a3,n3,e3,gl,gs,rfl,?_,?_,by omega,?_,m7,?_⟩
  .exact ⟨aHu (aA (T _ _ _ _ _ _ _ _ _ _ _ _ _ _ _) ky (by omega)) (by omega),(((O1.bw (b2.trans (BX.mono b2.size))).kept (T _ _ _ _ _ _ _ _ _ _ _ _ _ _ _) (fun j hj s=>by have:=(O1.lt hj).1;omega)).mono (by omega)),aF8 (aA (T _ _ _ _ _ _ _ _ _ _ _ _ _ _ _) kl (by omega)) (by omega) hn⟩
  .exact aA (T _ _ _ _ _ _ _ _ _ _ _ _ _ _ _) ks (by omega)
  .exact OMp.mono' (OMp.turn o7 (T _ _ _ _ _ _ _ _ _ _ _ _ _ _ _) (fun j hj=>by omega)) (by omega)
  .exact aI (B4.trans (BX.mono B4.size)) (T _ _ _ _ _ _ _ _ _ _ _ _ _ _ _) (fun j hj=>by omega) (xM B4.size BX.size)
theorem aEp (g n cp:Nat)(gs cz:List Nat)(bl:List Bk)(s c k d:Int)(w:qw)(H:Img w g n cp gs cz bl)(hn:n<=1048576):
 qC 5 #[qS (qP g) n cp,.agg (qW s c k d)] w (LdQ False w (zsL bl) n s c k d):=by
 obtain ⟨iM,hiM,hz0,hz1,hz2⟩:=info_parts aHt;obtain ⟨V0,hV0⟩:=eqx (((w.alloc (.cells (qW s c k d) 25)).alloc (.cells qZ 37)).alloc (.cells qZ 37));have bV0:qY w V0:=by rw [hV0];exact (bal.alloc (by simp) _).alloc (by simp;omega) _
 have k00:Blk V0 w.heap.size (qW s c k d) 25:=by rw [hV0];exact ((Blk.new w _ _).alloc _).alloc _
 have k01:Blk V0 (w.heap.size+1) z15 37:=by rw [hV0];have:=(Blk.new (w.alloc (.cells (qW s c k d) 25)) z15 37).alloc (.cells z15 37);simpa [z15] using this
 have k02:Blk V0 (w.heap.size+1+1) z15 37:=by rw [hV0];have:=Blk.new ((w.alloc (.cells (qW s c k d) 25)).alloc (.cells z15 37)) z15 37;simpa [z15] using this
 obtain ⟨V,hV⟩:=eqx (jE V0 (w.heap.size+1+1) (qS none 0 0) (qI 0) (qI 0) (qI 0) (qI 0) (qI 0) (qS none 0 0) (qS none 0 0) (qS none 0 0) (qS none 0 0) (qI 0) (qI 0) (qS none 0 0) (qS none 0 0) (qI 0));have T0:=cP V0 (w.heap.size+1+1) (qS none 0 0) (qI 0) (qI 0) (qI 0) (qI 0) (qI 0) (qS none 0 0) (qS none 0 0) (qS none 0 0) (qS none 0 0) (qI 0) (qI 0) (qS none 0 0) (qS none 0 0) (qI 0);rw [<- hV] at T0;have bV:qY w V:=aI bV0 T0 (fun j hj=>by omega) bV0.size;have k0:=aA T0 k00 (by omega);have k1:=aA T0 k01 (by omega);have k2:Blk V (w.heap.size+1+1) z15 37:=by rw [hV];exact jM k02 _ _ _ _ _ _ _ _ _ _ _ _ _ _ _
 have K2:=k02;unfold z15 at K2;obtain ⟨c0q,c1q,c2q,c3q,c4q,c5q,c6q,c7q,c8q,c9q,c10q,c11q,c12q,c13q,c14q⟩:=K2.mc;have f0q:=K2.frozen 0;have f1q:=K2.frozen 1;have f2q:=K2.frozen 2;have f3q:=K2.frozen 3;have f4q:=K2.frozen 4;have f5q:=K2.frozen 5;have f6q:=K2.frozen 6;have f7q:=K2.frozen 7;have f8q:=K2.frozen 8;have f9q:=K2.frozen 9;have f10q:=K2.frozen 10;have f11q:=K2.frozen 11;have f12q:=K2.frozen 12;have f13q:=K2.frozen 13;have f14q:=K2.frozen 14;clear K2;have CC:=zh (kQ s c k d V);have H1:=H.bw bV;obtain ⟨u0,u1,u2,u3⟩:=show V.cell? ⟨w.heap.size,0,none⟩=some (qI s)/\V.cell? ⟨w.heap.size,1,none⟩=some (qI c)/\V.cell? ⟨w.heap.size,2,none⟩=some (qI k)/\V.cell? ⟨w.heap.size,3,none⟩=some (qI d) from ⟨k0.cell 0,k0.cell 1,k0.cell 2,k0.cell 3⟩;have HV:=zh hV;have HK:=zh (xA bV (xA k0 (xA k1 (xA k2 H1))))
 have HF:=zh (show ∀ (X:qw),qY V X->∀ (cd:Int) (at':Nat),ldc (zsL bl) n s c k d=(cd,at')->cd≠0->LdQ False w (zsL bl) n s c k d (.returned (.tuple #[.agg qZ,qI cd,qI (at':Nat)])) (jE X (w.heap.size+1) (qS none 0 0) (qI 0) (qI 0) (qI 0) (qI 0) (qI 0) (qS none 0 0) (qS none 0 0) (qS none 0 0) (qS none 0 0) (qI 0) (qI 0) (qS none 0 0) (qS none 0 0) (qI 0)) from fun X hX cd at' e1 e2=>by
  have q:=aAt (own:=False) (aI (bV.trans (hX.mono bV.size)) (cP X (w.heap.size+1) (qS none 0 0) (qI 0) (qI 0) (qI 0) (qI 0) (qI 0) (qS none 0 0) (qS none 0 0) (qS none 0 0) (qS none 0 0) (qI 0) (qI 0) (qS none 0 0) (qS none 0 0) (qI 0)) (fun j hj=>by omega) (xM bV.size hX.size)) (show (ldc (zsL bl) n s c k d).1≠0 by rw [e1];exact e2);rw [e1] at q
  exact q)
 have HV0:=zh hV0;clear hV hV0 T0 bV0 k00 k01 k02 bV k0 k1 k2 H H1;unfold jE at HV;go_enter Tryz.func5,Tryz.ntmps5
 go_wp2_with (first|rw [<- HV0.o]|rw [<- HV.o])
 refine CC.o.mono ?_;rintro e w1 ⟨rfl,b1⟩;have HB1:=zh b1;clear c0q f0q c1q f1q c2q f2q c3q f3q c4q f4q c5q f5q c6q f6q c7q f7q c8q f8q c9q f9q c10q f10q c11q f11q c12q f12q c13q f13q c14q f14q;clear u0 u1 u2 u3 b1 CC;have K1:=HK.o.2.2.1.bw HB1.o;unfold z15 at K1;obtain ⟨c0q,c1q,c2q,c3q,c4q,c5q,c6q,c7q,c8q,c9q,c10q,c11q,c12q,c13q,c14q⟩:=K1.mc;have f0q:=K1.frozen 0;have f1q:=K1.frozen 1;have f2q:=K1.frozen 2;have f3q:=K1.frozen 3;have f4q:=K1.frozen 4;have f5q:=K1.frozen 5;have f6q:=K1.frozen 6;have f7q:=K1.frozen 7;have f8q:=K1.frozen 8;have f9q:=K1.frozen 9;have f10q:=K1.frozen 10;have f11q:=K1.frozen 11;have f12q:=K1.frozen 12;have f13q:=K1.frozen 13;have f14q:=K1.frozen 14;have K2:=HK.o.2.2.2.1.bw HB1.o;unfold z15 at K2;obtain ⟨e0q,e1q,e2q,e3q,e4q,e5q,e6q,e7q,e8q,e9q,e10q,e11q,e12q,e13q,e14q⟩:=K2.mc;clear K2;clear K1;cases hcf:cfo s c k d
 .have HC:=zh hcf;clear hcf;go_wp2;refine lE (HK.o.2.2.1.bw HB1.o) _ _ _ _ _ _ _ _ _ _ _ _ _ _ _ _ _ rfl rfl rfl ?_;exact HF.o w1 HB1.o 1 0 (by unfold ldc;rw [if_pos HC.o]) (by decide)
 have HC:=zh hcf;clear hcf;by_cases hn1:n<1\/4<n
 .have HN:=zh hn1;rcases hn1 with h|h
  .have h':(n:Int)<1:=by omega
   go_wp2;refine lE (HK.o.2.2.1.bw HB1.o) _ _ _ _ _ _ _ _ _ _ _ _ _ _ _ _ _ rfl rfl rfl ?_;exact HF.o w1 HB1.o 2 0 (by unfold ldc;rw [if_neg (by rw [HC.o];decide),if_pos HN.o]) (by decide)
  .have h':¬ (n:Int)<1:=by omega
   have h2:(4:Int)<(n:Int):=by omega
   go_wp2;refine lE (HK.o.2.2.1.bw HB1.o) _ _ _ _ _ _ _ _ _ _ _ _ _ _ _ _ _ rfl rfl rfl ?_;exact HF.o w1 HB1.o 2 0 (by unfold ldc;rw [if_neg (by rw [HC.o];decide),if_pos HN.o]) (by decide)
 have h1:¬ (n:Int)<1:=by omega
 have h2:¬ (4:Int)<(n:Int):=by omega
 have HN:=zh hn1;have hn4:n<=4:=by omega
 clear c0q f0q e0q c1q f1q e1q c2q f2q e2q c3q f3q e3q c4q f4q e4q c5q f5q e5q c6q f6q e6q c7q f7q e7q c8q f8q e8q c9q f9q e9q c10q f10q e10q c11q f11q e11q c12q f12q e12q c13q f13q e13q c14q f14q e14q;clear hn1;have S0:=aDg w1 w1.heap.size aL;have B0:qY w1 (w1.alloc (.cells #[] 53)):=bal;have HS0:=zh (xA S0 B0);have HH:=zh (HK.o.2.2.2.2.bw HB1.o);clear S0 B0;go_wp2;go_loopw [8,9] (fun v i wr=>∃ j:Nat,j<=n/\i=qI j/\(∀ q,q<j->pcd (zsL bl) q=0)/\∃ L β,OMp wr w1.heap.size v L β/\L.map (fun x=>x.1)=pal (zsL bl) j/\qY w1 wr) (fun _ i _=>n-(intOf i).toNat)
 .exact ⟨0,xC _,rfl,fun q hq=>absurd hq (Nat.not_lt_zero _),[],_,HS0.o.1,rfl,HS0.o.2⟩
 .obtain ⟨j,hj,rfl,hk,L,β,O,hL,B⟩:=hrel;have hl:L.length=j:=by have:=congrArg List.length hL;simpa [pal] using this
  obtain ⟨av,cv,rfl⟩:=aO O.o;rw [hl] at O ⊢;by_cases hlt:j<n
  .have hlt':(j:Int)<(n:Int):=by omega
   have I:=HH.o.bw B;obtain ⟨c0,b0⟩:=I.q j hlt;have l0:=I.lt j hlt;obtain ⟨z1,z2⟩:=I.z j hlt;have hzj:=aFp (bl:=bl) (i:=j) (by rw [I.l];exact hlt);have CP:=zh (gN (gs.getD j 0) (bl.getD j zB).2.1 (cz.getD j 0) (bl.getD j zB).2.2.2 wr b0 z2 l0);have hpc:pcd (zsL bl) j=(prs (bl.getD j zB).2.2.2).1:=by unfold pcd;rw [hzj]
   have HPO:=zh (show pal (zsL bl) (j+1)=pal (zsL bl) j++[pOf (bl.getD j zB).2.2.2] by rw [aAg,hzj]);clear I b0 l0 z2 hzj;generalize (bl.getD j zB).2.2.2=zs at *;generalize (bl.getD j zB).2.1=zn at *;generalize gs.getD j 0=gj at *;have HO:=zh (xA O (xA hL B));have HQ:=zh (xA hk hpc);have HBy:=zh z1;clear O hL B hk hpc z1;go_wp2_with fail
   refine CP.o.mono ?_;intro e w2 hP;by_cases hz:(prs zs).1=0
   .obtain ⟨P,e1,e2,R⟩:=aGk HBy.o hz;unfold dP at hP;rw [e1] at hP;obtain ⟨b1,a1,d1,a2,d2,bl',a3,d3,a5,d5,a6,d6,a7,d7,rfl,mo⟩:=hP;obtain ⟨w3,hw3,b2,k2⟩:=nwb w2 (qM P.nm a1 P.tz.length d1 a2 bl'.length d2 a3 P.dz.length d3 P.bss a5 P.rz.length d5 a6 P.ss.length d6 a7 P.es.length d7) 53;have b3:qY w3 (w3.alloc (.cells (qM P.nm a1 P.tz.length d1 a2 bl'.length d2 a3 P.dz.length d3 P.bss a5 P.rz.length d5 a6 P.ss.length d6 a7 P.es.length d7) 53)):=bal;have b23:=b2.trans (b3.mono b2.size);obtain ⟨O,hL,B⟩:=HO.o;have B1:=B.trans (b1.mono B.size);have hs:=xM B1.size (xM b2.size b3.size)
    have HOW:=zh (show (w3.alloc (.cells (qM P.nm a1 P.tz.length d1 a2 bl'.length d2 a3 P.dz.length d3 P.bss a5 P.rz.length d5 a6 P.ss.length d6 a7 P.es.length d7) 53)).ownsRow w1.heap.size 53 8 (qS av j cv) j (L.flatMap clB) by
     have o:=(O.bw (b1.trans (b23.mono b1.size))).o;unfold OG at o;rw [hl] at o
     exact o)
    have HNW:=zh (aN w3 (qM P.nm a1 P.tz.length d1 a2 bl'.length d2 a3 P.dz.length d3 P.bss a5 P.rz.length d5 a6 P.ss.length d6 a7 P.es.length d7) 53 (clB (P,(⟨a1,d1,a2,d2,bl',a3,d3,a5,d5,a6,d6,a7,d7⟩:Mb))) rfl);have HPU:=zh (fun (v':Value) (w4:qw) hown hgr=>xA (O.push (x:=(P,(⟨a1,d1,a2,d2,bl',a3,d3,a5,d5,a6,d6,a7,d7⟩:Mb))) (v':=v') (w4:=w4) hl b1 mo R.g b23 hown hgr) (show qY w1 w4 from aI (B1.trans (b23.mono B1.size)) (S:=fun q=>(qS av j cv).ownBlock=some q) ⟨hgr.os,hgr.tape,hgr.output,hgr.size,fun q hq hs=>hgr.block q hq (fun e=>hs e.symm)⟩ (fun q hq=>(O.o.lt q hq).1) hs));have HW3:=zh hw3;obtain ⟨q0,q1,q2,q3,q4,q5,q6,q7⟩:=Blk.eight' k2;have HLL:=zh hL;clear hw3 b2 k2 b3 b23 O hL B B1 b1 mo HO CP;unfold fL;dsimp only;go_wp2_with (first|(at_builtin;refine wpList_append_own _ rfl _ _ 28 rfl w1.heap.size 53 iM _ 8 _ Tryz.underlying28 hiM hz0 hz1 hz2 rfl (by decide) (qS av j cv) j (L.flatMap clB) rfl HOW.o (qR w3.heap.size 0) 1 1 (clB (P,(⟨a1,d1,a2,d2,bl',a3,d3,a5,d5,a6,d6,a7,d7⟩:Mb))) rfl rfl HNW.o (by intro u hu;simp [clB,clH,hdP] at hu;rcases hu with rfl|rfl|rfl|rfl|rfl|rfl|rfl|rfl<;>rfl) (by unfold maxLen;omega) (by omega) (by omega) ?_;intro v' w4 hown hgr _)|rw [<- HW3.o])
    have HP:=zh (HPU.o v' w4 hown hgr);clear hown hgr HPU HOW HNW q0 q1 q2 q3 q4 q5 q6 q7;go_wp2
    go_roundw
    .exact ⟨j+1,by omega,by go_num,fun q hq=>by
     by_cases e:q=j
     .subst e;rw [HQ.o.2];exact hz
     .exact HQ.o.1 q (by omega),_,_,HP.o.1,by rw [List.map_append,HLL.o,HPO.o,e2];rfl,HP.o.2⟩
    .simp [intOf];omega
   .unfold dP at hP;rw [aGl hz] at hP;obtain ⟨b1,rfl⟩:=hP
    have HP:=zh (show ldc (zsL bl) n s c k d=(10+(prs zs).1,j) by
     have e1:=HQ.o.2;have e2:=sO (f:=pcd (zsL bl)) (i:=j) (by rw [e1];exact hz) HQ.o.1 n hlt;unfold ldc;rw [if_neg (by rw [HC.o];decide),if_neg HN.o,e2];dsimp only
     rw [e1])
    have hr:=jT (zsL bl) j;rw [HQ.o.2] at hr;have B1:=HO.o.2.2.trans (b1.mono HO.o.2.2.size);have B2:=HB1.o.trans (B1.mono HB1.o.size);have HB2:=zh (B2.alloc B2.size (.cells #[.string ⟨#[]⟩,qS none 0 0,qS none 0 0,qS none 0 0,qI 0,qS none 0 0,qS none 0 0,qS none 0 0] 53));have hj4:j<=4:=by omega
    clear HO CP b1 B1 B2;have K1:=HK.o.2.2.1.bw HB2.o;unfold z15 at K1;obtain ⟨c0q,c1q,c2q,c3q,c4q,c5q,c6q,c7q,c8q,c9q,c10q,c11q,c12q,c13q,c14q⟩:=K1.mc;have f0q:=K1.frozen 0;have f1q:=K1.frozen 1;have f2q:=K1.frozen 2;have f3q:=K1.frozen 3;have f4q:=K1.frozen 4;have f5q:=K1.frozen 5;have f6q:=K1.frozen 6;have f7q:=K1.frozen 7;have f8q:=K1.frozen 8;have f9q:=K1.frozen 9;have f10q:=K1.frozen 10;have f11q:=K1.frozen 11;have f12q:=K1.frozen 12;have f13q:=K1.frozen 13;have f14q:=K1.frozen 14;have K2:=HK.o.2.2.2.1.bw HB2.o;unfold z15 at K2;obtain ⟨e0q,e1q,e2q,e3q,e4q,e5q,e6q,e7q,e8q,e9q,e10q,e11q,e12q,e13q,e14q⟩:=K2.mc;clear K2;clear K1;dsimp only;unfold z8;generalize (prs zs).1=cd at *;go_wp2;refine lE (HK.o.2.2.1.bw HB2.o) _ _ _ _ _ _ _ _ _ _ _ _ _ _ _ _ _ rfl rfl rfl ?_;exact HF.o _ HB2.o (10+cd) j HP.o (by omega)
  .have ejn:n=j:=by omega
   subst ejn;clear hlt;have hB2:=HB1.o.trans (B.mono HB1.o.size);have HB2:=zh hB2;obtain ⟨gv,cp,ev,_⟩:=World.ownsRow.form O.o (by omega);simp only [Value.slice.injEq] at ev;obtain ⟨rfl,-,rfl⟩:=ev;have hps:aF (L.map mdP)=pal (zsL bl) n:=O.pms.trans hL;obtain ⟨a',cap',ev,M2⟩:=O.msd (by omega);rw [hl] at ev M2;simp only [Value.slice.injEq] at ev;obtain ⟨rfl,-,rfl⟩:=ev;have CL:=zh (uO (qP gv) n cv (L.map mdP) s c k d wr M2);rw [hps] at CL;have HPS:=zh hps;have HM2:=zh (xA M2 (xA O hL));have HZ:Zh (fnz (pcd (zsL bl)) n=none):=mK n hk;have HLB:=zh (mE (pal (zsL bl) n) s c k d);have HLV:=zh (aAr (pal (zsL bl) n) s c k d);have hlr:=nE (pal (zsL bl) n) s c k d;have HLK:=zh (fun h:lkc (pal (zsL bl) n) s c k d=0=>xA (xV h) (show lkL (pal (zsL bl) n) s c k d=lay (pal (zsL bl) n) s c k by unfold lkL;rw [if_pos h]));have HE4:Zh (lkc (pal (zsL bl) n) s c k d≠0->ldc (zsL bl) n s c k d=(40+lkc (pal (zsL bl) n) s c k d,0)):=fun h=>by unfold ldc;rw [if_neg (by rw [HC.o];decide),if_neg HN.o,HZ.o];dsimp only;rw [if_pos h]
   have HE6:Zh (lkc (pal (zsL bl) n) s c k d=0->¬ kJ (pal (zsL bl) n) (lay (pal (zsL bl) n) s c k)->ldc (zsL bl) n s c k d=(60,0)):=fun h h2=>by unfold ldc;rw [if_neg (by rw [HC.o];decide),if_neg HN.o,HZ.o];dsimp only;rw [if_neg (by rw [h];decide),if_neg h2]
   have HE0:Zh (lkc (pal (zsL bl) n) s c k d=0->kJ (pal (zsL bl) n) (lay (pal (zsL bl) n) s c k)->ldc (zsL bl) n s c k d=(0,0)):=fun h h2=>by unfold ldc;rw [if_neg (by rw [HC.o];decide),if_neg HN.o,HZ.o];dsimp only;rw [if_neg (by rw [h];decide),if_pos h2]
   unfold LkM at CL;generalize lkc (pal (zsL bl) n) s c k d=cd at *;have Q0:=HK.o.2.1.bw HB2.o;obtain ⟨u0,u1,u2,u3⟩:=show wr.cell? ⟨w.heap.size,0,none⟩=some (qI s)/\wr.cell? ⟨w.heap.size,1,none⟩=some (qI c)/\wr.cell? ⟨w.heap.size,2,none⟩=some (qI k)/\wr.cell? ⟨w.heap.size,3,none⟩=some (qI d) from ⟨Q0.cell 0,Q0.cell 1,Q0.cell 2,Q0.cell 3⟩;clear Q0 M2 O hL hps hk B hB2;go_wp2_with fail
   refine CL.o.mono ?_;rintro e w3 ⟨b3,a0,d0,xs,a2,d2,a5,d5,ts,rfl,O3⟩;have HO3:=zh (O3.lyt HLB.o.r HLV.o);have HB3:=zh (HB2.o.trans (b3.mono HB2.o.size));have HB23:=zh b3;clear O3 b3 CL u0 u1 u2 u3;unfold mC;by_cases hcd:cd=0
   rotate_left
   .generalize lkL (pal (zsL bl) n) s c k d=Ly at *;have b4:qY w3 (w3.alloc (.cells (qL Ly a0 xs.length d0 a2 Ly.slots.length d2 a5 ts.length d5) 64)):=bal;have B4:=HB3.o.trans (b4.mono HB3.o.size);have HB4:=zh B4;clear B4 b4;have K1:=HK.o.2.2.1.bw HB4.o;unfold z15 at K1;obtain ⟨c0q,c1q,c2q,c3q,c4q,c5q,c6q,c7q,c8q,c9q,c10q,c11q,c12q,c13q,c14q⟩:=K1.mc;have f0q:=K1.frozen 0;have f1q:=K1.frozen 1;have f2q:=K1.frozen 2;have f3q:=K1.frozen 3;have f4q:=K1.frozen 4;have f5q:=K1.frozen 5;have f6q:=K1.frozen 6;have f7q:=K1.frozen 7;have f8q:=K1.frozen 8;have f9q:=K1.frozen 9;have f10q:=K1.frozen 10;have f11q:=K1.frozen 11;have f12q:=K1.frozen 12;have f13q:=K1.frozen 13;have f14q:=K1.frozen 14;have K2:=HK.o.2.2.2.1.bw HB4.o;unfold z15 at K2;obtain ⟨e0q,e1q,e2q,e3q,e4q,e5q,e6q,e7q,e8q,e9q,e10q,e11q,e12q,e13q,e14q⟩:=K2.mc;clear K2;clear K1;go_wp2;refine lE (HK.o.2.2.1.bw HB4.o) _ _ _ _ _ _ _ _ _ _ _ _ _ _ _ _ _ rfl rfl rfl ?_;exact HF.o _ HB4.o (40+cd) 0 (HE4.o hcd) (by omega)
   subst hcd;obtain ⟨hlo,hlk⟩:=HLK.o rfl;rw [hlk] at HO3 HLB HLV;rw [hlk];have HLO:=zh hlo;have HE60:=zh (HE6.o rfl);have HE00:=zh (HE0.o rfl);clear hlo hlk HLK HE4 HE6 HE0;generalize hLy:lay (pal (zsL bl) n) s c k=Ly at *;have HLy:=zh hLy;clear hLy;obtain ⟨w4,hw4,b4,k4⟩:=nwb w3 (qL Ly a0 xs.length d0 a2 Ly.slots.length d2 a5 ts.length d5) 64;have B4:=HB3.o.trans (b4.mono HB3.o.size);have B24:=HB23.o.trans (b4.mono HB23.o.size);have CF:=zh (aEq (qP gv) n cv (L.map mdP) Ly a0 d0 xs a2 d2 a5 d5 ts w4 (HM2.o.1.bw B24) (HO3.o.bw b4));rw [HPS.o] at CF;obtain ⟨p0,p1,p2,p3,p4,p5⟩:=k4.ly6;have HK4:=zh (xA B4 (xA B24 (xA k4 (HO3.o.bw b4))));have HW4:=zh hw4;clear hw4 b4 k4 B4 B24;go_wp2_with (rw [<- HW4.o])
   refine CF.o.mono ?_;rintro e w5 ⟨fb,rfl,hf,b5⟩;obtain ⟨B4,B24,k4,y4⟩:=HK4.o;have B5:=B4.trans (b5.mono B4.size);have B25:=B24.trans (b5.mono B24.size);have HK5:=zh (xA B5 (xA B25 (xA (k4.bw b5) (y4.bw b5))));clear p0 p1 p2 p3 p4 p5 b5 B4 B24 k4 y4 B5 B25 HK4 CF;cases fb with
   | false=>
     have HFb:=zh (HE60.o (fun q=>by simpa using hf.2 q));clear hf;have K1:=HK.o.2.2.1.bw HK5.o.1;unfold z15 at K1;obtain ⟨c0q,c1q,c2q,c3q,c4q,c5q,c6q,c7q,c8q,c9q,c10q,c11q,c12q,c13q,c14q⟩:=K1.mc;have f0q:=K1.frozen 0;have f1q:=K1.frozen 1;have f2q:=K1.frozen 2;have f3q:=K1.frozen 3;have f4q:=K1.frozen 4;have f5q:=K1.frozen 5;have f6q:=K1.frozen 6;have f7q:=K1.frozen 7;have f8q:=K1.frozen 8;have f9q:=K1.frozen 9;have f10q:=K1.frozen 10;have f11q:=K1.frozen 11;have f12q:=K1.frozen 12;have f13q:=K1.frozen 13;have f14q:=K1.frozen 14;have K2:=HK.o.2.2.2.1.bw HK5.o.1;unfold z15 at K2;obtain ⟨e0q,e1q,e2q,e3q,e4q,e5q,e6q,e7q,e8q,e9q,e10q,e11q,e12q,e13q,e14q⟩:=K2.mc;clear K2;clear K1;go_wp2;refine lE (HK.o.2.2.1.bw HK5.o.1) _ _ _ _ _ _ _ _ _ _ _ _ _ _ _ _ _ rfl rfl rfl ?_;exact HF.o _ HK5.o.1 60 0 HFb.o (by decide)
   | true=>
     have HFb:=zh (HE00.o (hf.1 rfl));clear hf;have hcf:=HC.o;unfold cfo at hcf;simp at hcf;have hs0:0<=s:=by omega
     have hs4:s.toNat<=4:=by omega
     obtain ⟨B5,B25,k5,y5⟩:=HK5.o;have CN:=zh (uB gv n cv w1.heap.size L β Ly a0 d0 xs a2 d2 a5 d5 ts s.toNat c k d w5 (HM2.o.2.1.bw B25) hl hn4 y5 (by rw [HPS.o];exact HLO.o) hs4);unfold LmP at CN;rw [HPS.o,Int.toNat_of_nonneg hs0] at CN;obtain ⟨p0,p1,p2,p3,p4,p5⟩:=k5.ly6;have Q0:=HK.o.2.1.bw B5;obtain ⟨u0,u1,u2,u3⟩:=show w5.cell? ⟨w.heap.size,0,none⟩=some (qI s)/\w5.cell? ⟨w.heap.size,1,none⟩=some (qI c)/\w5.cell? ⟨w.heap.size,2,none⟩=some (qI k)/\w5.cell? ⟨w.heap.size,3,none⟩=some (qI d) from ⟨Q0.cell 0,Q0.cell 1,Q0.cell 2,Q0.cell 3⟩;have HNS:=zh (xA hs0 hs4);clear Q0 B5 B25 k5 y5 hcf hs0 hs4;go_wp2_with fail
     refine CN.o.mono ?_;rintro e w6 ⟨a,cap,L',β',gk,a1,n1,e1,a2',n2,e2,a3,n3,e3,gl,gf,rfl,N6,F6,f6,O6,L6,b6⟩;have B6:=HK5.o.1.trans (b6.mono HK5.o.1.size);have HN6:=zh (xA B6 (xA (xA N6 (xA F6 f6)) (xA (xA O6 L6) b6)));clear u0 u1 u2 u3 p0 p1 p2 p3 p4 p5 CN N6 F6 f6 O6 L6 b6 B6;have K1:=HK.o.2.2.1.bw HN6.o.1;unfold z15 at K1;obtain ⟨c0q,c1q,c2q,c3q,c4q,c5q,c6q,c7q,c8q,c9q,c10q,c11q,c12q,c13q,c14q⟩:=K1.mc;have f0q:=K1.frozen 0;have f1q:=K1.frozen 1;have f2q:=K1.frozen 2;have f3q:=K1.frozen 3;have f4q:=K1.frozen 4;have f5q:=K1.frozen 5;have f6q:=K1.frozen 6;have f7q:=K1.frozen 7;have f8q:=K1.frozen 8;have f9q:=K1.frozen 9;have f10q:=K1.frozen 10;have f11q:=K1.frozen 11;have f12q:=K1.frozen 12;have f13q:=K1.frozen 13;have f14q:=K1.frozen 14;clear K1;generalize hns:s.toNat=ns at *;have HNE:=zh hns;clear hns;go_wp2;refine lE (HK.o.2.2.1.bw HN6.o.1) _ _ _ _ _ _ _ _ _ _ _ _ _ _ _ _ _ rfl rfl rfl ?_;obtain ⟨B6,⟨N6,F6,f6⟩,⟨O6,L6⟩,b6⟩:=HN6.o;obtain ⟨M2,O2,hL⟩:=HM2.o;have hq:w.heap.size+1<V.heap.size:=HK.o.2.2.1.lt;have hq2:V.heap.size<=w5.heap.size:=HK5.o.1.size;have hbV:=HK.o.1;have hne:=HNE.o;subst hne;have T:=cP w6 (w.heap.size+1) (qS a n cap) (qI s) (qI c) (qI k) (qI d) (qI 0) (qS (qP gk) 8 8) (qS a1 n1 e1) (qS a2' n2 e2) (qS a3 n3 e3) (qI 0) (qI (-1)) (qS (qP gl) s.toNat s.toNat) (qS (qP gf) 0 0) (qI 0);have hk6:=aA T F6 (show gf≠w.heap.size+1 by omega);refine aG7 (aI (hbV.trans (B6.mono hbV.size)) T (fun j hj=>by omega) (xM hbV.size B6.size)) HFb.o (O6.turn T (fun j hj=>by omega)) (L6.trans hL) (by rw [HLy.o];exact N6.turn T (fun j hj=>by omega)) ⟨by simp,.inr ⟨gf,0,#[],rfl,f6,hk6,aL,xC _,rfl,rfl⟩⟩ (xM hbV.size hq2) aL (fun h=>h.elim)
