import Derived.Test.YtncccmeomcaabaaGreatP20
import Derived.Test.YtncccmeomcaabaaGreatP23
import Derived.Test.YtncccmeomcaabaaGreatP24
import Derived.Test.YtncccmeomcaabaaGreatP25
set_option linter.all false
set_option maxHeartbeats 8000000
namespace Go.Proofs.YtncccmeomcaabaaGreat
open Go.RowKit Classical
open Go.Proofs.Tryz
set_option maxRecDepth 100000
variable {C:Cn}{G g:Nat}{M:Mn}{cs:Array Value}
theorem aFr {P:Program}{f:FuncId}{fn:Func}{c:Code}{args:Array Value}{w:qw}{R:Ending->World->Prop}(hf:P.funcs[f]?=some fn)(hb:fn.body=some c)(h:c.wp P (bodyPost P fn R) { tmps:=args++Array.replicate (fn.ntmps-args.size) undef,defers:=[] } w):Calls P f args w R/\∀ u,CallsD P f args u w fun e u' w'=>u'=u/\R e w':=⟨calls_of_wp hf hb h,fun u=>callsD_of_wp hf hb h⟩
theorem MxO.gm {W W':qw}{base mid:Nat}{Ls:List (PMod×Mb)}{β:Nat->Nat}(h:MxO W base mid C M Ls β)(kb:Blk W G cs 110)(hg:mid<=G)(T:Turn (fun j=>j=G) W W'):MxO W' base mid C M Ls β:=
 ⟨h.upd T (fun j hj=>by subst hj;exact ⟨hg,cs,_,kb,by decide,by decide⟩),h.e,aX T h.k (aU kb h.k.1 (by decide)),eC h.q T (fun j hj=>by
  rcases hj with q|q|q
  .exact aU kb h.q.1.1 (by decide) j q
  .exact aU kb h.q.2.1.1 (by decide) j q
  .exact aU kb h.q.2.2.1.1 (by decide) j q),h.l.kept T (aU kb h.l (by decide)),h.h.kept T (aU kb h.h (by decide)),h.bm,h.bh,h.vs,h.vz⟩
theorem Mg.put {w1 W:qw}{Y:Lyb}{v13 vr:Value}(h:Mg w1 W G Y C M v13 vr)(i:Nat)(v:Value){M':Mn}{C':Cn}{v13' vr':Value}(e:(#[qS M.ma M.mn M.mc,qI M.cs,qI M.cw,qI M.ck,qI M.cd,qI M.pc,qS M.ka M.kn M.kc,qS M.fa M.fn M.fc,qS M.ra M.rn M.rc,qS M.oa M.on M.oc,qI M.md,qI M.bk,qS M.la M.ln M.lc,v13,qI M.tn,qS Y.a0 Y.xs.length Y.c0,qI Y.L.stack,qS Y.a2 Y.L.slots.length Y.c2,qI Y.L.flash,qI Y.L.ram,qS Y.a5 Y.ts.length Y.c5,qI M.cd,qS M.ha M.hn M.hc,vr]:Array Value).setIfInBounds i v=#[qS M'.ma M'.mn M'.mc,qI M'.cs,qI M'.cw,qI M'.ck,qI M'.cd,qI M'.pc,qS M'.ka M'.kn M'.kc,qS M'.fa M'.fn M'.fc,qS M'.ra M'.rn M'.rc,qS M'.oa M'.on M'.oc,qI M'.md,qI M'.bk,qS M'.la M'.ln M'.lc,v13',qI M'.tn,qS Y.a0 Y.xs.length Y.c0,qI Y.L.stack,qS Y.a2 Y.L.slots.length Y.c2,qI Y.L.flash,qI Y.L.ram,qS Y.a5 Y.ts.length Y.c5,qI M'.cd,qS M'.ha M'.hn M'.hc,vr'])(hm:∀ {X:qw} {base mid:Nat} {Ls:List (PMod×Mb)} {β:Nat->Nat},MxO X base mid C M Ls β->MxO X base mid C' M' Ls β):Mg w1 (W.setCell (qR G i) v) G Y C' M' v13' vr':=by
 have T:=aC W G i v;obtain ⟨base,mid,Ls,β,m,h1,h2⟩:=h.m;have k:=h.k.set i v;rw [e] at k;exact ⟨aG h.b T (fun j hj=>by have:=h.g;omega) h.b.size,h.g,k,⟨base,mid,Ls,β,hm (m.gm h.k h2 T),h1,h2⟩,h.l⟩
def gkd (ty:TypeId):Prop:=ty=5\/ty=110\/ty=142\/ty=3
def TGx (W W':qw):Prop:=Turn (fun j=>∃ cs ty,Blk W j cs ty/\gkd ty) W W'
theorem TGx.trans {A B C:qw}(h:TGx A B)(k:TGx B C):TGx A C:=
 ⟨k.os.trans h.os,k.tape.trans h.tape,k.output.trans h.output,xM h.size k.size,fun j hj hs=>by
  have e:=h.block j hj hs
  exact (k.block j (Nat.lt_of_lt_of_le hj h.size) (fun ⟨cs,ty,kb,q⟩=>hs ⟨cs,ty,e.symm.trans kb,q⟩)).trans e⟩
theorem cF {W W':qw}(h:qY W W'):TGx W W':=aJ h
theorem iW {S:Nat->Prop}{W W':qw}(t:Turn S W W')(h:∀ j,S j->∃ cs ty,Blk W j cs ty/\gkd ty):TGx W W':=t.mono h
theorem TGx.blk {W W':qw}{ty:TypeId}(t:TGx W W')(k:Blk W g cs ty)(h:¬ gkd ty):Blk W' g cs ty:=aF t k (fun ⟨c,y,kb,q⟩=>h (by rw [aI k kb];exact q))
def rgR:Rg:=(65536,14,0,false,true,false)
theorem aMa (a:Int)(h0:65536<=a)(h1:a<81920):fP [rgR] a 2 1=true:=by
 have e1:aFd rgR a=true:=by
  unfold aFd rgR hs;simp;omega
 show (if aFd ([rgR].getD 0 z6) a then aK0 ([rgR].getD 0 z6) 2 else fP [rgR] a 2 0)=true;rw [show ([rgR].getD 0 z6)=rgR from rfl,e1];rfl
theorem aMb (a:Int)(h0:65536<=a)(h1:a+4<=81920):alw [rgR] 1 a 4 2=true:=by
 have e1:okB [rgR] 1=true:=by decide
 have e2:upB [rgR] a 2 1 (4:Int).toNat=true:=zD.2 (fun i hi=>by
  have hi:i<4:=hi;have:wrap64 (a+i)=a+i:=by unfold wrap64;omega
  rw [this]
  exact aMa _ (by omega) (by omega))
 unfold alw;rw [e1,e2];rfl
theorem aPw {W:qw}(k:Blk W g #[qI 65536,qI 14,qI 0,.bool false,.bool true,.bool false] 214):RS W (qP g) 1 1 [rgR]:=by
 refine ⟨rfl,by decide,fun g hg=>?_,fun _=>⟨g,0,rfl,fun i hi=>?_⟩,aN⟩
 .simp at hg;subst hg;unfold rgR wfi;simp
 .obtain rfl:i=0:=by omega
  exact ⟨k.cell 0,k.cell 1,k.cell 2,k.cell 3,k.cell 4,k.cell 5⟩
theorem aHt (w1:qw)(G:Nat)(Y:Lyb)(C:Cn)(M:Mn)(v13 vr:Value)(w:qw)(h:Mg w1 w G Y C M v13 vr):qC 128 #[.pointer (qP G)] w fun e w'=>e=.returned (.tuple #[])/\∃ g,Mg w1 w' G Y C M v13 (qS (qP g) 1 1)/\Blk w' g #[qI 65536,qI 14,qI 0,.bool false,.bool true,.bool false] 214/\TGx w w':=by
 obtain ⟨V,hV,bV,kV⟩:=nwb w #[qI 65536,qI 14,qI 0,.bool false,.bool true,.bool false] 214;have hv:=h.bw bV;have x23:=hv.k.cell 23;have f23:=hv.k.frozen 23;have hg:G<w.heap.size:=h.k.lt;have HE:Zh (Mg w1 (V.setCell (qR G 23) (qS (qP w.heap.size) 1 1)) G Y C M v13 (qS (qP w.heap.size) 1 1)/\Blk (V.setCell (qR G 23) (qS (qP w.heap.size) 1 1)) w.heap.size #[qI 65536,qI 14,qI 0,.bool false,.bool true,.bool false] 214/\TGx w (V.setCell (qR G 23) (qS (qP w.heap.size) 1 1))):=⟨hv.put 23 _ rfl (fun x=>x),kV.other (qR G 23) (qS (qP w.heap.size) 1 1) (by dsimp only;omega),(cF bV).trans (iW (aC _ G 23 _) (fun j hj=>by subst hj;exact ⟨_,_,hv.k,.inr (.inl rfl)⟩))⟩;have HV:=zh hV;clear hV bV kV hv h;go_enter func128,ntmps128
 go_wp2_with (rw [<- HV.o])
 go_end0
 exact ⟨rfl,w.heap.size,HE.o.1,HE.o.2.1,HE.o.2.2⟩
structure Cz (C:Cn)(L:Lay):Prop where
 l:Lok C.ps L
 n:C.ps.length<=4
 p:0<=pcq C.ps C.md C.bk
 s:hld C.lz C.md C.bk=-1\/(C.bk≠-1/\0<=hld C.lz C.md C.bk/\hld C.lz C.md C.bk<(L.slots.length:Int))
def LwP (w1 w:qw)(G:Nat)(Y:Lyb)(C:Cn)(M:Mn)(v13:Value)(e:Ending)(w':qw):Prop:=e=.returned (.tuple #[])/\∃ A k c,Mg w1 w' G Y C M v13 (qS A k c)/\RS w' A k c (if (plR C.ps Y.L C.md C.bk (hld C.lz C.md C.bk)).length<=8 then plR C.ps Y.L C.md C.bk (hld C.lz C.md C.bk) else [])/\Turn (fun j=>j=G) w w'
theorem oH (w1:qw)(G:Nat)(Y:Lyb)(C:Cn)(M:Mn)(v13 vr:Value)(w:qw)(h:Mg w1 w G Y C M v13 vr)(hz:Cz C Y.L):qC 91 #[.pointer (qP G)] w (LwP w1 w G Y C M v13)/\∀ u,CallsD prog 91 #[.pointer (qP G)] u w fun e u' w'=>u'=u/\LwP w1 w G Y C M v13 e w':=by
 obtain ⟨⟨_,_,_,_,_,e6,e7,_⟩,e9,_⟩:=h.vs;have HPI:=zh (fun (X:qw) (hX:qY w X)=>(aHx w1 G Y C M v13 vr X (h.bw hX)).mono (fun e w' he=>show e=.returned (.agg (qT M.md M.bk 0))/\qY w w' from ⟨he.1,hX.trans (he.2.mono hX.size)⟩));have HSL:=zh (fun (X:qw) (hX:qY w X)=>(aB6 w1 G Y C M v13 vr X (h.bw hX)).mono (fun e w' he=>show e=.returned (qI (hld C.lz M.md M.bk))/\qY w w' from ⟨he.1,hX.trans (he.2.mono hX.size)⟩))
 have HPO:=zh (fun (X:qw) (hX:qY w X)=>(sG M.ma M.mn M.mc M.ms Y.L Y.a0 Y.c0 Y.xs Y.a2 Y.c2 Y.a5 Y.c5 Y.ts M.md M.bk 0 (hld C.lz M.md M.bk) X ((h.bw hX).mnd hz.n).m (h.bw hX).ly (by rw [e9];exact hz.l) (by rw [e9,e6,e7];exact hz.p) (by rw [e6,e7];exact hz.s)).mono (fun e w' he=>show ∃ A k c q,e=.returned (.tuple #[qS A k c,.bool q])/\qY w w'/\((w'.setCell (qR G 23) (qS A k c)).cell? (qR G 0)=some (qS M.ma M.mn M.mc)/\(w'.setCell (qR G 23) (qS A k c)).cell? (qR G 15)=some (qS Y.a0 Y.xs.length Y.c0)/\(w'.setCell (qR G 23) (qS A k c)).cell? (qR G 16)=some (qI Y.L.stack)/\(w'.setCell (qR G 23) (qS A k c)).cell? (qR G 17)=some (qS Y.a2 Y.L.slots.length Y.c2)/\(w'.setCell (qR G 23) (qS A k c)).cell? (qR G 18)=some (qI Y.L.flash)/\(w'.setCell (qR G 23) (qS A k c)).cell? (qR G 19)=some (qI Y.L.ram)/\(w'.setCell (qR G 23) (qS A k c)).cell? (qR G 20)=some (qS Y.a5 Y.ts.length Y.c5))/\(w'.cell? (qR G 23)=some vr/\w'.frozen? (qR G 23)=false)/\LwP w1 w G Y C M v13 (.returned (.tuple #[])) (w'.setCell (qR G 23) (qS A k c)) from by
  obtain ⟨A,k,c,he,ho,hb⟩:=he;have hB:=hX.trans (hb.mono hX.size);have hg:=(h.bw hB);rw [e9,e6,e7] at ho;refine ⟨A,k,c,_,he,hB,⟨(hg.put 23 (qS A k c) (vr':=qS A k c) rfl (fun x=>x)).k.cell 0,(hg.put 23 (qS A k c) (vr':=qS A k c) rfl (fun x=>x)).k.cell 15,(hg.put 23 (qS A k c) (vr':=qS A k c) rfl (fun x=>x)).k.cell 16,(hg.put 23 (qS A k c) (vr':=qS A k c) rfl (fun x=>x)).k.cell 17,(hg.put 23 (qS A k c) (vr':=qS A k c) rfl (fun x=>x)).k.cell 18,(hg.put 23 (qS A k c) (vr':=qS A k c) rfl (fun x=>x)).k.cell 19,(hg.put 23 (qS A k c) (vr':=qS A k c) rfl (fun x=>x)).k.cell 20⟩,⟨hg.k.cell 23,hg.k.frozen 23⟩,rfl,A,k,c,hg.put 23 _ rfl (fun x=>x),?_,(aJ hB).trans (aC _ G 23 _)⟩;have T:=aC w' G 23 (qS A k c);refine fA (eX T ho (fun j hj e=>?_));subst e;have h1:=(World.ownsRow.lt ho.1 _ hj).1;have h2:=h.k.lt;have h3:=hX.size
  omega))
 have HC:=zh (fun (X:qw) (hX:qY w X)=>show X.cell? (qR G 0)=some (qS M.ma M.mn M.mc)/\X.cell? (qR G 15)=some (qS Y.a0 Y.xs.length Y.c0)/\X.cell? (qR G 16)=some (qI Y.L.stack)/\X.cell? (qR G 17)=some (qS Y.a2 Y.L.slots.length Y.c2)/\X.cell? (qR G 18)=some (qI Y.L.flash)/\X.cell? (qR G 19)=some (qI Y.L.ram)/\X.cell? (qR G 20)=some (qS Y.a5 Y.ts.length Y.c5) from ⟨(h.bw hX).k.cell 0,(h.bw hX).k.cell 15,(h.bw hX).k.cell 16,(h.bw hX).k.cell 17,(h.bw hX).k.cell 18,(h.bw hX).k.cell 19,(h.bw hX).k.cell 20⟩);generalize hld C.lz M.md M.bk=s at *;obtain ⟨x0,x15,x16,x17,x18,x19,x20⟩:=HC.o w brf;clear h hz e6 e7 e9;refine aFr func91 rfl ?_;simp only [ntmps91,List.size_toArray,List.length_cons,List.length_nil,Nat.reduceAdd,Nat.reduceSub,Array.replicate_succ,Array.replicate_zero,List.push_toArray,List.append_toArray,List.nil_append,List.cons_append];go_wp2_with fail
 go_region_held3 (fun w'=>w'.cell? (qR G 0)=some (qS M.ma M.mn M.mc)/\w'.cell? (qR G 15)=some (qS Y.a0 Y.xs.length Y.c0)/\w'.cell? (qR G 16)=some (qI Y.L.stack)/\w'.cell? (qR G 17)=some (qS Y.a2 Y.L.slots.length Y.c2)/\w'.cell? (qR G 18)=some (qI Y.L.flash)/\w'.cell? (qR G 19)=some (qI Y.L.ram)/\w'.cell? (qR G 20)=some (qS Y.a5 Y.ts.length Y.c5)) (go_keep)
  (first
    | (go_at_call 162;refine (HPI.o _ (by first|exact brf|exact brf.drew|exact hbs)).mono ?_
       rintro e w2 ⟨rfl,hbp⟩
       obtain ⟨p0,p15,p16,p17,p18,p19,p20⟩:=HC.o w2 hbp)
    | (go_at_call 131;refine (HSL.o _ (by first|exact brf|exact brf.drew|exact hbp)).mono ?_
       rintro e w3 ⟨rfl,hbs⟩
       obtain ⟨s0,s15,s16,s17,s18,s19,s20⟩:=HC.o w3 hbs)
    | (go_at_call 161;first
        | with_reducible refine (HPO.o _ hbs).mono ?_
        | with_reducible refine (HPO.o _ hbp).mono ?_
       rintro e w4 ⟨A,k,c,q,rfl,hb4,⟨m0,m15,m16,m17,m18,m19,m20⟩,⟨y23,yf⟩,hE⟩;obtain ⟨q0,q15,q16,q17,q18,q19,q20⟩:=HC.o w4 hb4;have HE:=zh hE
       clear hE))
 all_goals
  go_wp2
  go_end0
  exact HE.o
theorem aG7 (w1:qw)(G g:Nat)(Y:Lyb)(C:Cn)(M:Mn)(v13:Value)(p v:Int)(w:qw)(h:Mg w1 w G Y C M v13 (qS (qP g) 1 1))(hr:Blk w g #[qI 65536,qI 14,qI 0,.bool false,.bool true,.bool false] 214)(hm:mok C.fz.length C.rz.length C.oz.length=true)(h0:65536<=p)(h1:p+4<=65536+C.rz.length)(ha:p%4=0)(hv:wfi v):
 qC 203 #[.pointer (qP G),qI p,qI v] w fun e w'=>e=.returned (.tuple #[])/\∃ oa on oc,Mg w1 w' G Y { C with rz:=put C.rz (p-65536).toNat v 4 } { M with rz:=put C.rz (p-65536).toNat v 4,oa:=oa,on:=on,oc:=oc,oz:=C.oz } v13 (qS (qP g) 1 1)/\TGx w w':=by
 have hm':=hm;unfold mok at hm';simp at hm';have HAL:=zh (aA6 (qP g) 1 1 [rgR] p 4 2 w (aPw hr) (by unfold wfi;omega));rw [aMb p h0 (by omega)] at HAL
 have HWI:=zh (fun (X:qw) (hX:qY w X)=>show qC 223 #[.pointer (some (qR G 7)),qI p,qI 4,qI v] X (fun e w'=>∃ r,e=.returned (qI r)/\∃ oa on oc,Mg w1 w' G Y { C with rz:=put C.rz (p-65536).toNat v 4 } { M with rz:=put C.rz (p-65536).toNat v 4,oa:=oa,on:=on,oc:=oc,oz:=C.oz } v13 (qS (qP g) 1 1)/\TGx w w') from by
  have hx:=h.bw hX;obtain ⟨base,mid,Ls,β,m,m1,m2⟩:=hx.m;have l1:=eE m.q.1;have l2:=eE m.q.2.1;have l3:=eE m.q.2.2.1
  have hW:=yX M.fa M.ra M.oa M.fn M.fc M.rn M.rc M.on M.oc G 7 mid (p-65536).toNat _ 110 C.fz C.rz C.oz p v X hx.k rfl rfl rfl m.q (fun u hu e=>by
   rcases hu with rfl|rfl|rfl
   .exact aU hx.k m.q.1.1 (by decide) G e rfl
   .exact aU hx.k m.q.2.1.1 (by decide) G e rfl
   .exact aU hx.k m.q.2.2.1.1 (by decide) G e rfl) (by have:=hx.k.lt;omega) hv (by omega) (by omega) (by omega) (by rw [l1,l2,l3];exact hm) ha
  refine hW.mono fun e w' he=>?_;obtain ⟨oa,on,oc,e1,k1,q1,_,T⟩:=he
  have hS:∀ j,(j=G\/(qS M.ra M.rn M.rc).ownBlock=some j\/(qS M.oa M.on M.oc).ownBlock=some j)->mid<=j/\∃ cs ty,Blk X j cs ty/\(ty=5\/ty=110\/ty=43):=fun j hj=>by
   rcases hj with rfl|hj|hj
   .exact ⟨m2,_,_,hx.k,.inr (.inl rfl)⟩
   .obtain ⟨cs,kb⟩:=aE m.q.2.1.1 hj;exact ⟨(m.q.2.1.lt j hj).1,cs,_,kb,.inl rfl⟩
   .obtain ⟨cs,kb⟩:=aE m.q.2.2.1.1 hj;exact ⟨(m.q.2.2.1.lt j hj).1,cs,_,kb,.inl rfl⟩
  refine ⟨_,e1,oa,on,oc,⟨aG hx.b T (fun j hj=>by have:=(hS j hj).1;have:=m.bm;omega) hx.b.size,h.g,k1,⟨base,mid,Ls,β,m.mem T hS q1,m1,m2⟩,h.l⟩,(cF hX).trans (iW T (fun j hj=>by
   obtain ⟨_,cs,ty,kb,q⟩:=hS j hj
   exact ⟨cs,ty,kb,by rcases q with q|q|q;exact .inl q;exact .inr (.inl q);exact absurd q (by
    rintro rfl;rcases hj with rfl|hj|hj
    .have:=aI hx.k kb;revert this;decide
    .obtain ⟨c2,k2⟩:=aE m.q.2.1.1 hj;have:=aI k2 kb;revert this;decide
    .obtain ⟨c2,k2⟩:=aE m.q.2.2.1.1 hj;have:=aI k2 kb;revert this;decide)⟩))⟩)
 have x23:=h.k.cell 23;clear h hr hm hm';go_enter func203,ntmps203
 go_wp2_with fail
 refine HAL.o.mono ?_;rintro e w2 ⟨rfl,hb2⟩;have HB:=zh hb2;clear hb2 HAL;go_wp2_with fail
 refine (HWI.o w2 HB.o).mono ?_;rintro e w3 ⟨r,rfl,hE⟩;have HE:=zh hE;clear hE HWI;go_wp2
 go_end0
 exact ⟨rfl,HE.o⟩
theorem aK9 (w1:qw)(G g:Nat)(Y:Lyb)(C:Cn)(M:Mn)(v13:Value)(s:Nat)(ba:qO)(bn bc:Nat)(ws:qi)(w:qw)(h:Mg w1 w G Y C M v13 (qS (qP g) 1 1))(hr:Blk w g #[qI 65536,qI 14,qI 0,.bool false,.bool true,.bool false] 214)(hm:mok C.fz.length C.rz.length C.oz.length=true)(hc:1<=C.cw/\C.cw<=64)(hs:s<Y.L.slots.length)(h0:65536<=Y.L.slots.getD s 0)(h1:(Y.L.slots.getD s 0-65536).toNat+slz C.cw<=C.rz.length)(ha:Y.L.slots.getD s 0%4=0)
 (hi:∀ {X:qw} {C':Cn} {M':Mn} {vr':Value},Mg w1 X G Y C' M' v13 vr'->M'.ms=M.ms->C'.ps=C.ps->IS X ba bn bc ws):
 qC 178 #[.pointer (qP G),qI s,qS ba bn bc] w fun e w'=>e=.returned (.tuple #[])/\∃ oa on oc,Mg w1 w' G Y { C with rz:=bL C.rz (Y.L.slots.getD s 0-65536).toNat ws (slz C.cw/4) } { M with rz:=bL C.rz (Y.L.slots.getD s 0-65536).toNat ws (slz C.cw/4),oa:=oa,on:=on,oc:=oc,oz:=C.oz } v13 (qS (qP g) 1 1)/\TGx w w':=by
 have hm':=hm;unfold mok at hm';simp at hm';obtain ⟨z1,z2,z3⟩:=fI hc.1 hc.2;have hz4:4*(slz C.cw/4)=slz C.cw:=by unfold rnd at z1;omega
 obtain ⟨N,hN⟩:=eqx (slz C.cw/4);obtain ⟨f,hf⟩:=eqx ((Y.L.slots.getD s 0-65536).toNat);obtain ⟨A,hA⟩:=eqx (Y.L.slots.getD s 0);rw [<- hA] at hf ha h0;rw [<- hN,<- hA,<- hf];rw [<- hA,<- hf] at h1;obtain ⟨gs,os,ea,hcs⟩:=h.ly.s.2.2.2.1 (by omega);have hsx:=h.ly.s.2.1;unfold maxLen at hsx
 have HSS:=zh (fun (X:qw) (hX:qY w1 X)=>show X.cell? (qR gs (os+s))=some (qI A) from by
  obtain ⟨gs',os',ea',hc'⟩:=(h.l.bw hX).s.2.2.2.1 (by omega);rw [ea] at ea';cases ea'
  rw [hA]
  exact hc' s (by omega))
 have e2:=h.vs.1.2.1;have HSZ:=zh (fun (X:qw)=>iZ M.cs M.cw M.ck M.cd X (by rw [e2];exact hc.1) (by rw [e2];exact hc.2));rw [e2] at HSZ
 have HWR:=zh (fun (k:Nat) (X:qw) (oa:qO) (on oc:Nat) (hk:k<N) (hX:Mg w1 X G Y { C with rz:=bL C.rz f ws k } { M with rz:=bL C.rz f ws k,oa:=oa,on:=on,oc:=oc,oz:=C.oz } v13 (qS (qP g) 1 1)) (hrx:Blk X g #[qI 65536,qI 14,qI 0,.bool false,.bool true,.bool false] 214)=>show qC 203 #[.pointer (qP G),qI (A+4*k),qI (ws.getD k 0)] X (fun e w'=>e=.returned (.tuple #[])/\∃ oa on oc,Mg w1 w' G Y { C with rz:=bL C.rz f ws (k+1) } { M with rz:=bL C.rz f ws (k+1),oa:=oa,on:=on,oc:=oc,oz:=C.oz } v13 (qS (qP g) 1 1)/\TGx X w') from by
  have hlz:(bL C.rz f ws k).length=C.rz.length:=eZ _ _ _ _
  have hw:wfi (ws.getD k 0):=by
   have q:=hi hX rfl rfl;by_cases e:k<ws.length
   .exact q.2.2.1 _ (by simp [xB,e])
   .rw [xB,xO (by omega)];unfold wfi;simp
  have:=aG7 w1 G g Y { C with rz:=bL C.rz f ws k } { M with rz:=bL C.rz f ws k,oa:=oa,on:=on,oc:=oc,oz:=C.oz } v13 (A+4*k) (ws.getD k 0) X hX hrx (by show mok _ (bL C.rz f ws k).length _=true;rw [hlz];exact hm) (by omega) (by show _<=65536+((bL C.rz f ws k).length:Int);rw [hlz];omega) (by omega) hw;rw [show (A+4*(k:Int)-65536).toNat=f+4*k by omega] at this
  exact this)
 have HI:=zh (fun (k:Nat) (X:qw) (oa:qO) (on oc:Nat) (hX:Mg w1 X G Y { C with rz:=bL C.rz f ws k } { M with rz:=bL C.rz f ws k,oa:=oa,on:=on,oc:=oc,oz:=C.oz } v13 (qS (qP g) 1 1))=>hi hX rfl rfl);have HZZ:=zh (xA z1 (xA z2 hz4));have hNs:((slz C.cw:Nat):Int).tdiv 4=(N:Nat):=by rw [Int.tdiv_eq_ediv_of_nonneg (by omega)];omega
 have hNb:N<=64:=by omega
 have hA1:A<=100000:=by omega
 have hbnx:=(hi h rfl rfl).2.1;have hbl:=(hi h rfl rfl).1;unfold maxLen at hbnx
 have HS:=zh (show Mg w1 w G Y { C with rz:=bL C.rz f ws 0 } { M with rz:=bL C.rz f ws 0,oa:=M.oa,on:=M.on,oc:=M.oc,oz:=C.oz } v13 (qS (qP g) 1 1) from by
  have e:M.rz=C.rz/\M.oz=C.oz:=by obtain ⟨_,_,_,_,m,_⟩:=h.m;exact ⟨m.vz.2.2.2.1,m.vz.2.2.2.2.1⟩
  have:=h;rw [show M={ M with rz:=C.rz,oa:=M.oa,on:=M.on,oc:=M.oc,oz:=C.oz } by rw [<- e.1,<- e.2]] at this
  exact this)
 have HK:=zh hr;obtain ⟨x1,x2,x3,x4⟩:=show w.cell? ⟨G,1,none⟩=some (qI M.cs)/\w.cell? ⟨G,2,none⟩=some (qI M.cw)/\w.cell? ⟨G,3,none⟩=some (qI M.ck)/\w.cell? ⟨G,4,none⟩=some (qI M.cd) from ⟨h.k.cell 1,h.k.cell 2,h.k.cell 3,h.k.cell 4⟩;rw [e2] at x2;clear h hr hm hm' hi hcs z1 z2 z3 hz4 hN hf hA e2 h1 hc ha;generalize slz C.cw=Z at *;go_enter func178,ntmps178
 go_wp2_with fail
 refine (HSZ.o w).mono ?_;rintro e wa ⟨rfl,hba⟩;have HSa:=zh (HS.o.bw hba);have HKa:=zh (cF hba);clear x1 x2 x3 x4 hba HS HSZ;go_wp2_with fail
 go_loopw [15] (fun i wr=>∃ (k:Nat) (oa:qO) (on oc:Nat),k<=N/\i=qI k/\Mg w1 wr G Y { C with rz:=bL C.rz f ws k } { M with rz:=bL C.rz f ws k,oa:=oa,on:=on,oc:=oc,oz:=C.oz } v13 (qS (qP g) 1 1)/\TGx w wr) (qf N)
 .exact ⟨0,_,_,_,xC _,rfl,HSa.o,HKa.o⟩
 .obtain ⟨k,oa,on,oc,hk,rfl,hg,hr⟩:=hrel;clear HSa HKa;by_cases hlt:k<N
  .have hlt':(k:Int)<(N:Int):=by omega
   have x17:wr.cell? (qR G 17)=some (qS Y.a2 Y.L.slots.length Y.c2):=hg.k.cell 17;rw [ea] at x17;have xs:=HSS.o wr hg.b;have HC:=zh (HWR.o k wr oa on oc hlt hg (hr.blk HK.o (by unfold gkd;decide)));have HTR:=zh hr;have hss:(s:Int)<(Y.L.slots.length:Int):=by omega
   have hs0:(0:Int)<=(s:Int):=by omega
   by_cases c1:k<bn
   .have c1':(k:Int)<(bn:Int):=by omega
    obtain ⟨gb,ob,eb,hcb⟩:=(HI.o k wr oa on oc hg).2.2.2.1 (by omega);have xb:=hcb k c1;generalize ws.getD k 0=z at *;subst eb;clear hg hr hcb;go_wp2_with fail
    refine HC.o.mono ?_;rintro e wb ⟨rfl,oa',on',oc',hg',hr'⟩;have HE:=zh (xA hg' (HTR.o.trans hr'));clear hg' hr' x17 xs xb HC;go_wp2
    go_roundw
    .exact ⟨k+1,oa',on',oc',by omega,by go_num,HE.o⟩
    .simp [qf,intOf];omega
   .have c1':¬ (k:Int)<(bn:Int):=by omega
    have ez:ws.getD k 0=0:=by rw [xB,xO (by omega)];rfl
    rw [ez] at HC;clear hg hr ez;go_wp2_with fail
    refine HC.o.mono ?_;rintro e wb ⟨rfl,oa',on',oc',hg',hr'⟩;have HE:=zh (xA hg' (HTR.o.trans hr'));clear hg' hr' x17 xs HC;go_wp2
    go_roundw
    .exact ⟨k+1,oa',on',oc',by omega,by go_num,HE.o⟩
    .simp [qf,intOf];omega
  .obtain rfl:k=N:=by omega
   have HE:=zh (xA hg hr);clear hg hr;go_wp2
   go_end0
   exact ⟨rfl,oa,on,oc,HE.o⟩
theorem aF5 (L:Lay)(b s:Int):s∈slF L b ↔ sOk L b s:=by
 unfold slF sOk;by_cases c:b=-1\/L.slots=[]
 .rw [if_pos c,if_pos c];simp
 .rw [if_neg c,if_neg c];simp only [List.mem_map,List.mem_range];constructor
  .rintro ⟨i,hi,rfl⟩;omega
  .intro h;exact ⟨s.toNat,by omega,by omega⟩
theorem aId {ps:List PMod}{L:Lay}(h:Lok ps L):L.slots.length<=4:=by
 obtain ⟨hc,_⟩:=fY h.1;unfold cfo at hc;simp at hc;omega
theorem zU (L:Lay)(a0:qO)(c0:Nat)(xs:List PB)(a2:qO)(c2:Nat)(a5:qO)(c5:Nat)(ts:List TB)(b:Int)(w:qw)(h:LyT w L a0 c0 xs a2 c2 a5 c5 ts)(hl:L.slots.length<=4):
 qC 189 #[.agg (qJ L a0 xs c0 a2 c2 a5 ts c5),qI b] w fun e w'=>∃ a n c,e=.returned (qS a n c)/\IS w' a n c (slF L b)/\qY w w':=by
 by_cases c:b=-1\/L.slots=[]
 .exact (zR L a0 c0 xs a2 c2 a5 c5 ts b w h c).mono fun e w' ⟨a,c,he,hi,hb⟩=>⟨a,_,c,he,hi,hb⟩
 .refine (vH L a0 c0 xs a2 c2 a5 c5 ts b L.slots.length w (fun e=>c (.inl e)) (fun e=>c (.inr (xE e))) (by omega)).mono ?_;rintro e w' ⟨g,rfl,hr,hb⟩;have e2:slF L b=upN L.slots.length:=by unfold slF upN;rw [if_neg c]
  rw [e2];refine ⟨_,_,_,rfl,⟨lB _,by unfold maxLen;omega,fun z hz=>?_,fun _=>⟨g,0,rfl,fun i hi=>?_⟩,aN⟩,hb⟩
  .simp only [upN,List.mem_map,List.mem_range] at hz;obtain ⟨i,hi,rfl⟩:=hz;unfold wfi;omega
  .rw [Nat.zero_add];exact hr.cell i (by rw [lB];exact hi)
