import Derived.Test.YtcimaholejajpaaGreatF10
import Derived.Test.YtcimaholejajpaaGreatF11
import Derived.Test.YtcimaholejajpaaGreatF13
set_option linter.all false
set_option maxHeartbeats 16000000
namespace Go.Proofs.YtcimaholejajpaaGreat
open Go.RowKit
set_option maxRecDepth 100000
variable {S:Nat->Prop}{base base' g n:Nat}{bl:List Bk}{v:Value}{β:Nat->Nat}
structure Mb where
 a1:qO
 c1:Nat
 a2:qO
 c2:Nat
 bl:List Bk
 a3:qO
 c3:Nat
 a5:qO
 c5:Nat
 a6:qO
 c6:Nat
 a7:qO
 c7:Nat
abbrev MOb (W:qw)(base:Nat)(x:PMod×Mb):Prop:=ModO W base x.1 x.2.a1 x.2.c1 x.2.a2 x.2.c2 x.2.bl x.2.a3 x.2.c3 x.2.a5 x.2.c5 x.2.a6 x.2.c6 x.2.a7 x.2.c7
def hdP (x:PMod×Mb):Hd×Ct:=(⟨x.2.a1,x.1.tz.length,x.2.c1,x.2.a2,x.2.bl.length,x.2.c2,bkF x.2.bl,x.2.a3,x.1.dz.length,x.2.c3,x.2.a5,x.1.rz.length,x.2.c5,x.2.a6,x.1.ss.length,x.2.c6,x.2.a7,x.1.es.length,x.2.c7⟩,⟨x.1.nm,x.1.tz,bkX x.2.bl,x.1.dz,x.1.bss,x.1.rz,x.1.ss,x.1.es⟩)
def clB (x:PMod×Mb):List Value:=clH (hdP x)
def mdP (x:PMod×Mb):Md:=⟨x.1.nm,x.2.a1,x.1.tz.length,x.2.c1,x.1.tz,x.2.a2,x.2.bl.length,x.2.c2,x.2.bl,x.2.a3,x.1.dz.length,x.2.c3,x.1.dz,x.1.bss,x.2.a5,x.1.rz.length,x.2.c5,x.1.rz,x.2.a6,x.1.ss.length,x.2.c6,x.1.ss,x.2.a7,x.1.es.length,x.2.c7,x.1.es⟩
theorem ModO.keptS {W W':qw}{x:PMod×Mb}(h:MOb W base x)(ht:Turn S W W')(hS:∀ {t:TypeId} {sz n:Nat} {v:Value} {xs:List Value},W.ownsRow base t sz v n xs->t≠53->∀ k,v.ownBlock=some k->¬ S k):MOb W' base x:=by
 have row:∀ {t:TypeId} {sz n:Nat} {v:Value} {xs:List Value},W.ownsRow base t sz v n xs->t≠53->W'.ownsRow base t sz v n xs:=fun {t} {sz} {n} {v} {xs} ho hne=>by
  have hk:=hS ho hne;obtain ⟨hl,h0|⟨g,cap,cur,hv,hg,hh,h1,h2,h3,h4⟩⟩:=ho
  .exact ⟨hl,.inl h0⟩
  .exact ⟨hl,.inr ⟨g,cap,cur,hv,hg,aA (w:=W) ht hh (hk g (by rw [hv];rfl)),h1,h2,h3,h4⟩⟩
 exact ⟨row h.t (by decide),⟨row h.b.head (by decide),fun B hB=>⟨(h.b.rows B hB).1,row (h.b.rows B hB).2 (by decide)⟩,h.b.apart⟩,h.bls,⟨row h.d.1 (by decide),h.d.2⟩,row h.r (by decide),row h.i (by decide),row h.e (by decide),h.tb,h.tr,h.br⟩
theorem ModO.blw {W W':qw}{x:PMod×Mb}(h:MOb W base x)(hb:qY W W'):MOb W' base x:=ModO.keptS h (S:=fun _=>False) (aJ hb) (fun _ _ _ _ s=>s)
structure OMp (W:qw)(base:Nat)(v:Value)(L:List (PMod×Mb))(β:Nat->Nat):Prop where
 o:OG 53 8 clB W base v L
 m:∀ (i:Nat) (x:PMod×Mb),L[i]?=some x->MOb W (β i) x/\PmG x.1/\∀ j,Sh (hdP x).1 j->j<β (i+1)
 mono:∀ i k,i<=k->k<=L.length->β i<=β k
 lo:base<=β 0
 hi:β L.length<=W.heap.size
theorem OMp.bw {W W':qw}{L:List (PMod×Mb)}(H:OMp W base v L β)(hb:qY W W'):OMp W' base v L β:=⟨H.o.bw hb,fun i x hx=>⟨ModO.blw (H.m i x hx).1 hb,(H.m i x hx).2⟩,H.mono,H.lo,xM H.hi hb.size⟩
theorem aH1 (L:List (PMod×Mb)):(L.map hdP).flatMap clH=L.flatMap clB:=by
 rw [List.flatMap_map];rfl
theorem OMp.oms {W:qw}{L:List (PMod×Mb)}(H:OMp W base v L β):OMs W base v (L.map hdP) β where
 o:=by
  have o:=H.o;unfold OG at o ⊢;rw [xH,aH1];exact o
 m:=fun i y hy=>by
  rw [List.getElem?_map,Option.map_eq_some_iff] at hy;obtain ⟨x,hx,rfl⟩:=hy;obtain ⟨h1,h2,h3⟩:=H.m i x hx;exact ⟨ModO.m6G h1 h2,h3⟩
 mono:=by rw [xH];exact H.mono
theorem OMp.msd {W:qw}{L:List (PMod×Mb)}(H:OMp W base v L β)(hl:L.length<=1048576):∃ a cap,v=qS a L.length cap/\MSD W a L.length cap (L.map mdP):=by
 obtain ⟨a,cap,rfl⟩:=aO H.o;refine ⟨a,cap,rfl,?_⟩;have hg:∀ i,i<L.length->∃ x,L[i]?=some x/\(L.map mdP).getD i zMd=mdP x:=fun i hi=>⟨L[i],xN hi,by simp [xB,hi]⟩
 have hd:∀ i,i<L.length->((L.map mdP).getD i zMd).md W:=fun i hi=>by
  obtain ⟨x,hx,e⟩:=hg i hi;rw [e];exact ModO.mdG (H.m i x hx).1 (H.m i x hx).2.1
 refine ⟨⟨by simp,by unfold maxLen;omega,fun hn=>?_,fun i hi=>?_,?_⟩,hd⟩
 .obtain ⟨g,cp,e,_⟩:=World.ownsRow.form H.o (by omega);simp only [Value.slice.injEq] at e;obtain ⟨rfl,-,rfl⟩:=e;refine ⟨g,0,rfl,fun i hi=>?_⟩;obtain ⟨x,hx,e⟩:=hg i hi;rw [e,Nat.zero_add]
  have k:∀ j,j<8->∀ u,(clB x)[j]?=some u->W.cell? (qR g (i*8+j))=some u:=fun j hj u hu=>by
   have q:=World.ownsRow.cells H.o (g:=g) rfl _ _ ((yR (fun _=>rfl) L i x hx j hj).trans hu)
   rwa [bZ,Nat.zero_add] at q
  exact ⟨k 0 (by omega) _ rfl,k 1 (by omega) _ rfl,k 2 (by omega) _ rfl,k 3 (by omega) _ rfl,k 4 (by omega) _ rfl,k 5 (by omega) _ rfl,k 6 (by omega) _ rfl,k 7 (by omega) _ rfl⟩
 .obtain ⟨x,hx,e⟩:=hg i hi;have q:=hd i hi;rw [e] at q ⊢;exact aAo q
 .obtain ⟨_,h0|⟨g,cp,cur,hv,_,_,h1,_⟩⟩:=H.o
  .simp at h0;rw [h0.1.2.1];exact xC _
  .simp only [Value.slice.injEq] at hv;omega
theorem OMp.pms {W:qw}{L:List (PMod×Mb)}(H:OMp W base v L β):aF (L.map mdP)=L.map (fun x=>x.1):=by
 unfold aF;rw [List.map_map];apply List.ext_getElem
 .simp
 .intro i h1 h2;simp only [xH] at h1;have hb:=(H.m i L[i] (xN h1)).1.bls;simp only [List.getElem_map,Function.comp];generalize L[i]=x at *;obtain ⟨⟨nm,tz,bl,dz,bss,rz,ss,es⟩,y⟩:=x;simp only [Md.pm,mdP] at hb ⊢;rw [hb]
def bup (β:Nat->Nat)(n a b:Nat)(j:Nat):Nat:=if j<=n then (if j=n then a else β j) else b
theorem OMp.push {W w1 w2 w4:qw}{a:qO}{c:Nat}{v':Value}{L:List (PMod×Mb)}{x:PMod×Mb}(H:OMp W base (qS a n c) L β)(hl:L.length=n)(b1:qY W w1)(hm:MOb w1 W.heap.size x)(R:PmG x.1)(b2:qY w1 w2)(hown:w4.ownsRow base 53 8 v' (n+1) (L.flatMap clB++clB x))(hgr:w2.grownBy w4 (qS a n c).ownBlock):OMp w4 base v' (L++[x]) (bup β n W.heap.size w1.heap.size):=by
 have b12:qY W w2:=b1.trans (b2.mono b1.size);have H2:=H.bw b12;have T:Turn (fun j=>(qS a n c).ownBlock=some j) w2 w4:=⟨hgr.os,hgr.tape,hgr.output,hgr.size,fun j hj hs=>hgr.block j hj (fun e=>hs e.symm)⟩
 have key:∀ {b:Nat} {y:PMod×Mb},MOb w2 b y->MOb w4 b y:=fun hy=>ModO.keptS hy T (fun ho hne k hk s=>by
  obtain ⟨c1,k1⟩:=aM ho hk;obtain ⟨c2,k2⟩:=aM H2.o s
  exact hne (aW k1 k2))
 have hb0:∀ i,i<n->bup β n W.heap.size w1.heap.size i=β i:=fun i hi=>by unfold bup;rw [if_pos (by omega),if_neg (by omega)]
 have hbn:bup β n W.heap.size w1.heap.size n=W.heap.size:=by unfold bup;rw [if_pos (by omega),if_pos rfl]
 have hb1:bup β n W.heap.size w1.heap.size (n+1)=w1.heap.size:=by unfold bup;rw [if_neg (by omega)]
 have hi:=H.hi;rw [hl] at hi;have mono:=H.mono;rw [hl] at mono;refine ⟨?_,fun i y hy=>?_,fun i k hik hk=>?_,?_,?_⟩
 .unfold OG;rw [xI,hl,xU,xX];exact hown
 .by_cases e:i=n
  .subst e;rw [List.getElem?_append_right (by omega),hl,Nat.sub_self] at hy;simp at hy;subst hy;rw [hbn,hb1];exact ⟨key (ModO.blw hm b2),R,fun j hj=>(M6h.sh (x:=hdP x) (ModO.m6G hm R) hj).1.2⟩
  .have hlt:=yH hy;rw [xI,hl] at hlt;simp at hlt;rw [List.getElem?_append_left (by omega)] at hy;obtain ⟨q1,q2,q3⟩:=H2.m i y hy;rw [hb0 i (by omega)];refine ⟨key q1,q2,fun j hj=>?_⟩;have:=q3 j hj;by_cases e2:i+1=n
   .rw [e2,hbn];rw [e2] at this;omega
   .rw [hb0 (i+1) (by omega)];exact this
 .rw [xI,hl] at hk;simp at hk;have s1:=b1.size;unfold bup;by_cases c1:k<=n
  .rw [if_pos (by omega),if_pos c1];by_cases c2:k=n
   .rw [if_pos c2];split
    .exact aL
    .have:=mono i n (by omega) aL;omega
   .rw [if_neg c2,if_neg (by omega)];exact mono i k hik (by omega)
  .rw [if_neg c1];split
   .split
    .exact s1
    .have:=mono i n (by omega) aL;omega
   .exact aL
 .have lo:=H.lo;unfold bup;rw [if_pos (xC _)];split
  .have:=mono 0 n (xC _) aL;omega
  .exact lo
 .rw [xI,hl];show bup β n W.heap.size w1.heap.size (n+1)<=_;rw [hb1];have:=b2.size;have:=hgr.size;omega
theorem OMp.turn {W W':qw}{L:List (PMod×Mb)}(H:OMp W base v L β)(t:Turn S W W')(hS:∀ j,S j->j<base):OMp W' base v L β:=
 ⟨H.o.kept t (fun k hk s=>by have:=(H.o.lt k hk).1;have:=hS k s;omega),fun i x hx=>⟨ModO.keptS (H.m i x hx).1 t (fun ho _ k hk s=>by
  have h1:=(World.ownsRow.lt ho k hk).1;have h2:=hS k s;have h3:=H.mono 0 i (xC _) (Nat.le_of_lt (yH hx));have h4:=H.lo
  omega),(H.m i x hx).2⟩,H.mono,H.lo,xM H.hi t.size⟩
theorem OMp.mono' {W:qw}{L:List (PMod×Mb)}(H:OMp W base v L β)(hb:base'<=base):OMp W base' v L β:=⟨H.o.mono hb,H.m,H.mono,xM hb H.lo,H.hi⟩
theorem aDf (W:qw)(base:Nat)(hb:base<=W.heap.size):OMp W base (qS none 0 0) [] (fun _=>W.heap.size):=⟨cE _ _ _ _ _,fun i x hx=>by simp at hx,fun _ _ _ _=>aL,hb,aL⟩
def pcd (zss:List (List Int))(i:Nat):Int:=(prs (zss.getD i [])).1
def pal (zss:List (List Int))(n:Nat):List PMod:=(List.range n).map fun i=>pOf (zss.getD i [])
theorem aK6 {zs:qi}(h:(prs zs).1=0):∃ P,prs zs=(0,some P):=by
 unfold prs at h ⊢;split at h
 .simp at h
 rename_i c1;rw [if_neg c1];split at h
 .simp at h
 rename_i c2;rw [if_neg c2];cases e:cZ (zs.drop 2) with
 | none=>rw [e] at h;simp at h
 | some x=>
   rw [e] at h;dsimp only at h ⊢;split at h
   .simp at h
   rename_i c3;rw [if_neg c3];split at h
   .have hr:=jU x.1.nm x.1.tz.length x.1.tz x.1.bl.length (dO x.1.bl) x.1.dz.length x.1.bss x.1.rz.length x.1.rz x.1.ss.length x.1.ss x.1.es.length x.1.es;have hr:0<=bI x.1/\bI x.1<=6:=hr;dsimp only at h;omega
   .rename_i c4;rw [if_neg c4];exact ⟨x.1,rfl⟩
theorem aGk {zs:qi}(hz:Byt zs)(h:(prs zs).1=0):∃ P,prs zs=(0,some P)/\pOf zs=P/\PmR P:=by
 obtain ⟨P,e2⟩:=aK6 h;obtain ⟨_,_,r,hr⟩:=qG e2;exact ⟨P,e2,by unfold pOf;rw [e2];rfl,(aGm (fun z hz'=>hz z (List.mem_of_mem_drop hz')) hr).1⟩
theorem aGl {zs:qi}(h:(prs zs).1≠0):prs zs=((prs zs).1,none):=by
 cases e:(prs zs).2 with
 | none=>rw [<- e]
 | some P=>
   have e2:prs zs=((prs zs).1,some P):=by rw [<- e]
   exact absurd (qG e2).1 h
def aOz (w:qw)(zss:List (List Int))(n:Nat)(e:Ending)(w':qw):Prop:=qY w w'/\((∃ i,i<n/\pcd zss i≠0/\(∀ k,k<i->pcd zss k=0)/\e=.returned (.tuple #[qS none 0 0,qI (pcd zss i),qI (i:Nat)]))\/((∀ i,i<n->pcd zss i=0)/\∃ a cap L β,e=.returned (.tuple #[qS a n cap,qI 0,qI 0])/\OMp w' w.heap.size (qS a n cap) L β/\L.map (fun x=>x.1)=pal zss n))
def zsL (bl:List Bk):List (List Int):=bl.map fun B=>B.2.2.2
theorem aFp {i:Nat}(hi:i<bl.length):(zsL bl).getD i []=(bl.getD i zB).2.2.2:=by simp [zsL,xB,hi]
theorem aAg (zss:List (List Int))(n:Nat):pal zss (n+1)=pal zss n++[pOf (zss.getD n [])]:=by simp [pal,List.range_succ]
structure Img (W:qw)(g n cp:Nat)(gs cz:List Nat)(bl:List Bk):Prop where
 q:∀ i,i<n->W.cell? (qR g i)=some (.slice (some (qR (gs.getD i 0) 0)) (bl.getD i zB).2.1 (cz.getD i 0))/\BS W (some (qR (gs.getD i 0) 0)) (bl.getD i zB).2.1 (cz.getD i 0) (bl.getD i zB).2.2.2
 l:bl.length=n
 lt:∀ i,i<n->gs.getD i 0<W.heap.size
 z:∀ i,i<n->Byt (bl.getD i zB).2.2.2/\(bl.getD i zB).2.1<=1048576
theorem Img.bw {W W':qw}{cp:Nat}{gs cz:List Nat}(h:Img W g n cp gs cz bl)(hb:qY W W'):Img W' g n cp gs cz bl:=⟨fun i hi=>⟨(hb.cell (xD W _ (h.q i hi).1)).trans (h.q i hi).1,(h.q i hi).2.bw hb⟩,h.l,fun i hi=>Nat.lt_of_lt_of_le (h.lt i hi) hb.size,h.z⟩
theorem wJ (g n cp:Nat)(gs cz:List Nat)(bl:List Bk)(w:qw)(H:Img w g n cp gs cz bl)(hn:n<=4):
 qC 23 #[qS (qP g) n cp] w (aOz w (zsL bl) n):=by
 obtain ⟨iM,hiM,hz0,hz1,hz2⟩:=info_parts aHt;have HH:=zh H;clear H;go_enter Tryz.func23,Tryz.ntmps23
 go_wp2;go_loopw [5,12] (fun v i wr=>∃ j:Nat,j<=n/\i=qI j/\(∀ k,k<j->pcd (zsL bl) k=0)/\∃ L β,OMp wr w.heap.size v L β/\L.map (fun x=>x.1)=pal (zsL bl) j/\qY w wr) (fun _ i _=>n-(intOf i).toNat)
 .exact ⟨0,xC _,rfl,fun k hk=>absurd hk (Nat.not_lt_zero _),[],_,aDf w w.heap.size aL,rfl,brf⟩
 .obtain ⟨j,hj,rfl,hk,L,β,O,hL,B⟩:=hrel;have hl:L.length=j:=by have:=congrArg List.length hL;simpa [pal] using this
  obtain ⟨av,cv,rfl⟩:=aO O.o;rw [hl] at O ⊢;by_cases hlt:j<n
  .have hlt':(j:Int)<(n:Int):=by omega
   have I:=HH.o.bw B;obtain ⟨c0,b0⟩:=I.q j hlt;have l0:=I.lt j hlt;obtain ⟨z1,z2⟩:=I.z j hlt;have hzj:=aFp (bl:=bl) (i:=j) (by rw [I.l];exact hlt);have CP:=zh (nI (gs.getD j 0) (bl.getD j zB).2.1 (cz.getD j 0) (bl.getD j zB).2.2.2 wr b0 z2 l0);have hpc:pcd (zsL bl) j=(prs (bl.getD j zB).2.2.2).1:=by unfold pcd;rw [hzj]
   have HPO:=zh (show pal (zsL bl) (j+1)=pal (zsL bl) j++[pOf (bl.getD j zB).2.2.2] by rw [aAg,hzj]);clear I b0 l0 z2 hzj;generalize (bl.getD j zB).2.2.2=zs at *;generalize (bl.getD j zB).2.1=zn at *;generalize gs.getD j 0=gj at *;have HO:=zh (xA O (xA hL B));have HK:=zh (xA hk hpc);have HBy:=zh z1;clear O hL B hk hpc z1;go_wp2_with fail
   refine CP.o.mono ?_;intro e w1 hP;by_cases hz:(prs zs).1=0
   .obtain ⟨P,e1,e2,R⟩:=aGk HBy.o hz;unfold dP at hP;rw [e1] at hP;obtain ⟨b1,a1,d1,a2,d2,bl',a3,d3,a5,d5,a6,d6,a7,d7,rfl,mo⟩:=hP;obtain ⟨w2,hw2,b2,k2⟩:=nwb w1 (qM P.nm a1 P.tz.length d1 a2 bl'.length d2 a3 P.dz.length d3 P.bss a5 P.rz.length d5 a6 P.ss.length d6 a7 P.es.length d7) 53;have b3:qY w2 (w2.alloc (.cells (qM P.nm a1 P.tz.length d1 a2 bl'.length d2 a3 P.dz.length d3 P.bss a5 P.rz.length d5 a6 P.ss.length d6 a7 P.es.length d7) 53)):=bal;have b23:=b2.trans (b3.mono b2.size);obtain ⟨O,hL,B⟩:=HO.o;have B1:=B.trans (b1.mono B.size);have hs:=xM B1.size (xM b2.size b3.size)
    have HOW:=zh (show (w2.alloc (.cells (qM P.nm a1 P.tz.length d1 a2 bl'.length d2 a3 P.dz.length d3 P.bss a5 P.rz.length d5 a6 P.ss.length d6 a7 P.es.length d7) 53)).ownsRow w.heap.size 53 8 (qS av j cv) j (L.flatMap clB) by
     have o:=(O.bw (b1.trans (b23.mono b1.size))).o;unfold OG at o;rw [hl] at o
     exact o)
    have HNW:=zh (aN w2 (qM P.nm a1 P.tz.length d1 a2 bl'.length d2 a3 P.dz.length d3 P.bss a5 P.rz.length d5 a6 P.ss.length d6 a7 P.es.length d7) 53 (clB (P,(⟨a1,d1,a2,d2,bl',a3,d3,a5,d5,a6,d6,a7,d7⟩:Mb))) rfl);have HPU:=zh (fun (v':Value) (w4:qw) hown hgr=>xA (O.push (x:=(P,(⟨a1,d1,a2,d2,bl',a3,d3,a5,d5,a6,d6,a7,d7⟩:Mb))) (v':=v') (w4:=w4) hl b1 mo R.g b23 hown hgr) (show qY w w4 from aI (B1.trans (b23.mono B1.size)) (S:=fun q=>(qS av j cv).ownBlock=some q) ⟨hgr.os,hgr.tape,hgr.output,hgr.size,fun q hq hs=>hgr.block q hq (fun e=>hs e.symm)⟩ (fun q hq=>(O.o.lt q hq).1) hs));have HW2:=zh hw2;obtain ⟨q0,q1,q2,q3,q4,q5,q6,q7⟩:=Blk.eight' k2;have HLL:=zh hL;clear hw2 b2 k2 b3 b23 O hL B B1 b1 mo HO CP;unfold fL;dsimp only;go_wp2_with (first|(at_builtin;refine wpList_append_own _ rfl _ _ 28 rfl w.heap.size 53 iM _ 8 _ Tryz.underlying28 hiM hz0 hz1 hz2 rfl (by decide) (qS av j cv) j (L.flatMap clB) rfl HOW.o (qR w2.heap.size 0) 1 1 (clB (P,(⟨a1,d1,a2,d2,bl',a3,d3,a5,d5,a6,d6,a7,d7⟩:Mb))) rfl rfl HNW.o (by intro u hu;simp [clB,clH,hdP] at hu;rcases hu with rfl|rfl|rfl|rfl|rfl|rfl|rfl|rfl<;>rfl) (by unfold maxLen;omega) (by omega) (by omega) ?_;intro v' w4 hown hgr _)|rw [<- HW2.o])
    have HP:=zh (HPU.o v' w4 hown hgr);clear hown hgr HPU HOW HNW q0 q1 q2 q3 q4 q5 q6 q7;go_wp2
    go_roundw
    .exact ⟨j+1,by omega,by go_num,fun k hk=>by
     by_cases e:k=j
     .subst e;rw [HK.o.2];exact hz
     .exact HK.o.1 k (by omega),_,_,HP.o.1,by rw [List.map_append,HLL.o,HPO.o,e2];rfl,HP.o.2⟩
    .simp [intOf];omega
   .unfold dP at hP;rw [aGl hz] at hP;obtain ⟨b1,rfl⟩:=hP;have HE:=zh (HO.o.2.2.trans (b1.mono HO.o.2.2.size));have hz':¬ (prs zs).1=0:=hz;have HC:=zh (xA HK.o.1 HK.o.2);clear HO CP b1 HK;dsimp only;unfold z8;generalize (prs zs).1=cd at *;go_wp2
    go_ret3
    exact ⟨HE.o.alloc HE.o.size _,.inl ⟨j,hlt,by rw [HC.o.2];exact hz',HC.o.1,by rw [HC.o.2];rfl⟩⟩
  .have e:Zh (j=n):=by show j=n;omega
   have HX:=zh (xA O (xA hL B));have HKK:=zh hk;clear O hL B hk;go_wp2
   go_ret3
   refine ⟨HX.o.2.2,.inr ⟨fun i hi=>HKK.o i (by rw [e.o];exact hi),av,cv,L,β,?_,?_,?_⟩⟩
   .rw [<- e.o];rfl
   .have q:=HX.o.1;rw [e.o] at q;exact q
   .have q:=HX.o.2.1;rw [e.o] at q;exact q
def sl0 (n:Nat):Array Value:=madeCells (Value.cells (.agg #[.bool false,qI 0,qI 0,qI 0])) (n*4)
def in0:Array Value:=madeCells (Value.cells (qI 0)) (8*1)
theorem aGo {W:qw}{sz:Nat}{t:TypeId}{z:Array Value}(h:Blk W g (madeCells z (n*sz)) t)(hg:base<=g)(hn:n<=maxLen):W.ownsRow base t sz (qS (qP g) n n) n (madeCells z (n*sz)).toList:=
 ⟨by rw [Array.length_toList,size_madeCells],.inr ⟨g,n,_,rfl,hg,h,aL,hn,size_madeCells _ _,by rw [xG (by rw [Array.length_toList,size_madeCells];exact aL)]⟩⟩
theorem aG3 (n:Nat)(hn:n<=4)(W:qw):(Instr.makeSlice 34 (qI (n:Int)) (qI (n:Int))).run Tryz.prog W=.ok (qS (qP W.heap.size) n n) (W.alloc (.cells (sl0 n) 77)):=by
 obtain ⟨i,hi,hz0,hz1,hz2⟩:=info_parts aMt;have q:=run_make (P:=Tryz.prog) W 34 77 i _ Tryz.underlying34 hi hz0 .i64 .i64 (n:Int) (n:Int) (by omega) (Int.le_refl _) (by rw [hz2];omega) (by omega);rw [hz1,xY] at q;exact q
theorem aG4 (W:qw):(Instr.makeSlice 29 (qI 8) (qI 8)).run Tryz.prog W=.ok (qS (qP W.heap.size) 8 8) (W.alloc (.cells in0 3)):=by
 obtain ⟨i,hi,hz0,hz1,hz2⟩:=info_parts gG;have q:=run_make (P:=Tryz.prog) W 29 3 i _ Tryz.underlying29 hi hz0 .i64 .i64 8 8 (by omega) (Int.le_refl _) (by rw [hz2];omega) (by omega);rw [hz1] at q;exact q
theorem aHu {W:qw}(h:Blk W g in0 3)(hg:base<=g):OI W base (qS (qP g) 8 8) (List.replicate 8 0):=
 aDh ((uQ (f:=clI) (0:Int) (qI 0) rfl rfl (aGo (n:=8) (sz:=1) h hg (by decide))).og (fun _=>rfl) (show 0<1 by decide) hg (by decide) (List.length_replicate ..) 0 (fun i hi=>by rw [xB,List.getElem?_replicate,if_pos hi];rfl)) (fun z hz=>by rw [List.eq_of_mem_replicate hz];unfold wfi;decide)
theorem aF8 {W:qw}(h:Blk W g (sl0 n) 77)(hg:base<=g)(hn:n<=4):OG 77 4 aCx W base (qS (qP g) n n) (List.replicate n zSl):=
 (uQ (f:=aCx) zSl (.agg #[.bool false,qI 0,qI 0,qI 0]) rfl rfl (aGo (sz:=4) h hg (by unfold maxLen;omega))).og (fun _=>rfl) (show 0<4 by decide) hg (by unfold maxLen;omega) (List.length_replicate ..) zSl (fun i hi=>by rw [xB,List.getElem?_replicate,if_pos hi];rfl)
section
variable {W W':qw}{base:Nat}{v1 v2 v3:Value}{x1 x2 x3:qi}
theorem OM.bw (h:OM W base v1 v2 v3 x1 x2 x3)(hb:qY W W'):OM W' base v1 v2 v3 x1 x2 x3:=⟨h.o1.bw hb,h.o2.bw hb,h.o3.bw hb,h.a12,h.a13,h.a23⟩
theorem OM.mono (h:OM W base v1 v2 v3 x1 x2 x3)(hb:base'<=base):OM W base' v1 v2 v3 x1 x2 x3:=⟨h.o1.mono hb,h.o2.mono hb,h.o3.mono hb,h.a12,h.a13,h.a23⟩
theorem OM.lt (h:OM W base v1 v2 v3 x1 x2 x3){j:Nat}(hj:aOd v1 v2 v3 j):base<=j/\j<W.heap.size:=by
 rcases hj with e|e|e
 .exact h.o1.lt j e
 .exact h.o2.lt j e
 .exact h.o3.lt j e
theorem OM.kept (h:OM W base v1 v2 v3 x1 x2 x3)(t:Turn S W W')(hs:∀ j,aOd v1 v2 v3 j->¬ S j):OM W' base v1 v2 v3 x1 x2 x3:=⟨cC t h.o1 (fun k hk=>hs k (.inl hk)),cC t h.o2 (fun k hk=>hs k (.inr (.inl hk))),cC t h.o3 (fun k hk=>hs k (.inr (.inr hk))),h.a12,h.a13,h.a23⟩
end
end Go.Proofs.YtcimaholejajpaaGreat
namespace Go.Proofs.YtcimaholejajpaaGreat
open Go.RowKit Classical
set_option maxRecDepth 100000
variable {G b base c cap d2 i k n ns sz:Nat}{P:PMod}{a a3 b2:qO}{bq:List Bk}{d:Option Tmp}{own:Prop}{p:String}{ps:List PMod}{s:Int}{v v' v0 v1 v2 v3 v3' v4 v4' v5 v5' v6' v7' vf vk vl vo vr:Value}{x:PMod×Mb}{zss:List (List Int)}{β:Nat->Nat}
structure NmO (w:qw)(base:Nat)(ps:List PMod)(L:Lay)(ns:Nat)(vk vf vr vo vl:Value):Prop where
 k:OI w base vk (List.replicate 8 0)
 q:OM w base vf vr vo (imF ps L) (imR ps L) []
 l:OG 77 4 aCx w base vl (List.replicate ns zSl)
theorem NmO.bw {w w':qw}{L:Lay}(h:NmO w base ps L ns vk vf vr vo vl)(hb:qY w w'):NmO w' base ps L ns vk vf vr vo vl:=⟨h.k.bw hb,⟨h.q.o1.bw hb,h.q.o2.bw hb,h.q.o3.bw hb,h.q.a12,h.q.a13,h.q.a23⟩,h.l.bw hb⟩
def NmP (w:qw)(a:qO)(n cap:Nat)(ps:List PMod)(L:Lay)(ns:Nat)(x2 x3 x4:Int)(e:Ending)(w':qw):Prop:=∃ gk a1 n1 e1 a2 n2 e2 a3 n3 e3 gl,e=.returned (.agg #[qS a n cap,qI (ns:Nat),qI x2,qI x3,qI x4,qI 0,qS (qP gk) 8 8,qS a1 n1 e1,qS a2 n2 e2,qS a3 n3 e3,qI 0,qI (-1),qS (qP gl) ns ns,qS none 0 0,qI 0])/\NmO w' w.heap.size ps L ns (qS (qP gk) 8 8) (qS a1 n1 e1) (qS a2 n2 e2) (qS a3 n3 e3) (qS (qP gl) ns ns)/\qY w w'
theorem rQ (a:qO)(n cap:Nat)(ms:List Md)(L:Lay)(a0:qO)(c0:Nat)(xs:List PB)(a2:qO)(c2:Nat)(a5:qO)(c5:Nat)(ts:List TB)(ns:Nat)(x2 x3 x4:Int)(w:qw)(h:MSD w a n cap ms)(hL:LyT w L a0 c0 xs a2 c2 a5 c5 ts)(hk:Lok (aF ms) L)(hn:ns<=4):
 qC 26 #[qS a n cap,.agg (qW (ns:Nat) x2 x3 x4),.agg (qJ L a0 xs c0 a2 c2 a5 ts c5)] w (NmP w a n cap (aF ms) L ns x2 x3 x4):=by
 obtain ⟨V,hV⟩:=eqx (((w.alloc (.cells (qW (ns:Nat) x2 x3 x4) 25)).alloc (.cells (qJ L a0 xs c0 a2 c2 a5 ts c5) 64)).alloc (.cells z15 37));have bV:qY w V:=by rw [hV];exact (bal.alloc (by simp) _).alloc (by simp;omega) _
 have k0:Blk V w.heap.size (qW (ns:Nat) x2 x3 x4) 25:=by rw [hV];exact ((Blk.new w _ _).alloc _).alloc _
 have k1:Blk V (w.heap.size+1) (qJ L a0 xs c0 a2 c2 a5 ts c5) 64:=by rw [hV];have:=(Blk.new (w.alloc (.cells (qW (ns:Nat) x2 x3 x4) 25)) (qJ L a0 xs c0 a2 c2 a5 ts c5) 64).alloc (.cells z15 37);simpa using this
 have k2:Blk V (w.heap.size+1+1) z15 37:=by rw [hV];have:=Blk.new ((w.alloc (.cells (qW (ns:Nat) x2 x3 x4) 25)).alloc (.cells (qJ L a0 xs c0 a2 c2 a5 ts c5) 64)) z15 37;simpa using this
 have CI:=zh (sJ a n cap ms L a0 c0 xs a2 c2 a5 c5 ts V (h.bw bV) (hL.bw bV));unfold ImM at CI;rw [xR hk] at CI;obtain ⟨p0,p1,p2,p3,p4,p5⟩:=k1.ly6;have HV:=zh hV;have HK:=zh (xA bV (xA k0 k2));clear hV bV k0 k1 k2 h hL hk;unfold z15 at HV;go_enter Tryz.func26,Tryz.ntmps26
 go_wp2_with (rw [<- HV.o])
 refine CI.o.mono ?_;rintro e w1 ⟨b1,a1,n1,e1,a2',n2,e2,a3,n3,e3,rfl,O1⟩;obtain ⟨bV,k0,k2⟩:=HK.o;obtain ⟨w2,hw2,b2,k3⟩:=nwb w1 (qV a1 n1 e1 a2' n2 e2 a3 n3 e3) 33;obtain ⟨w3,hw3,b3,r3⟩:=nwb w2 in0 3;obtain ⟨w4,hw4,b4,k4⟩:=nwb w3 #[qI 0,qS (qP w2.heap.size) 8 8] 31;have b34:=b3.trans (b4.mono b3.size);have b24:=b2.trans (b34.mono b2.size);have b14:=b1.trans (b24.mono b1.size);have K0:=k0.bw b14;have K2:=k2.bw b14;have K3:=k3.bw b34;obtain ⟨u0,u1,u2,u3⟩:=show w4.cell? ⟨w.heap.size,0,none⟩=some (qI (ns:Nat))/\w4.cell? ⟨w.heap.size,1,none⟩=some (qI x2)/\w4.cell? ⟨w.heap.size,2,none⟩=some (qI x3)/\w4.cell? ⟨w.heap.size,3,none⟩=some (qI x4) from ⟨K0.cell 0,K0.cell 1,K0.cell 2,K0.cell 3⟩;obtain ⟨m0,m1,m2⟩:=show w4.cell? ⟨w1.heap.size,0,none⟩=some (qS a1 n1 e1)/\w4.cell? ⟨w1.heap.size,1,none⟩=some (qS a2' n2 e2)/\w4.cell? ⟨w1.heap.size,2,none⟩=some (qS a3 n3 e3) from ⟨K3.cell 0,K3.cell 1,K3.cell 2⟩;obtain ⟨o0,o1⟩:=show w4.cell? ⟨w3.heap.size,0,none⟩=some (qI 0)/\w4.cell? ⟨w3.heap.size,1,none⟩=some (qS (qP w2.heap.size) 8 8) from ⟨k4.cell 0,k4.cell 1⟩;have hI:=aG4 w2;have hS:=aG3 ns hn;have z1:w.heap.size+1+1<w1.heap.size:=Nat.lt_of_lt_of_le k2.lt b1.size;have z3:w1.heap.size<w3.heap.size:=Nat.lt_of_lt_of_le k3.lt b3.size;have y1:w1.heap.size≠w.heap.size+1+1:=by omega
 have y2:w3.heap.size≠w.heap.size+1+1:=by omega
 have y3:w.heap.size≠w.heap.size+1+1:=by omega
 have y4:w.heap.size+1+1≠w1.heap.size:=by omega
 have y5:w.heap.size+1+1≠w3.heap.size:=by omega
 have HSZ:Zh ((w.heap.size<=w.heap.size+1+1/\w.heap.size+1+1<V.heap.size)/\V.heap.size<=w1.heap.size/\w1.heap.size<w2.heap.size/\w2.heap.size<w3.heap.size/\w3.heap.size<w4.heap.size):=⟨⟨by omega,k2.lt⟩,b1.size,k3.lt,r3.lt,k4.lt⟩;have HW2:=zh hw2;have HW3:=zh hw3;have HW4:=zh hw4;have HE:=zh (xA K2 (xA (bV.trans (b14.mono bV.size)) (xA (xA O1 (xA b14 b24)) (r3.bw b4))));clear p0 p1 p2 p3 p4 p5 hw2 hw3 hw4 b1 b2 b3 b4 b34 b24 b14 k0 k2 k3 k4 r3 K0 K2 K3 O1 bV HK CI;go_wp2_with (first|rw [<- HW2.o]|rw [<- HW3.o]|rw [<- HW4.o])
 have y6:w.heap.size+1+1≠w.heap.size:=by omega
 generalize w.heap.size+1+1=q at *;have K5:=HE.o.1.alloc (.cells (sl0 ns) 77);unfold z15 at K5;obtain ⟨c0,c1,c2,c3,c4,c5,c6,c7,c8,c9,c10,c11,c12,c13,c14⟩:=K5.mc;have f0:=K5.frozen 0;have f1:=K5.frozen 1;have f2:=K5.frozen 2;have f3:=K5.frozen 3;have f4:=K5.frozen 4;have f5:=K5.frozen 5;have f6:=K5.frozen 6;have f7:=K5.frozen 7;have f8:=K5.frozen 8;have f9:=K5.frozen 9;have f10:=K5.frozen 10;have f11:=K5.frozen 11;have f12:=K5.frozen 12;have f13:=K5.frozen 13;have f14:=K5.frozen 14;clear K5
 go_region_held3 (fun w'=>w'.cell? (qR w.heap.size 0)=some (qI (ns:Nat))/\w'.cell? (qR w.heap.size 1)=some (qI x2)/\w'.cell? (qR w.heap.size 2)=some (qI x3)/\w'.cell? (qR w.heap.size 3)=some (qI x4)/\w'.cell? (qR w1.heap.size 0)=some (qS a1 n1 e1)/\w'.cell? (qR w1.heap.size 1)=some (qS a2' n2 e2)/\w'.cell? (qR w1.heap.size 2)=some (qS a3 n3 e3)/\w'.cell? (qR w3.heap.size 0)=some (qI 0)/\w'.cell? (qR w3.heap.size 1)=some (qS (qP w2.heap.size) 8 8)) (go_keep)
  (fail)
 clear c0 f0 c1 f1 c2 f2 c3 f3 c4 f4 c5 f5 c6 f6 c7 f7 c8 f8 c9 f9 c10 f10 c11 f11 c12 f12 c13 f13 c14 f14;go_wp2;obtain ⟨K2,B4,⟨O1,b14,b24⟩,r3⟩:=HE.o;obtain ⟨⟨s0,s1⟩,s2,s3,s4,s5⟩:=HSZ.o;refine aMi (K2.alloc (.cells (sl0 ns) 77)) _ _ _ _ _ _ _ _ _ _ _ _ _ _ _ _ _ rfl ?_;have b5:qY w4 (w4.alloc (.cells (sl0 ns) 77)):=bal;refine ⟨w2.heap.size,a1,n1,e1,a2',n2,e2,a3,n3,e3,w4.heap.size,rfl,?_,?_⟩
 .refine NmO.bw ?_ brf.drew;have T:=fun v0 v1 v2 v3 v4 v5 v6 v7 v8 v9 v10 v11 v12 v13 v14=>cP (w4.alloc (.cells (sl0 ns) 77)) q v0 v1 v2 v3 v4 v5 v6 v7 v8 v9 v10 v11 v12 v13 v14;exact ⟨aHu (aA (T _ _ _ _ _ _ _ _ _ _ _ _ _ _ _) (r3.bw b5) (by omega)) (by omega),(((O1.bw (b24.trans (b5.mono b24.size))).kept (T _ _ _ _ _ _ _ _ _ _ _ _ _ _ _) (fun j hj s=>by have:=(O1.lt hj).1;omega)).mono (by omega)),aF8 (aA (T _ _ _ _ _ _ _ _ _ _ _ _ _ _ _) (Blk.new w4 _ _) (by omega)) (by omega) hn⟩
 .exact (aI (B4.trans (b5.mono B4.size)) (cP _ q _ _ _ _ _ _ _ _ _ _ _ _ _ _ _) (fun j hj=>by omega) (xM B4.size b5.size)).drew
def slk (ps:List PMod)(T:Int)(x:SlT):Prop:=(x.1=false/\x=zSl)\/(x.1=true/\0<=x.2.2.1/\0<=pcq ps x.2.1 x.2.2.1/\1<=x.2.2.2/\x.2.2.2<=T)
def cmn (x y:SlT):Prop:=x.1=true/\y.1=true/\(y.2.2.2=x.2.2.2\/(y.2.1=x.2.1/\y.2.2.1=x.2.2.1))
def aln (xs:List SlT)(i:Nat):Prop:=∀ k,k<i->¬ cmn (xs.getD i zSl) (xs.getD k zSl)
def slz (cw:Int):Nat:=(rnd (4*cw)).toNat
def bnk (ps:List PMod)(m b:Int):List Int:=(ps.getD m.toNat zP).bl.getD b.toNat []
def bkb (ps:List PMod)(cw m b:Int):List Int:=dR (List.replicate (slz cw) 0) 0 (bnk ps m b) (bnk ps m b).length
def slb (rz:qi)(L:Lay)(cw:Int)(i:Nat):List Int:=(rz.drop (L.slots.getD i 0-65536).toNat).take (slz cw)
def tV (ps:List PMod)(L:Lay)(cw T:Int)(rz:qi)(xs:List SlT)(i:Nat):Prop:=slk ps T (xs.getD i zSl)/\aln xs i/\((xs.getD i zSl).1=true->slb rz L cw i=bkb ps cw (xs.getD i zSl).2.1 (xs.getD i zSl).2.2.1)
def pY (ps:List PMod)(L:Lay)(cs cw T:Int)(rz:qi)(xs:List SlT):Prop:=(xs.length:Int)=cs/\∀ i,i<xs.length->tV ps L cw T rz xs i
def aEw (ps:List PMod)(cs m b:Int)(xs:List SlT):Prop:=0<=pcq ps m b/\(cs=0\/b=-1\/hld xs m b≠-1)
abbrev tgk (ps:List PMod)(m b t:Int):Prop:=0<=pcq ps m b/\0<=t/\t<=pcq ps m b
abbrev frk (ps:List PMod)(x:FrT):Prop:=tgk ps x.1 x.2.1 x.2.2.1/\0<=x.2.2.2/\x.2.2.2<=4294967295
def vG (ps:List PMod)(cd:Int)(xs:List FrT):Prop:=(xs.length:Int)<=cd/\∀ i,i<xs.length->frk ps (xs.getD i zFr)
def Mn.L (M:Mn):Lay:=lkL (aF M.ms) M.cs M.cw M.ck M.cd
structure MOk (M:Mn):Prop where
 l:lkc (aF M.ms) M.cs M.cw M.ck M.cd=0
 p:kJ (aF M.ms) M.L
 c:cok M.pc M.kn M.kz=true
 b:mok M.fn M.rn M.on=true
 f:imF (aF M.ms) M.L=M.fz
 r:(M.rn:Int)=M.L.ram
 t:0<=M.tn/\M.tn<=1000000000
 s:pY (aF M.ms) M.L M.cs M.cw M.tn M.rz M.lz
 n:aEw (aF M.ms) M.cs M.md M.bk M.lz
 h:vG (aF M.ms) M.cd M.hz
def aOt (ps:List PMod)(L:Lay):Decidable (kJ ps L):=
 have:=aMm ps L;have:∀ b s,Decidable (sOk L b s):=fun _ _=>inferInstance
 decidable_of_iff (Lok ps L/\∀ m,m<ps.length->∀ b,b<(ps.getD m zP).bl.length+1->∀ s,s<L.slots.length+1->0<=pcq ps (m:Int) ((b:Int)-1)->sOk L ((b:Int)-1) ((s:Int)-1)->(plR ps L (m:Int) ((b:Int)-1) ((s:Int)-1)).length<=8) (by
  unfold kJ;refine and_congr_right fun _=>⟨fun h m b s hp hs=>?_,fun h m _ b _ s _=>h m _ _⟩
  have hmb:(0<=m/\m<(ps.length:Int))/\(b=-1\/(0<=b/\b<((ps.getD m.toNat zP).bl.length:Int))):=by
   unfold pcq at hp;split at hp
   .refine ⟨by assumption,?_⟩;split at hp
    .exact .inl (by assumption)
    .split at hp
     .exact .inr (by assumption)
     .exact absurd hp (by decide)
   .exact absurd hp (by decide)
  have hs':=hs.fit;have:=h m.toNat (by omega) (b+1).toNat (by omega) (s+1).toNat (by omega);rw [show ((m.toNat:Nat):Int)=m by omega,show (((b+1).toNat:Nat):Int)-1=b by omega,show (((s+1).toNat:Nat):Int)-1=s by omega] at this
  exact this hp hs)
def fnz (f:Nat->Int):Nat->Option Nat
 | 0=>none
 | n+1=>match fnz f n with
   | some i=>some i
   | none=>if f n≠0 then some n else none
theorem mK {f:Nat->Int}:∀ n,(∀ i,i<n->f i=0)->fnz f n=none
 | 0,_=>rfl
 | n+1,h=>by
   unfold fnz;rw [mK n (fun i hi=>h i (by omega))];simp [h n (by omega)]
theorem sO {f:Nat->Int}{i:Nat}(hi:f i≠0)(hk:∀ k,k<i->f k=0):∀ n,i<n->fnz f n=some i
 | 0,h=>by omega
 | n+1,h=>by
   unfold fnz;by_cases e:i=n
   .subst e;rw [mK i hk];simp [hi]
   .rw [sO hi hk n (by omega)]
def ldc (zss:List (List Int))(n:Nat)(s c k d:Int):Int×Nat:=
 if cfo s c k d=false then (1,0) else if n<1\/4<n then (2,0) else match fnz (pcd zss) n with
  | some i=>(10+pcd zss i,i)
  | none=>if lkc (pal zss n) s c k d≠0 then (40+lkc (pal zss n) s c k d,0) else @ite _ (kJ (pal zss n) (lay (pal zss n) s c k)) (aOt _ _) (0,0) (60,0)
theorem NmO.turn {S:Nat->Prop}{W W':qw}{L:Lay}(h:NmO W base ps L ns vk vf vr vo vl)(t:Turn S W W')(hS:∀ j,S j->j<base):NmO W' base ps L ns vk vf vr vo vl:=
 ⟨aIm t h.k (fun k hk s=>by have:=(h.k.lt k hk).1;have:=hS k s;omega),h.q.kept t (fun j hj s=>by have:=(h.q.lt hj).1;have:=hS j s;omega),h.l.kept t (fun k hk s=>by have:=(h.l.lt k hk).1;have:=hS k s;omega)⟩
theorem jT (zss:List (List Int))(i:Nat):0<=pcd zss i/\pcd zss i<=16:=by
 unfold pcd prs;split
 .simp
 split
 .simp
 split
 .simp
 .rename_i x _;have hr:0<=bI x.1/\bI x.1<=6:=jU x.1.nm x.1.tz.length x.1.tz x.1.bl.length (dO x.1.bl) x.1.dz.length x.1.bss x.1.rz.length x.1.rz x.1.ss.length x.1.ss x.1.es.length x.1.es;split
  .simp
  split
  .dsimp only;omega
  .simp
theorem nE (ps:List PMod)(s c k d:Int):0<=lkc ps s c k d/\lkc ps s c k d<=8:=by
 have h:0<=dB ps s c k d/\dB ps s c k d<=4:=by
  unfold dB
  repeat' split
  all_goals omega
 unfold lkc
 repeat' split
 all_goals omega
def aNb:Array Value:=qZ
def LdP (w:qw)(zss:List (List Int))(n:Nat)(s c k d:Int)(hv:Value->World->Prop)(e:Ending)(w':qw):Prop:=qY w w'/\(((ldc zss n s c k d).1≠0/\e=.returned (.tuple #[.agg aNb,qI (ldc zss n s c k d).1,qI ((ldc zss n s c k d).2:Nat)]))\/(ldc zss n s c k d=(0,0)/\∃ a cap L β mid gk a1 n1 e1 a2 n2 e2 a3 n3 e3 gl vh,e=.returned (.tuple #[.agg #[qS a n cap,qI s,qI c,qI k,qI d,qI 0,qS (qP gk) 8 8,qS a1 n1 e1,qS a2 n2 e2,qS a3 n3 e3,qI 0,qI (-1),qS (qP gl) s.toNat s.toNat,vh,qI 0],qI 0,qI 0])/\hv vh w'/\OMp w' w.heap.size (qS a n cap) L β/\L.map (fun x=>x.1)=pal zss n/\NmO w' mid (pal zss n) (lay (pal zss n) s c k) s.toNat (qS (qP gk) 8 8) (qS a1 n1 e1) (qS a2 n2 e2) (qS a3 n3 e3) (qS (qP gl) s.toNat s.toNat)/\w.heap.size<=mid/\β n<=mid))
structure Sam (M N:Mn):Prop where
 s:N.cs=M.cs/\N.cw=M.cw/\N.ck=M.ck/\N.cd=M.cd/\N.pc=M.pc/\N.md=M.md/\N.bk=M.bk/\N.tn=M.tn
 n:N.mn=M.mn/\N.kn=M.kn/\N.fn=M.fn/\N.rn=M.rn/\N.on=M.on/\N.ln=M.ln/\N.hn=M.hn
 z:N.kz=M.kz/\N.fz=M.fz/\N.rz=M.rz/\N.oz=M.oz/\N.lz=M.lz/\N.hz=M.hz
 m:∀ i,i<M.mn->aM7 (M.ms.getD i zMd) (N.ms.getD i zMd)
theorem aD3 (zs:qi):zs.flatMap (fun z=>[Value.int .u8 z])=zs.map (Value.int .u8):=dN _ zs
theorem aLb {W:qw}{zs:qi}(h:OB W base v zs):OG 5 1 (fun z=>[Value.int .u8 z]) W base v zs:=by
 unfold OG;rw [aD3];exact h.1
theorem aK9 {W:qw}{zs:qi}(h:OG 5 1 (fun z=>[Value.int .u8 z]) W base v zs)(hz:∀ z∈zs,0<=z/\z<=255):OB W base v zs:=by
 unfold OG at h;rw [aD3] at h;exact ⟨h,hz⟩
theorem aAz (a:qO)(n cap:Nat)(zs:qi)(w:qw)(h:Srd (fun z=>[Value.int .u8 z]) w a n cap zs)(hb8:∀ z∈zs,0<=z/\z<=255)(hl:zs.length=n)(hn:n<=1048576):
 qC 68 #[qS a n cap] w fun e w'=>∃ a cap',e=.returned (qS a n cap')/\OB w' w.heap.size (qS a n cap') zs/\qY w w':=by
 obtain ⟨i0,hi,hz0,hz1,hz2⟩:=info_parts gW;have hsrc:=zh (h.bw ((Below.refl w.heap.size w).alloc aL (.cells #[] 5)));have hz:=zh hb8;have hown:=zh (cJ 5 1 (fun z=>[Value.int .u8 z]) w w.heap.size aL);have hb:=zh ((Below.refl w.heap.size w).alloc aL (.cells #[] 5));clear h hb8;go_enter Tryz.func68,Tryz.ntmps68
 go_wp2_with (at_builtin;refine fM rfl _ _ 22 rfl w.heap.size 5 i0 (.int .u8 0) 1 1 Tryz.underlying22 hi hz0 hz1 hz2 rfl (by decide) _ [] rfl hown.o a n cap zs rfl hsrc.o (fun _=>rfl) (fun y u hu=>by simp at hu;subst hu;rfl) (by unfold maxLen;simp;omega) (by simp;omega) (by simp) ?_;intro v' w1 hown1 hgr1)
 rw [List.nil_append] at hown1;obtain ⟨a',c',rfl⟩:=aO hown1;have HF:=zh (xA (aK9 hown1 hz.o) (aI hb.o (S:=fun k=>k=w.heap.size) ⟨hgr1.os,hgr1.tape,hgr1.output,hgr1.size,fun k hk hs=>hgr1.block k hk (fun e=>hs (by cases e;rfl))⟩ (fun k hk=>by omega) (by simp)));rw [hl] at HF ⊢;clear hown1 hgr1;go_ret;exact ⟨a',c',rfl,HF.o.1,HF.o.2⟩
theorem vK {X W w6:qw}(h:Below b X W)(hs:b<=W.heap.size)(hv:v.ownBlock=some b)(G:W.grownBy w6 v.ownBlock):Below b X w6:=aI h (S:=fun k=>k=b) ⟨G.os,G.tape,G.output,G.size,fun k hk hs=>G.block k hk (fun e=>hs (by rw [hv] at e;cases e;rfl))⟩ (fun k hk=>by omega) hs
structure Cpb (W0 X:qw)(gm lo:Nat)(t1:qO)(e1:Nat)(tz:qi)(a2:qO)(c2:Nat)(bl:List Bk)(nm v3 v4 v5 v6 v7:Value):Prop where
 c:Cpm W0 X gm #[nm,qS t1 tz.length e1,qS a2 bl.length c2,v3,v4,v5,v6,v7]
 t:OG 3 1 clI X W0.heap.size (qS t1 tz.length e1) tz
 b:OBk X lo (qS a2 bl.length c2) bl
 tl:∀ k,(qS t1 tz.length e1).ownBlock=some k->k<lo
 gl:gm<lo
 lh:lo<=X.heap.size
section
variable {W0 X X' w' w4:qw}{gm lo:Nat}{t1:qO}{e1:Nat}{tz:qi}{a2:qO}{c2:Nat}{bl:List Bk}{nm v2 v3 v4 v5 v6 v7 u:Value}
theorem Cpb.bw (h:Cpb W0 X gm lo t1 e1 tz a2 c2 bl nm v3 v4 v5 v6 v7)(hb:qY X X'):Cpb W0 X' gm lo t1 e1 tz a2 c2 bl nm v3 v4 v5 v6 v7:=⟨h.c.bw hb,h.t.bw hb,h.b.turn (S:=fun _=>False) (aJ hb) (fun _ s=>absurd s id),h.tl,h.gl,xM h.lh hb.size⟩
theorem iV {t:TypeId}(G:(X.alloc (.cells #[] t)).grownBy w' (some X.heap.size)):qY X w':=aI (brf.alloc aL (.cells #[] t)) (S:=fun k=>k=X.heap.size) ⟨G.os,G.tape,G.output,G.size,fun k hk hs=>G.block k hk (fun e=>hs (by cases e;rfl))⟩ (fun k hk=>by omega) (by simp)
theorem Cpb.new (h:Cpm W0 X gm #[nm,qS t1 tz.length e1,v2,v3,v4,v5,v6,v7])(ht:OG 3 1 clI X W0.heap.size (qS t1 tz.length e1) tz):Cpb W0 ((X.alloc (.cells #[] 29)).setCell (qR gm 2) (qS (qP X.heap.size) 0 0)) gm X.heap.size t1 e1 tz (qP X.heap.size) 0 [] nm v3 v4 v5 v6 v7:=by
 have hb:qY X (X.alloc (.cells #[] 29)):=bal;have c1:=h.bw hb;obtain ⟨c2,t2⟩:=c1.set 2 (qS (qP X.heap.size) 0 0);refine ⟨c2,(ht.bw hb).kept t2 (fun k hk e=>?_),OBk.turn (w:=X.alloc (.cells #[] 29)) ⟨cJ 29 1 (fun v:Value=>[v]) X X.heap.size aL,by simp,by simp⟩ t2 (fun k e hk=>by have:=h.k.lt;omega),fun k hk=>(ht.lt k hk).2,h.k.lt,by simp⟩;subst e;obtain ⟨c,kb⟩:=aM (ht.bw hb) hk;exact absurd (aW kb c1.k) (by decide)
theorem Cpb.bank {A:qO}{C:Nat}{x:qi}{d:Value}(h:Cpb W0 X gm lo t1 e1 tz a2 c2 bl nm v3 v4 v5 v6 v7)(O:OG 3 1 clI w' X.heap.size (qS A x.length C) x)(hb:qY X w')
 (hown:w4.ownsRow lo 29 1 d (bl.length+1) (bl.map (fun B=>qS B.1 B.2.1 B.2.2.1)++[qS A x.length C])) (hg:w'.grownBy w4 (qS a2 bl.length c2).ownBlock):
 Cpm W0 w4 gm #[nm,qS t1 tz.length e1,qS a2 bl.length c2,v3,v4,v5,v6,v7]/\∃ a2' c2',d=.slice a2' (bl++[((A,x.length,C,x):Bk)]).length c2'/\Cpb W0 (w4.setCell (qR gm 2) d) gm lo t1 e1 tz a2' c2' (bl++[((A,x.length,C,x):Bk)]) nm v3 v4 v5 v6 v7:=by
 have h1:=h.bw hb;have hX:=h.b;have B4:=h1.b.push rfl O h.lh (fun B hB j hj=>((h.b.rows B hB).2.lt j hj).2) hown hg;have lw:W0.heap.size<=lo:=by have:=h.c.g;have:=h.gl;omega
 have T:Turn (fun k=>(qS a2 bl.length c2).ownBlock=some k) w' w4:=⟨hg.os,hg.tape,hg.output,hg.size,fun k hk hs=>hg.block k hk (fun e=>hs e.symm)⟩
 have k4:Blk w4 gm #[nm,qS t1 tz.length e1,qS a2 bl.length c2,v3,v4,v5,v6,v7] 53:=fD hg h1.c.k (fun e=>by
  obtain ⟨c,kb⟩:=aM h1.b.head e.symm
  exact absurd (aW kb h1.c.k) (by decide))
 have t4:=h1.t.kept T (fun k hk s=>by
  obtain ⟨c,kb⟩:=aM h1.t hk;obtain ⟨c',kb'⟩:=aM h1.b.head s
  exact absurd (aW kb kb') (by decide))
 have c4:Cpm W0 w4 gm #[nm,qS t1 tz.length e1,qS a2 bl.length c2,v3,v4,v5,v6,v7]:=⟨aI h1.c.b T (fun k hk=>by have:=(h1.b.lt k hk).1;omega) h1.c.b.size,k4,h1.c.g⟩;obtain ⟨a',c',rfl⟩:=nC B4;obtain ⟨c5,t5⟩:=c4.set 2 (.slice a' (bl++[((A,x.length,C,x):Bk)]).length c');refine ⟨c4,a',c',rfl,c5,t4.kept t5 (fun k hk e=>?_),B4.turn t5 (fun k e hk=>by have:=h.gl;omega),h.tl,h.gl,by rw [aG];exact xM h1.lh hg.size⟩;subst e;obtain ⟨c,kb⟩:=aM t4 hk;exact absurd (aW kb k4) (by decide)
theorem Cpb.put (h:Cpb W0 X gm lo t1 e1 tz a2 c2 bl nm v3 v4 v5 v6 v7)(hb:qY X w')(j:Nat)(e:(#[nm,qS t1 tz.length e1,qS a2 bl.length c2,v3,v4,v5,v6,v7]:Array Value).setIfInBounds j u=#[nm,qS t1 tz.length e1,qS a2 bl.length c2,v3',v4',v5',v6',v7']):
 Cpb W0 (w'.setCell (qR gm j) u) gm lo t1 e1 tz a2 c2 bl nm v3' v4' v5' v6' v7'/\Turn (fun j=>j=gm\/X.heap.size<=j) X (w'.setCell (qR gm j) u):=by
 have h1:=h.bw hb;obtain ⟨c5,t5⟩:=h1.c.set j u;rw [e] at c5;refine ⟨⟨c5,h1.t.kept t5 (fun k hk e=>?_),h1.b.turn t5 (fun k e hk=>by have:=h.gl;omega),h.tl,h.gl,by rw [aG];exact h1.lh⟩,(aJ hb).trans (t5.mono (fun k hk=>.inl hk))⟩;subst e;obtain ⟨c,kb⟩:=aM h1.t hk;exact absurd (aW kb h1.c.k) (by decide)
theorem aIx {cs:Array Value}{t:TypeId}{xs:List Value}(h:X.ownsRow b t sz v n xs)(kg:Blk X gm cs 53)(hne:t≠53)(j:Nat)(u:Value):(X.setCell (qR gm j) u).ownsRow b t sz v n xs:=fH ((aC X gm j u).mono (fun k hk=>.inl hk)) kg h hne
theorem Cpb.row {α:Type}{f:α->List Value}{t:TypeId}{ys:List α}(h:Cpb W0 X gm lo t1 e1 tz a2 c2 bl nm v3 v4 v5 v6 v7)(O:OG t sz f w' X.heap.size v' ys)(hb:qY X w')(hne:t≠53)(j:Nat)(e:(#[nm,qS t1 tz.length e1,qS a2 bl.length c2,v3,v4,v5,v6,v7]:Array Value).setIfInBounds j v'=#[nm,qS t1 tz.length e1,qS a2 bl.length c2,v3',v4',v5',v6',v7']):
 Cpb W0 w' gm lo t1 e1 tz a2 c2 bl nm v3 v4 v5 v6 v7/\Cpb W0 (w'.setCell (qR gm j) v') gm lo t1 e1 tz a2 c2 bl nm v3' v4' v5' v6' v7'/\OG t sz f (w'.setCell (qR gm j) v') X.heap.size v' ys/\Turn (fun j=>j=gm\/X.heap.size<=j) X (w'.setCell (qR gm j) v')/\X.heap.size<=w'.heap.size:=by
 have h1:=h.bw hb;obtain ⟨c2,t2⟩:=h.put hb j e;exact ⟨h1,c2,aIx O h1.c.k hne j v',t2,hb.size⟩
theorem Cpb.apart {α:Type}{f:α->List Value}{t:TypeId}{ys:List α}(h:Cpb W0 X gm lo t1 e1 tz a2 c2 bl nm v3 v4 v5 v6 v7)(O:OG t sz f w' X.heap.size v' ys):∀ k,v'.ownBlock=some k->(qS t1 tz.length e1).ownBlock≠some k/\∀ B∈bl,(qS B.1 B.2.1 B.2.2.1).ownBlock≠some k:=fun k hk=>by
 have h0:=(O.lt k hk).1;exact ⟨fun e=>by have:=(h.t.lt k e).2;omega,fun B hB e=>by have:=((h.b.rows B hB).2.lt k e).2;omega⟩
theorem Cpb.done {a5 a6 a7:qO}{c3 c5 c6 c7 q3 q5 q6 q7:Nat}(h:Cpb W0 X gm lo t1 e1 P.tz a2 c2 bl nm v3 v4 v5 v6 v7)(hbl:bl.map (fun B=>B.2.2.2)=P.bl)(hz:∀ z∈P.dz,0<=z/\z<=255)
 (h3:OG 5 1 (fun z=>[Value.int .u8 z]) X q3 (qS a3 P.dz.length c3) P.dz) (l3:W0.heap.size<=q3) (h5:OG 3 1 clI X q5 (qS a5 P.rz.length c5) P.rz) (l5:W0.heap.size<=q5) (h6:OG 9 1 clT X q6 (qS a6 P.ss.length c6) P.ss) (l6:W0.heap.size<=q6) (h7:OG 91 3 clX X q7 (qS a7 P.es.length c7) P.es) (l7:W0.heap.size<=q7)
 (hap:∀ k,(qS a5 P.rz.length c5).ownBlock=some k->(qS t1 P.tz.length e1).ownBlock≠some k/\∀ B∈bl,(qS B.1 B.2.1 B.2.2.1).ownBlock≠some k):ModO X W0.heap.size P t1 e1 a2 c2 bl a3 c3 a5 c5 a6 c6 a7 c7 where
 t:=h.t
 b:=h.b.mono (by have:=h.c.g;have:=h.gl;omega)
 bls:=hbl
 d:=aK9 (h3.mono l3) hz
 r:=h5.mono l5
 i:=h6.mono l6
 e:=h7.mono l7
 tb:=fun k hk B hB e=>by have h1:=h.tl k hk;have h2:=((h.b.rows B hB).2.lt k e).1;omega
 tr:=fun k hk e=>(hap k e).1 hk
 br:=fun k hk B hB=>(hap k hk).2 B hB
end
section
variable {w:qw}{b off n cap:Nat}
end
theorem iL {α:Type}{t:TypeId}{f:α->List Value}{w:qw}{xs:List α}(h:OG t sz f w base (qS a n c) xs):n=xs.length:=by
 obtain ⟨a',c',e⟩:=aO h;simp only [Value.slice.injEq] at e;exact e.2.1
theorem aB7 {w:qw}{zs:qi}(h:OI w base (qS a n c) zs):n=zs.length:=by
 obtain ⟨_,h0|⟨g,cp,cur,hv,_⟩⟩:=h.1
 .simp at h0;rw [h0.1.2.1,h0.2];rfl
 .simp only [Value.slice.injEq] at hv;exact hv.2.1
theorem iN {w:qw}{zs:qi}(h:OB w base (qS a n c) zs):n=zs.length:=by
 obtain ⟨_,h0|⟨g,cp,cur,hv,_⟩⟩:=h.1
 .simp at h0;rw [h0.1.2.1,h0.2];rfl
 .simp only [Value.slice.injEq] at hv;exact hv.2.1
structure Msr (W:qw)(x:PMod×Mb):Prop where
 t:Srd clI W x.2.a1 x.1.tz.length x.2.c1 x.1.tz
 b:∀ k,k<x.2.bl.length->∃ gb A C zs,x.2.a2=some (qR gb 0)/\x.2.bl[k]?=some (A,zs.length,C,zs)/\W.cell? (qR gb k)=some (qS A zs.length C)/\Srd clI W A zs.length C zs
 bls:x.2.bl.map (fun B=>B.2.2.2)=x.1.bl
 d:Srd (fun z=>[Value.int .u8 z]) W x.2.a3 x.1.dz.length x.2.c3 x.1.dz
 r:Srd clI W x.2.a5 x.1.rz.length x.2.c5 x.1.rz
 i:Srd clT W x.2.a6 x.1.ss.length x.2.c6 x.1.ss
 e:Srd clX W x.2.a7 x.1.es.length x.2.c7 x.1.es
theorem aKp {W W':qw}(hb:qY W W'){a:Addr}(h:W.cell? a=some v):W'.cell? a=some v:=(hb.cell (xD W _ h)).trans h
theorem Msr.bw {W W':qw}(h:Msr W x)(hb:qY W W'):Msr W' x:=
 ⟨h.t.bw hb,fun k hk=>by obtain ⟨gb,A,C,zs,e1,e2,e3,o⟩:=h.b k hk;exact ⟨gb,A,C,zs,e1,e2,aKp hb e3,o.bw hb⟩,h.bls,h.d.bw hb,h.r.bw hb,h.i.bw hb,h.e.bw hb⟩
theorem aIi {W:qw}(h:OBk W base (qS b2 bq.length d2) bq)(k:Nat)(hk:k<bq.length):∃ gb A C zs,b2=some (qR gb 0)/\bq[k]?=some (A,zs.length,C,zs)/\W.cell? (qR gb k)=some (qS A zs.length C)/\OG 3 1 clI W base (qS A zs.length C) zs:=by
 obtain ⟨gb,cp,e,_⟩:=World.ownsRow.form h.head (by omega);simp only [Value.slice.injEq] at e;obtain ⟨rfl,-,rfl⟩:=e;obtain ⟨A,m,C,zs,hB⟩:∃ A m C zs,bq[k]?=some (A,m,C,zs):=⟨bq[k].1,bq[k].2.1,bq[k].2.2.1,bq[k].2.2.2,xN hk⟩;obtain ⟨e1,O⟩:=h.rows _ (List.mem_of_getElem? hB);dsimp only at e1 O;subst e1;refine ⟨gb,A,C,zs,rfl,hB,?_,O⟩;have q:=World.ownsRow.cells h.head (g:=gb) rfl k (qS A zs.length C) (by rw [List.getElem?_map,hB];rfl)
 rwa [bZ,Nat.zero_add] at q
theorem ModO.msr {W:qw}(h:MOb W base x):Msr W x:=
 ⟨nB h.t,fun k hk=>by obtain ⟨gb,A,C,zs,e1,e2,e3,o⟩:=aIi h.b k hk;exact ⟨gb,A,C,zs,e1,e2,e3,nB o⟩,h.bls,nB (aLb h.d),nB h.r,nB h.i,nB h.e⟩
structure OMq (W:qw)(a:qO)(L:List (PMod×Mb)):Prop where
 o:∀ (i:Nat) (x:PMod×Mb),L[i]?=some x->∃ g,a=some (qR g 0)/\At8 W g (i*8) (mdP x)
 m:∀ (i:Nat) (x:PMod×Mb),L[i]?=some x->Msr W x/\PmG x.1
theorem OMq.bw {W W':qw}{L:List (PMod×Mb)}(h:OMq W a L)(hb:qY W W'):OMq W' a L:=
 ⟨fun i x hx=>by obtain ⟨g,e,h8⟩:=h.o i x hx;exact ⟨g,e,h8.bw hb⟩,fun i x hx=>⟨(h.m i x hx).1.bw hb,(h.m i x hx).2⟩⟩
theorem OMp.omq {W:qw}{L:List (PMod×Mb)}(H:OMp W base (qS a n cap) L β):OMq W a L:=by
 refine ⟨fun i x hx=>?_,fun i x hx=>⟨ModO.msr (H.m i x hx).1,(H.m i x hx).2.1⟩⟩;obtain ⟨a',c',e⟩:=aO H.o;simp only [Value.slice.injEq] at e;obtain ⟨rfl,rfl,rfl⟩:=e;obtain ⟨g,cp,e,_⟩:=World.ownsRow.form H.o (by have:=yH hx;omega);simp only [Value.slice.injEq] at e;obtain ⟨rfl,-,rfl⟩:=e;exact ⟨g,rfl,(OMs.at (x:=hdP x) H.oms (by rw [List.getElem?_map,hx];rfl)).1⟩
theorem OMq.srcM {W:qw}{g:Nat}{L:List (PMod×Mb)}{b1 b3 b5 b6 b7:qO}{d1 d3 d5 d6 d7:Nat}(H:OMq W (qP g) L)(hx:L[i]?=some (P,⟨b1,d1,b2,d2,bq,b3,d3,b5,d5,b6,d6,b7,d7⟩)):
 (W.cell? (qR g (i*8))=some (.string P.nm)/\W.cell? (qR g (i*8+1))=some (qS b1 P.tz.length d1)/\W.cell? (qR g (i*8+2))=some (qS b2 bq.length d2)/\W.cell? (qR g (i*8+3))=some (qS b3 P.dz.length d3)/\W.cell? (qR g (i*8+4))=some (qI P.bss)/\W.cell? (qR g (i*8+5))=some (qS b5 P.rz.length d5)/\W.cell? (qR g (i*8+6))=some (qS b6 P.ss.length d6)/\W.cell? (qR g (i*8+7))=some (qS b7 P.es.length d7))/\Msr W (P,⟨b1,d1,b2,d2,bq,b3,d3,b5,d5,b6,d6,b7,d7⟩)/\PmG P:=by
 obtain ⟨g',e,h8⟩:=H.o i _ hx;cases e
 exact ⟨h8,(H.m i _ hx).1,(H.m i _ hx).2⟩
theorem uN {α β:Type}{f:α->β}{l:List α}{x:α}(h:l[k]?=some x):(l.take (k+1)).map f=(l.take k).map f++[f x]:=by
 rw [List.take_add_one,h,List.map_append];rfl
theorem aJo {W:qw}{L:List (PMod×Mb)}(hl:L.length=n)(h:OG 53 8 clB W base v L):W.ownsRow base 53 8 v n (L.flatMap clB):=by
 subst hl;exact h
theorem aB2 {w W0 X w4:qw}{L:List (PMod×Mb)}(O:OMp W0 w.heap.size v L β)(B:qY w W0)(B1:qY W0 X)(hgr:X.grownBy w4 v.ownBlock):qY w w4:=
 aI (B.trans (B1.mono B.size)) (S:=fun q=>v.ownBlock=some q) ⟨hgr.os,hgr.tape,hgr.output,hgr.size,fun q hq hs=>hgr.block q hq (fun e=>hs e.symm)⟩ (fun q hq=>(O.o.lt q hq).1) (xM B.size B1.size)
section
variable {W W':qw}{base base':Nat}{v1 v2 v3:Value}{x1 x2 x3:qi}
end
structure Lc where
 ps:List PMod
 s:Int
 c:Int
 k:Int
 d:Int
 bk:Int
 kz:List Int
 F:List Int
 R:List Int
 lz:List SlT
def ldC (zss:List (List Int))(n:Nat)(s c k d:Int):Lc:=if (ldc zss n s c k d).1=0 then ⟨pal zss n,s,c,k,d,-1,List.replicate 8 0,imF (pal zss n) (lay (pal zss n) s c k),imR (pal zss n) (lay (pal zss n) s c k),List.replicate s.toNat zSl⟩ else ⟨[],0,0,0,0,0,[],[],[],[]⟩
structure LdB (C:Lc):Prop where
 v:∀ P∈C.ps,bI P=0
 n:C.ps.length<=4/\C.kz.length<=8/\C.F.length<=16384/\C.R.length<=16384/\C.lz.length<=4
theorem aHv (ps:List PMod)(L:Lay):(imF ps L).length<=16384/\(imR ps L).length<=16384:=by
 unfold imF imR;by_cases e:Lok ps L
 .rw [if_pos e,if_pos e];have K:=jG e;have h1:=aD4 ps L ps.length;have h2:=K.fr;have h3:=K.rr;refine ⟨by omega,?_⟩
  have h4:∀ i,i<=ps.length->(raB ps L i).length=L.ram.toNat:=by
   intro i
   induction i with
   | zero=>intro _;simp [raB]
   | succ i ih=>
     intro hi;have h5:=ih (by omega);have h6:=(K.at i (by omega)).2.2.2;rw [raB,qE,wM]
     .exact h5
     .rw [h5,K.place i (by omega)];omega
  have:=h4 ps.length aL;omega
 .rw [if_neg e,if_neg e];simp
theorem aD2 {f:Nat->Int}:∀ n,fnz f n=none->∀ i,i<n->f i=0
 | 0,_,i,hi=>by omega
 | n+1,h,i,hi=>by
   unfold fnz at h;split at h
   .simp at h
   .rename_i h1;by_cases e:i=n
    .subst e;by_cases e2:f i=0
     .exact e2
     .simp [e2] at h
    .exact aD2 n h1 i (by omega)
theorem aMr (zss:List (List Int))(n:Nat)(s c k d:Int):LdB (ldC zss n s c k d):=by
 unfold ldC;by_cases h:(ldc zss n s c k d).1=0
 .rw [if_pos h];have hL:=aHv (pal zss n) (lay (pal zss n) s c k);unfold ldc at h;split at h
  .simp at h
  rename_i h1;split at h
  .simp at h
  rename_i h2;split at h
  .rename_i i hi;exfalso;have:=jT zss i;dsimp only at h;omega
  .rename_i hz;have hcf:cfo s c k d=true:=by simpa using h1
   unfold cfo at hcf;simp at hcf;refine ⟨fun P hP=>?_,by simp [pal];omega,by simp,hL.1,hL.2,by simp;omega⟩;simp only [pal,List.mem_map,List.mem_range] at hP;obtain ⟨i,hi,rfl⟩:=hP;have:=aD2 n hz i hi;unfold pcd at this;obtain ⟨P,e⟩:=aK6 this;unfold pOf;rw [e];exact (qG e).2.1
 .rw [if_neg h];exact ⟨fun P hP=>by simp at hP,by simp⟩
structure LdO (W:qw)(base mid:Nat)(C:Lc)(M:Mn)(L:List (PMod×Mb))(β:Nat->Nat):Prop where
 m:OMp W base (qS M.ma M.mn M.mc) L β
 e:L.map (fun x=>x.1)=C.ps
 k:OI W mid (qS M.ka M.kn M.kc) C.kz
 q:OM W mid (qS M.fa M.fn M.fc) (qS M.ra M.rn M.rc) (qS M.oa M.on M.oc) C.F C.R []
 l:OG 77 4 aCx W mid (qS M.la M.ln M.lc) C.lz
 h:OG 79 4 aMy W base (qS M.ha M.hn M.hc) []
 bm:base<=mid
 vs:M.cs=C.s/\M.cw=C.c/\M.ck=C.k/\M.cd=C.d/\M.pc=0/\M.md=0/\M.bk=C.bk/\M.tn=0
 vz:M.ms=L.map mdP/\M.kz=C.kz/\M.fz=C.F/\M.rz=C.R/\M.oz=[]/\M.lz=C.lz/\M.hz=[]
section
variable {W W':qw}{base mid base' mid':Nat}{C:Lc}{M N:Mn}{L L':List (PMod×Mb)}{β β':Nat->Nat}
theorem LdO.bw (h:LdO W base mid C M L β)(hb:qY W W'):LdO W' base mid C M L β:=⟨h.m.bw hb,h.e,h.k.bw hb,h.q.bw hb,h.l.bw hb,h.h.bw hb,h.bm,h.vs,h.vz⟩
theorem LdO.len (h:LdO W base mid C M L β)(hC:LdB C):L.length=M.mn/\L.length<=4:=by
 have h1:=iL h.m.o;have h2:=congrArg List.length h.e;rw [xH] at h2;have:=hC.n.1;exact ⟨h1.symm,by omega⟩
theorem LdO.mnd (h:LdO W base mid C M L β)(hC:LdB C):MnD W M:=by
 obtain ⟨h1,h2⟩:=h.len hC;obtain ⟨a,cap,e,hm⟩:=h.m.msd (by omega);simp only [Value.slice.injEq] at e;obtain ⟨e1,e2,e3⟩:=e;rw [h1,<- e1,<- e3] at hm;obtain ⟨v1,v2,v3,v4,v5,v6,v7⟩:=h.vz;exact ⟨by rw [v1];exact hm,by rw [v2];exact h.k.is,by rw [v3];exact h.q.o1.bs,by rw [v4];exact h.q.o2.bs,by rw [v5];exact h.q.o3.bs,by rw [v6];exact aK8 (fun _=>rfl) h.l,by rw [v7];exact aK8 (fun _=>rfl) h.h⟩
theorem LdO.sam (h:LdO W base mid C M L β)(h':LdO W' base' mid' C N L' β')(hC:LdB C):Sam M N:=by
 obtain ⟨l1,l2⟩:=h.len hC;obtain ⟨l1',l2'⟩:=h'.len hC;obtain ⟨s1,s2,s3,s4,s5,s6,s7,s8⟩:=h.vs;obtain ⟨t1,t2,t3,t4,t5,t6,t7,t8⟩:=h'.vs;obtain ⟨v1,v2,v3,v4,v5,v6,v7⟩:=h.vz;obtain ⟨u1,u2,u3,u4,u5,u6,u7⟩:=h'.vz;have he:L.map (fun x=>x.1)=L'.map (fun x=>x.1):=h.e.trans h'.e.symm;have hl:L.length=L'.length:=by have:=congrArg List.length he;simpa using this
 refine ⟨⟨by rw [s1,t1],by rw [s2,t2],by rw [s3,t3],by rw [s4,t4],by rw [s5,t5],by rw [s6,t6],by rw [s7,t7],by rw [s8,t8]⟩,⟨by omega,by rw [aB7 h.k,aB7 h'.k],by rw [iN h.q.o1,iN h'.q.o1],by rw [iN h.q.o2,iN h'.q.o2],by rw [iN h.q.o3,iN h'.q.o3],by rw [iL h.l,iL h'.l],by rw [iL h.h,iL h'.h]⟩,⟨by rw [v2,u2],by rw [v3,u3],by rw [v4,u4],by rw [v5,u5],by rw [v6,u6],by rw [v7,u7]⟩,fun i hi=>?_⟩;rw [v1,u1];have hi1:i<L.length:=by omega
 have hi2:i<L'.length:=by omega
 have g1:(L.map mdP).getD i zMd=mdP L[i]:=by simp [xB,hi1]
 have g2:(L'.map mdP).getD i zMd=mdP L'[i]:=by simp [xB,hi2]
 rw [g1,g2];have m1:=(h.m.m i L[i] (xN hi1)).1;have m2:=(h'.m.m i L'[i] (xN hi2)).1
 have e1:L[i].1=L'[i].1:=by
  have:=congrArg (fun l=>l[i]?) he;simpa [hi1,hi2] using this
 generalize L[i]=x at *;generalize L'[i]=y at *;obtain ⟨P,x⟩:=x;obtain ⟨P',y⟩:=y;dsimp only at e1;subst e1;obtain ⟨hl2,hz⟩:=ModO.same m1 m2;exact ⟨rfl,rfl,rfl,hl2,hz,rfl,rfl,rfl,rfl,rfl,rfl,rfl,rfl,rfl⟩
end
def mnV (M:Mn):Value:=.agg (qA M)
def LdQ (own:Prop)(w:qw)(zss:List (List Int))(n:Nat)(s c k d:Int)(e:Ending)(w':qw):Prop:=qY w w'/\∃ M base mid L β,e=.returned (.tuple #[mnV M,qI (ldc zss n s c k d).1,qI ((ldc zss n s c k d).2:Nat)])/\LdO w' base mid (ldC zss n s c k d) M L β/\w.heap.size<=base/\(own->β L.length<=mid)
theorem aMb (w:qw)(base:Nat):OM w base (qS none 0 0) (qS none 0 0) (qS none 0 0) [] [] []:=by
 have h:OB w base (qS none 0 0) []:=⟨⟨rfl,.inl ⟨rfl,rfl⟩⟩,fun _ h=>by cases h⟩;exact ⟨h,h,h,fun _ h=>by simp [Value.ownBlock] at h,fun _ h=>by simp [Value.ownBlock] at h,fun _ h=>by simp [Value.ownBlock] at h⟩
theorem aJs (w:qw)(base:Nat):OI w base (qS none 0 0) []:=⟨⟨rfl,.inl ⟨rfl,rfl⟩⟩,fun _ h=>by cases h⟩
theorem aAt {w w':qw}{c k d:Int}(hb:qY w w')(h:(ldc zss n s c k d).1≠0):LdQ own w zss n s c k d (.returned (.tuple #[.agg aNb,qI (ldc zss n s c k d).1,qI ((ldc zss n s c k d).2:Nat)])) w':=by
 refine ⟨hb,⟨none,0,0,[],0,0,0,0,0,none,0,0,[],none,0,0,[],none,0,0,[],none,0,0,[],0,0,none,0,0,[],none,0,0,[],0⟩,w'.heap.size,w'.heap.size,[],fun _=>w'.heap.size,rfl,?_,hb.size,fun _=>aL⟩;unfold ldC;rw [if_neg h];exact ⟨aDf w' _ aL,rfl,aJs _ _,aMb _ _,cE _ _ _ _ _,cE _ _ _ _ _,aL,⟨rfl,rfl,rfl,rfl,rfl,rfl,rfl,rfl⟩,⟨rfl,rfl,rfl,rfl,rfl,rfl,rfl⟩⟩
theorem aG7 {w w':qw}{c k d:Int}{mid:Nat}{L:List (PMod×Mb)}{gk:Nat}{a1 a2 ah:qO}{n1 e1 n2 e2 n3 e3 gl ch:Nat}(hb:qY w w')(h:ldc zss n s c k d=(0,0))(om:OMp w' base (qS a n cap) L β)(oe:L.map (fun x=>x.1)=pal zss n)(nm:NmO w' mid (pal zss n) (lay (pal zss n) s c k) s.toNat (qS (qP gk) 8 8) (qS a1 n1 e1) (qS a2 n2 e2) (qS a3 n3 e3) (qS (qP gl) s.toNat s.toNat))(oh:OG 79 4 aMy w' base (qS ah 0 ch) [])(hbase:w.heap.size<=base)(hmid:base<=mid)(ho:own->β L.length<=mid):LdQ own w zss n s c k d (.returned (.tuple #[.agg #[qS a n cap,qI s,qI c,qI k,qI d,qI 0,qS (qP gk) 8 8,qS a1 n1 e1,qS a2 n2 e2,qS a3 n3 e3,qI 0,qI (-1),qS (qP gl) s.toNat s.toNat,qS ah 0 ch,qI 0],qI 0,qI 0])) w':=by
 refine ⟨hb,⟨a,n,cap,L.map mdP,s,c,k,d,0,some (qR gk 0),8,8,List.replicate 8 0,a1,n1,e1,imF (pal zss n) (lay (pal zss n) s c k),a2,n2,e2,imR (pal zss n) (lay (pal zss n) s c k),a3,n3,e3,[],0,-1,some (qR gl 0),s.toNat,s.toNat,List.replicate s.toNat zSl,ah,0,ch,[],0⟩,base,mid,L,β,by rw [h];rfl,?_,hbase,ho⟩;unfold ldC;rw [if_pos (by rw [h])];exact ⟨om,oe,nm.k,nm.q,nm.l,oh,hmid,⟨rfl,rfl,rfl,rfl,rfl,rfl,rfl,rfl⟩,⟨rfl,rfl,rfl,rfl,rfl,rfl,rfl⟩⟩
theorem aMq {w:qw}{c k d:Int}{e:Ending}{w':qw}(h:LdP w zss n s c k d (fun v _=>v=qS none 0 0) e w'):LdQ True w zss n s c k d e w':=by
 obtain ⟨hb,⟨h1,rfl⟩|⟨h0,a,cap,L,β,mid,gk,a1,n1,e1,a2,n2,e2,a3,n3,e3,gl,vh,rfl,rfl,om,oe,nm,hm,hβ⟩⟩:=h
 .exact aAt hb h1
 .have hl:L.length=n:=by have:=iL om.o;exact this.symm
  exact aG7 hb h0 om oe nm (cE _ _ _ _ _) aL hm (fun _=>by rw [hl];exact hβ)
theorem vP (a:qO)(n cap:Nat)(ms:List Md)(m b t:Int)(w:qw)(h:MSD w a n cap ms):
 qC 115 #[qS a n cap,.agg (qT m b t)] w fun e w'=>e=.returned (.bool (decide (tgk (aF ms) m b t)))/\qY w w':=by
 obtain ⟨V,hV,bV,kV⟩:=nwb w (qT m b t) 106;have HIP:=zh (jI a n cap ms m b V (h.s.bw bV));rw [iH h m b] at HIP;have HV:=zh hV;have HK:=zh (xA bV kV);obtain ⟨r,hr⟩:=eqx (decide (tgk (aF ms) m b t));rw [<- hr];have HR:=zh hr;have hmx:=h.s.2.1;unfold maxLen at hmx;clear hV hr;by_cases c:0<=pcq (aF ms) m b
 .rw [xR c] at HIP;obtain ⟨⟨m0,m1⟩,_⟩:=aB5 h c;obtain ⟨gm,om,rfl,v0,v1,v2,v3,v4,v5,v6,v7⟩:=(h.s.bw bV).at m.toNat (by omega);have HPC:=zh (fun (M:Md) (hM:ms.getD m.toNat zMd=M) (X:qw) (hX:qY V X)=>(aE0 (h.bw bV) c hM X hX));obtain ⟨M,hM⟩:=eqx (ms.getD m.toNat zMd);rw [<- hM] at v0 v1 v2 v3 v4 v5 v6 v7;have HP:=zh (HPC.o M hM.symm);have HRQ:=zh (show r=decide (0<=t/\t<=pcq (aF ms) m b) from by rw [HR.o];unfold tgk;simp [c]);clear HR;generalize pcq (aF ms) m b=q at *
  have HC:=zh (fun (X:qw) (hX:qY V X)=>show (X.cell? (qR w.heap.size 0)=some (qI m)/\X.cell? (qR w.heap.size 1)=some (qI b)/\X.cell? (qR w.heap.size 2)=some (qI t))/\X.cell? (qR gm (om+m.toNat*8))=some (.string M.nm)/\X.cell? (qR gm (om+m.toNat*8+1))=some (qS M.ta M.tn M.tc)/\X.cell? (qR gm (om+m.toNat*8+2))=some (qS M.ba M.bn M.bc)/\X.cell? (qR gm (om+m.toNat*8+3))=some (qS M.da M.dn M.dc)/\X.cell? (qR gm (om+m.toNat*8+4))=some (qI M.bss)/\X.cell? (qR gm (om+m.toNat*8+5))=some (qS M.ra M.rn M.rc)/\X.cell? (qR gm (om+m.toNat*8+6))=some (qS M.ia M.im M.ic)/\X.cell? (qR gm (om+m.toNat*8+7))=some (qS M.ea M.en M.ec) from
   ⟨⟨(kV.bw hX).cell 0,(kV.bw hX).cell 1,(kV.bw hX).cell 2⟩,aE hX v0,aE hX v1,aE hX v2,aE hX v3,aE hX v4,aE hX v5,aE hX v6,aE hX v7⟩)
  clear HPC hM h bV kV c v0 v1 v2 v3 v4 v5 v6 v7;obtain ⟨⟨x0,x1,x2⟩,_⟩:=HC.o V brf;go_enter Tryz.func115,Tryz.ntmps115
  go_wp2_with (rw [<- HV.o])
  refine HIP.o.mono ?_;rintro e X1 ⟨rfl,hb1⟩;have HX1:=zh hb1;clear x0 x1 x2;have HP2:=zh (fun (X:qw) (hX:qY X1 X)=>(HP.o X (HX1.o.trans (hX.mono HX1.o.size))).mono (fun e w' he=>show ∃ xa xn xc,e=.returned (.tuple #[qS xa xn xc,.bool true])/\(xn:Int)=q/\qY V w' from he));obtain ⟨⟨y0,y1,y2⟩,u0,u1,u2,u3,u4,u5,u6,u7⟩:=HC.o X1 hb1;clear hb1 HIP HV HP;go_wp2_with fail
  go_region_held3 (fun w'=>w'.cell? (qR w.heap.size 0)=some (qI m)/\w'.cell? (qR w.heap.size 1)=some (qI b)/\w'.cell? (qR gm (om+m.toNat*8))=some (.string M.nm)/\w'.cell? (qR gm (om+m.toNat*8+1))=some (qS M.ta M.tn M.tc)/\w'.cell? (qR gm (om+m.toNat*8+2))=some (qS M.ba M.bn M.bc)/\w'.cell? (qR gm (om+m.toNat*8+3))=some (qS M.da M.dn M.dc)/\w'.cell? (qR gm (om+m.toNat*8+4))=some (qI M.bss)/\w'.cell? (qR gm (om+m.toNat*8+5))=some (qS M.ra M.rn M.rc)/\w'.cell? (qR gm (om+m.toNat*8+6))=some (qS M.ia M.im M.ic)/\w'.cell? (qR gm (om+m.toNat*8+7))=some (qS M.ea M.en M.ec)) (go_keep)
   (first
     | (go_at_call 99;first
         | with_reducible refine (HP2.o _ brf).mono ?_
         | with_reducible refine (HP2.o _ brf.drew).mono ?_
        rintro e w1 ⟨xa,xn,xc,rfl,hxn,hb1⟩;have HXN:=zh hxn;have HB1:=zh hb1;obtain ⟨⟨z0,z1,z2⟩,t0,t1,t2,t3,t4,t5,t6,t7⟩:=HC.o w1 hb1
        clear hb1 hxn))
  clear y0 y1 y2 u0 u1 u2 u3 u4 u5 u6 u7 t0 t1 t2 t3 t4 t5 t6 t7 HP2 HC HX1;have HU:=zh (cU t (xn:Int));go_wp2_with (go_at_call 50;refine (HU.o _).mono ?_;rintro e w2 ⟨rfl,rfl⟩)
  go_ret;exact ⟨aB (by rw [HRQ.o,HXN.o];simp),HK.o.1.trans (HB1.o.mono HK.o.1.size)⟩
 .rw [xS c] at HIP;have e:=zh (show r=false from by rw [HR.o];exact xS (fun k=>c k.1));have x0:=kV.cell 0;have x1:=kV.cell 1;clear h bV kV;go_enter Tryz.func115,Tryz.ntmps115
  go_wp2_with (rw [<- HV.o])
  refine HIP.o.mono ?_;rintro e X1 ⟨rfl,hb1⟩;go_wp2;go_ret;exact ⟨aB e.o.symm,HK.o.1.trans (hb1.mono HK.o.1.size)⟩
theorem vU (a:qO)(n c:Nat)(xs:List SlT)(m b:Int)(w:qw)(h:QS aCx zSl w a n c xs):
 qC 114 #[qS a n c,qI m,qI b] w (qB w (qI (hld xs m b))):=by
 have hl:=h.1;have hmx:=h.2.1;unfold maxLen at hmx;obtain ⟨r,hr⟩:=eqx (hld xs m b);rw [<- hr];have HR:=zh hr;clear hr;go_enter Tryz.func114,Tryz.ntmps114
 go_wp2;go_loopw [11] (fun i wr=>∃ k:Nat,k<=n/\i=qI k/\Hid (r=yP m b k (xs.drop k))/\qY w wr) (qf n)
 .exact ⟨0,xC _,rfl,HR,brf⟩
 .obtain ⟨k,hk,rfl,HI,hB⟩:=hrel;clear HR;by_cases hlt:k<n
  .have hlt':(k:Int)<(n:Int):=by omega
   obtain ⟨g,f,rfl,q0,q1,q2,q3⟩:=(h.bw hB).at k hlt _ _ _ _ rfl;have HH:=zh (fun hu=>aHx (m:=m) (b:=b) (show k<xs.length by omega) hu);have HM:=zh (fun hu=>aFh (m:=m) (b:=b) (show k<xs.length by omega) hu);generalize xs.getD k zSl=x at *;obtain ⟨x0,x1,x2,x3⟩:=x;dsimp only at q0 q1 q2 q3;have HB:=zh (hB.alloc hB.size (.cells #[.bool x0,qI x1,qI x2,qI x3] 77));clear hB h;by_cases hu:usd m b (x0,x1,x2,x3)
   .have e:=zh (show r=k from by rw [HI.out];exact HH.o hu);obtain ⟨h0,h1,h2⟩:=hu;dsimp only at h0 h1 h2;subst h0 h1 h2;clear HH HM;go_wp2;go_ret;exact ⟨aQ e.o.symm,HB.o⟩
   .have HN:=zh (show r=yP m b (k+1) (xs.drop (k+1)) from by rw [HI.out];exact HM.o hu);have hu':¬ (x0=true/\x1=m/\x2=b):=hu;clear HH HM HI hu;cases x0 with
    | false=>
      clear hu';go_wp2
      go_roundw
      .exact ⟨k+1,by omega,by go_num,HN,HB.o⟩
      .simp [qf,intOf];omega
    | true=>
      by_cases c1:x1=m
      .have c2:(x2==b)=false:=by simp;exact fun e=>hu' ⟨rfl,c1,e⟩
       have c1':(x1==m)=true:=by simp [c1]
       clear hu' c1;go_wp2
       go_roundw
       .exact ⟨k+1,by omega,by go_num,HN,HB.o⟩
       .simp [qf,intOf];omega
      .have c1':(x1==m)=false:=by simp [c1]
       clear hu' c1;go_wp2
       go_roundw
       .exact ⟨k+1,by omega,by go_num,HN,HB.o⟩
       .simp [qf,intOf];omega
  .have e:=zh (show r=-1 from by rw [HI.out,List.drop_eq_nil_of_le (by omega)];rfl);have HB:=zh hB;clear hB;go_wp2;go_ret;exact ⟨aQ e.o.symm,HB.o⟩
theorem aG9 {a:Act}{W:qw}{ty:TypeId}{af:Array _}{gd:Option _}{v6 v7 v8 v9 v10 v11 v12 v13 v14:Value}(kb:Blk W G #[v0,v1,v2,v3,v4,v5,v6,v7,v8,v9,v10,v11,v12,v13,v14] 37)(h:a.tmps[k]?.getD undef=.pointer (qP G)):(execOp a.eval { dst:=d,op:=Op.load 37 (Operand.tmp k),type:=ty,pos:=p,after:=af,guard:=gd }).run Tryz.prog W=.ok (.value (.agg #[v0,v1,v2,v3,v4,v5,v6,v7,v8,v9,v10,v11,v12,v13,v14])) W:=by
 obtain ⟨q0,q1,q2,q3,q4,q5,q6,q7,q8,q9,q10,q11,q12,q13,q14⟩:=kb.mc;go_simp
theorem aNs {a:Act}{W:qw}{ty:TypeId}{af:Array _}{gd:Option _}(kb:Blk W G #[v0,v1,v2,v3,v4,v5] 64)(h:a.tmps[k]?.getD undef=.pointer (qP G)):(execOp a.eval { dst:=d,op:=Op.load 64 (Operand.tmp k),type:=ty,pos:=p,after:=af,guard:=gd }).run Tryz.prog W=.ok (.value (.agg #[v0,v1,v2,v3,v4,v5])) W:=by
 obtain ⟨q0,q1,q2,q3,q4,q5⟩:=kb.ly6;go_simp
theorem aLj {a:Act}{W:qw}{ty:TypeId}{af:Array _}{gd:Option _}(kb:Blk W G #[v0,v1,v2,v3] 77)(h:a.tmps[k]?.getD undef=.pointer (qP G)):(execOp a.eval { dst:=d,op:=Op.load 77 (Operand.tmp k),type:=ty,pos:=p,after:=af,guard:=gd }).run Tryz.prog W=.ok (.value (.agg #[v0,v1,v2,v3])) W:=by
 have q0:=kb.cell 0;have q1:=kb.cell 1;have q2:=kb.cell 2;have q3:=kb.cell 3;simp at q0 q1 q2 q3;go_simp
theorem aNq {a:Act}{W:qw}{ty:TypeId}{af:Array _}{gd:Option _}(q:W.cell? ⟨G,i,none⟩=some v)(h:a.tmps[k]?.getD undef=.pointer (some ⟨G,i,none⟩)):(execOp a.eval { dst:=d,op:=Op.load 34 (Operand.tmp k),type:=ty,pos:=p,after:=af,guard:=gd }).run Tryz.prog W=.ok (.value v) W:=by
 go_simp
theorem aNt {a:Act}{W:qw}{ty:TypeId}{af:Array _}{gd:Option _}(q:W.cell? ⟨G,i,none⟩=some v)(h:a.tmps[k]?.getD undef=.pointer (some ⟨G,i,none⟩)):(execOp a.eval { dst:=d,op:=Op.load 4 (Operand.tmp k),type:=ty,pos:=p,after:=af,guard:=gd }).run Tryz.prog W=.ok (.value v) W:=by
 go_simp
end Go.Proofs.YtcimaholejajpaaGreat
namespace Go.Proofs.YtcimaholejajpaaGreat
open Go.RowKit Classical
set_option maxRecDepth 100000
variable {L:List (PMod×Mb)}{M:Mn}{base mid n:Nat}{c d k s:Int}{zss:List (List Int)}{β:Nat->Nat}
theorem aDz {ps:List PMod}{L:Lay}(e:Lok ps L):((imR ps L).length:Int)=L.ram:=by
 unfold imR;rw [if_pos e];have K:=jG e;have h3:=K.rr
 have h4:∀ i,i<=ps.length->(raB ps L i).length=L.ram.toNat:=by
  intro i
  induction i with
  | zero=>intro _;simp [raB]
  | succ i ih=>
    intro hi;have h5:=ih (by omega);have h6:=(K.at i (by omega)).2.2.2;rw [raB,qE,wM]
    .exact h5
    .rw [h5,K.place i (by omega)];omega
 have:=h4 ps.length aL;omega
theorem wX (M:Mn)(L:Lay)(a0:qO)(c0:Nat)(xs:List PB)(a2:qO)(c2:Nat)(a5:qO)(c5:Nat)(ts:List TB)(w:qw)(h:MnD w M)(hL:LyT w L a0 c0 xs a2 c2 a5 c5 ts)(hk:Lok (aF M.ms) L):
 qC 60 #[.agg (qA M),.agg (qJ L a0 xs c0 a2 c2 a5 ts c5)] w (Yn (mok M.fn M.rn M.on=true/\imF (aF M.ms) L=M.fz/\(M.rn:Int)=L.ram) w):=by
 obtain ⟨U,hU,bU,kU⟩:=nwb w (qA M) 37;obtain ⟨V,hV,bV,kV⟩:=nwb U (qJ L a0 xs c0 a2 c2 a5 ts c5) 64;have BV:=bU.trans (bV.mono bU.size);have kU':=kU.bw bV
 have HIM:=zh (show qC 58 #[qS M.ma M.mn M.mc,.agg (qJ L a0 xs c0 a2 c2 a5 ts c5)] V (fun e w'=>qY V w'/\∃ b1 n1 d1 b2 n2 d2 b3 n3 d3,e=.returned (.tuple #[.agg (qV b1 n1 d1 b2 n2 d2 b3 n3 d3),.bool true])/\OM w' V.heap.size (qS b1 n1 d1) (qS b2 n2 d2) (qS b3 n3 d3) (imF (aF M.ms) L) (imR (aF M.ms) L) []) from by
  have:=sJ M.ma M.mn M.mc M.ms L a0 c0 xs a2 c2 a5 c5 ts V (h.m.bw BV) (hL.bw BV);unfold ImM at this;rw [xR hk] at this
  exact this)
 have HRL:=zh (aDz hk);have HFV:=zh (fun (X:qw) (hX:qY V X)=>(h.f.bw BV).bw hX);have HU:=zh hU;have HV:=zh hV;have HB:=zh BV;have HMO:=zh (fun (X:qw)=>aCm M.fa M.ra M.oa M.fn M.fc M.rn M.rc M.on M.oc X);have hmr:=h.r.2.1;unfold maxLen at hmr;have HC:=zh (fun (X:qw) (hX:qY V X)=>show X.cell? (qR w.heap.size 0)=some (qS M.ma M.mn M.mc)/\X.cell? (qR w.heap.size 7)=some (qS M.fa M.fn M.fc)/\X.cell? (qR w.heap.size 8)=some (qS M.ra M.rn M.rc)/\X.cell? (qR w.heap.size 9)=some (qS M.oa M.on M.oc) from ⟨(kU'.bw hX).cell 0,(kU'.bw hX).cell 7,(kU'.bw hX).cell 8,(kU'.bw hX).cell 9⟩);obtain ⟨z0,z1,z2,z3,z4,z5⟩:=kV.ly6;obtain ⟨y0,y7,y8,y9⟩:=HC.o V brf;clear hU hV bU bV kU kU' kV BV h hL hk;go_enter Tryz.func60,Tryz.ntmps60
 go_wp2_with (first|rw [<- HU.o]|rw [<- HV.o])
 refine HIM.o.mono ?_;rintro e X1 ⟨hb1,b1,n1,d1,b2,n2,d2,b3,n3,d3,rfl,O⟩;obtain ⟨W,hW,bW,kW⟩:=nwb X1 (qV b1 n1 d1 b2 n2 d2 b3 n3 d3) 33;have BW:=hb1.trans (bW.mono hb1.size);have HW:=zh hW;have HBW:=zh BW;have HOF:=zh (fun (X:qw) (hX:qY W X)=>(((O.o1.bw bW).bw hX).bs));have HRN:=zh (show ((n2:Nat):Int)=L.ram from by rw [<- HRL.o,O.o2.bs.1]);have hn2:=O.o2.bs.2.1;unfold maxLen at hn2;have HKW:=zh kW;clear y0 y7 y8 y9 z0 z1 z2 z3 z4 z5 HU HV HIM hW bW kW hb1 O;obtain ⟨y0,y7,y8,y9⟩:=HC.o W BW;clear BW;have HBE:=zh (fun (X:qw) (hX:qY W X)=>jL M.fa b1 M.fn M.fc n1 d1 M.fz (imF (aF M.ms) L) X (HFV.o X (HBW.o.trans (hX.mono HBW.o.size))) (HOF.o X hX));by_cases c1:mok M.fn M.rn M.on=true
 .rw [c1] at HMO;have HC1:=zh c1;clear c1;go_wp2_with (rw [<- HW.o])
  refine (HMO.o _).mono ?_;rintro e X2 ⟨rfl,hb2⟩;have HB2:=zh (HBW.o.trans (hb2.mono HBW.o.size));have HBE2:=zh (HBE.o X2 hb2);clear y0 y7 y8 y9;obtain ⟨y0,y7,y8,y9⟩:=HC.o X2 HB2.o;have i0:=(HKW.o.bw hb2).e0;have i1:=(HKW.o.bw hb2).e1;clear hb2 HMO HBE HKW HOF HFV HC HW;by_cases c2:M.fz=imF (aF M.ms) L
  .rw [xR c2] at HBE2;have HC2:=zh c2.symm;clear c2;go_wp2_with fail
   refine HBE2.o.mono ?_;rintro e X3 ⟨rfl,rfl⟩;go_wp2;go_ret;have hrn:=HRN.o;refine ⟨_,rfl,?_,HB.o.trans (HB2.o.mono HB.o.size)⟩;constructor
   .intro q;exact ⟨HC1.o,HC2.o,by simp at q;omega⟩
   .intro q;have:=q.2.2;simp;omega
  .rw [xS c2] at HBE2;have HC2:Zh (¬ (mok M.fn M.rn M.on=true/\imF (aF M.ms) L=M.fz/\(M.rn:Int)=L.ram)):=fun q=>c2 q.2.1.symm;clear c2;go_wp2_with fail
   refine HBE2.o.mono ?_;rintro e X3 ⟨rfl,rfl⟩;go_wp2;go_ret;exact jD HC2.o (HB.o.trans (HB2.o.mono HB.o.size))
 .have e1:mok M.fn M.rn M.on=false:=by simpa using c1
  rw [e1] at HMO;have HC2:Zh (¬ (mok M.fn M.rn M.on=true/\imF (aF M.ms) L=M.fz/\(M.rn:Int)=L.ram)):=fun q=>c1 q.1;clear c1 e1;go_wp2_with (rw [<- HW.o])
  refine (HMO.o _).mono ?_;rintro e X2 ⟨rfl,hb2⟩;have HB2:=zh (HBW.o.trans (hb2.mono HBW.o.size));clear hb2;go_wp2;go_ret;exact jD HC2.o (HB.o.trans (HB2.o.mono HB.o.size))
theorem aBz (M:Mn)(w:qw)(h:MnD w M):
 qC 62 #[.agg (qA M)] w (Yn (aEw (aF M.ms) M.cs M.md M.bk M.lz) w):=by
 obtain ⟨U,hU,bU,kU⟩:=nwb w (qA M) 37;have HIP:=zh (jI M.ma M.mn M.mc M.ms M.md M.bk U (h.m.s.bw bU));rw [iH h.m M.md M.bk] at HIP;have HSW:=zh (fun (X:qw) (hX:qY U X)=>vU M.la M.ln M.lc M.lz M.md M.bk X ((h.l.bw bU).bw hX));have HU:=zh hU;have HB:=zh bU;have HC:=zh (fun (X:qw) (hX:qY U X)=>show X.cell? (qR w.heap.size 0)=some (qS M.ma M.mn M.mc)/\X.cell? (qR w.heap.size 1)=some (qI M.cs)/\X.cell? (qR w.heap.size 10)=some (qI M.md)/\X.cell? (qR w.heap.size 11)=some (qI M.bk)/\X.cell? (qR w.heap.size 12)=some (qS M.la M.ln M.lc) from ⟨(kU.bw hX).cell 0,(kU.bw hX).cell 1,(kU.bw hX).cell 10,(kU.bw hX).cell 11,(kU.bw hX).cell 12⟩);obtain ⟨y0,y1,y10,y11,y12⟩:=HC.o U brf;clear hU bU kU h;by_cases c1:0<=pcq (aF M.ms) M.md M.bk
 .rw [xR c1] at HIP;have HPR:Zh ((aEw (aF M.ms) M.cs M.md M.bk M.lz) ↔ (M.cs=0\/M.bk=-1\/hld M.lz M.md M.bk≠-1)):=⟨fun q=>q.2,fun q=>⟨c1,q⟩⟩;clear c1;go_enter Tryz.func62,Tryz.ntmps62
  go_wp2_with (rw [<- HU.o])
  refine HIP.o.mono ?_;rintro e X1 ⟨rfl,hb1⟩;have HX1:=zh hb1;clear y0 y1 y10 y11 y12;obtain ⟨y0,y1,y10,y11,y12⟩:=HC.o X1 hb1;have HS1:=zh (HSW.o X1 hb1);clear hb1 HIP HU HSW HC;by_cases c2:M.cs=0
  .have c2':(M.cs !=0)=false:=by simp [c2]
   have HP:=zh (HPR.o.2 (.inl c2));clear c2;go_wp2;go_ret;exact aBm HP.o (HB.o.trans (HX1.o.mono HB.o.size))
  have c2':(M.cs !=0)=true:=by simp [c2]
  by_cases c3:M.bk=-1
  .have c3':(M.bk !=-1)=false:=by simp [c3]
   have HP:=zh (HPR.o.2 (.inr (.inl c3)));clear c2 c3;go_wp2;go_ret;exact aBm HP.o (HB.o.trans (HX1.o.mono HB.o.size))
  have c3':(M.bk !=-1)=true:=by simp [c3]
  have HP:Zh ((aEw (aF M.ms) M.cs M.md M.bk M.lz) ↔ hld M.lz M.md M.bk≠-1):=⟨fun q=>by rcases HPR.o.1 q with e|e|e;exact absurd e c2;exact absurd e c3;exact e,fun q=>HPR.o.2 (.inr (.inr q))⟩;clear c2 c3 HPR;generalize hld M.lz M.md M.bk=r at *;go_wp2_with fail
  refine HS1.o.mono ?_;rintro e X2 ⟨rfl,hb2⟩;have HX2:=zh (HX1.o.trans (hb2.mono HX1.o.size));clear hb2 HS1;go_wp2;go_ret;exact ⟨_,rfl,by rw [HP.o];simp,HB.o.trans (HX2.o.mono HB.o.size)⟩
 .rw [xS c1] at HIP;have HN:Zh (¬ (aEw (aF M.ms) M.cs M.md M.bk M.lz)):=fun q=>c1 q.1;clear c1;go_enter Tryz.func62,Tryz.ntmps62
  go_wp2_with (rw [<- HU.o])
  refine HIP.o.mono ?_;rintro e X1 ⟨rfl,hb1⟩;have HX1:=zh hb1;clear hb1 HIP HU;go_wp2;go_ret;exact jD HN.o (HB.o.trans (HX1.o.mono HB.o.size))
theorem aJ9 (h:(ldc zss n s c k d).1=0):lkc (pal zss n) s c k d=0/\kJ (pal zss n) (lay (pal zss n) s c k)/\1<=n:=by
 unfold ldc at h;split at h
 .exact absurd h (by decide)
 split at h
 .exact absurd h (by decide)
 rename_i _ hn;cases e:fnz (pcd zss) n with
 | some i=>
   rw [e] at h;have:=jT zss i;have h':10+pcd zss i=0:=h;omega
 | none=>
   rw [e] at h;dsimp only at h;split at h
   .have:=nE (pal zss n) s c k d;have h':40+lkc (pal zss n) s c k d=0:=h;omega
   .rename_i h1;by_cases hf:kJ (pal zss n) (lay (pal zss n) s c k)
    .exact ⟨by omega,hf,by omega⟩
    .rw [if_neg hf] at h;exact absurd h (by decide)
theorem aMs {W:qw}(h:LdO W base mid (ldC zss n s c k d) M L β)(h0:(ldc zss n s c k d).1=0):MOk M:=by
 obtain ⟨hk,hf,hn⟩:=aJ9 h0;have eC:ldC zss n s c k d=⟨pal zss n,s,c,k,d,-1,List.replicate 8 0,imF (pal zss n) (lay (pal zss n) s c k),imR (pal zss n) (lay (pal zss n) s c k),List.replicate s.toNat zSl⟩:=if_pos h0;rw [eC] at h;obtain ⟨v1,v2,v3,v4,v5,v6,v7,v8⟩:=h.vs;obtain ⟨u1,u2,u3,u4,u5,u6,u7⟩:=h.vz;dsimp only at v1 v2 v3 v4 v7 u2 u3 u4 u6;have ep:aF M.ms=pal zss n:=by rw [u1,h.m.pms];exact h.e
 have eL:M.L=lay (pal zss n) s c k:=by unfold Mn.L lkL;rw [ep,v1,v2,v3,v4,if_pos hk]
 have hc:=(gE.1 hk).1;unfold cfo at hc;simp at hc;have il:=aHv (pal zss n) (lay (pal zss n) s c k);have n1:=aB7 h.k;have n2:=iN h.q.o1;have n3:=iN h.q.o2;have n4:=iN h.q.o3;dsimp only at n1 n2 n3;refine ⟨by rw [ep,v1,v2,v3,v4];exact hk,by rw [ep,eL];exact hf,?_,?_,by rw [ep,eL,u3],?_,by rw [v8];decide,⟨by rw [u6,v1,List.length_replicate];omega,fun i hi=>?_⟩,⟨?_,.inr (.inl v7)⟩,⟨by rw [u7,v4];show (0:Int)<=d;omega,fun i hi=>by rw [u7] at hi;exact absurd hi (Nat.not_lt_zero _)⟩⟩
 .rw [v5,n1,u2];decide
 .unfold mok;rw [n2,n3,n4];exact decide_eq_true ⟨il.1,il.2,by show 0<=5000;omega⟩
 .rw [eL,n3];exact aDz (xV hk)
 .rw [u6] at hi ⊢;rw [List.length_replicate] at hi
  have e:∀ j,(List.replicate s.toNat zSl).getD j zSl=zSl:=fun j=>by
   rw [xB,List.getElem?_replicate];split<;>rfl
  unfold tV;rw [e];exact ⟨.inl ⟨rfl,rfl⟩,fun j hj q=>by rw [e] at q;exact absurd q.1 (by decide),fun q=>absurd q (by decide)⟩
 .rw [ep,v6,v7];unfold pcq;rw [if_pos ⟨by omega,by simp [pal];omega⟩,if_pos rfl];omega
theorem aNr {W:qw}(h:LdO W base mid (ldC zss n s c k d) M L β)(h0:(ldc zss n s c k d).1≠0):M.mn=0/\¬ MOk M:=by
 have eC:ldC zss n s c k d=⟨[],0,0,0,0,0,[],[],[],[]⟩:=if_neg h0;rw [eC] at h;have ep:aF M.ms=[]:=by rw [h.vz.1,h.m.pms];exact h.e
 refine ⟨?_,fun q=>?_⟩
 .have hl:L.length=0:=by have:=congrArg List.length h.e;simpa using this
  have:=iL h.m.o;omega
 .have:=(gE.1 q.l).2.1;rw [ep] at this;exact absurd this (by decide)
theorem vX (a1 a2 a3 b1 b2 b3:qO)(n1 c1 n2 c2 n3 c3 d1 d2 d3:Nat)(x1 x2 x3:qi)(w:qw)(h1:BS w a1 n1 c1 x1)(h2:BS w a2 n2 c2 x2)(h3:BS w a3 n3 c3 x3)(k1:BS w b1 n1 d1 x1)(k2:BS w b2 n2 d2 x2)(k3:BS w b3 n3 d3 x3):
 qC 29 #[.agg (qV a1 n1 c1 a2 n2 c2 a3 n3 c3),.agg (qV b1 n1 d1 b2 n2 d2 b3 n3 d3)] w (qB w (.bool true)):=by
 have hB0:qY w ((w.alloc (.cells (qV a1 n1 c1 a2 n2 c2 a3 n3 c3) 33)).alloc (.cells (qV b1 n1 d1 b2 n2 d2 b3 n3 d3) 33)):=bal.alloc (by simp) _;have kb:=(Blk.new w (qV a1 n1 c1 a2 n2 c2 a3 n3 c3) 33).alloc (.cells (qV b1 n1 d1 b2 n2 d2 b3 n3 d3) 33);have kc:=Blk.new (w.alloc (.cells (qV a1 n1 c1 a2 n2 c2 a3 n3 c3) 33)) (qV b1 n1 d1 b2 n2 d2 b3 n3 d3) 33;try unfold qY at *
 simp only [xF] at kc;go_enter Tryz.func29,Tryz.ntmps29
 go_wp2_with fail
 refine (gF _ _ _ _ _ _ x1 x1 _ (h1.bw hB0) (k1.bw hB0)).mono ?_;rw [xR rfl];rintro e w1 ⟨rfl,hb1⟩;have hB1:=hB0.trans (hb1.mono (by simp;omega));have kb:=kb.bw hb1;have kc:=kc.bw hb1;obtain ⟨q1,q2,q3,q4⟩:=kb.three;obtain ⟨p1,p2,p3,p4⟩:=kc.three;clear hb1 hB0;go_wp2_with fail
 refine (gF _ _ _ _ _ _ x2 x2 _ (h2.bw hB1) (k2.bw hB1)).mono ?_;rw [xR rfl];rintro e w2 ⟨rfl,hb2⟩;have hB2:=hB1.trans (hb2.mono hB1.size);have kb:=kb.bw hb2;have kc:=kc.bw hb2;clear q1 q2 q3 q4 p1 p2 p3 p4 hb2 hB1;obtain ⟨q1,q2,q3,q4⟩:=kb.three;obtain ⟨p1,p2,p3,p4⟩:=kc.three;go_wp2_with fail
 refine (gF _ _ _ _ _ _ x3 x3 _ (h3.bw hB2) (k3.bw hB2)).mono ?_;rw [xR rfl];rintro e w3 ⟨rfl,hb3⟩;have hB3:=hB2.trans (hb3.mono hB2.size);go_wp2;go_ret;exact ⟨rfl,hB3⟩
