import Derived.Deep.OwnRows
import Derived.Laws.CopyOwn
import Derived.Laws.AppendOwnNone
import Derived.Test.YtncccmeomcaabaaGreatP12
import Derived.Test.YtncccmeomcaabaaGreatP10
set_option maxHeartbeats 8000000
namespace Go.Proofs.YtncccmeomcaabaaGreat
open Go.RowKit Classical
open Go.Proofs.Tryz
set_option linter.all false
set_option maxRecDepth 100000
variable {G:Prop}{L:Lay}{N b base f g gm i n o sz:Nat}{P:PMod}{cs:Array Value}{d k s w:Int}{ps:List PMod}{v:Value}{x:Obj}
def zby (n:Nat):Array Value:=((List.replicate n (0:Int)).map (Value.int .u8)).toArray
theorem yG (n:Nat)(hn:n<=16384)(W:qw):(Instr.makeSlice 28 (qI (n:Int)) (qI (n:Int))).run prog W=.ok (qS (qP W.heap.size) n n) (W.alloc (.cells (zby n) 5)):=by
 rw [run_make_row' 28 5 (.int .u8 0) 1 underlying28 yO rfl .i64 .i64 n (by omega) (by omega) W];have:=aN0 n;rw [Nat.mul_one] at this;unfold zby;rw [<- this];rfl
theorem nS {W:qw}(h:Blk W g (zby n) 5)(hg:base<=g)(hn:n<=16384):OB W base (qS (qP g) n n) (List.replicate n 0):=by
 refine ⟨⟨by simp,.inr ⟨g,n,zby n,by simp,hg,h,by simp,by unfold maxLen;omega,by simp [zby],?_⟩⟩,fun z hz=>by have:=List.eq_of_mem_replicate hz;omega⟩;unfold zby;simp only [List.toList_toArray,List.length_replicate,Nat.mul_one];exact xG (by simp)
def cN (zs:qi)(P:PMod)(p:Pl):Nat->List Int
 | 0=>bL zs p.text.toNat P.tz P.tz.length
 | j+1=>bL (cN zs P p j) (p.banks.getD j 0).toNat (P.bl.getD j []) (P.bl.getD j []).length
theorem aHw (zs:qi)(P:PMod)(p:Pl):∀ j,(cN zs P p j).length=zs.length
 | 0=>eZ _ _ _ _
 | j+1=>by rw [cN,eZ,aHw zs P p j]
def flB (ps:List PMod)(L:Lay):Nat->List Int
 | 0=>List.replicate L.flash.toNat 0
 | i+1=>cN (flB ps L i) (ps.getD i zP) (L.places.getD i zPB.1) (ps.getD i zP).bl.length
def iH (zs:qi)(f:Nat)(rz:qi)(d:Int):Nat->List Int
 | 0=>zs
 | j+1=>put (iH zs f rz d j) (f+(rz.getD j 0).toNat) (low (((iH zs f rz d j).drop (f+(rz.getD j 0).toNat)).take 4)+d) 4
theorem aCc (zs:qi)(f:Nat)(rz:qi)(d:Int):∀ j,(iH zs f rz d j).length=zs.length
 | 0=>rfl
 | j+1=>by rw [iH,qU,aCc zs f rz d j]
def ovr (zs:qi)(f:Nat)(ds:qi):List Int:=zs.take f++(ds++zs.drop (f+ds.length))
theorem lE (zs:qi)(f:Nat)(ds:qi)(h:f+ds.length<=zs.length):(ovr zs f ds).length=zs.length:=by simp [ovr];omega
def raB (ps:List PMod)(L:Lay):Nat->List Int
 | 0=>List.replicate L.ram.toNat 0
 | i+1=>iH (ovr (raB ps L i) ((L.places.getD i zPB.1).data-65536).toNat (ps.getD i zP).dz) ((L.places.getD i zPB.1).data-65536).toNat (ps.getD i zP).rz (L.places.getD i zPB.1).data (ps.getD i zP).rz.length
theorem aM2 (h:lkc ps s w k d=0):(lay ps s w k).flash<=16384/\(lay ps s w k).ram<=16384:=by
 unfold lkc at h;split at h
 .rename_i h1;exact absurd h h1
 split at h
 .exact absurd h (by decide)
 split at h
 .exact absurd h (by decide)
 split at h
 .exact absurd h (by decide)
 split at h
 .exact absurd h (by decide)
 rename_i h1 h2;omega
theorem aG5 {ps:List PMod}(hv:fQ ps):∀ i j,i<=j->j<=ps.length->Fl ps i<=Fl ps j
 | i,0,h,_=>by
    have:i=0:=by omega
    subst this;exact Int.le_refl _
 | i,j+1,h,hj=>by
   by_cases e:i=j+1
   .subst e;exact Int.le_refl _
   .have h1:=aG5 hv i j (by omega) (by omega);have hm:=hv j (by omega);have h2:=dZ hm;have h3:=cD hm _ aN;show Fl ps i<=Fl ps j+(tsz (ps.getD j zP)+cB (ps.getD j zP) (ps.getD j zP).bl.length);omega
theorem aG4 {ps:List PMod}(hv:fQ ps):∀ i j,i<=j->j<=ps.length->Ra ps i<=Ra ps j
 | i,0,h,_=>by
    have:i=0:=by omega
    subst this;exact Int.le_refl _
 | i,j+1,h,hj=>by
   by_cases e:i=j+1
   .subst e;exact Int.le_refl _
   .have h1:=aG4 hv i j (by omega) (by omega);have h2:=iN (hv j (by omega));show Ra ps i<=Ra ps j+dsz (ps.getD j zP);omega
theorem yS {P:PMod}(hv:fB P=0):∀ i j,i<=j->j<=P.bl.length->cB P i<=cB P j
 | i,0,h,_=>by
    have:i=0:=by omega
    subst this;exact Int.le_refl _
 | i,j+1,h,hj=>by
   by_cases e:i=j+1
   .subst e;exact Int.le_refl _
   .have h1:=yS hv i j (by omega) (by omega);have h2:=aQ (x:=4*((P.bl.getD j []).length:Int));show cB P i<=cB P j+rnd (4*((P.bl.getD j []).length:Int));omega
structure Lkn (ps:List PMod)(L:Lay):Prop where
 n:1<=ps.length/\ps.length<=4
 v:fQ ps
 im:jS ps
 pl:L.places=(List.range ps.length).map (plc ps)
 fl:L.flash=Fl ps ps.length
 fr:0<=L.flash/\L.flash<=16384
 ra:Ra ps ps.length<=L.ram
 rr:0<=L.ram/\L.ram<=16384
 tg:L.targets=(List.range ps.length).map fun i=>tgs ps (ps.getD i zP)
 st:L.stack=65536+Ra ps ps.length
theorem kI (h:Lok ps L):Lkn ps L:=by
 obtain ⟨h1,h2⟩:=h;have e:lay ps (L.slots.length:Int) (cfW L) (cfK L)=L:=by unfold lkL at h2;rw [if_pos h1] at h2;exact h2
 obtain ⟨hc,n1,n2,hv,hi⟩:=fY h1;obtain ⟨b1,b2⟩:=aM2 h1;unfold cfo at hc;simp at hc;have a1:=cM hv ps.length aN;have a2:=bO hv ps.length aN;have a3:(0:Int)<=((L.slots.length:Int).toNat:Int)*rnd (4*cfW L):=Int.mul_nonneg (by omega) (by have:=aQ (x:=4*cfW L);omega);have e1:L.flash=Fl ps ps.length:=by rw [<- e];rfl
 have e2:L.ram=Ra ps ps.length+cfK L+((L.slots.length:Int).toNat:Int)*rnd (4*cfW L):=by
  have:=congrArg Lay.ram e;rw [<- this];rfl
 rw [e] at b1 b2;exact ⟨⟨n1,n2⟩,hv,hi,by rw [<- e];rfl,e1,⟨by omega,b1⟩,by omega,⟨by omega,b2⟩,by rw [<- e];rfl,by have:=congrArg Lay.stack e;rw [<- this];rfl⟩
theorem Lkn.place (h:Lkn ps L)(i:Nat)(hi:i<ps.length):L.places.getD i zPB.1=plc ps i:=by
 rw [h.pl];simp [xB,hi]
theorem aIx (h:fB P=0):∀ j,j<P.rz.length->0<=P.rz.getD j 0/\P.rz.getD j 0+4<=(P.dz.length:Int):=by
 unfold fB mdo at h;split at h
 .exact absurd h (by decide)
 split at h
 .exact absurd h (by decide)
 split at h
 .exact absurd h (by decide)
 split at h
 .exact absurd h (by decide)
 rename_i h1 h2 h3 h4;intro j hj;have h5:rlo P.rz.length P.rz P.dz.length=true:=by simpa using h4
 unfold rlo at h5;rw [Bool.and_eq_true,List.all_eq_true] at h5;have h6:=h5.2 j (by simpa using hj);unfold rlk at h6;rw [decide_eq_true_eq] at h6;omega
theorem aK3 {α:Type}(l:List α)(i:Nat)(z:α)(h:i<l.length):l.getD i z∈l:=by simp [xB,h]
theorem aEa {α:Type}(f:Nat->α)(n j:Nat)(z:α)(h:j<n):((List.range n).map f).getD j z=f j:=by simp [xB,h]
theorem aDu (h:fB P=0):(∀ i,i<P.tz.length->0<=P.tz.getD i 0/\P.tz.getD i 0<=4294967295)/\∀ k,k<P.bl.length->∀ i,i<(P.bl.getD k []).length->0<=(P.bl.getD k []).getD i 0/\(P.bl.getD k []).getD i 0<=4294967295:=by
 unfold fB at h;have V:=lA (by simp [lN]) h;refine ⟨fun i hi=>V.tw _ (by simp [xB,hi]),fun k hk i hi=>?_⟩
 have:=(V.bw k (by simp [lN];exact hk)).2 ((P.bl.getD k []).getD i 0) (by
  have e:((lN P.bl).getD k zB).2.2.2=P.bl.getD k []:=by simp [lN,xB,hk]
  rw [e]
  exact aK3 _ _ _ hi)
 exact this
theorem Lkn.at (h:Lkn ps L)(i:Nat)(hi:i<ps.length):
 (0<=(plc ps i).text/\(plc ps i).text+4*((ps.getD i zP).tz.length:Int)<=L.flash)/\(plc ps i).banks.length=(ps.getD i zP).bl.length/\(∀ j,j<(ps.getD i zP).bl.length->0<=(plc ps i).banks.getD j 0/\(plc ps i).banks.getD j 0+4*(((ps.getD i zP).bl.getD j []).length:Int)<=L.flash)/\(65536<=(plc ps i).data/\(plc ps i).data-65536+((ps.getD i zP).dz.length:Int)<=L.ram):=by
 have hm:=h.v i hi;have a1:=cM h.v i (by omega);have a2:=aG5 h.v (i+1) ps.length (by omega) aN;have a3:Fl ps (i+1)=Fl ps i+(tsz (ps.getD i zP)+cB (ps.getD i zP) (ps.getD i zP).bl.length):=rfl;have a4:=cD hm _ aN;have a5:=aQ (x:=4*((ps.getD i zP).tz.length:Int));have a6:tsz (ps.getD i zP)=rnd (4*((ps.getD i zP).tz.length:Int)):=rfl;have b1:=bO h.v i (by omega);have b2:=aG4 h.v (i+1) ps.length (by omega) aN;have b3:Ra ps (i+1)=Ra ps i+dsz (ps.getD i zP):=rfl;have b4:=cA hm;have b5:=aQ (x:=((ps.getD i zP).dz.length:Int)+(ps.getD i zP).bss);have b6:dsz (ps.getD i zP)=rnd (((ps.getD i zP).dz.length:Int)+(ps.getD i zP).bss):=rfl;have hfl:=h.fl;have hra:=h.ra;refine ⟨⟨a1.1,?_⟩,by simp [plc],fun j hj=>?_,?_,?_⟩
 .show Fl ps i+4*_<=_;omega
 .have c1:=cD hm j (by omega);have c2:=yS hm (j+1) (ps.getD i zP).bl.length (by omega) aN;have c3:cB (ps.getD i zP) (j+1)=cB (ps.getD i zP) j+rnd (4*(((ps.getD i zP).bl.getD j []).length:Int)):=rfl;have c4:=aQ (x:=4*(((ps.getD i zP).bl.getD j []).length:Int));have e:(plc ps i).banks.getD j 0=Fl ps i+tsz (ps.getD i zP)+cB (ps.getD i zP) j:=aEa _ _ _ _ hj;rw [e];have c5:=dZ hm;omega
 .show 65536<=65536+Ra ps i;omega
 .show 65536+Ra ps i-65536+_<=_;omega
structure OM (w:qw)(base:Nat)(v1 v2 v3:Value)(x1 x2 x3:qi):Prop where
 o1:OB w base v1 x1
 o2:OB w base v2 x2
 o3:OB w base v3 x3
 a12:∀ k,v1.ownBlock=some k->v2.ownBlock≠some k
 a13:∀ k,v1.ownBlock=some k->v3.ownBlock≠some k
 a23:∀ k,v2.ownBlock=some k->v3.ownBlock≠some k
def imF (ps:List PMod)(L:Lay):List Int:=@ite _ (Lok ps L) (lokD ps L) (flB ps L ps.length) []
def imR (ps:List PMod)(L:Lay):List Int:=@ite _ (Lok ps L) (lokD ps L) (raB ps L ps.length) []
def ImM (w:qw)(ps:List PMod)(L:Lay)(e:Ending)(w':qw):Prop:=qY w w'/\∃ a1 n1 c1 a2 n2 c2 a3 n3 c3,e=.returned (.tuple #[.agg (qV a1 n1 c1 a2 n2 c2 a3 n3 c3),.bool (decide (Lok ps L))])/\OM w' w.heap.size (qS a1 n1 c1) (qS a2 n2 c2) (qS a3 n3 c3) (imF ps L) (imR ps L) []
theorem aQs {S F:Nat->Nat->Nat->Nat->World->Prop}(main:(∀ a b c d W,F a b c d W->S a b c d W)->G)(pf:∀ a b c d W,F a b c d W->S a b c d W):G:=main pf
theorem pM {W:qw}(h:W.cell? (qR b o)=some v):(W.alloc x).cell? (qR b o)=some v:=aB bal h
theorem uQ {W:qw}(h:W.cell? (qR b o)=some v):W.drew.cell? (qR b o)=some v:=h
theorem yV {W:qw}{u:Value}(hb:b<g)(h:W.cell? (qR b o)=some v):(W.setCell (qR g i) u).cell? (qR b o)=some v:=(aP (.inl (by omega))).trans h
structure Mk4 (N:Nat)(w1 W:qw)(ZF ZR:Array Value)(F R gf gr go gm:Nat):Prop where
 be:Below N w1 W
 f:Blk W gf ZF 5
 r:Blk W gr ZR 5
 o:Blk W go #[] 5
 m:Blk W gm (qV (qP gf) F F (qP gr) R R (qP go) 0 0) 39
 lo:N<=gf/\N<=gr/\N<=go/\N<=gm
 ne:gf≠gr/\gf≠go/\gr≠go
theorem gG (w:qw):w.drew.heap.size=w.heap.size:=rfl
theorem gK {W:qw}{t:TypeId}(h:Blk W g cs t):Blk W.drew g cs t:=h
theorem gJ {W:qw}{t:TypeId}(h:g=W.heap.size):Blk (W.alloc (.cells cs t)) g cs t:=by subst h;exact Blk.new W cs t
theorem dK {W:qw}{t:TypeId}(hn:g≠b)(h:Blk W g cs t):Blk (W.setCell (qR b i) v) g cs t:=h.other _ _ hn
theorem dC {W:qw}{t:TypeId}{v0 v1 v2:Value}(h:Blk W g (qV none 0 0 none 0 0 none 0 0) t):Blk (((W.setCell (qR g 0) v0).setCell (qR g 1) v1).setCell (qR g 2) v2) g #[v0,v1,v2] t:=by
 have:=((h.set 0 v0).set 1 v1).set 2 v2;simpa only [yA,yB,yC] using this
theorem yW {a W:qw}(hN:N<=a.heap.size)(h:Below N a W):Below N a (W.alloc x):=h.alloc (xM hN h.size) _
theorem aG0 {a W:qw}(hg:N<=g)(h:Below N a W):Below N a (W.setCell (qR g i) v):=h.setCell (p:=(qR g i)) hg v
theorem aDp {a W:qw}(h:Below N a W):Below N a W.drew:=h.drew
structure ImS (w:qw)(V:Array Value)(F R gf gr go gm:Nat)(fz rz:qi)(W:qw):Prop where
 be:qY w W
 kl:Blk W w.heap.size V 71
 kr:Blk W (w.heap.size+1) (qV none 0 0 none 0 0 none 0 0) 39
 km:Blk W gm (qV (qP gf) F F (qP gr) R R (qP go) 0 0) 39
 f:OB W w.heap.size (qS (qP gf) F F) fz
 r:OB W w.heap.size (qS (qP gr) R R) rz
 o:Blk W go #[] 5
 lo:w.heap.size+1<gf/\w.heap.size+1<gr/\w.heap.size+1<go/\w.heap.size+1<gm
 ne:gf≠gr/\gf≠go/\gr≠go
section
variable {w:qw}{V:Array Value}{F R gf gr go gm:Nat}{fz rz:qi}{W W':qw}
theorem ImS.bw (h:ImS w V F R gf gr go gm fz rz W)(hb:qY W W'):ImS w V F R gf gr go gm fz rz W':=⟨h.be.trans (hb.mono h.be.size),h.kl.bw hb,h.kr.bw hb,h.km.bw hb,h.f.bw hb,h.r.bw hb,h.o.bw hb,h.lo,h.ne⟩
theorem gZ {c:Nat}{zs:qi}(h:OB W base (qS (qP g) n c) zs):∃ cs,Blk W g cs 5:=aE h.1 rfl
theorem ImS.mf (h:ImS w V F R gf gr go gm fz rz W):gm≠gf/\gm≠gr:=by
 obtain ⟨c1,k1⟩:=gZ h.f;obtain ⟨c2,k2⟩:=gZ h.r;exact ⟨fun e=>by subst e;exact absurd (aI h.km k1) (by decide),fun e=>by subst e;exact absurd (aI h.km k2) (by decide)⟩
theorem ImS.setf (h:ImS w V F R gf gr go gm fz rz W){fz':qi}(O:OB W' w.heap.size (qS (qP gf) F F) fz')(T:fG gf W W'):ImS w V F R gf gr go gm fz' rz W':=
 ⟨cX h.be T (by have:=h.lo;omega),bY T h.kl (by have:=h.lo;omega),bY T h.kr (by have:=h.lo;omega),bY T h.km h.mf.1,O,rG T h.r (by have:=h.ne.1;simp [Value.ownBlock];omega),bY T h.o (by have:=h.ne;omega),h.lo,h.ne⟩
theorem ImS.setr (h:ImS w V F R gf gr go gm fz rz W){rz':qi}(O:OB W' w.heap.size (qS (qP gr) R R) rz')(T:fG gr W W'):ImS w V F R gf gr go gm fz rz' W':=
 ⟨cX h.be T (by have:=h.lo;omega),bY T h.kl (by have:=h.lo;omega),bY T h.kr (by have:=h.lo;omega),bY T h.km h.mf.2,rG T h.f (by have:=h.ne.1;simp [Value.ownBlock];omega),O,bY T h.o (by have:=h.ne;omega),h.lo,h.ne⟩
structure Im5 (w:qw)(V:Array Value)(F R gf gr go gm gp:Nat)(PV:Array Value)(fz rz:qi)(W:qw):Prop where
 s:ImS w V F R gf gr go gm fz rz W
 p:Blk W gp PV 171
variable {gp:Nat}{PV:Array Value}
theorem Im5.bw (h:Im5 w V F R gf gr go gm gp PV fz rz W)(hb:qY W W'):Im5 w V F R gf gr go gm gp PV fz rz W':=⟨h.s.bw hb,h.p.bw hb⟩
theorem Im5.drew (h:Im5 w V F R gf gr go gm gp PV fz rz W):Im5 w V F R gf gr go gm gp PV fz rz W.drew:=h.bw brf.drew
theorem Im5.pf (h:Im5 w V F R gf gr go gm gp PV fz rz W):gp≠gf/\gp≠gr:=by
 obtain ⟨c1,k1⟩:=gZ h.s.f;obtain ⟨c2,k2⟩:=gZ h.s.r;exact ⟨fun e=>by subst e;exact absurd (aI h.p k1) (by decide),fun e=>by subst e;exact absurd (aI h.p k2) (by decide)⟩
theorem Im5.setf (h:Im5 w V F R gf gr go gm gp PV fz rz W){fz':qi}(O:OB W' w.heap.size (qS (qP gf) F F) fz')(T:fG gf W W'):Im5 w V F R gf gr go gm gp PV fz' rz W':=⟨h.s.setf O T,bY T h.p h.pf.1⟩
theorem Im5.setr (h:Im5 w V F R gf gr go gm gp PV fz rz W){rz':qi}(O:OB W' w.heap.size (qS (qP gr) R R) rz')(T:fG gr W W'):Im5 w V F R gf gr go gm gp PV fz rz' W':=⟨h.s.setr O T,bY T h.p h.pf.2⟩
end
theorem rH {W:qw}{zs:qi}(h:OB W base (qS (qP g) n n) zs):W.heap[g]?=some (.cells (zs.map (Value.int .u8)).toArray 5 (0,0))/\zs.length=n/\base<=g/\n<=maxLen:=by
 obtain ⟨hl,⟨h0,_⟩|⟨g',cap',cur,hv,hg,hh,h1,h2,h3,h4⟩⟩:=h.1
 .simp at h0
 .simp at hv;obtain ⟨rfl,rfl,rfl⟩:=hv;refine ⟨?_,rfl,hg,by omega⟩;have e:cur.toList=zs.map (Value.int .u8):=by rw [<- h4,xG (by simp [h3])]
  rw [hh,<- e]
theorem aAm (zs:qi)(f:Nat)(ds:qi):splice (zs.map (Value.int .u8)) f (ds.map (Value.int .u8))=(ovr zs f ds).map (Value.int .u8):=by
 simp [splice,ovr,List.map_take,List.map_drop]
theorem wX {zs ds:qi}(hz:∀ z∈zs,0<=z/\z<=255)(hd:∀ z∈ds,0<=z/\z<=255):∀ z∈ovr zs f ds,0<=z/\z<=255:=fun z h=>by
 unfold ovr at h;rcases List.mem_append.1 h with h|h
 .exact hz z (List.mem_of_mem_take h)
 .rcases List.mem_append.1 h with h|h
  .exact hd z h
  .exact hz z (List.mem_of_mem_drop h)
theorem aMl (zs:qi)(f:Nat):ovr zs f []=zs:=by simp [ovr]
theorem pE (g:Nat)(w:qw)(cs:Array Value):fG g w (w.setRow g cs):=⟨by simp [World.setRow],fun k hk=>setRow_other w g k cs hk,rfl,rfl,rfl⟩
theorem lF {W:qw}{zs:qi}(h:W.heap[g]?=some (.cells (zs.map (Value.int .u8)).toArray 5 (0,0)))(hl:zs.length=n)(hg:base<=g)(hm:n<=maxLen)(hr:∀ z∈zs,0<=z/\z<=255):OB W base (qS (qP g) n n) zs:=by
 subst hl;refine ⟨⟨by simp,.inr ⟨g,zs.length,_,rfl,hg,h,aN,hm,by simp,?_⟩⟩,hr⟩;simp only [List.toList_toArray,Nat.mul_one];exact xG (by simp)
theorem uM {W:qw}{zs ds:qi}(ho:OB W base (qS (qP g) n n) zs)(ty:TypeId)(dp sp:qO)(dLen dCap sLen sCap:Nat)(hds:BS W sp sLen sCap ds)(hle:sLen<=dLen)(hfit:f+sLen<=n)(hpos:0<sLen->dp=some (qR g f)):
 ∃ w',(Builtin.copy_ #[28,28] ty #[qS dp dLen dCap,qS sp sLen sCap]).run prog W=.ok (goInt sLen) w'/\OB w' base (qS (qP g) n n) (ovr zs f ds)/\fG g W w':=by
 obtain ⟨hrow,hlz,hg,hm⟩:=rH ho;have hld:=hds.1;have hi8:(prog.info? 5).map (·.size)=some 1:=by kernel_rfl
 by_cases h0:sLen=0
 .subst h0;obtain rfl:ds=[]:=xE hld;exact ⟨W,run_copy_none (P:=prog) W _ _ ty 5 dp sp dLen dCap 0 sCap underlying28 hi8 (by simp),by rw [aMl];exact ho,iJ _ _⟩
 .obtain ⟨b,off,rfl,hc⟩:=hds.2.2.2.1 h0;rw [hpos (by omega)];subst hld
  have hrun:=run_copy_row (P:=prog) W 28 28 ty 5 g f dLen dCap (qR b off) ds.length sCap (zs.map (Value.int .u8)).toArray 5 (ds.map (Value.int .u8)) underlying28 hi8 hrow (by rw [xH];exact (Nat.min_eq_left hle).symm) (fun j v hj=>by
   have hjl:j<ds.length:=by
    rcases Nat.lt_or_ge j ds.length with h1|h1
    .exact h1
    .rw [xO (by simp;omega)] at hj;cases hj
   rw [bN,hc j hjl,<- hj]
   simp [xB,show j<ds.length by omega]) (by simp;omega) (fun v hv=>by
   simp at hv;obtain ⟨z,_,rfl⟩:=hv
   rfl)
  rw [xH] at hrun;refine ⟨_,hrun,?_,pE _ _ _⟩;refine lF ?_ (by rw [lE _ _ _ (by omega)];exact hlz) hg hm (wX ho.2 hds.2.2.1);have:=setRow_heap W g (zs.map (Value.int .u8)).toArray (splice (zs.map (Value.int .u8)) f (ds.map (Value.int .u8))).toArray 5 (0,0) hrow;rw [aAm] at this;rw [<- aAm] at this ⊢;simpa [splice] using this
theorem aQc {S F:Value->World->Prop}(main:(∀ v W,F v W->S v W)->G)(pf:∀ v W,F v W->S v W):G:=main pf
structure Pc (w0 w:qw)(cm cp:Array Value)(g n base:Nat)(zs:qi)(W:qw):Prop where
 be:qY w0 W
 km:Blk W w.heap.size cm 138
 kp:Blk W (w.heap.size+1) cp 171
 o:OB W base (.slice (some (qR g 0)) n n) zs
 t:Turn (fun j=>j=g) w W
section
variable {w0 w:qw}{cm cp:Array Value}{g n base:Nat}{zs:qi}{W W':qw}
theorem Pc.bw (h:Pc w0 w cm cp g n base zs W)(hb:qY W W'):Pc w0 w cm cp g n base zs W':=⟨h.be.trans (hb.mono h.be.size),h.km.bw hb,h.kp.bw hb,h.o.bw hb,h.t.trans (aJ hb)⟩
theorem Pc.drew (h:Pc w0 w cm cp g n base zs W):Pc w0 w cm cp g n base zs W.drew:=h.bw brf.drew
theorem Pc.set (h:Pc w0 w cm cp g n base zs W){zs':qi}(hg:w0.heap.size<=g)(O:OB W' base (.slice (some (qR g 0)) n n) zs')(T:fG g W W'):Pc w0 w cm cp g n base zs' W':=by
 obtain ⟨c1,k1⟩:=gZ h.o;exact ⟨cX h.be T hg,bY T h.km (fun e=>absurd (aI (show Blk W g cm 138 from e ▸ h.km) k1) (by decide)),bY T h.kp (fun e=>absurd (aI (show Blk W g cp 171 from e ▸ h.kp) k1) (by decide)),O,h.t.trans (sN T)⟩
end
theorem aHv (zs:qi)(k:Nat)(ws:qi):bL zs k ws 0=zs:=rfl
theorem aCg (g F:Nat)(nm:ByteArray)(ta:qO)(tn tc:Nat)(tz:qi)(ba:qO)(bn bc:Nat)(bl:List Bk)(da:qO)(dn dc:Nat)(bss:Int)(ra:qO)(rn rc:Nat)(ia:qO)(im ic:Nat)(ea:qO)(en ec:Nat)(P:PMod)(kt:Nat)(xa:qO)(xb:qi)(xc:Nat)(xd xz:Int)(fz:qi)(base:Nat)(w w0:qw)(hT:IS w0 ta tn tc tz)(hB:BKS w0 ba bn bc bl)(hP1:P.tz=tz)(hP2:P.bl=bl.map (fun B=>B.2.2.2))(hx:IS w0 xa xb.length xc xb)(hb:qY w0 w)(hg:w0.heap.size<=g)(ho:OB w base (.slice (some (qR g 0)) F F) fz)(hF:F<=16384)(hbn4:bn<=4)
 (ht:kt+4*tn<=F) (hxb:xb.length=bn) (hbk:∀ j,j<bn->0<=xb.getD j 0/\xb.getD j 0+4*((bl.getD j zB).2.1:Int)<=(F:Int)):
 qC 217 #[.slice (some (qR g 0)) F F,.agg (qM nm ta tn tc ba bn bc da dn dc bss ra rn rc ia im ic ea en ec),.agg #[.int .i64 (kt:Int),.slice xa xb.length xc,.int .i64 xd,.int .i64 xz]] w fun e w'=>e=.returned (.tuple #[])/\OB w' base (.slice (some (qR g 0)) F F) (cN fz P ⟨(kt:Int),xb,xd,xz⟩ P.bl.length)/\Turn (fun j=>j=g) w w':=by
 have hbl:bl.length=bn:=hB.1;have htl:tz.length=tn:=hT.1;have HPL:=zh (show P.bl.length=bn by rw [hP2,xH];exact hbl);have HP0:=zh (show cN fz P ⟨(kt:Int),xb,xd,xz⟩ 0=bL fz kt tz tn by show bL fz ((kt:Int)).toNat P.tz P.tz.length=_;rw [hP1,xY,htl])
 have HPS:=zh (show ∀ j,j<bn->cN fz P ⟨(kt:Int),xb,xd,xz⟩ (j+1)=bL (cN fz P ⟨(kt:Int),xb,xd,xz⟩ j) (xb.getD j 0).toNat (bl.getD j zB).2.2.2 (bl.getD j zB).2.1 from fun j hj=>by
  have e:P.bl.getD j []=(bl.getD j zB).2.2.2:=by rw [hP2,fD _ _ _ zB _]
  show bL _ (xb.getD j 0).toNat (P.bl.getD j []) (P.bl.getD j []).length=_
  rw [e,(hB.2.2.2.1 j hj).1])
 have HPW:=zh (fun (cm cp:Array Value) (zs:qi) (k:Nat) (a:qO) (wn wc:Nat) (ws:qi) (X:qw) (hw:IS w0 a wn wc ws) (S:Pc w0 w cm cp g F base zs X) (hk:k+4*wn<=F) (hlt:k<F)=>(jB g F F k (F-k) (F-k) a wn wc ws zs base w0 X hw S.be hg S.o hF hk (by omega) aN (by omega)).mono (fun e w' he=>show e=.returned (.tuple #[])/\Pc w0 w cm cp g F base (bL zs k ws wn) w' from ⟨he.1,S.set hg he.2.1 he.2.2⟩))
 have HPW0:=zh (fun (cm cp:Array Value) (zs:qi) (k:Nat) (a:qO) (wn wc:Nat) (ws:qi) (X:qw) (hw:IS w0 a wn wc ws) (S:Pc w0 w cm cp g F base zs X) (hk:k+4*wn<=F) (hlt:¬ k<F)=>(jB g F F 0 0 0 a wn wc ws zs base w0 X hw S.be hg S.o hF (by omega) (by omega) aN (by omega)).mono (fun e w' he=>show e=.returned (.tuple #[])/\Pc w0 w cm cp g F base (bL zs k ws wn) w' from ⟨he.1,by
  have e0:wn=0:=by omega
  have:=S.set hg he.2.1 he.2.2;rw [e0,aHv] at this ⊢
  exact this⟩))
 have HB:=zh hB;have HX:=zh hx;have HT:=zh hT;have HBK:=zh hbk
 have S0:Pc w0 w (qM nm ta tn tc ba bn bc da dn dc bss ra rn rc ia im ic ea en ec) #[.int .i64 (kt:Int),.slice xa xb.length xc,.int .i64 xd,.int .i64 xz] g F base fz ((w.alloc (.cells (qM nm ta tn tc ba bn bc da dn dc bss ra rn rc ia im ic ea en ec) 138)).alloc (.cells #[.int .i64 (kt:Int),.slice xa xb.length xc,.int .i64 xd,.int .i64 xz] 171)):=by
  have bb:qY w ((w.alloc (.cells (qM nm ta tn tc ba bn bc da dn dc bss ra rn rc ia im ic ea en ec) 138)).alloc (.cells #[.int .i64 (kt:Int),.slice xa xb.length xc,.int .i64 xd,.int .i64 xz] 171)):=bal.alloc (by simp) _;exact ⟨hb.trans (bb.mono hb.size),(Blk.new _ _ _).alloc _,by have:=Blk.new (w.alloc (.cells (qM nm ta tn tc ba bn bc da dn dc bss ra rn rc ia im ic ea en ec) 138)) #[.int .i64 (kt:Int),.slice xa xb.length xc,.int .i64 xd,.int .i64 xz] 171;simpa using this,ho.bw bb,aJ bb⟩
 have HS0:=zh S0;have HXB:=zh hxb;have HBL:=zh hbl;clear S0 hB hx hT hbk ho hb hP1 hP2 htl hxb hbl;go_enter func217,ntmps217
 go_wp2_with fail
 generalize ((w.alloc (.cells (qM nm ta tn tc ba bn bc da dn dc bss ra rn rc ia im ic ea en ec) 138)).alloc (.cells #[.int .i64 (kt:Int),.slice xa xb.length xc,.int .i64 xd,.int .i64 xz] 171))=W0 at *;generalize hcm:((qM nm ta tn tc ba bn bc da dn dc bss ra rn rc ia im ic ea en ec):Array Value)=cm at HS0;generalize hcp:(#[.int .i64 (kt:Int),.slice xa xb.length xc,.int .i64 xd,.int .i64 xz]:Array Value)=cp at HS0;have HCM:=zh (xA hcm hcp);clear hcm hcp
 have HCL:=zh (fun (zs:qi) (X:qw) (S:Pc w0 w cm cp g F base zs X)=>show X.cell? (qR w.heap.size 1)=some (.slice ta tn tc)/\X.cell? (qR w.heap.size 2)=some (.slice ba bn bc)/\X.cell? (qR (w.heap.size+1) 0)=some (.int .i64 (kt:Int))/\X.cell? (qR (w.heap.size+1) 1)=some (.slice xa xb.length xc) from by
  have h1:=S.km;have h2:=S.kp;rw [<- HCM.o.1] at h1;rw [<- HCM.o.2] at h2
  exact ⟨h1.cell 1,h1.cell 2,h2.cell 0,h2.cell 1⟩)
 obtain ⟨x1,x2,y0,y1⟩:=HCL.o _ _ HS0.o;have k0':(0:Int)<=(kt:Int):=by omega
 have k1':(kt:Int)<=(F:Int):=by omega
 apply aQc (F:=fun v W=>Pc w0 w cm cp g F base (cN fz P ⟨(kt:Int),xb,xd,xz⟩ 0) W)
 .intro REST0;have REST:=zh REST0;clear REST0;rw [HP0.o] at REST;by_cases hkF:kt<F
  .have hkF':(kt:Int)<(F:Int):=by omega
   have hkn:¬ (F=kt):=by omega
   go_region_held3 (fun w'=>w'.cell? (qR w.heap.size 1)=some (.slice ta tn tc)/\w'.cell? (qR (w.heap.size+1) 0)=some (.int .i64 (kt:Int))) (go_keep)
    (first
      | (go_at_call 219;first
          | with_reducible refine (HPW.o cm cp fz kt ta tn tc tz _ HT.o HS0.o ht hkF).mono ?_
          | with_reducible refine (HPW.o cm cp fz kt ta tn tc tz _ HT.o HS0.o.drew ht hkF).mono ?_
         rintro e w2 ⟨rfl,hS2⟩;have HS2:=zh hS2;clear hS2
         obtain ⟨z1,z2,z3,z4⟩:=HCL.o _ _ HS2.o))
   generalize Value.slice (some (qR g kt)) (F-kt) (F-kt)=v11;exact REST.o v11 w2 HS2.o
  .obtain rfl:F=kt:=by omega
   go_region_held3 (fun w'=>w'.cell? (qR w.heap.size 1)=some (.slice ta tn tc)/\w'.cell? (qR (w.heap.size+1) 0)=some (.int .i64 (F:Int))) (go_keep)
    (first
      | (go_at_call 219;first
          | with_reducible refine (HPW0.o cm cp fz F ta tn tc tz _ HT.o HS0.o ht hkF).mono ?_
          | with_reducible refine (HPW0.o cm cp fz F ta tn tc tz _ HT.o HS0.o.drew ht hkF).mono ?_
         rintro e w2 ⟨rfl,hS2⟩;have HS2:=zh hS2;clear hS2
         obtain ⟨z1,z2,z3,z4⟩:=HCL.o _ _ HS2.o))
   exact REST.o _ w2 HS2.o
 .rintro v11 W2 hS2;show Exit.then _ _ _ _ _
  obtain ⟨z1,z2,z3,z4⟩:=HCL.o _ _ hS2;have HS2:=zh hS2;clear hS2 x1 x2 y0 y1 HS0 k0' k1';go_wp2;clear z1 z2 z3 z4;go_loopw [18] (fun i wr=>∃ j:Nat,j<=bn/\i=.int .i64 j/\Pc w0 w cm cp g F base (cN fz P ⟨(kt:Int),xb,xd,xz⟩ j) wr) (qf bn)
  .exact ⟨0,xC _,rfl,HS2.o⟩
  .clear HS2;obtain ⟨j,hj,rfl,hJ⟩:=hrel;generalize wr=wj at *;have HJ:=zh hJ;obtain ⟨z1,z2,z3,z4⟩:=HCL.o _ _ hJ;by_cases hjb:j<bn
   .have hjb':(j:Int)<(bn:Int):=by omega
    have hjx':(j:Int)<(xb.length:Int):=by have:=HXB.o;omega
    obtain ⟨bb,bo,rfl,hbc⟩:=HB.o.2.2.1 (show bn≠0 by omega);obtain ⟨qb,qo,rfl,hqc⟩:=HX.o.2.2.2.1 (show xb.length≠0 by have:=HXB.o;omega);have s1:=aB hJ.be (hqc j (by have:=HXB.o;omega));have s2:=aB hJ.be (hbc j hjb);obtain ⟨kb,hkb⟩:∃ kb:Nat,xb.getD j 0=(kb:Int):=⟨(xb.getD j 0).toNat,by have:=(HBK.o j hjb).1;omega⟩;have HK2:=zh (show kb+4*(bl.getD j zB).2.1<=F by have:=(HBK.o j hjb).2;rw [hkb] at this;omega);have HIB:=zh (HB.o.2.2.2.1 j hjb);have HPJ:=HPS.o j hjb;rw [hkb,xY] at HPJ;rw [hkb] at s1;have HPJ:=zh HPJ;have hk2:=HK2.o;generalize hPJ:cN fz P ⟨(kt:Int),xb,xd,xz⟩ (j+1)=ZJ at HPJ;have HZJ:=zh hPJ;clear hJ hbc hqc hkb hPJ;generalize (bl.getD j zB).2.2.2=kw at *;generalize (bl.getD j zB).1=k1 at *;generalize (bl.getD j zB).2.1=k2 at *;generalize (bl.getD j zB).2.2.1=k3 at *;have b0':(0:Int)<=(kb:Int):=by omega
    have b1':(kb:Int)<=(F:Int):=by omega
    by_cases hkF:kb<F
    .have hkF':(kb:Int)<(F:Int):=by omega
     have hkn:¬ (F=kb):=by omega
     have HC:=zh (HPW.o cm cp _ kb k1 k2 k3 kw wj HIB.o HJ.o HK2.o hkF);go_wp2_with fail
     refine HC.o.mono ?_;rintro e w3 ⟨rfl,hS3⟩;have HS3:=zh (show Pc w0 w cm cp g F base ZJ w3 by rw [HPJ.o];exact hS3);clear hS3 s1 s2 z1 z2 z3 z4;go_wp2
     go_roundw
     .exact ⟨j+1,by omega,by go_num,by rw [HZJ.o];exact HS3.o⟩
     .simp [qf,intOf];omega
    .have hkF':¬ (kb:Int)<(F:Int):=by omega
     have HC:=zh (HPW0.o cm cp _ kb k1 k2 k3 kw wj HIB.o HJ.o HK2.o hkF);obtain rfl:F=kb:=by omega
     go_wp2_with fail
     refine HC.o.mono ?_;rintro e w3 ⟨rfl,hS3⟩;have HS3:=zh (show Pc w0 w cm cp g F base ZJ w3 by rw [HPJ.o];exact hS3);clear hS3 s1 s2 z1 z2 z3 z4;go_wp2
     go_roundw
     .exact ⟨j+1,by omega,by go_num,by rw [HZJ.o];exact HS3.o⟩
     .simp [qf,intOf];omega
   .have e:Zh (j=bn):=by show j=bn;omega
    clear hJ;go_wp2
    go_end0
    exact ⟨rfl,by rw [HPL.o,<- e.o];exact HJ.o.o,HJ.o.t⟩
theorem mR (x y z:Int)(w:qw):
 qC 20 #[.agg (qT x y z)] w (qB w (.agg (qT x y z))):=by
 go_enter func20,ntmps20
 go_wp2;refine bodyPost_ret (v:=.agg (qT x y z)) (by simp [results,results20,go_sem]) rfl ⟨rfl,?_⟩;exact ((bal.alloc (by simp) _).alloc (by simp;omega) _)
section
variable {W W':qw}{base:Nat}{v1 v2 v3:Value}{x1 x2 x3:qi}
theorem OM.bw (h:OM W base v1 v2 v3 x1 x2 x3)(hb:qY W W'):OM W' base v1 v2 v3 x1 x2 x3:=⟨h.o1.bw hb,h.o2.bw hb,h.o3.bw hb,h.a12,h.a13,h.a23⟩
theorem OM.mono {base':Nat}(h:OM W base v1 v2 v3 x1 x2 x3)(hb:base'<=base):OM W base' v1 v2 v3 x1 x2 x3:=⟨h.o1.mono hb,h.o2.mono hb,h.o3.mono hb,h.a12,h.a13,h.a23⟩
theorem OM.lt (h:OM W base v1 v2 v3 x1 x2 x3){j:Nat}(hj:qN v1 v2 v3 j):base<=j/\j<W.heap.size:=by
 rcases hj with e|e|e
 .exact h.o1.lt j e
 .exact h.o2.lt j e
 .exact h.o3.lt j e
theorem OM.kept {S:Nat->Prop}(h:OM W base v1 v2 v3 x1 x2 x3)(t:Turn S W W')(hs:∀ j,qN v1 v2 v3 j->¬ S j):OM W' base v1 v2 v3 x1 x2 x3:=⟨aV t h.o1 (fun k hk=>hs k (.inl hk)),aV t h.o2 (fun k hk=>hs k (.inr (.inl hk))),aV t h.o3 (fun k hk=>hs k (.inr (.inr hk))),h.a12,h.a13,h.a23⟩
end
theorem aDg (x0:Bool)(x1 x2 x3:Int)(w:qw):qC 101 #[.agg #[.bool x0,qI x1,qI x2,qI x3],.agg #[.bool x0,qI x1,qI x2,qI x3]] w (qB w (.bool true)):=by
 have hB:qY w ((w.alloc (.cells #[.bool x0,qI x1,qI x2,qI x3] 142)).alloc (.cells #[.bool x0,qI x1,qI x2,qI x3] 142)):=bal.alloc (by simp) _;have h0:(x0 !=x0)=false:=by cases x0<;>rfl
 have h1:(x1 !=x1)=false:=by simp
 have h2:(x2 !=x2)=false:=by simp
 have h3:(x3 !=x3)=false:=by simp
 go_enter func101,ntmps101
 go_wp2;go_ret;exact ⟨rfl,hB⟩
theorem aBd (a a':qO)(n c c':Nat)(xs:List SlT)(w:qw)(h:QS bS zSl w a n c xs)(h':QS bS zSl w a' n c' xs):
 qC 46 #[qS a n c,qS a' n c'] w (qB w (.bool true)):=by
 have hne:((n:Int) !=(n:Int))=false:=by simp
 have hmx:=h.2.1;unfold maxLen at hmx;have HH:=zh (xA h h');clear h h';go_enter func46,ntmps46
 go_wp2;go_loopw [5] (fun i wr=>∃ k:Nat,k<=n/\i=qI k/\qY w wr) (qf n)
 .exact ⟨0,xC _,rfl,brf⟩
 .obtain ⟨k,hk,rfl,hB⟩:=hrel;by_cases hlt:k<n
  .have hlt':(k:Int)<(n:Int):=by omega
   obtain ⟨b,f,rfl,q0,q1,q2,q3⟩:=(HH.o.1.bw hB).at k hlt _ _ _ _ rfl;obtain ⟨b',f',rfl,p0,p1,p2,p3⟩:=(HH.o.2.bw hB).at k hlt _ _ _ _ rfl;generalize xs.getD k zSl=r at *;obtain ⟨x0,x1,x2,x3⟩:=r;simp only at q0 q1 q2 q3 p0 p1 p2 p3;have hlb:=xD _ _ q1;have hlb':=xD _ _ p1;have HB:=zh hB;clear hB;go_wp2
   go_region_held3 (fun w'=>w'.cell? (qR b (f+k*4))=some (.bool x0)/\w'.cell? (qR b (f+k*4+1))=some (qI x1)/\w'.cell? (qR b (f+k*4+2))=some (qI x2)/\w'.cell? (qR b (f+k*4+3))=some (qI x3)/\w'.cell? (qR b' (f'+k*4))=some (.bool x0)/\w'.cell? (qR b' (f'+k*4+1))=some (qI x1)/\w'.cell? (qR b' (f'+k*4+2))=some (qI x2)/\w'.cell? (qR b' (f'+k*4+3))=some (qI x3)) (go_keep)
    (first
      | (go_at_call 101;refine (aDg x0 x1 x2 x3 _).mono ?_;rintro e w1 ⟨rfl,hb1⟩;replace hb1:=dG hb1;have key:∀ g o v,wr.cell? (qR g o)=some v->w1.cell? (qR g o)=some v:=(fun g o v hv=>(hb1.cell (xD wr _ hv)).trans hv);have r0:=key _ _ _ q0;have r1:=key _ _ _ q1;have r2:=key _ _ _ q2;have r3:=key _ _ _ q3;have s0:=key _ _ _ p0;have s1:=key _ _ _ p1;have s2:=key _ _ _ p2;have s3:=key _ _ _ p3;clear key))
   have HB1:=zh (HB.o.trans (hb1.mono HB.o.size));clear q0 q1 q2 q3 p0 p1 p2 p3 hb1 r0 r1 r2 r3 s0 s1 s2 s3;go_wp2
   go_roundw
   .exact ⟨k+1,by omega,by go_num,HB1.o⟩
   .simp [qf,intOf];omega
  .have HB:=zh hB;clear hB;go_wp2;go_ret;exact ⟨rfl,HB.o⟩
theorem aBf (x0:Int)(x1 x2 x3:Int)(w:qw):qC 102 #[.agg (qW x0 x1 x2 x3),.agg (qW x0 x1 x2 x3)] w (qB w (.bool true)):=by
 have hB:qY w ((w.alloc (.cells (qW x0 x1 x2 x3) 135)).alloc (.cells (qW x0 x1 x2 x3) 135)):=bal.alloc (by simp) _;have h0:(x0 !=x0)=false:=by simp
 have h1:(x1 !=x1)=false:=by simp
 have h2:(x2 !=x2)=false:=by simp
 have h3:(x3 !=x3)=false:=by simp
 go_enter func102,ntmps102
 go_wp2;go_ret;exact ⟨rfl,hB⟩
theorem wG (a a':qO)(n c c':Nat)(xs:List FrT)(w:qw)(h:QS cP zFr w a n c xs)(h':QS cP zFr w a' n c' xs):
 qC 47 #[qS a n c,qS a' n c'] w (qB w (.bool true)):=by
 have hne:((n:Int) !=(n:Int))=false:=by simp
 have hmx:=h.2.1;unfold maxLen at hmx;have HH:=zh (xA h h');clear h h';go_enter func47,ntmps47
 go_wp2;go_loopw [5] (fun i wr=>∃ k:Nat,k<=n/\i=qI k/\qY w wr) (qf n)
 .exact ⟨0,xC _,rfl,brf⟩
 .obtain ⟨k,hk,rfl,hB⟩:=hrel;by_cases hlt:k<n
  .have hlt':(k:Int)<(n:Int):=by omega
   obtain ⟨b,f,rfl,q0,q1,q2,q3⟩:=(HH.o.1.bw hB).at k hlt _ _ _ _ rfl;obtain ⟨b',f',rfl,p0,p1,p2,p3⟩:=(HH.o.2.bw hB).at k hlt _ _ _ _ rfl;generalize xs.getD k zFr=r at *;obtain ⟨x0,x1,x2,x3⟩:=r;simp only at q0 q1 q2 q3 p0 p1 p2 p3;have hlb:=xD _ _ q1;have hlb':=xD _ _ p1;have HB:=zh hB;clear hB;go_wp2
   go_region_held3 (fun w'=>w'.cell? (qR b (f+k*4))=some (qI x0)/\w'.cell? (qR b (f+k*4+1))=some (qI x1)/\w'.cell? (qR b (f+k*4+2))=some (qI x2)/\w'.cell? (qR b (f+k*4+3))=some (qI x3)/\w'.cell? (qR b' (f'+k*4))=some (qI x0)/\w'.cell? (qR b' (f'+k*4+1))=some (qI x1)/\w'.cell? (qR b' (f'+k*4+2))=some (qI x2)/\w'.cell? (qR b' (f'+k*4+3))=some (qI x3)) (go_keep)
    (first
      | (go_at_call 102;refine (aBf x0 x1 x2 x3 _).mono ?_;rintro e w1 ⟨rfl,hb1⟩;replace hb1:=dG hb1;have key:∀ g o v,wr.cell? (qR g o)=some v->w1.cell? (qR g o)=some v:=(fun g o v hv=>(hb1.cell (xD wr _ hv)).trans hv);have r0:=key _ _ _ q0;have r1:=key _ _ _ q1;have r2:=key _ _ _ q2;have r3:=key _ _ _ q3;have s0:=key _ _ _ p0;have s1:=key _ _ _ p1;have s2:=key _ _ _ p2;have s3:=key _ _ _ p3;clear key))
   have HB1:=zh (HB.o.trans (hb1.mono HB.o.size));clear q0 q1 q2 q3 p0 p1 p2 p3 hb1 r0 r1 r2 r3 s0 s1 s2 s3;go_wp2
   go_roundw
   .exact ⟨k+1,by omega,by go_num,HB1.o⟩
   .simp [qf,intOf];omega
  .have HB:=zh hB;clear hB;go_wp2;go_ret;exact ⟨rfl,HB.o⟩
structure Cpm (W0 X:qw)(gm:Nat)(cs:Array Value):Prop where
 b:qY W0 X
 k:Blk X gm cs 138
 g:W0.heap.size<=gm
theorem Cpm.bw {W0 X X':qw}(h:Cpm W0 X gm cs)(hb:qY X X'):Cpm W0 X' gm cs:=⟨h.b.trans (hb.mono h.b.size),h.k.bw hb,h.g⟩
theorem Cpm.grown {W0 X A X':qw}(h:Cpm W0 X gm cs)(ha:qY X A)(hg:X.heap.size<=g)(G:A.grownBy X' (some g)):Cpm W0 X' gm cs/\Turn (fun j=>j=gm\/X.heap.size<=j) X X':=by
 have T:Turn (fun j=>j=gm\/X.heap.size<=j) X X':=(aJ ha).trans ⟨G.os,G.tape,G.output,G.size,fun k hk hs=>G.block k hk (fun e=>hs (.inr (by cases e;exact hg)))⟩;have hlt:=h.k.lt;exact ⟨⟨aG (h.b.trans (ha.mono h.b.size)) (S:=fun k=>k=g) ⟨G.os,G.tape,G.output,G.size,fun k hk hs=>G.block k hk (fun e=>hs (by cases e;rfl))⟩ (fun k hk=>by have:=h.b.size;omega) (xM h.b.size ha.size),cK G (h.k.bw ha) (fun e=>by cases e;omega),h.g⟩,T⟩
theorem Cpm.set {W0 X:qw}(h:Cpm W0 X gm cs)(j:Nat)(u:Value):Cpm W0 (X.setCell (qR gm j) u) gm (cs.setIfInBounds j u)/\Turn (fun k=>k=gm) X (X.setCell (qR gm j) u):=⟨⟨aG h.b (aC X gm j u) (fun k hk=>by have:=h.g;omega) h.b.size,h.k.set j u,h.g⟩,aC X gm j u⟩
theorem cG {X X':qw}{t:TypeId}{xs:List Value}(T:Turn (fun j=>j=gm\/X.heap.size<=j) X X')(kg:Blk X gm cs 138)(h:X.ownsRow b t sz v n xs)(hne:t≠138):X'.ownsRow b t sz v n xs:=by
 have hk:∀ k,v.ownBlock=some k->¬ (k=gm\/X.heap.size<=k):=fun k hk s=>by
  rcases s with rfl|s
  .obtain ⟨c,kb⟩:=aE h hk;exact hne (aI kb kg)
  .have:=(World.ownsRow.lt h k hk).2;omega
 obtain ⟨hl,h0|⟨g,cap,cur,hv,hg,hh,h1,h2,h3,h4⟩⟩:=h
 .exact ⟨hl,.inl h0⟩
 .exact ⟨hl,.inr ⟨g,cap,cur,hv,hg,aF (w:=X) T hh (hk g (by rw [hv];rfl)),h1,h2,h3,h4⟩⟩
theorem Cpm.row {α:Type}{f:α->List Value}{W0 X w':qw}{t:TypeId}{v':Value}{ys:List α}(h:Cpm W0 X gm cs)(j:Nat)(O:OG t sz f w' X.heap.size v' ys)(hne:t≠138)(G:(X.alloc (.cells #[] t)).grownBy w' (some X.heap.size)):
 Blk w' gm cs 138/\Cpm W0 (w'.setCell (qR gm j) v') gm (cs.setIfInBounds j v')/\OG t sz f (w'.setCell (qR gm j) v') X.heap.size v' ys/\Turn (fun j=>j=gm\/X.heap.size<=j) X (w'.setCell (qR gm j) v'):=by
 obtain ⟨c1,t1⟩:=h.grown bal aN G;obtain ⟨c2,t2⟩:=c1.set j v';refine ⟨c1.k,c2,O.kept t2 (fun k hk e=>?_),t1.trans (t2.mono (fun k hk=>.inl hk))⟩;subst e;obtain ⟨c,kb⟩:=aE O hk;exact hne (aI kb c1.k)
theorem aDw (x0:Bool)(x1 x2 x3:Int)(w:qw):
 qC 88 #[.agg #[.bool x0,qI x1,qI x2,qI x3]] w (qB w (.agg #[.bool x0,qI x1,qI x2,qI x3])):=by
 go_enter func88,ntmps88
 go_wp2;refine bodyPost_ret (v:=.agg #[.bool x0,qI x1,qI x2,qI x3]) (by simp [results,results88,go_sem]) rfl ⟨rfl,?_⟩;exact ((bal.alloc (by simp) _).alloc (by simp;omega) _)
theorem aBx (a:qO)(n cap:Nat)(xs:List SlT)(w:qw)(h:QS bS zSl w a n cap xs)(hn:n<=1048576):
 qC 36 #[qS a n cap] w fun e w'=>e=.returned (qS (qP w.heap.size) n n)/\OG 142 4 bS w' w.heap.size (qS (qP w.heap.size) n n) xs/\qY w w':=by
 obtain ⟨i0,hi,hz0,hz1,hz2⟩:=info_parts aE4;have hl:=h.1;go_enter func36,ntmps36
 go_wp2_with (at_make;refine wpList_make_full _ rfl _ _ 40 rfl w.heap.size 142 i0 (.agg #[.bool false,qI 0,qI 0,qI 0]) 4 underlying40 hi hz0 hz1 .i64 .i64 _ _ n rfl rfl rfl rfl (by rw [hz2];omega) (by unfold maxLen;omega) aN ?_;intro w1 hown hgr)
 have HR0:=zh (xA (wT (f:=bS) zSl (.agg #[.bool false,qI 0,qI 0,qI 0]) rfl rfl hown) (aW hgr));clear hown hgr hi hz0 hz1 hz2;go_loopw [4] (fun i wr=>∃ (m:Nat) (F:Nat->SlT),m<=n/\i=qI m/\RowF 142 4 bS wr w.heap.size n F/\(∀ i,i<m->F i=xs.getD i zSl)/\qY w wr) (qf n)
 .exact ⟨0,_,xC _,rfl,HR0.o.1,fun i hi=>absurd hi (by omega),HR0.o.2⟩
 .obtain ⟨m,F,hm,rfl,R,hF,hB⟩:=hrel;clear HR0;by_cases hlt:m<n
  .have hlt':(m:Int)<(n:Int):=by omega
   obtain ⟨b,off,rfl,y0,y1,y2,y3⟩:=(h.bw hB).at m hlt _ _ _ _ rfl
   have HFIN:=zh (fun (W:qw) (hW:qY wr W)=>show RowF 142 4 bS ((((W.setCell (qR w.heap.size (m*4)) (.bool (xs.getD m zSl).1)).setCell (qR w.heap.size (m*4+1)) (qI (xs.getD m zSl).2.1)).setCell (qR w.heap.size (m*4+2)) (qI (xs.getD m zSl).2.2.1)).setCell (qR w.heap.size (m*4+3)) (qI (xs.getD m zSl).2.2.2)) w.heap.size n (fun i=>if i=m then (xs.getD m zSl) else F i)/\qY w ((((W.setCell (qR w.heap.size (m*4)) (.bool (xs.getD m zSl).1)).setCell (qR w.heap.size (m*4+1)) (qI (xs.getD m zSl).2.1)).setCell (qR w.heap.size (m*4+2)) (qI (xs.getD m zSl).2.2.1)).setCell (qR w.heap.size (m*4+3)) (qI (xs.getD m zSl).2.2.2)) from
    ⟨(R.bw hW).set4 m hlt _ _ _ _ _ rfl,((((hB.trans (hW.mono hB.size)).setCell (p:=(qR w.heap.size (m*4))) aN _).setCell (p:=(qR w.heap.size (m*4+1))) aN _).setCell (p:=(qR w.heap.size (m*4+2))) aN _).setCell (p:=(qR w.heap.size (m*4+3))) aN _⟩)
   have HCE:=zh (fun (W:qw) (hW:qY wr W)=>show (∃ u,W.cell? (qR w.heap.size (m*4))=some u)/\(∃ u,W.cell? (qR w.heap.size (m*4+1))=some u)/\(∃ u,W.cell? (qR w.heap.size (m*4+2))=some u)/\(∃ u,W.cell? (qR w.heap.size (m*4+3))=some u)/\∀ i,W.frozen? (qR w.heap.size i)=false from
    ⟨⟨_,(R.bw hW).cell bM m 0 hlt (by omega) _ rfl⟩,⟨_,(R.bw hW).cell bM m 1 hlt (by omega) _ rfl⟩,⟨_,(R.bw hW).cell bM m 2 hlt (by omega) _ rfl⟩,⟨_,(R.bw hW).cell bM m 3 hlt (by omega) _ rfl⟩,by obtain ⟨cs,hk⟩:=(R.bw hW).blk;exact hk.frozen⟩)
   have HF2:=zh (show ∀ i,i<m+1->(if i=m then (xs.getD m zSl) else F i)=xs.getD i zSl from fun i hi=>by
    by_cases e:i=m
    .rw [if_pos e,e]
    .rw [if_neg e];exact hF i (by omega))
   clear R hB hF;generalize xs.getD m zSl=x at *;obtain ⟨x0,x1,x2,x3⟩:=x;dsimp only at y0 y1 y2 y3;go_wp2_with fail
   refine (aDw x0 x1 x2 x3 _).mono ?_;rintro e w2 ⟨rfl,hb2⟩;obtain ⟨⟨u0,p0⟩,⟨u1,p1⟩,⟨u2,p2⟩,⟨u3,p3⟩,pf⟩:=HCE.o w2 hb2;have HX:=zh (HFIN.o w2 hb2);clear HFIN HCE y0 y1 y2 y3 hb2;go_wp2
   go_roundw
   .exact ⟨m+1,_,by omega,by go_num,HX.o.1,HF2.o,HX.o.2⟩
   .simp [qf,intOf];omega
  .have e:Zh (m=n):=by show m=n;omega
   have HX:=zh (xA R hB);clear R hB;go_wp2;go_ret;exact ⟨rfl,HX.o.1.og bM (by omega) aN h.2.1 hl zSl (fun i hi=>hF i (by rw [e.o];exact hi)),HX.o.2⟩
theorem aBz (x0:Int)(x1 x2 x3:Int)(w:qw):
 qC 89 #[.agg (qW x0 x1 x2 x3)] w (qB w (.agg (qW x0 x1 x2 x3))):=by
 go_enter func89,ntmps89
 go_wp2;refine bodyPost_ret (v:=.agg (qW x0 x1 x2 x3)) (by simp [results,results89,go_sem]) rfl ⟨rfl,?_⟩;exact ((bal.alloc (by simp) _).alloc (by simp;omega) _)
theorem zH (a:qO)(n cap:Nat)(xs:List FrT)(w:qw)(h:QS cP zFr w a n cap xs)(hn:n<=1048576):
 qC 37 #[qS a n cap] w fun e w'=>e=.returned (qS (qP w.heap.size) n n)/\OG 135 4 cP w' w.heap.size (qS (qP w.heap.size) n n) xs/\qY w w':=by
 obtain ⟨i0,hi,hz0,hz1,hz2⟩:=info_parts aE5;have hl:=h.1;go_enter func37,ntmps37
 go_wp2_with (at_make;refine wpList_make_full _ rfl _ _ 41 rfl w.heap.size 135 i0 (.agg (qW 0 0 0 0)) 4 underlying41 hi hz0 hz1 .i64 .i64 _ _ n rfl rfl rfl rfl (by rw [hz2];omega) (by unfold maxLen;omega) aN ?_;intro w1 hown hgr)
 have HR0:=zh (xA (wT (f:=cP) zFr (.agg (qW 0 0 0 0)) rfl rfl hown) (aW hgr));clear hown hgr hi hz0 hz1 hz2;go_loopw [4] (fun i wr=>∃ (m:Nat) (F:Nat->FrT),m<=n/\i=qI m/\RowF 135 4 cP wr w.heap.size n F/\(∀ i,i<m->F i=xs.getD i zFr)/\qY w wr) (qf n)
 .exact ⟨0,_,xC _,rfl,HR0.o.1,fun i hi=>absurd hi (by omega),HR0.o.2⟩
 .obtain ⟨m,F,hm,rfl,R,hF,hB⟩:=hrel;clear HR0;by_cases hlt:m<n
  .have hlt':(m:Int)<(n:Int):=by omega
   obtain ⟨b,off,rfl,y0,y1,y2,y3⟩:=(h.bw hB).at m hlt _ _ _ _ rfl
   have HFIN:=zh (fun (W:qw) (hW:qY wr W)=>show RowF 135 4 cP ((((W.setCell (qR w.heap.size (m*4)) (qI (xs.getD m zFr).1)).setCell (qR w.heap.size (m*4+1)) (qI (xs.getD m zFr).2.1)).setCell (qR w.heap.size (m*4+2)) (qI (xs.getD m zFr).2.2.1)).setCell (qR w.heap.size (m*4+3)) (qI (xs.getD m zFr).2.2.2)) w.heap.size n (fun i=>if i=m then (xs.getD m zFr) else F i)/\qY w ((((W.setCell (qR w.heap.size (m*4)) (qI (xs.getD m zFr).1)).setCell (qR w.heap.size (m*4+1)) (qI (xs.getD m zFr).2.1)).setCell (qR w.heap.size (m*4+2)) (qI (xs.getD m zFr).2.2.1)).setCell (qR w.heap.size (m*4+3)) (qI (xs.getD m zFr).2.2.2)) from
    ⟨(R.bw hW).set4 m hlt _ _ _ _ _ rfl,((((hB.trans (hW.mono hB.size)).setCell (p:=(qR w.heap.size (m*4))) aN _).setCell (p:=(qR w.heap.size (m*4+1))) aN _).setCell (p:=(qR w.heap.size (m*4+2))) aN _).setCell (p:=(qR w.heap.size (m*4+3))) aN _⟩)
   have HCE:=zh (fun (W:qw) (hW:qY wr W)=>show (∃ u,W.cell? (qR w.heap.size (m*4))=some u)/\(∃ u,W.cell? (qR w.heap.size (m*4+1))=some u)/\(∃ u,W.cell? (qR w.heap.size (m*4+2))=some u)/\(∃ u,W.cell? (qR w.heap.size (m*4+3))=some u)/\∀ i,W.frozen? (qR w.heap.size i)=false from
    ⟨⟨_,(R.bw hW).cell dI m 0 hlt (by omega) _ rfl⟩,⟨_,(R.bw hW).cell dI m 1 hlt (by omega) _ rfl⟩,⟨_,(R.bw hW).cell dI m 2 hlt (by omega) _ rfl⟩,⟨_,(R.bw hW).cell dI m 3 hlt (by omega) _ rfl⟩,by obtain ⟨cs,hk⟩:=(R.bw hW).blk;exact hk.frozen⟩)
   have HF2:=zh (show ∀ i,i<m+1->(if i=m then (xs.getD m zFr) else F i)=xs.getD i zFr from fun i hi=>by
    by_cases e:i=m
    .rw [if_pos e,e]
    .rw [if_neg e];exact hF i (by omega))
   clear R hB hF;generalize xs.getD m zFr=x at *;obtain ⟨x0,x1,x2,x3⟩:=x;dsimp only at y0 y1 y2 y3;go_wp2_with fail
   refine (aBz x0 x1 x2 x3 _).mono ?_;rintro e w2 ⟨rfl,hb2⟩;obtain ⟨⟨u0,p0⟩,⟨u1,p1⟩,⟨u2,p2⟩,⟨u3,p3⟩,pf⟩:=HCE.o w2 hb2;have HX:=zh (HFIN.o w2 hb2);clear HFIN HCE y0 y1 y2 y3 hb2;go_wp2
   go_roundw
   .exact ⟨m+1,_,by omega,by go_num,HX.o.1,HF2.o,HX.o.2⟩
   .simp [qf,intOf];omega
  .have e:Zh (m=n):=by show m=n;omega
   have HX:=zh (xA R hB);clear R hB;go_wp2;go_ret;exact ⟨rfl,HX.o.1.og dI (by omega) aN h.2.1 hl zFr (fun i hi=>hF i (by rw [e.o];exact hi)),HX.o.2⟩
theorem rN (n:Int)(h:-9223372036854775808<=n/\n<=9223372036854775807:=by omega):wrap64 n=n:=by unfold wrap64;omega
theorem fU:lkc ps s w k d=0 ↔ cfo s w k d=true/\1<=ps.length/\ps.length<=4/\fQ ps/\nms ps/\jS ps/\(0<s->jV ps w)/\(lay ps s w k).flash<=16384/\(lay ps s w k).ram<=16384:=by
 constructor
 .intro h;unfold lkc dT at h;by_cases c1:cfo s w k d=false
  .rw [if_pos c1] at h;simp at h
  rw [if_neg c1] at h;by_cases c2:ps.length<1\/4<ps.length
  .rw [if_pos c2] at h;simp at h
  rw [if_neg c2] at h;by_cases c3:¬ fQ ps
  .rw [if_pos c3] at h;simp at h
  rw [if_neg c3] at h;by_cases c4:¬ nms ps
  .rw [if_pos c4] at h;simp at h
  rw [if_neg c4,if_neg (by simp)] at h;by_cases c5:¬ jS ps
  .rw [if_pos c5] at h;simp at h
  rw [if_neg c5] at h;by_cases c6:0<s/\¬ jV ps w
  .rw [if_pos c6] at h;simp at h
  rw [if_neg c6] at h;by_cases c7:16384<(lay ps s w k).flash
  .rw [if_pos c7] at h;simp at h
  rw [if_neg c7] at h;by_cases c8:16384<(lay ps s w k).ram
  .rw [if_pos c8] at h;simp at h
  exact ⟨by simpa using c1,by omega,by omega,xZ.1 c3,xZ.1 c4,xZ.1 c5,fun h=>xZ.1 (fun e=>c6 ⟨h,e⟩),by omega,by omega⟩
 .rintro ⟨h1,h2,h3,h4,h5,h6,h7,h8,h9⟩;have e0:dT ps s w k d=0:=by unfold dT;rw [if_neg (by simp [h1]),if_neg (by omega),if_neg (fun e=>e h4),if_neg (fun e=>e h5)]
  unfold lkc;rw [if_neg (by rw [e0];simp),if_neg (fun e=>e h6),if_neg (fun e=>e.2 (h7 e.1)),if_neg (by omega),if_neg (by omega)]
theorem aP9 {w':Int}(h:s=0\/rnd (4*w)=rnd (4*w')):lay ps s w k=lay ps s w' k:=by
 rcases h with rfl|h
 .simp [lay]
 .have e:slt ps w k=slt ps w' k:=by funext i;unfold slt;rw [h]
  unfold lay;rw [h,e]
theorem aEs (h:lkc ps s w k d=0):Lok ps (lay ps s w k):=by
 obtain ⟨h1,h2,h3,h4,h5,h6,h7,h8,h9⟩:=fU.1 h;have hc:=h1;unfold cfo at hc;simp at hc;obtain ⟨s0,s1,w0,w1,k0,k1,k2,d0,d1⟩:=hc;have a1:=bO h4 ps.length aN;have a4:=aQ (x:=4*w);have hr:(lay ps s w k).ram=Ra ps ps.length+k+(s.toNat:Int)*rnd (4*w):=rfl;have ht:(lay ps s w k).stack=65536+Ra ps ps.length:=rfl;have hl:(lay ps s w k).slots.length=s.toNat:=by simp [lay]
 have main:∀ w',cfW (lay ps s w k)=w'->(s=0\/rnd (4*w)=rnd (4*w'))->1<=w'->w'<=64->(0<s->w<=w')->cfK (lay ps s w k)=k->Lok ps (lay ps s w k):=by
  intro w' e1 e2 e3 e4 e5 e6;have el:=aP9 (ps:=ps) (k:=k) e2;have hs:((s.toNat:Nat):Int)=s:=by omega
  have hz:lkc ps s w' k 0=0:=fU.2 ⟨by unfold cfo;simp;omega,h2,h3,h4,h5,h6,fun hs i hi j hj=>Int.le_trans (h7 hs i hi j hj) (e5 hs),by rw [<- el];exact h8,by rw [<- el];exact h9⟩;unfold Lok;rw [hl,hs,e1,e6];exact ⟨hz,by unfold lkL;rw [if_pos hz,el]⟩
 by_cases c:s=0
 .subst c;have e0:(lay ps 0 w k).slots=[]:=by simp [lay]
  have hr0:(lay ps 0 w k).ram=Ra ps ps.length+k:=by rw [hr];simp
  refine main 1 (by unfold cfW;rw [if_pos e0]) (.inl rfl) (by omega) (by omega) (fun h=>absurd h (by omega)) ?_;unfold cfK dA;rw [if_pos e0,hr0,ht,rN (65536+(Ra ps ps.length+k)),rN _];omega
 .have hp:0<s.toNat:=by omega
  have hne:¬ (lay ps s w k).slots=[]:=fun e=>by rw [e] at hl;simp at hl;omega
  have e0:(lay ps s w k).slots.getD 0 0=65536+Ra ps ps.length+k:=by
   simp [lay,xB,hp,slt]
  have hm:(s.toNat:Int)*rnd (4*w)<=4*287:=Int.mul_le_mul (by omega) (by omega) (by omega) (by omega);have hm0:(0:Int)<=(s.toNat:Int)*rnd (4*w):=Int.mul_nonneg (by omega) (by omega)
  have eq:cfQ (lay ps s w k)=rnd (4*w):=by
   unfold cfQ;rw [hr,e0,hl,rN (65536+_),rN (65536+_-_),show 65536+(Ra ps ps.length+k+(s.toNat:Int)*rnd (4*w))-(65536+Ra ps ps.length+k)=rnd (4*w)*(s.toNat:Int) by rw [Int.mul_comm (rnd (4*w))];omega,Int.mul_tdiv_cancel _ (by omega),rN _]
  have hrn:rnd (4*w)=(4*w+31)/32*32:=rfl;refine main (rnd (4*w)/4) ?_ (.inr ?_) (by omega) (by omega) (fun _=>by omega) ?_
  .unfold cfW;rw [if_neg hne,eq,Int.tdiv_eq_ediv_of_nonneg (by omega),rN _]
  .rw [hrn];unfold rnd;omega
  .unfold cfK dA;rw [if_neg hne,e0,ht,rN _];omega
def sbO (x:qi):ByteArray:=⟨(x.map fun z=>UInt8.ofNat z.toNat).toArray⟩
theorem aJj:∀ x y:List Int,(∀ z∈x,0<=z/\z<=255)->(∀ z∈y,0<=z/\z<=255)->(x.map fun z=>UInt8.ofNat z.toNat)=(y.map fun z=>UInt8.ofNat z.toNat)->x=y
 | [],[],_,_,_=>rfl
 | [],b::y,_,_,h=>by simp at h
 | a::x,[],_,_,h=>by simp at h
 | a::x,b::y,hx,hy,h=>by
   simp only [List.map_cons,List.cons.injEq] at h;have h1:=hx a (by simp);have h2:=hy b (by simp);have e:=congrArg UInt8.toNat h.1;rw [UInt8.toNat_ofNat',UInt8.toNat_ofNat'] at e;have e':a=b:=by omega
   rw [e',aJj x y (fun z hz=>hx z (by simp [hz])) (fun z hz=>hy z (by simp [hz])) h.2]
theorem aOt {x y:qi}(hx:∀ z∈x,0<=z/\z<=255)(hy:∀ z∈y,0<=z/\z<=255):sbO x=sbO y ↔ x=y:=by
 constructor
 .intro h;unfold sbO at h;simp at h;exact aJj x y hx hy (by simpa using h)
 .rintro rfl;rfl
theorem aDl (w:qw)(a:qO)(n c:Nat)(x:qi)(h:BS w a n c x):(convert 28 9 (qS a n c)).run prog w=.ok (.string (sbO x)) w:=by
 obtain ⟨rfl,h2,h3,h4,h5⟩:=h;by_cases hn:x.length=0
 .obtain rfl:x=[]:=xE hn;rw [run_convert_bytes_string w 28 9 5 a _ c underlying28 underlying5 underlying9];cases a<;>simp [Conv.bytesToString,sbO]<;>rfl
 .obtain ⟨b,k,rfl,hc⟩:=h4 hn;have hl:(x.map fun z=>UInt8.ofNat z.toNat).length=x.length:=by simp
  have:=run_convert_bytes_back (P:=prog) w 28 9 5 (qR b k) c (x.map fun z=>UInt8.ofNat z.toNat) underlying28 underlying5 underlying9 (fun j hj=>by
   have hj':j<x.length:=by simpa using hj
   rw [bN,hc j hj'];have e1:x.getD j 0=x[j]:=by simp [xB,hj']
   have hz:=h3 _ (List.getElem_mem hj');have e2:(UInt8.ofNat (x[j]).toNat).toNat=(x[j]).toNat%256:=UInt8.toNat_ofNat';rw [List.getElem_map,e2,e1];congr 2
   omega)
  rw [hl] at this;exact this
theorem kS (a a':qO)(n c n' c':Nat)(x y:qi)(w:qw)(h:BS w a n c x)(h':BS w a' n' c' y):
 qC 193 #[qS a n c,qS a' n' c'] w fun e w'=>e=.returned (.bool (decide (x=y)))/\w=w':=by
 have h1:=aDl w a n c x h;have h2:=aDl w a' n' c' y h';have HE:=zh (aOt h.2.2.1 h'.2.2.1);clear h h';generalize sbO x=s at *;generalize sbO y=t at *;go_enter func193,ntmps193
 go_wp2;go_ret;refine ⟨aA ?_,rfl⟩;rw [xJ];simp [<- HE.o,ByteArray.toList_eq];exact ⟨fun h=>by cases s;cases t;cases h;rfl,fun h=>by rw [h]⟩
