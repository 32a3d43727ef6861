import Derived.ChangeOld
import Derived.OpenShut
import Derived.ProofKit
import Derived.ShutString
import Derived.Deep.Slices
import Derived.Test.YtncccmeomcaabaaGreatP15
namespace Go.Proofs.YtncccmeomcaabaaGreat
open Go.RowKit Classical
set_option linter.all false
set_option maxRecDepth 100000
variable {g o:Nat}{q:Rg}
def aAi (w:qw)(g o:Nat)(r x y:Bool):World:=((w.setCell (qR g (o+3)) (.bool r)).setCell (qR g (o+4)) (.bool x)).setCell (qR g (o+5)) (.bool y)
theorem cO (w:qw)(g o b o':Nat)(r x y:Bool)(h:b≠g\/o'<o+3\/o+6<=o':=by omega):(aAi w g o r x y).cell? (qR b o')=w.cell? (qR b o'):=by
 unfold aAi;rw [cQ,cQ,cQ]
theorem aMg {w:qw}(h:At6 w g o q)(r x y:Bool):At6 (aAi w g o r x y) g o (rgt r x y q):=by
 obtain ⟨h1,h2,h3,h4,h5,h6⟩:=h;refine ⟨?_,?_,?_,?_,?_,?_⟩
 .rw [cO _ _ _ _ _ _ _ _];exact h1
 .rw [cO _ _ _ _ _ _ _ _];exact h2
 .rw [cO _ _ _ _ _ _ _ _];exact h3
 .unfold aAi;rw [cQ,cQ];exact oX h4
 .unfold aAi;rw [cQ];exact oX (by rw [cQ];exact h5)
 .unfold aAi;exact oX (by rw [cQ,cQ];exact h6)
theorem aCh {w:qw}{b o':Nat}(h:At6 w b o' q)(r x y:Bool)(hf:b≠g\/o'+6<=o\/o+6<=o'):At6 (aAi w g o r x y) b o' q:=by
 unfold At6;rw [cO _ _ _ _ _ _ _ _,cO _ _ _ _ _ _ _ _,cO _ _ _ _ _ _ _ _,cO _ _ _ _ _ _ _ _,cO _ _ _ _ _ _ _ _,cO _ _ _ _ _ _ _ _];exact h
def tA (r x y:Bool)(C:List Rg)(k:Nat):List Rg:=(rts r x y C).take k++C.drop k
theorem sZ (r x y:Bool)(C:List Rg)(k:Nat)(h:k<=C.length):(tA r x y C k).length=C.length:=by
 simp [tA,fR];omega
theorem aGi (r x y:Bool)(C:List Rg)(k i:Nat)(h:k<=C.length)(hi:i<C.length):(tA r x y C k).getD i z6=if i<k then rgt r x y (C.getD i z6) else C.getD i z6:=by
 unfold tA;by_cases c:i<k
 .rw [if_pos c,xB,List.getElem?_append_left (by simp [fR];omega)];simp [rts,c,hi,xB]
 .rw [if_neg c,xB,List.getElem?_append_right (by simp [fR];omega)];simp only [List.length_take,fR,List.getElem?_drop];rw [show k+(i-min k C.length)=i by omega,xB]
theorem aJp {w:qw}{r x y:Bool}{C:List Rg}{k:Nat}(hk:k<C.length)(h:RowW w g (tA r x y C k)):RowW (aAi w g (k*6) r x y) g (tA r x y C (k+1)):=by
 obtain ⟨⟨cur,hc⟩,hr⟩:=h;refine ⟨⟨_,((hc.set _ _).set _ _).set _ _⟩,fun i hi=>?_⟩;rw [sZ _ _ _ _ _ (by omega)] at hi;have hq:=hr i (by rw [sZ _ _ _ _ _ (by omega)];exact hi);rw [aGi _ _ _ _ _ _ (by omega) hi] at hq;rw [aGi _ _ _ _ _ _ (by omega) hi];by_cases c:i=k
 .subst c;rw [if_neg (by omega)] at hq;rw [if_pos (by omega)];exact aMg hq r x y
 .by_cases c2:i<k
  .rw [if_pos c2] at hq;rw [if_pos (by omega)];exact aCh hq r x y (by omega)
  .rw [if_neg c2] at hq;rw [if_neg (by omega)];exact aCh hq r x y (by omega)
set_option maxHeartbeats 2000000 in
theorem aCd (f s:Int)(r x y:Bool)(w:qw)(hf:wfi f)(hs:wfi s):
 qC 220 #[.agg #[qI f,qI s,.bool r,.bool x,.bool y]] w fun e w'=>∃ A n cap,e=.returned (qS A n cap)/\RS w' A n cap (rts r x y (cvL f s))/\(A=none->n=0/\cap=0)/\qY w w':=by
 obtain ⟨W,hW⟩:=eqx (w.alloc (.cells #[qI f,qI s,.bool r,.bool x,.bool y] 234));have HBW:=zh (show qY w W by rw [hW];exact bal);have k0:Blk W w.heap.size #[qI f,qI s,.bool r,.bool x,.bool y] 234:=by rw [hW];exact Blk.new w _ _
 have sW:W.heap.size=w.heap.size+1:=by rw [hW];simp
 have d0:=k0.e0;have d1:=k0.e1;have HK:=zh k0;have HC:=zh (aE9 f s W (by unfold wfi at hf;omega));have HL:=zh (rM f s);generalize cvL f s=C at *;have HW:=zh hW;clear hW k0;go_enter Tryz.func220,Tryz.ntmps220
 go_wp2_with (rw [<- HW.o])
 refine HC.o.mono ?_;rintro e w2 ⟨c,n,cc,rfl,hC,hB2⟩;have HN:=zh (fA hC).1;have hn:n<=8192:=by have:=HN.o;have:=HL.o;omega
 have HX:=zh (xA hC hB2);by_cases h0:n=0
 .subst h0;clear hC hB2;go_wp2_with fail
  go_loopw [16] (fun i wr=>i=qI 0/\wr=w2) (fun _ _=>0)
  .exact ⟨rfl,rfl⟩
  .obtain ⟨rfl,rfl⟩:=hrel;go_wp2;go_ret;have e0:C=[]:=xE HN.o;refine ⟨_,_,_,rfl,?_,fun hc=>?_,HBW.o.trans (HX.o.2.mono HBW.o.size)⟩;rotate_left
   .obtain ⟨hl,⟨h1,_⟩|⟨g',cap',cur,hv,_⟩⟩:=HX.o.1.1
    .injection h1 with _ h1 h2;exact ⟨rfl,h2⟩
    .injection hv with h1;rw [hc] at h1;cases h1
   have:=fA HX.o.1;rw [e0] at this ⊢;exact this
 .have hn0:n≠0:=h0
  obtain ⟨g,ha⟩:∃ g,c=some ⟨g,0,none⟩:=by
   obtain ⟨hl,⟨h1,_⟩|⟨g',cap',cur,hv,_⟩⟩:=hC.1
   .injection h1 with _ h1;exact absurd h1 hn0
   .injection hv with h1;exact ⟨g',h1⟩
  subst ha;have HR:=zh (aMm hC hn0)
  have hg1:W.heap.size<=g:=by
   obtain ⟨hl,⟨h1,_⟩|⟨g',cap',cur,hv,hg,_⟩⟩:=hC.1
   .injection h1 with _ h1;exact absurd h1 hn0
   .injection hv with h1;injection h1 with h1;injection h1 with h1;omega
  clear hC hB2;go_wp2_with fail
  go_loopw [16] (fun i wr=>∃ k:Nat,k<=n/\i=qI k/\RowW wr g (tA r x y C k)/\qY W wr) (qf n)
  .exact ⟨0,xC _,rfl,by simpa [tA] using HR.o,HX.o.2⟩
  .obtain ⟨k,hk,rfl,hR,hB⟩:=hrel;by_cases hlt:k<n
   .have hlt':(k:Int)<(n:Int):=by omega
    obtain ⟨p0,p1,p2,p3,p4,p5⟩:=hR.2 k (by rw [sZ _ _ _ _ _ (by rw [HN.o];omega),HN.o];exact hlt);have hfz:=hR.frozen;have kk:=HK.o.bw hB;have e2:=kk.e2;have e3:=kk.e3;have e4:=kk.e4;have HS:=zh (aJp (by rw [HN.o];exact hlt) hR);have HB3:Zh (qY W ((aAi wr g (k*6) r x y).drew)):=(((hB.setCell (p:=(qR g (k*6+3))) hg1 _).setCell (p:=(qR g (k*6+4))) hg1 _).setCell (p:=(qR g (k*6+5))) hg1 _).drew;clear hR hB kk;generalize (tA r x y C k).getD k z6=G at *;obtain ⟨g1,g2,g3,g4,g5,g6⟩:=G;have hne:¬ g=w.heap.size:=by omega
    have hne':¬ w.heap.size=g:=by omega
    have f3:=hfz (k*6+3);have f4:=hfz (k*6+4);have f5:=hfz (k*6+5);clear hfz;go_wp2
    go_region_with (fail)
    all_goals
     go_wp2
     go_roundw
     .exact ⟨k+1,by omega,by go_num,HS.o,HB3.o⟩
     .simp [qf,intOf];omega
   .have HE:=zh (show k=n by omega);have HF:=zh (xA hR hB);clear hR hB;go_wp2;go_ret;refine ⟨_,_,_,rfl,?_,(fun hc=>by cases hc),HBW.o.trans (HF.o.2.mono HBW.o.size)⟩;have hRR:=HF.o.1
    have e0:tA r x y C k=rts r x y C:=by
     have hl:=fR r x y C;have:=HN.o;unfold tA;rw [List.drop_eq_nil_of_le (by rw [HE.o,this];exact aN),List.append_nil,xG (by rw [hl,this,HE.o];exact aN)]
    rw [e0] at hRR;refine ⟨by rw [fR];exact HN.o,by unfold maxLen;omega,?_,fun _=>⟨g,0,rfl,fun i hi=>by have:=hRR.2 i (by rw [fR,HN.o];exact hi);rw [Nat.zero_add];exact this⟩,(fA HX.o.1).2.2.2.2⟩;intro q hq;simp only [rts,List.mem_map] at hq;obtain ⟨p,hp,rfl⟩:=hq;exact HX.o.1.2 p hp
end Go.Proofs.YtncccmeomcaabaaGreat
namespace Go.Proofs.YtncccmeomcaabaaGreat
open Go.ChangeShapes Go.WideShapes Go.ChangeAt Go.RowKit Classical
variable {base fuel:Nat}{cs:List Value}{held:Bool}{z:Int}
theorem own:ownKnob Tryz.prog.godebug=none:=by kernel_rfl
theorem aGm:laidOutB Tryz.prog=true:=by kernel_rfl
theorem aPt (h:(Lit.int .u8 z).wf=true):0<=z/\z<=255:=by
 simp [Lit.wf,IntKind.min,IntKind.max,IntKind.signed,IntKind.bits] at h;omega
theorem wf_i64 (h:(Lit.int .i64 z).wf=true):-9223372036854775808<=z/\z<=9223372036854775807:=by
 simp [Lit.wf,IntKind.min,IntKind.max,IntKind.signed,IntKind.bits] at h;omega
set_option maxRecDepth 100000 in
theorem jK {H:Type}{enc:TypeId×Value->H}{w:qw}{x:DataW H×List MemPlace}
 (h:DataW.trod enc Tryz.prog w base (fun _=>true) held fuel 28 cs=some x):∃ a n cap zs,cs=[qS a n cap]/\BS w a n cap zs:=by
 rcases open_ints Tryz.underlying28 Tryz.underlying5 (by kernel_rfl) h with ⟨hcs,_⟩|⟨x,l,c,zs,hcs,_,hl,hm,hz,_,hcell,hwz⟩
 .exact ⟨none,0,0,[],hcs,rfl,Nat.zero_le _,by simp,fun h=>absurd rfl h,aN⟩
 .simp at hz;refine ⟨some x,l,c,zs.take l,hcs,by simp;omega,by omega,fun z hz'=>aPt (hwz z (List.mem_of_mem_take hz')),fun hl0=>?_,hl⟩;obtain ⟨b,off,spot⟩:=x;have hspot:spot=none:=by simpa [Addr.add] using World.cell?_spot (hcell 0 (by omega))
  subst hspot;refine ⟨b,off,rfl,fun i hi=>?_⟩;have:=hcell i (by omega)
  have ea:(Addr.add (qR b off) i)=(qR b (off+i)):=by
   simp only [Addr.add];split
   .next h=>subst h;rfl
   .rfl
  rw [ea] at this;rw [this];simp [List.getD_eq_getElem?_getD,hi]
set_option maxRecDepth 100000 in
theorem aE3 {H:Type}{enc:TypeId×Value->H}{w:qw}{x:DataW H×List MemPlace}
 (h:DataW.trod enc Tryz.prog w base (fun _=>true) held fuel 25 cs=some x):∃ a n cap zs,cs=[qS a n cap]/\IS w a n cap zs:=by
 rcases open_ints Tryz.underlying25 Tryz.underlying3 (by kernel_rfl) h with ⟨hcs,_⟩|⟨x,l,c,zs,hcs,_,hl,hm,hz,_,hcell,hwz⟩
 .exact ⟨none,0,0,[],hcs,rfl,Nat.zero_le _,by simp,fun h=>absurd rfl h,aN⟩
 .simp at hz;refine ⟨some x,l,c,zs.take l,hcs,by simp;omega,by omega,fun z hz'=>wf_i64 (hwz z (List.mem_of_mem_take hz')),fun hl0=>?_,hl⟩;obtain ⟨b,off,spot⟩:=x;have hspot:spot=none:=by simpa [Addr.add] using World.cell?_spot (hcell 0 (by omega))
  subst hspot;refine ⟨b,off,rfl,fun i hi=>?_⟩;have:=hcell i (by omega)
  have ea:(Addr.add (qR b off) i)=(qR b (off+i)):=by
   simp only [Addr.add];split
   .next h=>subst h;rfl
   .rfl
  rw [ea] at this;rw [this];simp [List.getD_eq_getElem?_getD,hi]
theorem aNm {α:Type}{cs:Array α}(h:cs.size=3):∃ c0 c1 c2,cs=#[c0,c1,c2]:=by
 obtain ⟨l⟩:=cs
 match l,h with
 | [c0,c1,c2],_=>exact ⟨c0,c1,c2,rfl⟩
set_option maxRecDepth 100000 in
theorem aCm {H:Type}{enc:TypeId×Value->H}{w:qw}{base b0:Nat}{spare:Nat->Bool}{held:Bool}{r:Reach}{v:Value}{d:DataW H}{p:List MemPlace}
 (hv:Value.okWide Tryz.prog w r b0 56 v) (h:DataW.Trod enc Tryz.prog w base spare held 56 v d p):
 ∃ (o d a:Int),v=.agg (qT o d a):=by
 obtain ⟨cs,rfl,hsz⟩:=okWide_struct Tryz.underlying56 hv;obtain ⟨c0,c1,c2,rfl⟩:=aNm (hsz.trans (by kernel_rfl));obtain ⟨fuel,hf⟩:=h;obtain ⟨xs,n,_,_,hl,hlen,hf⟩:=DataW.trod_struct Tryz.underlying56 hf
 match xs,hlen with
 | [y0,y1,y2],_=>
 have k0:=hf 0 _ rfl;have k1:=hf 1 _ rfl;have k2:=hf 2 _ rfl;have e3:Tryz.prog.cellsOf 3=1:=by kernel_rfl
 simp [Value.cells,e3] at k0 k1 k2;obtain ⟨a0,h0,_,wa⟩:=DataW.trod_int Tryz.underlying3 k0;obtain ⟨a1,h1,_,wb⟩:=DataW.trod_int Tryz.underlying3 k1;obtain ⟨a2,h2,_,wc⟩:=DataW.trod_int Tryz.underlying3 k2;simp at h0 h1 h2;subst h0 h1 h2;exact ⟨a0,a1,a2,rfl⟩
