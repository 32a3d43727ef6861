import Derived.ChangeMaps5
import Derived.Test.YtncccmeomcaabaaGreatD19
import Derived.Test.YtncccmeomcaabaaGreatD20
set_option linter.all false
set_option maxHeartbeats 4000000
namespace Go.Proofs.YtncccmeomcaabaaGreat
open Go.RowKit Classical
set_option maxRecDepth 100000
variable {A:Act}{C:Cn}{F ga gt id lo:Nat}{M:Mn}{Q:Exit->Act->World->Prop}{b m t:Int}{ops:Array Oper}{x:Value}
end Go.Proofs.YtncccmeomcaabaaGreat
namespace Go.Proofs.YtncccmeomcaabaaGreat
open Go.ChangeShapes Go.WideShapes Go.ChangeAt Go.RowKit Classical
variable {base fuel:Nat}{cs:List Value}{held:Bool}
set_option maxRecDepth 100000 in
theorem aA5 {H:Type}{enc:TypeId×Value->H}{w:qw}{base:Nat}{held:Bool}{fuel:Nat}{cs:List Value}{x:DataW H×List MemPlace}
 (h:DataW.trod enc Tryz.prog w base (fun _=>true) held fuel 118 cs=some x):∃ m:Md,cs=m.cells.toList/\m.mt w:=by
 obtain ⟨xs,n,_,_,hl,hlen,hf⟩:=DataW.trod_struct Tryz.underlying118 h;have e8:Tryz.prog.cellsOf 118=8:=by kernel_rfl
 rw [e8] at hl
 match xs,hlen,cs,hl with
 | [y0,y1,y2,y3,y4,y5,y6,y7],_,[c0,c1,c2,c3,c4,c5,c6,c7],_=>
 have k0:=hf 0 _ rfl;have k1:=hf 1 _ rfl;have k2:=hf 2 _ rfl;have k3:=hf 3 _ rfl;have k4:=hf 4 _ rfl;have k5:=hf 5 _ rfl;have k6:=hf 6 _ rfl;have k7:=hf 7 _ rfl;have e1:Tryz.prog.cellsOf 3=1:=by kernel_rfl
 have e2:Tryz.prog.cellsOf 9=1:=by kernel_rfl
 have e3:Tryz.prog.cellsOf 25=1:=by kernel_rfl
 have e4:Tryz.prog.cellsOf 114=1:=by kernel_rfl
 have e5:Tryz.prog.cellsOf 28=1:=by kernel_rfl
 have e6:Tryz.prog.cellsOf 115=1:=by kernel_rfl
 have e7:Tryz.prog.cellsOf 116=1:=by kernel_rfl
 simp [e1,e2,e3,e4,e5,e6,e7] at k0 k1 k2 k3 k4 k5 k6 k7;obtain ⟨nm,h0,_,w0⟩:=DataW.trod_string Tryz.underlying9 k0;obtain ⟨ta,tn,tc,tz,h1,w1⟩:=jL k1;obtain ⟨ba,bn,bc,bl,h2,w2⟩:=aDz k2;obtain ⟨da,dn,dc,dz,h3,w3⟩:=jQ k3;obtain ⟨bss,h4,_,w4⟩:=DataW.trod_int Tryz.underlying3 k4;obtain ⟨ra,rn,rc,rz,h5,w5⟩:=jL k5;obtain ⟨ia,im,ic,ss,h6,w6⟩:=aD6 k6;obtain ⟨ea,en,ec,es,h7,w7⟩:=aD9 k7;simp at h0 h1 h2 h3 h4 h5 h6 h7;subst h0 h1 h2 h3 h4 h5 h6 h7;exact ⟨⟨nm,ta,tn,tc,tz,ba,bn,bc,bl,da,dn,dc,dz,bss,ra,rn,rc,rz,ia,im,ic,ss,ea,en,ec,es⟩,rfl,w0,w1,w2,w3,wf_i64 w4,w5,w6,w7⟩
set_option maxRecDepth 100000 in
theorem aEt {H:Type}{enc:TypeId×Value->H}{w:qw}{x:DataW H×List MemPlace}
 (h:DataW.trod enc Tryz.prog w base (fun _=>true) held fuel 22 cs=some x):∃ a n cap ms,cs=[qS a n cap]/\MS w a n cap ms:=by
 have e1:Tryz.prog.cellsOf 118=8:=by kernel_rfl
 rcases Deep.open_slice Tryz.underlying22 h with ⟨hcs,_⟩|⟨a,len,cap,m,n,D,Pl,hcs,hb,hl,hm,hmm,hx,hd⟩
 .exact ⟨none,0,0,[],hcs,rfl,Nat.zero_le _,fun h=>absurd rfl h,fun i hi=>by omega,aN⟩
 .simp at hmm;rw [hmm] at hd;rw [e1] at hd
  haveI:Inhabited Md:=⟨aK⟩
  obtain ⟨G,hG⟩:=Deep.choose_lt (α:=Md) (p:=fun i g=>(∃ cs',w.cells? base (a.add (i*8)) 8=some cs'/\cs'=g.cells.toList)/\g.mt w) (n:=len) (fun i hi=>by
   obtain ⟨cs',h1,h2⟩:=hd i (by omega);obtain ⟨s,e,hI⟩:=aA5 h2
   exact ⟨s,⟨cs',h1,e⟩,hI⟩)
  have hgi:∀ i,i<len->((List.range len).map G).getD i aK=G i:=fun i hi=>by simp [List.getD_eq_getElem?_getD,hi]
  refine ⟨some a,len,cap,(List.range len).map G,hcs,by simp,by omega,?_,fun i hi=>by rw [hgi i hi];exact (hG i hi).2,hl⟩;intro hn;obtain ⟨b,off,spot⟩:=a
  have hspot:spot=none:=by
   obtain ⟨⟨cs',h1,h2⟩,_⟩:=hG 0 (by omega);have:=(World.cells?_some h1).2.2 0 (by omega);rw [h2] at this;simpa [Addr.add,Md.cells] using World.cell?_spot this
  subst hspot;refine ⟨b,off,rfl,fun i hi=>?_⟩;obtain ⟨⟨cs',h1,h2⟩,_⟩:=hG i hi;have hc:=(World.cells?_some h1).2.2;rw [h2] at hc;rw [hgi i hi];simp only [aF8] at hc;exact ⟨hc 0 (by omega),hc 1 (by omega),hc 2 (by omega),hc 3 (by omega),hc 4 (by omega),hc 5 (by omega),hc 6 (by omega),hc 7 (by omega)⟩
set_option maxRecDepth 100000 in
theorem aFh {H:Type}{enc:TypeId×Value->H}{w:qw}{x:DataW H×List MemPlace}
 (h:DataW.trod enc Tryz.prog w base (fun _=>true) held fuel 25 cs=some x):∃ a n cap zs,cs=[qS a n cap]/\IS w a n cap zs:=by
 rcases open_ints Tryz.underlying25 Tryz.underlying3 (by kernel_rfl) h with ⟨hcs,_⟩|⟨x,l,c,zs,hcs,_,hl,hm,hz,_,hcell,hwz⟩
 .exact ⟨none,0,0,[],hcs,rfl,Nat.zero_le _,by simp,fun h=>absurd rfl h,aN⟩
 .simp at hz;refine ⟨some x,l,c,zs.take l,hcs,by simp;omega,by omega,fun z hz'=>wf_i64 (hwz z (List.mem_of_mem_take hz')),fun hl0=>?_,hl⟩;obtain ⟨b,off,spot⟩:=x;have hspot:spot=none:=by simpa [Addr.add] using World.cell?_spot (hcell 0 (by omega))
  subst hspot;refine ⟨b,off,rfl,fun i hi=>?_⟩;have:=hcell i (by omega)
  have ea:(Addr.add (qR b off) i)=(qR b (off+i)):=by
   simp only [Addr.add];split
   .next h=>subst h;rfl
   .rfl
  rw [ea] at this;rw [this];simp [List.getD_eq_getElem?_getD,hi]
end Go.Proofs.YtncccmeomcaabaaGreat
namespace Go.Proofs.YtncccmeomcaabaaGreat
open Go.ChangeShapes Go.WideShapes Go.ChangeAt Go.RowKit Classical
variable {base fuel:Nat}{cs:List Value}{held:Bool}
set_option maxRecDepth 100000 in
theorem aMd {H:Type}{enc:TypeId×Value->H}{w:qw}{base:Nat}{held:Bool}{spare:Nat->Bool}{fuel:Nat}{cs:List Value}{x:DataW H×List MemPlace}
 (h:DataW.trod enc Tryz.prog w base spare held fuel 144 cs=some x):∃ g:SlT,cs=bY g:=by
 obtain ⟨xs,n,_,_,hl,hlen,hf⟩:=DataW.trod_struct Tryz.underlying144 h;have e6:Tryz.prog.cellsOf 144=4:=by kernel_rfl
 rw [e6] at hl
 match xs,hlen,cs,hl with
 | [y0,y1,y2,y3],_,[c0,c1,c2,c3],_=>
 have k0:=hf 0 _ rfl;have k1:=hf 1 _ rfl;have k2:=hf 2 _ rfl;have k3:=hf 3 _ rfl;have e3:Tryz.prog.cellsOf 3=1:=by kernel_rfl
 have e4:Tryz.prog.cellsOf 4=1:=by kernel_rfl
 simp [e3,e4] at k0 k1 k2 k3;obtain ⟨a0,h0,_⟩:=DataW.trod_bool Tryz.underlying4 k0;obtain ⟨a1,h1,_,wb⟩:=DataW.trod_int Tryz.underlying3 k1;obtain ⟨a2,h2,_,wc⟩:=DataW.trod_int Tryz.underlying3 k2;obtain ⟨a3,h3,_,wd⟩:=DataW.trod_int Tryz.underlying3 k3;simp at h0 h1 h2 h3;subst h0 h1 h2 h3;exact ⟨(a0,a1,a2,a3),rfl⟩
set_option maxRecDepth 100000 in
theorem aF9 {H:Type}{enc:TypeId×Value->H}{w:qw}{x:DataW H×List MemPlace}
 (h:DataW.trod enc Tryz.prog w base (fun _=>true) held fuel 31 cs=some x):∃ a n cap zs,cs=[qS a n cap]/\QS bY zSl w a n cap zs:=by
 have e1:Tryz.prog.cellsOf 144=4:=by kernel_rfl
 rcases Deep.open_slice Tryz.underlying31 h with ⟨hcs,_⟩|⟨a,len,cap,m,n,D,Pl,hcs,hb,hl,hm,hmm,hx,hd⟩
 .exact ⟨none,0,0,[],hcs,rfl,xC _,fun h=>absurd rfl h,aN⟩
 .simp at hmm;rw [hmm] at hd;rw [e1] at hd
  obtain ⟨G,hG⟩:=Deep.choose_lt (α:=SlT) (p:=fun i g=>∃ cs',w.cells? base (a.add (i*4)) 4=some cs'/\cs'=bY g) (n:=len) (fun i hi=>by
   obtain ⟨cs',h1,h2⟩:=hd i (by omega);obtain ⟨s,e⟩:=aMd h2
   exact ⟨s,cs',h1,e⟩)
  have hgi:∀ i,i<len->((List.range len).map G).getD i zSl=G i:=fun i hi=>by simp [xB,hi]
  refine ⟨some a,len,cap,(List.range len).map G,hcs,by simp,by omega,?_,hl⟩;intro hn;obtain ⟨b,off,spot⟩:=a
  have hspot:spot=none:=by
   obtain ⟨cs',h1,h2⟩:=hG 0 (by omega);have:=(World.cells?_some h1).2.2 0 (by omega);rw [h2] at this;simpa [Addr.add,bY] using World.cell?_spot this
  subst hspot;refine ⟨b,off,rfl,fun i hi j v hv=>?_⟩;obtain ⟨cs',h1,h2⟩:=hG i hi;have hc:=(World.cells?_some h1).2.2;rw [h2] at hc;rw [hgi i hi] at hv;simp only [aF8] at hc
  have hj:j<4:=by
   rcases Nat.lt_or_ge j 4 with h|h
   .exact h
   .rw [xO (by rw [bO];exact h)] at hv;cases hv
  rw [hc j (by omega),<- hv]
set_option maxRecDepth 100000 in
theorem aMg {H:Type}{enc:TypeId×Value->H}{w:qw}{base:Nat}{held:Bool}{spare:Nat->Bool}{fuel:Nat}{cs:List Value}{x:DataW H×List MemPlace}
 (h:DataW.trod enc Tryz.prog w base spare held fuel 146 cs=some x):∃ g:FrT,cs=bC g:=by
 obtain ⟨xs,n,_,_,hl,hlen,hf⟩:=DataW.trod_struct Tryz.underlying146 h;have e6:Tryz.prog.cellsOf 146=4:=by kernel_rfl
 rw [e6] at hl
 match xs,hlen,cs,hl with
 | [y0,y1,y2,y3],_,[c0,c1,c2,c3],_=>
 have k0:=hf 0 _ rfl;have k1:=hf 1 _ rfl;have k2:=hf 2 _ rfl;have k3:=hf 3 _ rfl;have e3:Tryz.prog.cellsOf 3=1:=by kernel_rfl
 have e4:Tryz.prog.cellsOf 4=1:=by kernel_rfl
 simp [e3,e4] at k0 k1 k2 k3;obtain ⟨a0,h0,_,wa⟩:=DataW.trod_int Tryz.underlying3 k0;obtain ⟨a1,h1,_,wb⟩:=DataW.trod_int Tryz.underlying3 k1;obtain ⟨a2,h2,_,wc⟩:=DataW.trod_int Tryz.underlying3 k2;obtain ⟨a3,h3,_,wd⟩:=DataW.trod_int Tryz.underlying3 k3;simp at h0 h1 h2 h3;subst h0 h1 h2 h3;exact ⟨(a0,a1,a2,a3),rfl⟩
set_option maxRecDepth 100000 in
theorem aGb {H:Type}{enc:TypeId×Value->H}{w:qw}{x:DataW H×List MemPlace}
 (h:DataW.trod enc Tryz.prog w base (fun _=>true) held fuel 32 cs=some x):∃ a n cap zs,cs=[qS a n cap]/\QS bC zFr w a n cap zs:=by
 have e1:Tryz.prog.cellsOf 146=4:=by kernel_rfl
 rcases Deep.open_slice Tryz.underlying32 h with ⟨hcs,_⟩|⟨a,len,cap,m,n,D,Pl,hcs,hb,hl,hm,hmm,hx,hd⟩
 .exact ⟨none,0,0,[],hcs,rfl,xC _,fun h=>absurd rfl h,aN⟩
 .simp at hmm;rw [hmm] at hd;rw [e1] at hd
  obtain ⟨G,hG⟩:=Deep.choose_lt (α:=FrT) (p:=fun i g=>∃ cs',w.cells? base (a.add (i*4)) 4=some cs'/\cs'=bC g) (n:=len) (fun i hi=>by
   obtain ⟨cs',h1,h2⟩:=hd i (by omega);obtain ⟨s,e⟩:=aMg h2
   exact ⟨s,cs',h1,e⟩)
  have hgi:∀ i,i<len->((List.range len).map G).getD i zFr=G i:=fun i hi=>by simp [xB,hi]
  refine ⟨some a,len,cap,(List.range len).map G,hcs,by simp,by omega,?_,hl⟩;intro hn;obtain ⟨b,off,spot⟩:=a
  have hspot:spot=none:=by
   obtain ⟨cs',h1,h2⟩:=hG 0 (by omega);have:=(World.cells?_some h1).2.2 0 (by omega);rw [h2] at this;simpa [Addr.add,bC] using World.cell?_spot this
  subst hspot;refine ⟨b,off,rfl,fun i hi j v hv=>?_⟩;obtain ⟨cs',h1,h2⟩:=hG i hi;have hc:=(World.cells?_some h1).2.2;rw [h2] at hc;rw [hgi i hi] at hv;simp only [aF8] at hc
  have hj:j<4:=by
   rcases Nat.lt_or_ge j 4 with h|h
   .exact h
   .rw [xO (by rw [dJ];exact h)] at hv;cases hv
  rw [hc j (by omega),<- hv]
theorem aN8 {α:Type}{cs:Array α}(h:cs.size=15):∃ c0 c1 c2 c3 c4 c5 c6 c7 c8 c9 c10 c11 c12 c13 c14,cs=#[c0,c1,c2,c3,c4,c5,c6,c7,c8,c9,c10,c11,c12,c13,c14]:=by
 obtain ⟨l⟩:=cs
 match l,h with
 | [c0,c1,c2,c3,c4,c5,c6,c7,c8,c9,c10,c11,c12,c13,c14],_=>exact ⟨c0,c1,c2,c3,c4,c5,c6,c7,c8,c9,c10,c11,c12,c13,c14,rfl⟩
theorem aBv {H:Type}{enc:TypeId×Value->H}{w:qw}{base:Nat}{held:Bool}{spare:Nat->Bool}{fuel:Nat}{c0 c1 c2 c3:Value}{x:DataW H×List MemPlace}
 (h:DataW.trod enc Tryz.prog w base spare held fuel 24 [c0,c1,c2,c3]=some x):∃ a0 a1 a2 a3,c0=qI a0/\c1=qI a1/\c2=qI a2/\c3=qI a3:=by
 obtain ⟨xs,n,_,_,hl,hlen,hf⟩:=DataW.trod_struct Tryz.underlying24 h
 match xs,hlen with
 | [y0,y1,y2,y3],_=>
 have k0:=hf 0 _ rfl;have k1:=hf 1 _ rfl;have k2:=hf 2 _ rfl;have k3:=hf 3 _ rfl;have e3:Tryz.prog.cellsOf 3=1:=by kernel_rfl
 simp [e3] at k0 k1 k2 k3;obtain ⟨a0,h0,_,_⟩:=DataW.trod_int Tryz.underlying3 k0;obtain ⟨a1,h1,_,_⟩:=DataW.trod_int Tryz.underlying3 k1;obtain ⟨a2,h2,_,_⟩:=DataW.trod_int Tryz.underlying3 k2;obtain ⟨a3,h3,_,_⟩:=DataW.trod_int Tryz.underlying3 k3;simp at h0 h1 h2 h3;exact ⟨a0,a1,a2,a3,h0,h1,h2,h3⟩
theorem aFu {H:Type}{enc:TypeId×Value->H}{w:qw}{base:Nat}{held:Bool}{fuel:Nat}{c0 c1:Value}{x:DataW H×List MemPlace}
 (h:DataW.trod enc Tryz.prog w base (fun _=>true) held fuel 27 [c0,c1]=some x):∃ pc a n c zs,c0=qI pc/\c1=qS a n c/\IS w a n c zs:=by
 obtain ⟨xs,n,_,_,hl,hlen,hf⟩:=DataW.trod_struct Tryz.underlying27 h
 match xs,hlen with
 | [y0,y1],_=>
 have k0:=hf 0 _ rfl;have k1:=hf 1 _ rfl;have e3:Tryz.prog.cellsOf 3=1:=by kernel_rfl
 have e4:Tryz.prog.cellsOf 25=1:=by kernel_rfl
 simp [e3,e4] at k0 k1;obtain ⟨a0,h0,_,_⟩:=DataW.trod_int Tryz.underlying3 k0;obtain ⟨a1,n1,d1,x1,h1,b1⟩:=aFh k1;simp at h0 h1;exact ⟨a0,a1,n1,d1,x1,h0,h1,b1⟩
theorem aIn {H:Type}{enc:TypeId×Value->H}{w:qw}{base:Nat}{held:Bool}{fuel:Nat}{c0 c1 c2:Value}{x:DataW H×List MemPlace}
 (h:DataW.trod enc Tryz.prog w base (fun _=>true) held fuel 30 [c0,c1,c2]=some x):∃ a1 n1 d1 x1 a2 n2 d2 x2 a3 n3 d3 x3,c0=qS a1 n1 d1/\c1=qS a2 n2 d2/\c2=qS a3 n3 d3/\BS w a1 n1 d1 x1/\BS w a2 n2 d2 x2/\BS w a3 n3 d3 x3:=by
 obtain ⟨xs,n,_,_,hl,hlen,hf⟩:=DataW.trod_struct Tryz.underlying30 h
 match xs,hlen with
 | [y0,y1,y2],_=>
 have k0:=hf 0 _ rfl;have k1:=hf 1 _ rfl;have k2:=hf 2 _ rfl;have e3:Tryz.prog.cellsOf 28=1:=by kernel_rfl
 simp [e3] at k0 k1 k2;obtain ⟨a1,n1,d1,x1,e1,b1⟩:=jQ k0;obtain ⟨a2,n2,d2,x2,e2,b2⟩:=jQ k1;obtain ⟨a3,n3,d3,x3,e3,b3⟩:=jQ k2;simp at e1 e2 e3;exact ⟨a1,n1,d1,x1,a2,n2,d2,x2,a3,n3,d3,x3,e1,e2,e3,b1,b2,b3⟩
set_option maxRecDepth 100000 in
theorem aA3 {H:Type}{enc:TypeId×Value->H}{w:qw}{base b0:Nat}{held:Bool}{r:Reach}{v:Value}{d:DataW H}{p:List MemPlace}
 (hv:Value.okWide Tryz.prog w r b0 34 v) (h:DataW.Trod enc Tryz.prog w base (fun _=>true) held 34 v d p):
 ∃ M:Mn,v=.agg (qA M)/\MnT w M:=by
 obtain ⟨cs,rfl,hsz⟩:=okWide_struct Tryz.underlying34 hv;obtain ⟨c0,c1,c2,c3,c4,c5,c6,c7,c8,c9,c10,c11,c12,c13,c14,rfl⟩:=aN8 (hsz.trans (by kernel_rfl));obtain ⟨fuel,hf⟩:=h;obtain ⟨xs,n,_,_,hl,hlen,hf⟩:=DataW.trod_struct Tryz.underlying34 hf
 match xs,hlen with
 | [y0,y1,y2,y3,y4,y5,y6,y7,y8],_=>
 have k0:=hf 0 _ rfl;have k1:=hf 1 _ rfl;have k2:=hf 2 _ rfl;have k3:=hf 3 _ rfl;have k4:=hf 4 _ rfl;have k5:=hf 5 _ rfl;have k6:=hf 6 _ rfl;have k7:=hf 7 _ rfl;have k8:=hf 8 _ rfl;have e1:Tryz.prog.cellsOf 3=1:=by kernel_rfl
 have e2:Tryz.prog.cellsOf 22=1:=by kernel_rfl
 have e3:Tryz.prog.cellsOf 24=4:=by kernel_rfl
 have e4:Tryz.prog.cellsOf 27=2:=by kernel_rfl
 have e5:Tryz.prog.cellsOf 30=3:=by kernel_rfl
 have e6:Tryz.prog.cellsOf 31=1:=by kernel_rfl
 have e7:Tryz.prog.cellsOf 32=1:=by kernel_rfl
 simp [Value.cells,e1,e2,e3,e4,e5,e6,e7] at k0 k1 k2 k3 k4 k5 k6 k7 k8;obtain ⟨ma,mn,mc,ms,h0,w0⟩:=aEt k0;obtain ⟨cs,cw,ck,cd,h1a,h1b,h1c,h1d⟩:=aBv k1;obtain ⟨pc,ka,kn,kc,kz,h2a,h2b,w2⟩:=aFu k2;obtain ⟨fa,fn,fc,fz,ra,rn,rc,rz,oa,on,oc,oz,h3a,h3b,h3c,w3,w4,w5⟩:=aIn k3;obtain ⟨md,h4,_,_⟩:=DataW.trod_int Tryz.underlying3 k4;obtain ⟨bk,h5,_,_⟩:=DataW.trod_int Tryz.underlying3 k5;obtain ⟨la,ln,lc,lz,h6,w6⟩:=aF9 k6;obtain ⟨ha,hn,hc,hz,h7,w7⟩:=aGb k7;obtain ⟨tn,h8,_,_⟩:=DataW.trod_int Tryz.underlying3 k8;simp at h0 h4 h5 h6 h7 h8;subst h0 h1a h1b h1c h1d h2a h2b h3a h3b h3c h4 h5 h6 h7 h8;exact ⟨⟨ma,mn,mc,ms,cs,cw,ck,cd,pc,ka,kn,kc,kz,fa,fn,fc,fz,ra,rn,rc,rz,oa,on,oc,oz,md,bk,la,ln,lc,lz,ha,hn,hc,hz,tn⟩,rfl,w0,w2,w3,w4,w5,w6,w7⟩
