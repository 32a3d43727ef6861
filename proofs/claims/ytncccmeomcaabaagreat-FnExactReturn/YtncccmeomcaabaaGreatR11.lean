import Derived.Test.YtncccmeomcaabaaGreatR10
set_option linter.all false
set_option maxHeartbeats 4000000
namespace Go.Proofs.YtncccmeomcaabaaGreat
open Go.RowKit Classical
open Go.Proofs.Tryz
set_option maxRecDepth 100000
variable {G:Prop}{P:PMod}{S:Nat->Prop}{V c d k s w:Int}{a a0 a5:qO}{base c0 c5 cap i j lo n o:Nat}{cs:Array Value}{m:Md}{ms:List Md}{ps:List PMod}{ts:List TB}{u v:Value}{xs:List PB}{zs:List Tg}
theorem qD {w:qw}(h:m.md w)(k:Nat)(hk:k<m.bn):(m.bl.getD k zB).2.1=(m.pm.bl.getD k []).length/\m.pm.bl.length=m.bn:=by
 have hb:=h.b.1;refine ⟨?_,by simp [Md.pm,hb]⟩;have e:m.pm.bl.getD k []=(m.bl.getD k zB).2.2.2:=fC _ _ _ zB _;rw [e];exact (h.b.2.2.2.1 k hk).1.symm
theorem vJ (a:qO)(n cap:Nat)(ms:List Md)(s c k d:Int)(w:qw)(h:MSD w a n cap ms):
 qC 140 #[qS a n cap,.agg (qW s c k d)] w fun e w'=>e=.returned (.bool (decide (0<s/\¬ jT (aE ms) c)))/\qY w w':=by
 have hA:qY w (w.alloc (.cells (qW s c k d) 37)):=bal;have k0:=Blk.new w (qW s c k d) 37;have hl:=h.s.1;have hm1:=h.s.2.1;unfold maxLen at hm1;have hpl:=bQ ms;have HH:=zh h;obtain ⟨R,hR⟩:=eqx (decide (0<s/\¬ jT (aE ms) c));rw [<- hR];have HR:=zh hR;clear hR;have HB1:=zh (xA hA k0);clear h hA k0;go_enter func140,ntmps140
 go_wp2;go_loopw [5] (fun i wr=>∃ m:Nat,m<=n/\i=qI m/\(0<s->∀ j,j<m->∀ k,k<((aE ms).getD j zP).bl.length->((((aE ms).getD j zP).bl.getD k []).length:Int)<=c)/\qY w wr/\Blk wr w.heap.size (qW s c k d) 37) (qf n)
 .exact ⟨0,xC _,rfl,fun _ j hj=>absurd hj (by omega),HB1.o.1,HB1.o.2⟩
 .obtain ⟨m,hm,rfl,hv,B,kk⟩:=hrel;by_cases hlt:m<n
  .have hlt':(m:Int)<(n:Int):=by omega
   have HV:=zh hv;have HB2:=zh (xA B kk);clear hv B kk HB1;go_wp2;go_loopw [6] (fun i wr=>∃ q:Nat,q<=(ms.getD m aK).bn/\i=qI q/\(0<s->∀ k,k<q->((((aE ms).getD m zP).bl.getD k []).length:Int)<=c)/\qY w wr/\Blk wr w.heap.size (qW s c k d) 37) (fun i _=>(ms.getD m aK).bn-(intOf i).toNat)
   .exact ⟨0,xC _,rfl,fun _ j hj=>absurd hj (by omega),HB2.o.1,HB2.o.2⟩
   .obtain ⟨q,hq,rfl,hw,B,kk⟩:=hrel;have H:=HH.o.bw B;obtain ⟨b,off,rfl,q0,q1,q2,_⟩:=H.s.at m hlt;have hmd:=H.d m hlt;have hbl:((aE ms).getD m zP).bl.length=(ms.getD m aK).bn:=by rw [cG];show (List.map _ _).length=_;rw [xH];exact hmd.b.1
    have HW:=zh hw;have hbn:(ms.getD m aK).bn<=9223372036854775807:=by have:=hmd.b.2.1;unfold maxLen at this;omega
    by_cases hlt2:q<(ms.getD m aK).bn
    .have hlt2':(q:Int)<((ms.getD m aK).bn:Int):=by omega
     obtain ⟨_,_,hcb,hrb,_⟩:=hmd.b;obtain ⟨b2,off2,hba,hc⟩:=hcb (by omega);have c0:=hc q hlt2;have hlen:=(qD hmd q hlt2).1;rw [<- cG] at hlen;rw [hba] at q2;have y0:=kk.e0;have y1:=kk.e1;have HB3:=zh (xA B kk);obtain ⟨L,hL⟩:∃ L:Nat,L=(((aE ms).getD m zP).bl.getD q []).length:=⟨_,rfl⟩;rw [<- hL] at hlen;rw [hlen] at c0;have hmx:L<=9223372036854775807:=by have:=(hrb q hlt2).2.1;rw [hlen] at this;unfold maxLen at this;omega
     have HSH:=zh (show (0<s->(L:Int)<=c)->0<s->∀ k,k<q+1->((((aE ms).getD m zP).bl.getD k []).length:Int)<=c from fun h1 h2 k hk=>by
      by_cases e:k=q
      .subst e;rw [<- hL];exact h1 h2
      .exact HW.o h2 k (by omega))
     have HBD:Zh (0<s->c<(L:Int)->0<s/\¬ jT (aE ms) c):=fun h1 h2=>⟨h1,fun hs=>by have:=hs m (by omega) q (by omega);rw [<- hL] at this;omega⟩;generalize (ms.getD m aK).bl.getD q zB=bq at *;generalize (ms.getD m aK).bn=bn at *;obtain ⟨bq1,bq2,bq3,bq4⟩:=bq;dsimp only at c0 hlen;clear hw B H hmd hbl hba hc hcb hrb hL hlen q0 q1 kk;by_cases hs0:0<s
     .by_cases hcl:c<(L:Int)
      .have HF:=zh (HBD.o hs0 hcl);go_wp2_with fail
       go_quiet (fail)
       go_wp2;go_ret;exact ⟨aA (by rw [HR.o,xR HF.o]),iK HB3.o.1 nq⟩
      .have HF:=zh (HSH.o (fun _=>by omega));go_wp2_with fail
       go_quiet (fail)
       go_wp2
       go_roundw
       .exact ⟨q+1,by omega,by go_num,HF.o,iK HB3.o.1 nq,HB3.o.2⟩
       .simp [qf,intOf];omega
     .have HF:=zh (HSH.o (fun e=>absurd e hs0));have hs2:decide (0<s)=false:=xS hs0;go_wp2_with fail
      go_quiet (fail)
      go_wp2
      go_roundw
      .exact ⟨q+1,by omega,by go_num,HF.o,iK HB3.o.1 nq,HB3.o.2⟩
      .simp [qf,intOf];omega
    .have hlt2':¬ (q:Int)<((ms.getD m aK).bn:Int):=by omega
     have HV2:=zh (show 0<s->∀ j,j<m+1->∀ k,k<((aE ms).getD j zP).bl.length->((((aE ms).getD j zP).bl.getD k []).length:Int)<=c from fun h1 j hj k hk=>by
      by_cases e:j=m
      .subst e;exact HW.o h1 k (by omega)
      .exact HV.o h1 j (by omega) k hk)
     have HB3:=zh (xA B kk);generalize (ms.getD m aK).bn=bn at *;clear hw B H hmd hbl q0 q1 kk;go_wp2
     go_roundw
     .exact ⟨m+1,by omega,by go_num,HV2.o,HB3.o.1,HB3.o.2⟩
     .simp [qf,intOf];omega
  .have hlt':¬ (m:Int)<(n:Int):=by omega
   have HF:Zh (¬ (0<s/\¬ jT (aE ms) c)):=fun h=>h.2 (fun i hi k hk=>hv h.1 i (by omega) k hk);have HB2:=zh B;clear hv B kk HB1;go_wp2;go_ret;exact ⟨aA (by rw [HR.o,xS HF.o]),HB2.o⟩
theorem aR {x:Int}(h:0<=x:=by omega):x<=rnd x/\rnd x<=x+31:=by unfold rnd;omega
theorem dW (h:fA P=0):0<=tsz P/\tsz P<=831:=by
 have h1:=(bZ h).2.2.1;have:=aR (x:=4*(P.tz.length:Int));unfold tsz;omega
theorem cC {P:PMod}(h:fA P=0):∀ k,k<=P.bl.length->0<=cA P k/\cA P k<=(k:Int)*287
 | 0,_=>by simp [cA]
 | k+1,hk=>by
   have ih:=cC h k (by omega);have h1:=(bZ h).2.2.2.2.2.2.2 k (by omega);have:=aR (x:=4*((P.bl.getD k []).length:Int));show 0<=cA P k+rnd (4*((P.bl.getD k []).length:Int))/\cA P k+rnd (4*((P.bl.getD k []).length:Int))<=_;push_cast;omega
theorem iH (h:fA P=0):0<=dsz P/\dsz P<=1055:=by
 obtain ⟨_,_,_,_,h5,h6,h7,_⟩:=bZ h;have:=aR (x:=(P.dz.length:Int)+P.bss);unfold dsz;omega
theorem cL {ps:List PMod}(h:fO ps):∀ i,i<=ps.length->0<=Fl ps i/\Fl ps i<=(i:Int)*1979
 | 0,_=>by simp [Fl]
 | i+1,hi=>by
   have ih:=cL h i (by omega);have hv:=h i (by omega);have h1:=dW hv;have h2:=cC hv _ aN;have h3:=(bZ hv).2.2.2.1;show 0<=Fl ps i+(tsz (ps.getD i zP)+cA (ps.getD i zP) (ps.getD i zP).bl.length)/\Fl ps i+(tsz (ps.getD i zP)+cA (ps.getD i zP) (ps.getD i zP).bl.length)<=_;push_cast;omega
theorem bO {ps:List PMod}(h:fO ps):∀ i,i<=ps.length->0<=Ra ps i/\Ra ps i<=(i:Int)*1055
 | 0,_=>by simp [Ra]
 | i+1,hi=>by
   have ih:=bO h i (by omega);have h1:=iH (h i (by omega));show 0<=Ra ps i+dsz (ps.getD i zP)/\Ra ps i+dsz (ps.getD i zP)<=_;push_cast;omega
theorem aM {w:qw}{sz:Nat}{t t':TypeId}{xs:List Value}{k:Nat}(h:w.ownsRow base t sz v n xs)(hk:v.ownBlock=some k)(hb:Blk w k cs t')(hne:t≠t'):False:=by
 obtain ⟨c1,k1⟩:=aD h hk;exact hne (aI k1 hb)
def zL:Array Value:=qz
structure Lst (w W:qw)(s c k d:Int)(cs:Array Value):Prop where
 be:qY w W
 k0:Blk W w.heap.size (qW s c k d) 37
 k1:Blk W (w.heap.size+1) zL 71
 k5:Blk W (w.heap.size+5) cs 71
theorem Lst.bw {w W W':qw}(h:Lst w W s c k d cs)(hb:qY W W'):Lst w W' s c k d cs:=⟨h.be.trans (hb.mono h.be.size),h.k0.bw hb,h.k1.bw hb,h.k5.bw hb⟩
theorem Lst.set {w W:qw}(h:Lst w W s c k d cs)(i:Nat)(v:Value):Lst w (W.setCell (qR (w.heap.size+5) i) v) s c k d (cs.setIfInBounds i v):=
 ⟨aG h.be (aC W (w.heap.size+5) i v) (fun k hk=>by omega) h.be.size,aF (aC W (w.heap.size+5) i v) h.k0 (by omega),aF (aC W (w.heap.size+5) i v) h.k1 (by omega),h.k5.set i v⟩
theorem Lst.other {w W:qw}(h:Lst w W s c k d cs){g:Nat}(hg:w.heap.size+6<=g)(i:Nat)(v:Value):Lst w (W.setCell (qR g i) v) s c k d cs:=
 ⟨aG h.be (aC W g i v) (fun k hk=>by omega) h.be.size,aF (aC W g i v) h.k0 (by omega),aF (aC W g i v) h.k1 (by omega),aF (aC W g i v) h.k5 (by omega)⟩
theorem Lst.grown {w W W':qw}{row:Option Nat}(h:Lst w W s c k d cs)(hg:W.grownBy W' row)(hr:∀ j,row=some j->w.heap.size+2<=j/\j≠w.heap.size+5):Lst w W' s c k d cs:=by
 have t:Turn (fun j=>row=some j) W W':=⟨hg.os,hg.tape,hg.output,hg.size,fun j hj hs=>hg.block j hj (fun e=>hs e.symm)⟩;exact ⟨aG h.be t (fun j hj=>by have:=hr j hj;omega) h.be.size,aF t h.k0 (fun e=>by have:=hr _ e;omega),aF t h.k1 (fun e=>by have:=hr _ e;omega),aF t h.k5 (fun e=>by have:=hr _ e;omega)⟩
theorem Lst.sz {w W:qw}(h:Lst w W s c k d cs):w.heap.size+6<=W.heap.size:=h.k5.lt
theorem Lst.drew {w W:qw}(h:Lst w W s c k d cs):Lst w W.drew s c k d cs:=⟨h.be.drew,h.k0,h.k1,h.k5⟩
structure Lrw (w W:qw)(ps:List PMod)(m:Nat)(a0:qO)(c0:Nat)(xs:List PB)(a5:qO)(c5:Nat)(ts:List TB):Prop where
 P:OPl W (w.heap.size+2) (w.heap.size+6) (qS a0 m c0) xs
 T:OTg W (w.heap.size+2) (w.heap.size+6) (qS a5 m c5) ts
 S:OG 3 1 clI W (w.heap.size+2) (qS (some (qR (w.heap.size+3) 0)) 0 0) []
 pl:xs.length=m
 tl:ts.length=m
 px:xs.map (fun x=>x.1)=(List.range m).map (plc ps)
 tx:ts.map (fun x=>x.1)=(List.range m).map fun i=>tgs ps (ps.getD i zP)
def Lg (w:qw)(j:Nat):Prop:=j=w.heap.size+5
theorem Lrw.kept {w W W':qw}{m:Nat}(h:Lrw w W ps m a0 c0 xs a5 c5 ts)(L:Lst w W s c k d cs)(t:Turn (Lg w) W W'):Lrw w W' ps m a0 c0 xs a5 c5 ts:=by
 have k5:=L.k5;refine ⟨h.P.kept t (fun k hk e=>?_) (fun x hx k hk e=>?_),h.T.kept t (fun k hk e=>?_) (fun x hx k hk e=>?_),h.S.kept t (fun k hk e=>?_),h.pl,h.tl,h.px,h.tx⟩
 .rw [show k=w.heap.size+5 from e] at hk;exact aM h.P.head hk k5 (by decide)
 .rw [show k=w.heap.size+5 from e] at hk;exact aM (h.P.rows x hx) hk k5 (by decide)
 .rw [show k=w.heap.size+5 from e] at hk;exact aM h.T.head hk k5 (by decide)
 .rw [show k=w.heap.size+5 from e] at hk;exact aM (h.T.rows x hx) hk k5 (by decide)
 .rw [show k=w.heap.size+5 from e] at hk;exact aM h.S hk k5 (by decide)
theorem Lrw.bw {w W W':qw}{m:Nat}(h:Lrw w W ps m a0 c0 xs a5 c5 ts)(hb:qY W W'):Lrw w W' ps m a0 c0 xs a5 c5 ts:=⟨h.P.bw hb,h.T.bw hb,h.S.bw hb,h.pl,h.tl,h.px,h.tx⟩
def bks (ps:List PMod)(i k:Nat):List Int:=(List.range k).map fun j=>Fl ps i+tsz (ps.getD i zP)+cA (ps.getD i zP) j
theorem nI (ps:List PMod)(i k:Nat):(bks ps i k).length=k:=by simp [bks]
theorem aK6 (ps:List PMod)(i k:Nat):bks ps i (k+1)=bks ps i k++[Fl ps i+tsz (ps.getD i zP)+cA (ps.getD i zP) k]:=by simp [bks,List.range_succ]
def LkM (w:qw)(ps:List PMod)(s c k d:Int)(e:Ending)(w':qw):Prop:=qY w w'/\∃ a0 c0 xs a2 c2 a5 c5 ts,e=.returned (.tuple #[.agg (mF (lkL ps s c k d) a0 c0 xs a2 c2 a5 c5 ts),qI (lkc ps s c k d)])/\LayO w' w.heap.size (lkL ps s c k d) a0 c0 xs a2 c2 a5 c5 ts
theorem aMl (W:qw)(base:Nat):LayO W base L0 none 0 [] none 0 none 0 []:=⟨aAa,rfl,fI _ _ _ _ _,aAa,rfl,fun k hk=>by simp [Value.ownBlock] at hk⟩
theorem aF4 {w w':qw}(hb:qY w w')(hV:lkc ps s c k d=V)(h0:V≠0):LkM w ps s c k d (.returned (.tuple #[.agg zL,qI V])) w':=by
 refine ⟨hb,none,0,[],none,0,none,0,[],?_,?_⟩
 .unfold lkL;rw [if_neg (by rw [hV];exact h0),hV];rfl
 .unfold lkL;rw [if_neg (by rw [hV];exact h0)];exact aMl _ _
theorem aNq (h:dS ps s w k d=V)(h0:V≠0):lkc ps s w k d=V:=by unfold lkc;rw [if_pos (by rw [h];exact h0),h]
theorem aNp (h:dS ps s w k d=0)(h5:¬ jQ ps):lkc ps s w k d=5:=by unfold lkc;rw [if_neg (by rw [h];decide),if_pos h5]
theorem aNo (h:dS ps s w k d=0)(h5:jQ ps)(h6:0<s/\¬ jT ps w):lkc ps s w k d=6:=by unfold lkc;rw [if_neg (by rw [h];decide),if_neg (fun e=>e h5),if_pos h6]
theorem aNn (h:dS ps s w k d=0)(h5:jQ ps)(h6:¬ (0<s/\¬ jT ps w))(h7:16384<(lay ps s w k).flash):lkc ps s w k d=7:=by unfold lkc;rw [if_neg (by rw [h];decide),if_neg (fun e=>e h5),if_neg h6,if_pos h7]
theorem aNm (h:dS ps s w k d=0)(h5:jQ ps)(h6:¬ (0<s/\¬ jT ps w))(h7:¬ 16384<(lay ps s w k).flash)(h8:16384<(lay ps s w k).ram):lkc ps s w k d=8:=by unfold lkc;rw [if_neg (by rw [h];decide),if_neg (fun e=>e h5),if_neg h6,if_neg h7,if_pos h8]
theorem aNr (h:dS ps s w k d=0)(h5:jQ ps)(h6:¬ (0<s/\¬ jT ps w))(h7:¬ 16384<(lay ps s w k).flash)(h8:¬ 16384<(lay ps s w k).ram):lkc ps s w k d=0:=by unfold lkc;rw [if_neg (by rw [h];decide),if_neg (fun e=>e h5),if_neg h6,if_neg h7,if_neg h8]
theorem rJ (h:dS ps s w k d=0):cfo s w k d=true/\ps.length<=4/\fO ps:=by
 unfold dS at h;split at h
 .simp at h
 split at h
 .simp at h
 split at h
 .simp at h
 .rename_i h1 h2 h3;exact ⟨by simpa using h1,by omega,xZ.1 h3⟩
theorem mL {a W:qw}(h:Turn S a W):Turn S a W.drew:=⟨h.os,h.tape,h.output,h.size,h.block⟩
theorem aPu {S:Prop}(main:S->G)(pf:S):G:=main pf
theorem aP7 {S F:Nat->Nat->World->Prop}(main:(∀ gp gr W,F gp gr W->S gp gr W)->G)(pf:∀ gp gr W,F gp gr W->S gp gr W):G:=main pf
theorem aMp (w:qw)(s c k d:Int)(ps:List PMod):
 Lst w ((((((w.alloc (.cells (qW s c k d) 37)).alloc (.cells qz 71)).alloc (.cells #[] 171)).alloc (.cells #[] 3)).alloc (.cells #[] 190)).alloc (.cells #[qS (some (qR (w.heap.size+2) 0)) 0 0,qI 0,qS (some (qR (w.heap.size+3) 0)) 0 0,qI 0,qI 0,qS (some (qR (w.heap.size+4) 0)) 0 0] 71)) s c k d #[qS (some (qR (w.heap.size+2) 0)) 0 0,qI 0,qS (some (qR (w.heap.size+3) 0)) 0 0,qI 0,qI 0,qS (some (qR (w.heap.size+4) 0)) 0 0] /\
 Lrw w ((((((w.alloc (.cells (qW s c k d) 37)).alloc (.cells qz 71)).alloc (.cells #[] 171)).alloc (.cells #[] 3)).alloc (.cells #[] 190)).alloc (.cells #[qS (some (qR (w.heap.size+2) 0)) 0 0,qI 0,qS (some (qR (w.heap.size+3) 0)) 0 0,qI 0,qI 0,qS (some (qR (w.heap.size+4) 0)) 0 0] 71)) ps 0 (some (qR (w.heap.size+2) 0)) 0 [] (some (qR (w.heap.size+4) 0)) 0 []:=by
 have k0:=Blk.new w (qW s c k d) 37;have b0:qY w (w.alloc (.cells (qW s c k d) 37)):=bal;have s0:(w.alloc (.cells (qW s c k d) 37)).heap.size=w.heap.size+1:=by simp
 generalize w.alloc (.cells (qW s c k d) 37)=W0 at *;have k1:=Blk.new W0 qz 71;have b1:qY W0 (W0.alloc (.cells qz 71)):=bal;have s1:(W0.alloc (.cells qz 71)).heap.size=w.heap.size+2:=by simp [s0]
 rw [s0] at k1;generalize W0.alloc (.cells qz 71)=W1 at *;have o2:OPl (W1.alloc (.cells #[] 171)) (w.heap.size+2) (w.heap.size+6) (qS (qP W1.heap.size) 0 0) []:=aJk (by omega);have b2:qY W1 (W1.alloc (.cells #[] 171)):=bal;have s2:(W1.alloc (.cells #[] 171)).heap.size=w.heap.size+3:=by simp [s1]
 rw [s1] at o2;generalize W1.alloc (.cells #[] 171)=W2 at *;have o3:=bI 3 1 clI W2 (w.heap.size+2) (by omega);have b3:qY W2 (W2.alloc (.cells #[] 3)):=bal;have s3:(W2.alloc (.cells #[] 3)).heap.size=w.heap.size+4:=by simp [s2]
 rw [s2] at o3;generalize W2.alloc (.cells #[] 3)=W3 at *;have o4:OTg (W3.alloc (.cells #[] 190)) (w.heap.size+2) (w.heap.size+6) (qS (qP W3.heap.size) 0 0) []:=aJk (by omega);have b4:qY W3 (W3.alloc (.cells #[] 190)):=bal;have s4:(W3.alloc (.cells #[] 190)).heap.size=w.heap.size+5:=by simp [s3]
 rw [s3] at o4;generalize W3.alloc (.cells #[] 190)=W4 at *;have k5:=Blk.new W4 #[qS (some (qR (w.heap.size+2) 0)) 0 0,qI 0,qS (some (qR (w.heap.size+3) 0)) 0 0,qI 0,qI 0,qS (some (qR (w.heap.size+4) 0)) 0 0] 71;have b5:qY W4 (W4.alloc (.cells #[qS (some (qR (w.heap.size+2) 0)) 0 0,qI 0,qS (some (qR (w.heap.size+3) 0)) 0 0,qI 0,qI 0,qS (some (qR (w.heap.size+4) 0)) 0 0] 71)):=bal;rw [s4] at k5;have c45:=b5;have c35:=b4.trans (c45.mono (by omega));have c25:=b3.trans (c35.mono (by omega));have c15:=b2.trans (c25.mono (by omega));have c05:=b1.trans (c15.mono (by omega));exact ⟨⟨b0.trans (c05.mono (by omega)),k0.bw c05,k1.bw c15,k5⟩,⟨o2.bw c25,o4.bw c45,o3.bw c35,rfl,rfl,rfl,rfl⟩⟩
def st6 (W:qw)(k:Nat)(v0 v1 v2 v3 v4 v5:Value):World:=(((((W.setCell (qR k 0) v0).setCell (qR k 1) v1).setCell (qR k 2) v2).setCell (qR k 3) v3).setCell (qR k 4) v4).setCell (qR k 5) v5
theorem cD (W:qw)(k:Nat)(v0 v1 v2 v3 v4 v5:Value):Turn (fun j=>j=k) W (st6 W k v0 v1 v2 v3 v4 v5):=
 (((((aC W k 0 v0).trans (aC _ k 1 v1)).trans (aC _ k 2 v2)).trans (aC _ k 3 v3)).trans (aC _ k 4 v4)).trans (aC _ k 5 v5)
theorem jI {W:qw}{k:Nat}{t:TypeId}(h:Blk W k zL t)(v0 v1 v2 v3 v4 v5:Value):Blk (st6 W k v0 v1 v2 v3 v4 v5) k #[v0,v1,v2,v3,v4,v5] t:=
 (((((h.set 0 v0).set 1 v1).set 2 v2).set 3 v3).set 4 v4).set 5 v5
theorem aMq {w W:qw}(k1:Blk W (w.heap.size+1) zL 71)(v0 v1 v2 v3 v4 v5:Value)(Q:Ending->World->Prop)(tmps:Array Value)(h4:tmps[4]?=some (.pointer (some (qR (w.heap.size+1) 0))))(hQ:Q (.returned (.agg #[v0,v1,v2,v3,v4,v5])) (st6 W (w.heap.size+1) v0 v1 v2 v3 v4 v5)):
 bodyPost prog f141 Q Exit.ret ⟨tmps,[]⟩ (st6 W (w.heap.size+1) v0 v1 v2 v3 v4 v5):=by
 have k:=jI k1 v0 v1 v2 v3 v4 v5;obtain ⟨t0,t1,t2,t3,t4,t5⟩:=k.z6;refine bodyPost_ret_by (v:=.agg #[v0,v1,v2,v3,v4,v5]) ?_ rfl hQ;simp [results,results141,go_sem,h4,t0,t1,t2,t3,t4,t5]
open Go Go.Maps Go.WideShapes
set_option maxRecDepth 100000
theorem gP (x:Int)(w:qw)(h0:0<=x:=by omega)(h1:x<=4294967295:=by omega):qC 212 #[qI x] w fun e w'=>e=.returned (qI (rnd x))/\w'=w:=by
 have hd:(x+31).tdiv 32=(x+31)/32:=Int.tdiv_eq_ediv_of_nonneg (by omega);go_enter func212,ntmps212
 go_wp2;go_ret;exact ⟨aH (by unfold rnd;rw [show x+31=x+32-1 by omega]),rfl⟩
theorem lN (a:qO)(n cap:Nat)(w:qw)(hn:n<=1048576):qC 199 #[qS a n cap] w fun e w'=>e=.returned (qI (rnd (4*(n:Int))))/\w'=w:=by
 have hw:IntKind.i64.wrap (4*(n:Int))=4*(n:Int):=bY _ (by omega) (by omega);have HR:=zh (gP (4*(n:Int)) w);go_enter func199,ntmps199
 go_wp2_with fail
 refine HR.o.mono ?_;rintro e w1 ⟨rfl,rfl⟩;go_wp2;go_ret;exact ⟨rfl,rfl⟩
theorem Md.okI {w:qw}(h:m.md w):qC 211 #[.agg (qM m.nm m.ta m.tn m.tc m.ba m.bn m.bc m.da m.dn m.dc m.bss m.ra m.rn m.rc m.ia m.im m.ic m.ea m.en m.ec)] w (qB w (qI (fA m.pm))):=by
 have:=vN _ _ _ _ _ _ _ _ _ _ _ _ _ _ _ _ _ _ _ _ _ _ _ _ _ _ w h;rw [aJ4 h] at this;exact this
theorem aO5 {a b:ByteArray}:a.data.toList=b.data.toList ↔ a=b:=by
 constructor
 .intro e;cases a
  cases b
  simp at e;rw [e]
 .intro e;rw [e]
theorem aJq (hl:ms.length=n):(size (fd (cS ms) n)=n) ↔ nms (aE ms):=by
 have h:=aAy (cS ms) n;have key:∀ i,i<n->((aE ms).getD i zP).nm=(ms.getD i aK).nm:=fun i hi=>by rw [cG];rfl
 constructor
 .intro e;rw [xR e] at h;intro i hi k hk;rw [bQ,hl] at hi;have h':=h.symm;rw [List.all_eq_true] at h';have h1:=h' i (by simpa using hi);rw [List.all_eq_true] at h1;have h2:=h1 k (by simpa using hk);rw [key k (by omega),key i hi];intro e';have e2:cS ms k=cS ms i:=by unfold cS;rw [e']
  rw [e2] at h2;simp at h2
 .intro hn;apply of_decide_eq_true;rw [h,List.all_eq_true];intro i hi;rw [List.all_eq_true];intro k hk;have hi':i<n:=by simpa using hi
  have hk':k<i:=by simpa using hk
  have:=hn i (by rw [bQ];omega) k hk';rw [key k (by omega),key i hi'] at this;have h3:cS ms k≠cS ms i:=fun e=>this (aO5.1 e);simp [h3]
theorem aC3:∀ (xs:List Tg) (i:Nat),i<xs.length->(xs.flatMap clG)[i*3]?=some (qI (xs.getD i zT).1)/\(xs.flatMap clG)[i*3+1]?=some (qI (xs.getD i zT).2.1)/\(xs.flatMap clG)[i*3+2]?=some (qI (xs.getD i zT).2.2)
 | [],i,h=>by simp at h
 | x::xs,0,h=>by simp [clG]
 | x::xs,i+1,h=>by
   obtain ⟨h1,h2,h3⟩:=aC3 xs i (by simpa using h);rw [show (i+1)*3=i*3+1+1+1 by omega];simp only [xT,clG,List.cons_append,List.nil_append,List.getElem?_cons_succ];exact ⟨h1,h2,h3⟩
theorem aOo {w:qw}{c:Nat}{xs:List Tg}(h:OG 58 3 clG w base (qS a n c) xs)(m:Nat)(hm:m<n):∃ g,a=some (qR g 0)/\w.cell? (qR g (m*3))=some (qI (xs.getD m zT).1)/\w.cell? (qR g (m*3+1))=some (qI (xs.getD m zT).2.1)/\w.cell? (qR g (m*3+2))=some (qI (xs.getD m zT).2.2):=by
 obtain ⟨hl,_,_,h4⟩:=aQ h;obtain ⟨g,hg,hc⟩:=h4 (by omega);obtain ⟨e0,e1,e2⟩:=aC3 xs m (by omega);exact ⟨g,hg,hc _ _ e0,hc _ _ e1,hc _ _ e2⟩
def zTB:TB:=([],none,0)
theorem aJh {w:qw}{c:Nat}(h:OTg w base lo (qS a n c) ts)(i:Nat)(hi:i<n):∃ g,a=some (qR g 0)/\w.cell? (qR g i)=some (svT (ts.getD i zTB))/\OG 58 3 clG w lo (svT (ts.getD i zTB)) (ts.getD i zTB).1:=by
 obtain ⟨hl,_,_,h4⟩:=aQ h.head;obtain ⟨g,hg,hc⟩:=h4 (by omega);refine ⟨g,hg,hc i _ ?_,h.rows _ (by simp [xB,show i<ts.length by omega])⟩;rw [show ts.flatMap aA8=ts.map svT from cY _ _];simp [xB,show i<ts.length by omega]
def zPB:PB:=(⟨0,[],0,0⟩,none,0)
theorem aC1:∀ (xs:List PB) (i:Nat),i<xs.length->(xs.flatMap clP)[i*4]?=some (qI (xs.getD i zPB).1.text)/\(xs.flatMap clP)[i*4+1]?=some (svP (xs.getD i zPB))/\(xs.flatMap clP)[i*4+2]?=some (qI (xs.getD i zPB).1.data)/\(xs.flatMap clP)[i*4+3]?=some (qI (xs.getD i zPB).1.size)
 | [],i,h=>by simp at h
 | x::xs,0,h=>by simp [clP]
 | x::xs,i+1,h=>by
   obtain ⟨h1,h2,h3,h4⟩:=aC1 xs i (by simpa using h);rw [show (i+1)*4=i*4+1+1+1+1 by omega];simp only [xT,clP,List.cons_append,List.nil_append,List.getElem?_cons_succ];exact ⟨h1,h2,h3,h4⟩
theorem aJl {w:qw}{c:Nat}(h:OPl w base lo (qS a n c) xs)(i:Nat)(hi:i<n):∃ g,a=some (qR g 0)/\w.cell? (qR g (i*4))=some (qI (xs.getD i zPB).1.text)/\w.cell? (qR g (i*4+1))=some (svP (xs.getD i zPB))/\w.cell? (qR g (i*4+2))=some (qI (xs.getD i zPB).1.data)/\w.cell? (qR g (i*4+3))=some (qI (xs.getD i zPB).1.size)/\OG 3 1 clI w lo (svP (xs.getD i zPB)) (xs.getD i zPB).1.banks:=by
 obtain ⟨hl,_,_,h4⟩:=aQ h.head;obtain ⟨g,hg,hc⟩:=h4 (by omega);obtain ⟨e0,e1,e2,e3⟩:=aC1 xs i (by omega);exact ⟨g,hg,hc _ _ e0,hc _ _ e1,hc _ _ e2,hc _ _ e3,h.rows _ (by simp [xB,show i<xs.length by omega])⟩
structure LayR (L:Lay):Prop where
 p:∀ x∈L.places,∀ z∈x.banks,wfi z
 s:∀ z∈L.slots,wfi z
 n:L.places.length<=1048576/\L.targets.length<=1048576/\∀ x∈L.targets,x.length<=1048576
abbrev Rw3:=qO×Nat×Nat
theorem aOy (h:cs[i]?=some u):i<cs.size:=by
 rcases Nat.lt_or_ge i cs.size with h1|h1
 .exact h1
 .rw [Array.getElem?_eq_none h1] at h;cases h
theorem cK {v:Value}(h:cs[j]?=some u)(hn:i≠j:=by omega):(cs.setIfInBounds i v)[j]?=some u:=by
 rw [Array.getElem?_setIfInBounds,if_neg hn];exact h
theorem aNb (h:cs[i]?=some u):(cs.setIfInBounds i v)[i]?=some v:=by
 rw [Array.getElem?_setIfInBounds,if_pos rfl,if_pos (aOy h)]
def aDe (xs:List Nat)(bl:List Bk)(i:Nat):qO×Nat×Nat:=(some (qR (xs.getD i 0) 0),(bl.getD i zB).2.1,(bl.getD i zB).2.1)
theorem wC (xs:List Nat)(bl:List Bk):∀ n,bJ (aDe xs bl) n=upS (fun j=>(bl.getD j zB).2.1) n
 | 0=>rfl
 | n+1=>by show bJ (aDe xs bl) n+_=upS _ n+_;rw [wC xs bl n];rfl
theorem aOt {nm:ByteArray}{ta:qO}{tn tc:Nat}{tz:qi}{ba:qO}{bn bc:Nat}{bl:List Bk}{da:qO}{dn dc:Nat}{dz:qi}{bss:Int}{ra:qO}{rn rc:Nat}{rz:qi}{ia:qO}{im ic:Nat}{ss:List ByteArray}{ea:qO}{en ec:Nat}{es:List Ex}{w W:qw}{g1 g2 g3 g5 g6 g7:Nat}{gs:List Nat}(h:MT w nm ta tn tc tz ba bn bc bl da dn dc dz bss ra rn rc rz ia im ic ss ea en ec es)(hg:gs.length=bn)
 (r1:RowI W g1 tz) (r2:RowB W g2 bn gs bl) (r3:Row8 W g3 dz) (r5:RowI W g5 rz) (r6:RowT W g6 ss) (r7:RowX W g7 es) {S:Nat->Prop} (s1:S g1) (s2:¬ S g2) (sb:∀ i,i<bn->S (gs.getD i 0)) (s3:S g3) (s5:S g5) (s6:S g6) (s7:S g7):
 Sl S W (qP g1) tn 1/\SlB S W (qP g2) bn (aDe gs bl)/\Sl S W (qP g3) dn 1/\Sl S W (qP g5) rn 1/\Sl S W (qP g6) im 1/\Sl S W (qP g7) en 3:=by
 obtain ⟨⟨cur,hb,hsz,hc⟩,hr,_⟩:=r2;obtain ⟨⟨cx,hx,hxs⟩,_⟩:=r7;refine ⟨Sl.ofBlk (c:=tc) r1 s1 (by simp [h.t.1]),⟨fun _=>⟨g2,0,cur,_,rfl,s2,hb,fun i hi=>by rw [Nat.zero_add];exact hc i (by omega)⟩,fun i hi=>?_⟩,Sl.ofBlk (c:=tc) r3 s3 (by simp [h.d.1]),Sl.ofBlk (c:=tc) r5 s5 (by simp [h.r.1]),Sl.ofBlk (c:=tc) r6 s6 (by simp [h.i.1]),Sl.ofBlk (c:=tc) hx s7 (by rw [hxs,h.e.1];exact aN)⟩;exact Sl.ofBlk (c:=tc) (hr i (by omega)).1 (sb i hi) (by have e1:(aDe gs bl i).2.1=(bl.getD i zB).2.1:=rfl;have e2:=(h.b.2.2.2.1 i hi).1;rw [e1,List.size_toArray,xH,e2];omega)
def Ar8 (cs:Array Value)(o:Nat)(m:Md):Prop:=(∃ u,cs[o]?=some u)/\cs[o+1]?=some (qS m.ta m.tn m.tc)/\cs[o+2]?=some (qS m.ba m.bn m.bc)/\cs[o+3]?=some (qS m.da m.dn m.dc)/\(∃ u,cs[o+4]?=some u)/\cs[o+5]?=some (qS m.ra m.rn m.rc)/\cs[o+6]?=some (qS m.ia m.im m.ic)/\cs[o+7]?=some (qS m.ea m.en m.ec)
theorem aNz (h:∃ u,cs[j]?=some u):∃ u,(cs.setIfInBounds i v)[j]?=some u:=by
 obtain ⟨u,h⟩:=h;by_cases e:i=j
 .subst e;exact ⟨v,aNb h⟩
 .exact ⟨u,cK h e⟩
theorem aNc (h:Ar8 cs (o*8) m)(hj:j=0\/j=4):Ar8 (cs.setIfInBounds (i*8+j) v) (o*8) m:=
 ⟨aNz h.1,cK h.2.1,cK h.2.2.1,cK h.2.2.2.1,aNz h.2.2.2.2.1,cK h.2.2.2.2.2.1,cK h.2.2.2.2.2.2.1,cK h.2.2.2.2.2.2.2⟩
structure Rws (S:Nat->Prop)(W:qw)(c:Nat)(m:Md)(f:Nat->Rw3):Prop where
 t:Sl S W m.ta m.tn 1
 b:SlB S W m.ba m.bn f
 d:Sl S W m.da m.dn 1
 r:Sl S W m.ra m.rn 1
 i:Sl S W m.ia m.im 1
 e:Sl S W m.ea m.en 3
 g:∀ g o,m.ba=some (qR g o)->g≠c
theorem Rws.kept {W W':qw}{c:Nat}{f:Nat->Rw3}(h:Rws S W c m f)(k:Mkd S W W'):Rws S W' c m f:=
 ⟨h.t.shp k.shp,h.b.kept k,h.d.shp k.shp,h.r.shp k.shp,h.i.shp k.shp,h.e.shp k.shp,h.g⟩
theorem Rws.set {W:qw}{c:Nat}{f:Nat->Rw3}(h:Rws S W c m f)(i:Nat)(v:Value):Rws S (W.setCell (qR c i) v) c m f:=
 have sh:=Shp.set W c i v
 ⟨h.t.shp sh,⟨fun hn=>by obtain ⟨g,o,cs,t,ha,hs,hb,hl⟩:=h.b.head hn;exact ⟨g,o,cs,t,ha,hs,hb.other _ _ (h.g g o ha),hl⟩,fun i hi=>(h.b.rows i hi).shp sh⟩,h.d.shp sh,h.r.shp sh,h.i.shp sh,h.e.shp sh,h.g⟩
structure Mrs (S:Nat->Prop)(W:qw)(c n:Nat)(ms:List Md)(F:Nat->Nat->Rw3):Prop where
 nc:¬ S c
 head:∃ cs,Blk W c cs 138/\∀ i,i<n->Ar8 cs (i*8) (ms.getD i aK)
 rows:∀ i,i<n->Rws S W c (ms.getD i aK) (F i)
theorem Mrs.kept {W W':qw}{c:Nat}{F:Nat->Nat->Rw3}(h:Mrs S W c n ms F)(k:Mkd S W W'):Mrs S W' c n ms F:=
 ⟨h.nc,by obtain ⟨cs,hb,hc⟩:=h.head;exact ⟨cs,aF k.turn hb h.nc,hc⟩,fun i hi=>(h.rows i hi).kept k⟩
theorem Mrs.set {W:qw}{c:Nat}{F:Nat->Nat->Rw3}(h:Mrs S W c n ms F)(i j:Nat)(hj:j=0\/j=4)(v:Value):Mrs S (W.setCell (qR c (i*8+j)) v) c n ms F:=
 ⟨h.nc,by obtain ⟨cs,hb,hc⟩:=h.head;exact ⟨_,hb.set _ _,fun o ho=>aNc (hc o ho) hj⟩,fun o ho=>(h.rows o ho).set _ _⟩
theorem Mrs.at {W:qw}{c:Nat}{F:Nat->Nat->Rw3}(h:Mrs S W c n ms F)(i:Nat)(hi:i<n):(∃ u,W.cell? (qR c (i*8))=some u)/\W.cell? (qR c (i*8+1))=some (.slice (ms.getD i aK).ta (ms.getD i aK).tn (ms.getD i aK).tc)/\W.cell? (qR c (i*8+2))=some (.slice (ms.getD i aK).ba (ms.getD i aK).bn (ms.getD i aK).bc)/\W.cell? (qR c (i*8+3))=some (.slice (ms.getD i aK).da (ms.getD i aK).dn (ms.getD i aK).dc)/\(∃ u,W.cell? (qR c (i*8+4))=some u)/\W.cell? (qR c (i*8+5))=some (.slice (ms.getD i aK).ra (ms.getD i aK).rn (ms.getD i aK).rc)/\W.cell? (qR c (i*8+6))=some (.slice (ms.getD i aK).ia (ms.getD i aK).im (ms.getD i aK).ic)/\W.cell? (qR c (i*8+7))=some (.slice (ms.getD i aK).ea (ms.getD i aK).en (ms.getD i aK).ec)/\∀ j,W.frozen? (qR c j)=false:=by
 obtain ⟨cs,hb,hc⟩:=h.head;obtain ⟨⟨u,h0⟩,h1,h2,h3,⟨u4,h4⟩,h5,h6,h7⟩:=hc i hi;exact ⟨⟨u,(hb.cell _).trans h0⟩,(hb.cell _).trans h1,(hb.cell _).trans h2,(hb.cell _).trans h3,⟨u4,(hb.cell _).trans h4⟩,(hb.cell _).trans h5,(hb.cell _).trans h6,(hb.cell _).trans h7,fun j=>hb.frozen j⟩
def gI (ms:List Md)(F:Nat->Nat->Rw3)(i:Nat):Nat:=2+(ms.getD i aK).tn+bJ (F i) (ms.getD i aK).bn+(ms.getD i aK).dn+(ms.getD i aK).rn+(ms.getD i aK).im+3*(ms.getD i aK).en
theorem yL (f:Nat->Nat):∀ n i,i<n->f i+upS f i<=upS f n
 | 0,i,h=>by omega
 | n+1,i,h=>by
   show _<=upS f n+f n;by_cases e:i=n
   .subst e;omega
   .have:=yL f n i (by omega);omega
theorem sQ (S:Nat->Prop)(c n cap k:Nat)(ms:List Md)(F:Nat->Nat->Rw3)(w:qw)(h:Mrs S w c n ms F)(hz:k+upS (gI ms F) n<=4194304)(hb:∀ i,i<n->(ms.getD i aK).bn<=1048576)(hy:∀ i,i<n->gI ms F i<=4194304/\(ms.getD i aK).tn<=1048576/\(ms.getD i aK).dn<=1048576/\(ms.getD i aK).rn<=1048576/\(ms.getD i aK).im<=1048576/\(ms.getD i aK).en<=1048576/\bJ (F i) (ms.getD i aK).bn<=1048576)(hn:n<=1048576):
 qC 48 #[qS (qP c) n cap,qI k] w fun e w'=>e=.returned (qI ((k+upS (gI ms F) n:Nat):Int))/\Mkd (fun j=>S j\/j=c) w w':=by
 have HH:=zh h;clear h;go_enter func48,ntmps48
 go_wp2;go_loopw [1,5] (fun x i wr=>∃ m:Nat,m<=n/\i=qI m/\x=qI ((k+upS (gI ms F) m:Nat):Int)/\Mrs S wr c n ms F/\Mkd (fun j=>S j\/j=c) w wr) (fun _ i _=>n-(intOf i).toNat)
 .exact ⟨0,xC _,rfl,rfl,HH.o,Mkd.refl _ _⟩
 .obtain ⟨m,hm,rfl,rfl,R,M⟩:=hrel;by_cases hlt:m<n
  .have hlt':(m:Int)<(n:Int):=by omega
   obtain ⟨y0,y1,y2,y3,y4,y5,y6⟩:=hy m hlt;have y7:=hb m hlt;have hle:=yL (gI ms F) n m hlt;have HSU:Zh (upS (gI ms F) (m+1)=upS (gI ms F) m+gI ms F m):=rfl;have HC:Zh (gI ms F m=2+(ms.getD m aK).tn+bJ (F m) (ms.getD m aK).bn+(ms.getD m aK).dn+(ms.getD m aK).rn+(ms.getD m aK).im+3*(ms.getD m aK).en):=rfl;have hC:=HC.o;have HM1:=zh (fun (W:qw) (K:Nat) (hK:K<=4194304) (r:Mrs S W c n ms F)=>jX S _ _ (ms.getD m aK).tc K W (r.rows m hlt).t y1 (by omega));have HM2:=zh (fun (W:qw) (K:Nat) (hK:K<=4194304) (r:Mrs S W c n ms F)=>aAk S _ _ (ms.getD m aK).bc K (F m) W (r.rows m hlt).b y7 y6 hK);have HM3:=zh (fun (W:qw) (K:Nat) (hK:K<=4194304) (r:Mrs S W c n ms F)=>aAl S _ _ (ms.getD m aK).dc K W (r.rows m hlt).d y2 (by omega));have HM5:=zh (fun (W:qw) (K:Nat) (hK:K<=4194304) (r:Mrs S W c n ms F)=>jX S _ _ (ms.getD m aK).rc K W (r.rows m hlt).r y3 (by omega));have HM6:=zh (fun (W:qw) (K:Nat) (hK:K<=4194304) (r:Mrs S W c n ms F)=>sN S _ _ (ms.getD m aK).ic K W (r.rows m hlt).i y4 (by omega));have HM7:=zh (fun (W:qw) (K:Nat) (hK:K<=4194304) (r:Mrs S W c n ms F)=>sR S _ _ (ms.getD m aK).ec K W (r.rows m hlt).e y5 hK);have HAT:=zh (fun (W:qw) (r:Mrs S W c n ms F)=>r.at m hlt);clear HC;generalize upS (gI ms F) m=sm at *;generalize bJ (F m) (ms.getD m aK).bn=sb at *;generalize gI ms F m=cm at *;generalize ms.getD m aK=q at *;obtain ⟨nm,ta,tn,tc,tz,ba,bn,bc,bl,da,dn,dc,dz,bss,ra,rn,rc,rz,ia,im,ic,ss,ea,en,ec,es⟩:=q;dsimp only at *;have HR:=zh R;clear R;have HM:=zh M;clear M;go_wp2_with fail
   refine (jA (k+sm) wr (by omega)).mono ?_;rintro e w1 ⟨s,rfl,hs,hb1⟩;have R1:=HR.o.kept (Mkd.bw hb1);have M1:=HM.o.trans (Mkd.bw hb1);clear HR HM hb1;obtain ⟨⟨u0,p0⟩,p1,p2,p3,⟨u4,p4⟩,p5,p6,p7,pf⟩:=HAT.o _ R1;have f0:=pf (m*8);have R2:=R1.set m 0 (.inl rfl) (.string s);simp only [Nat.add_zero] at R2;have M2:=M1.set c (m*8) (.string s) (.inr rfl);clear R1 M1 p1 p2 p3 p4 p5 p6 p7 pf;obtain ⟨_,q1,_⟩:=HAT.o _ R2;go_wp2_with fail
   refine (HM1.o _ (k+sm+1) (by omega) R2).mono ?_;rintro e w2 ⟨rfl,N⟩;have R3:=R2.kept N;have M3:=M2.trans (N.mono (fun j hj=>.inl hj));clear R2 M2 N q1 p0 f0;obtain ⟨_,_,q2,_⟩:=HAT.o _ R3;go_wp2_with fail
   refine (HM2.o _ (k+sm+1+tn) (by omega) R3).mono ?_;rintro e w3 ⟨rfl,N⟩;have R4:=R3.kept N;have M4:=M3.trans (N.mono (fun j hj=>.inl hj));clear R3 M3 N q2;obtain ⟨_,_,_,q3,_⟩:=HAT.o _ R4;go_wp2_with fail
   refine (HM3.o _ (k+sm+1+tn+sb) (by omega) R4).mono ?_;rintro e w4 ⟨rfl,N⟩;have R5:=R4.kept N;have M5:=M4.trans (N.mono (fun j hj=>.inl hj));clear R4 M4 N q3;obtain ⟨_,_,_,_,⟨u4,q4⟩,_,_,_,qf⟩:=HAT.o _ R5;have f4:=qf (m*8+4);have R6:=R5.set m 4 (.inr rfl) (qI ((k+sm+1+tn+sb+dn:Nat):Int));have M6:=M5.set c (m*8+4) (qI ((k+sm+1+tn+sb+dn:Nat):Int)) (.inr rfl);clear R5 M5 qf;obtain ⟨_,_,_,_,_,q5,_⟩:=HAT.o _ R6;go_wp2_with fail
   refine (HM5.o _ (k+sm+1+tn+sb+dn+1) (by omega) R6).mono ?_;rintro e w5 ⟨rfl,N⟩;have R7:=R6.kept N;have M7:=M6.trans (N.mono (fun j hj=>.inl hj));clear R6 M6 N q5 q4 f4;obtain ⟨_,_,_,_,_,_,q6,_⟩:=HAT.o _ R7;go_wp2_with fail
   refine (HM6.o _ (k+sm+1+tn+sb+dn+1+rn) (by omega) R7).mono ?_;rintro e w6 ⟨rfl,N⟩;have R8:=R7.kept N;have M8:=M7.trans (N.mono (fun j hj=>.inl hj));clear R7 M7 N q6;obtain ⟨_,_,_,_,_,_,_,q7,_⟩:=HAT.o _ R8;go_wp2_with fail
   refine (HM7.o _ (k+sm+1+tn+sb+dn+1+rn+im) (by omega) R8).mono ?_;rintro e w7 ⟨rfl,N⟩;have R9:=zh (R8.kept N);have M9:=zh (M8.trans (N.mono (fun j hj=>.inl hj)));clear R8 M8 N q7;go_wp2
   go_roundw
   .exact ⟨m+1,by omega,by go_num,by rw [HSU.o];go_num,R9.o,M9.o⟩
   .simp [intOf];omega
  .have e:Zh (m=n):=by show m=n;omega
   have HX:=zh M;clear R M;go_wp2;go_ret;exact ⟨aH (by rw [e.o]),HX.o⟩
structure LayB (L:Lay):Prop where
 r:LayR L
 p:L.places.length<=4/\∀ x∈L.places,x.banks.length<=4
 s:L.slots.length<=4
 t:L.targets.length<=4/\∀ x∈L.targets,x.length<=16
theorem aHw:LayB L0:=⟨⟨by simp [L0],by simp [L0],by simp [L0]⟩,by simp [L0],by simp [L0],by simp [L0]⟩
theorem fY (h:lkc ps s w k d=0):cfo s w k d=true/\1<=ps.length/\ps.length<=4/\fO ps/\jQ ps:=by
 unfold lkc at h;split at h
 .rename_i h1;exact absurd h h1
 rename_i h1;split at h
 .exact absurd h (by decide)
 rename_i h2;simp at h1;unfold dS at h1;split at h1
 .exact absurd h1 (by decide)
 rename_i h3;split at h1
 .exact absurd h1 (by decide)
 rename_i h4;split at h1
 .exact absurd h1 (by decide)
 rename_i h5;exact ⟨by simpa using h3,by omega,by omega,xZ.1 h5,xZ.1 h2⟩
theorem aKb (h:lkc ps s w k d=0):LayB (lay ps s w k):=by
 obtain ⟨hc,h1,h2,hv,_⟩:=fY h;unfold cfo at hc;simp at hc;obtain ⟨c1,c2,c3,c4,c5,c6,_⟩:=hc;have hmem:∀ i,i<ps.length->fA (ps.getD i zP)=0:=hv;refine ⟨⟨fun x hx z hz=>?_,fun z hz=>?_,?_,?_,fun x hx=>?_⟩,⟨?_,fun x hx=>?_⟩,?_,⟨?_,fun x hx=>?_⟩⟩
 .simp only [lay,List.mem_map,List.mem_range] at hx;obtain ⟨i,hi,rfl⟩:=hx;simp only [plc,List.mem_map,List.mem_range] at hz;obtain ⟨q,hq,rfl⟩:=hz;have a1:=cL hv i (by omega);have a2:=cC (hmem i hi) q (by omega);have a3:=bZ (hmem i hi);have a4:=aR (x:=4*((ps.getD i zP).tz.length:Int));have a5:tsz (ps.getD i zP)=rnd (4*((ps.getD i zP).tz.length:Int)):=rfl;rw [a5];unfold wfi;omega
 .simp only [lay,List.mem_map,List.mem_range] at hz;obtain ⟨i,hi,rfl⟩:=hz;have a1:=bO hv ps.length aN;have a4:=aR (x:=4*w);have a5:(0:Int)<=(i:Int)*rnd (4*w):=Int.mul_nonneg (by omega) (by omega);have a6:(i:Int)*rnd (4*w)<=4*287:=Int.mul_le_mul (by omega) (by omega) (by omega) (by omega);unfold slt wfi;omega
 .simp [lay];omega
 .simp [lay];omega
 .simp only [lay,List.mem_map,List.mem_range] at hx;obtain ⟨i,hi,rfl⟩:=hx;have a3:=bZ (hmem i hi);simp only [tgs,xH,List.length_range];omega
 .simp [lay];omega
 .simp only [lay,List.mem_map,List.mem_range] at hx;obtain ⟨i,hi,rfl⟩:=hx;have a3:=bZ (hmem i hi);simp only [plc,xH,List.length_range];omega
 .simp [lay];omega
 .simp [lay];omega
 .simp only [lay,List.mem_map,List.mem_range] at hx;obtain ⟨i,hi,rfl⟩:=hx;have a3:=bZ (hmem i hi);simp only [tgs,xH,List.length_range];omega
theorem qQ (ps:List PMod)(s w k d:Int):LayB (lkL ps s w k d):=by
 unfold lkL;by_cases h:lkc ps s w k d=0
 .rw [if_pos h];exact aKb h
 .rw [if_neg h];exact aHw
def TgS (w:qw)(a:qO)(n cap:Nat)(zs:List Tg):Prop:=
 zs.length=n/\n<=maxLen/\(n≠0->∃ b off,a=some (qR b off)/\∀ i,i<n->w.cell? (qR b (off+i*3))=some (qI (zs.getD i zT).1)/\w.cell? (qR b (off+i*3+1))=some (qI (zs.getD i zT).2.1)/\w.cell? (qR b (off+i*3+2))=some (qI (zs.getD i zT).2.2))/\n<=cap
theorem aB {w w':qw}(hb:qY w w'){b:Nat}(h:w.cell? (qR b o)=some v):w'.cell? (qR b o)=some v:=(hb.cell (xD w _ h)).trans h
theorem TgS.bw {w w':qw}(h:TgS w a n cap zs)(hb:qY w w'):TgS w' a n cap zs:=by
 obtain ⟨h1,h2,h3,h4⟩:=h;refine ⟨h1,h2,fun hn=>?_,h4⟩;obtain ⟨b,off,e,hc⟩:=h3 hn;exact ⟨b,off,e,fun i hi=>⟨aB hb (hc i hi).1,aB hb (hc i hi).2.1,aB hb (hc i hi).2.2⟩⟩
theorem TgS.at {w:qw}(h:TgS w a n cap zs)(i:Nat)(hi:i<n):∃ b off,a=some (qR b off)/\w.cell? (qR b (off+i*3))=some (qI (zs.getD i zT).1)/\w.cell? (qR b (off+i*3+1))=some (qI (zs.getD i zT).2.1)/\w.cell? (qR b (off+i*3+2))=some (qI (zs.getD i zT).2.2):=by
 obtain ⟨b,off,e,hc⟩:=h.2.2.1 (by omega);exact ⟨b,off,e,hc i hi⟩
def TsS (w:qw)(a:qO)(n cap:Nat)(ts:List TB):Prop:=
 ts.length=n/\n<=maxLen/\(n≠0->∃ b off,a=some (qR b off)/\∀ i,i<n->w.cell? (qR b (off+i))=some (svT (ts.getD i zTB)))/\(∀ i,i<n->TgS w (ts.getD i zTB).2.1 (ts.getD i zTB).1.length (ts.getD i zTB).2.2 (ts.getD i zTB).1)/\n<=cap
theorem TsS.bw {w w':qw}(h:TsS w a n cap ts)(hb:qY w w'):TsS w' a n cap ts:=by
 obtain ⟨h1,h2,h3,h4,h5⟩:=h;refine ⟨h1,h2,fun hn=>?_,fun i hi=>(h4 i hi).bw hb,h5⟩;obtain ⟨b,off,e,hc⟩:=h3 hn;exact ⟨b,off,e,fun i hi=>aB hb (hc i hi)⟩
theorem TsS.at {w:qw}(h:TsS w a n cap ts)(i:Nat)(hi:i<n):∃ b off,a=some (qR b off)/\w.cell? (qR b (off+i))=some (svT (ts.getD i zTB)):=by
 obtain ⟨b,off,e,hc⟩:=h.2.2.1 (by omega);exact ⟨b,off,e,hc i hi⟩
def PlS (w:qw)(a:qO)(n cap:Nat)(xs:List PB):Prop:=
 xs.length=n/\n<=maxLen/\(n≠0->∃ b off,a=some (qR b off)/\∀ i,i<n->w.cell? (qR b (off+i*4))=some (qI (xs.getD i zPB).1.text)/\w.cell? (qR b (off+i*4+1))=some (svP (xs.getD i zPB))/\w.cell? (qR b (off+i*4+2))=some (qI (xs.getD i zPB).1.data)/\w.cell? (qR b (off+i*4+3))=some (qI (xs.getD i zPB).1.size))/\(∀ i,i<n->IS w (xs.getD i zPB).2.1 (xs.getD i zPB).1.banks.length (xs.getD i zPB).2.2 (xs.getD i zPB).1.banks)/\n<=cap
theorem PlS.bw {w w':qw}(h:PlS w a n cap xs)(hb:qY w w'):PlS w' a n cap xs:=by
 obtain ⟨h1,h2,h3,h4,h5⟩:=h;refine ⟨h1,h2,fun hn=>?_,fun i hi=>(h4 i hi).bw hb,h5⟩;obtain ⟨b,off,e,hc⟩:=h3 hn;exact ⟨b,off,e,fun i hi=>⟨aB hb (hc i hi).1,aB hb (hc i hi).2.1,aB hb (hc i hi).2.2.1,aB hb (hc i hi).2.2.2⟩⟩
theorem PlS.at {w:qw}(h:PlS w a n cap xs)(i:Nat)(hi:i<n):∃ b off,a=some (qR b off)/\w.cell? (qR b (off+i*4))=some (qI (xs.getD i zPB).1.text)/\w.cell? (qR b (off+i*4+1))=some (svP (xs.getD i zPB))/\w.cell? (qR b (off+i*4+2))=some (qI (xs.getD i zPB).1.data)/\w.cell? (qR b (off+i*4+3))=some (qI (xs.getD i zPB).1.size):=by
 obtain ⟨b,off,e,hc⟩:=h.2.2.1 (by omega);exact ⟨b,off,e,hc i hi⟩
structure LyT (w:qw)(L:Lay)(a0:qO)(c0:Nat)(xs:List PB)(a2:qO)(c2:Nat)(a5:qO)(c5:Nat)(ts:List TB):Prop where
 p:PlS w a0 xs.length c0 xs
 ps:xs.map (fun x=>x.1)=L.places
 s:IS w a2 L.slots.length c2 L.slots
 t:TsS w a5 ts.length c5 ts
 tt:ts.map (fun x=>x.1)=L.targets
 v:wfi L.stack/\wfi L.flash/\wfi L.ram
theorem LyT.bw {w w':qw}{L:Lay}{a2:qO}{c2:Nat}(h:LyT w L a0 c0 xs a2 c2 a5 c5 ts)(hb:qY w w'):LyT w' L a0 c0 xs a2 c2 a5 c5 ts:=⟨h.p.bw hb,h.ps,h.s.bw hb,h.t.bw hb,h.tt,h.v⟩
theorem dC {α:Type}(z:α)(xs ys:List α)(k:Nat)(h:xs.take k=ys.take k)(hx:k<xs.length)(hy:k<ys.length)(he:xs.getD k z=ys.getD k z):xs.take (k+1)=ys.take (k+1):=by
 rw [List.take_succ_eq_append_getElem hx,List.take_succ_eq_append_getElem hy,h];simp [xB,hx,hy] at he;rw [he]
theorem kI (a a':qO)(n cap n' cap':Nat)(xs ys:qi)(w:qw)(h:IS w a n cap xs)(h':IS w a' n' cap' ys):
 qC 208 #[qS a n cap,qS a' n' cap'] w (qB w (.bool (decide (xs=ys)))):=by
 obtain ⟨hl,hmx,hr,hc,_⟩:=h;obtain ⟨hl',hmx',hr',hc',_⟩:=h';unfold maxLen at hmx hmx';by_cases hn:n=n'
 .subst hn;have hne:((n:Int) !=(n:Int))=false:=by simp
  by_cases hn0:n=0
  .subst hn0;obtain rfl:xs=[]:=xE hl;obtain rfl:ys=[]:=xE hl';clear hc hc';go_enter func208,ntmps208
   go_wp2;go_loop [5] (fun i=>i=qI 0) (fun _=>0)
   .rfl
   .obtain rfl:=hrel;go_wp2;go_ret;exact ⟨rfl,brf⟩
  .obtain ⟨b,off,rfl,hd⟩:=hc hn0;obtain ⟨b',off',rfl,hd'⟩:=hc' hn0;clear hc hc';go_enter func208,ntmps208
   go_wp2;go_loopw [5] (fun i wr=>∃ k:Nat,k<=n/\i=qI k/\xs.take k=ys.take k/\qY w wr) (qf n)
   .exact ⟨0,xC _,rfl,by simp,brf⟩
   .obtain ⟨k,hk,rfl,hT,hB⟩:=hrel;by_cases hlt:k<n
    .have hlt':(k:Int)<(n:Int):=by omega
     have hck:wr.cell? (qR b (off+k))=some (qI (xs.getD k 0)):=(hB.cell (xD w _ (hd k hlt))).trans (hd k hlt);have hck':wr.cell? (qR b' (off'+k))=some (qI (ys.getD k 0)):=(hB.cell (xD w _ (hd' k hlt))).trans (hd' k hlt);by_cases he:xs.getD k 0=ys.getD k 0
     .have hS:=gV xs ys k hT (by omega) (by omega) he;have HS:Zh (xs.take (k+1)=ys.take (k+1)):=hS;rw [he] at hck;clear hS hT hd hd' he;generalize ys.getD k 0=z at *;have hz:(z !=z)=false:=by simp
      go_wp2
      go_quiet (fail)
      go_wp2
      go_roundw
      .exact ⟨k+1,by omega,by go_num,HS.o,below_drewN hB _⟩
      .simp [qf,intOf];omega
     .have hf:Zh (decide (xs=ys)=false):=by
       show _=_;simp;intro e;exact he (by rw [e])
      have hz:(xs.getD k 0 !=ys.getD k 0)=true:=by simpa using he
      clear hT hd hd' he;generalize ys.getD k 0=z at *;generalize xs.getD k 0=z' at *;go_wp2
      go_quiet (fail)
      go_wp2;go_ret;exact ⟨aA hf.o.symm,below_drewN hB _⟩
    .have hf:Zh (decide (xs=ys)=true):=by
      show _=_;simp;rw [xG (by omega),xG (by omega)] at hT;exact hT
     clear hT hd hd';go_wp2;go_ret;exact ⟨aA hf.o.symm,hB⟩
 .have hf:Zh (decide (xs=ys)=false):=by
   show _=_;simp;intro e;rw [e] at hl;omega
  have hne:((n:Int) !=(n':Int))=true:=by simp;omega
  clear hc hc';go_enter func208,ntmps208
  go_wp2;go_ret;exact ⟨aA hf.o.symm,brf⟩
theorem mO (a a':qO)(n cap n' cap':Nat)(xs ys:qi)(w:qw)(h:IS w a n cap xs)(h':IS w a' n' cap' ys):
 qC 247 #[qS a n cap,qS a' n' cap'] w (qB w (.bool (decide (xs=ys)))):=by
 obtain ⟨hl,hmx,hr,hc,_⟩:=h;obtain ⟨hl',hmx',hr',hc',_⟩:=h';unfold maxLen at hmx hmx';by_cases hn:n=n'
 .subst hn;have hne:((n:Int) !=(n:Int))=false:=by simp
  by_cases hn0:n=0
  .subst hn0;obtain rfl:xs=[]:=xE hl;obtain rfl:ys=[]:=xE hl';clear hc hc';go_enter func247,ntmps247
   go_wp2;go_loop [13] (fun i=>i=qI 0) (fun _=>0)
   .rfl
   .obtain rfl:=hrel;go_wp2;go_ret;exact ⟨rfl,brf⟩
  .obtain ⟨b,off,rfl,hd⟩:=hc hn0;obtain ⟨b',off',rfl,hd'⟩:=hc' hn0;clear hc hc';go_enter func247,ntmps247
   go_wp2;go_loopw [13] (fun i wr=>∃ k:Nat,k<=n/\i=qI k/\xs.take k=ys.take k/\qY w wr) (qf n)
   .exact ⟨0,xC _,rfl,by simp,brf⟩
   .obtain ⟨k,hk,rfl,hT,hB⟩:=hrel;by_cases hlt:k<n
    .have hlt':(k:Int)<(n:Int):=by omega
     have hck:wr.cell? (qR b (off+k))=some (qI (xs.getD k 0)):=(hB.cell (xD w _ (hd k hlt))).trans (hd k hlt);have hck':wr.cell? (qR b' (off'+k))=some (qI (ys.getD k 0)):=(hB.cell (xD w _ (hd' k hlt))).trans (hd' k hlt);by_cases he:xs.getD k 0=ys.getD k 0
     .have hS:=gV xs ys k hT (by omega) (by omega) he;have HS:Zh (xs.take (k+1)=ys.take (k+1)):=hS;rw [he] at hck;clear hS hT hd hd' he;generalize ys.getD k 0=z at *;have hz:(z !=z)=false:=by simp
      go_wp2
      go_quiet (fail)
      go_wp2
      go_roundw
      .exact ⟨k+1,by omega,by go_num,HS.o,below_drewN hB _⟩
      .simp [qf,intOf];omega
     .have hf:Zh (decide (xs=ys)=false):=by
       show _=_;simp;intro e;exact he (by rw [e])
      have hz:(xs.getD k 0 !=ys.getD k 0)=true:=by simpa using he
      clear hT hd hd' he;generalize ys.getD k 0=z at *;generalize xs.getD k 0=z' at *;go_wp2
      go_quiet (fail)
      go_wp2;go_ret;exact ⟨aA hf.o.symm,below_drewN hB _⟩
    .have hf:Zh (decide (xs=ys)=true):=by
      show _=_;simp;rw [xG (by omega),xG (by omega)] at hT;exact hT
     clear hT hd hd';go_wp2;go_ret;exact ⟨aA hf.o.symm,hB⟩
 .have hf:Zh (decide (xs=ys)=false):=by
   show _=_;simp;intro e;rw [e] at hl;omega
  have hne:((n:Int) !=(n':Int))=true:=by simp;omega
  clear hc hc';go_enter func247,ntmps247
  go_wp2;go_ret;exact ⟨aA hf.o.symm,brf⟩
def cZ (L:Lay):Int:=if L.slots=[] then wrap64 (65536+L.ram) else L.slots.getD 0 0
theorem tE (L:Lay)(a0:qO)(c0:Nat)(xs:List PB)(a2:qO)(c2:Nat)(a5:qO)(c5:Nat)(ts:List TB)(w:qw)(h:LyT w L a0 c0 xs a2 c2 a5 c5 ts):
 qC 60 #[.agg (qL L a0 xs.length c0 a2 L.slots.length c2 a5 ts.length c5)] w (qB w (qI (cZ L))):=by
 have HB:Zh (qY w (w.alloc (.cells (qL L a0 xs.length c0 a2 L.slots.length c2 a5 ts.length c5) 71))):=brf.alloc aN _;have hs:=h.s.bw HB.o;have hmx:=h.s.2.1;unfold maxLen at hmx;unfold cZ;by_cases c:L.slots=[]
 .rw [if_pos c];have hl:L.slots.length=0:=by rw [c];rfl
  rw [hl];rw [hl] at HB;go_enter func60,ntmps60
  go_wp2;go_ret;exact ⟨rfl,HB.o⟩
 .rw [if_neg c];have hl:0<L.slots.length:=List.length_pos_iff.2 c;have hl':(0:Int)<(L.slots.length:Int):=by omega
  obtain ⟨b,off,rfl,hc⟩:=hs.2.2.2.1 (by omega);have q:=hc 0 hl;rw [Nat.add_zero] at q;generalize L.slots.length=n at *;generalize L.slots.getD 0 0=z at *;clear hs hc c;go_enter func60,ntmps60
  go_wp2;go_ret;exact ⟨rfl,HB.o⟩
