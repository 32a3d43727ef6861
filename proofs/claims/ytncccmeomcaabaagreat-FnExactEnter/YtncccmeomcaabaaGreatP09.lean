import Derived.Test.YtncccmeomcaabaaGreatP06
set_option maxHeartbeats 4000000
namespace Go.Proofs.YtncccmeomcaabaaGreat
open Go.RowKit Classical
open Go.Proofs.Tryz
set_option linter.all false
set_option maxRecDepth 100000
variable {a:qO}{b base cap g n o:Nat}{rs:List Rg}{ts:List TB}{v:Value}{xs:List PB}{zs:List Tg}
def TgS (w:qw)(a:qO)(n cap:Nat)(zs:List Tg):Prop:=
 zs.length=n/\n<=maxLen/\(n≠0->∃ b off,a=some (qR b off)/\∀ i,i<n->w.cell? (qR b (off+i*3))=some (qI (zs.getD i zT).1)/\w.cell? (qR b (off+i*3+1))=some (qI (zs.getD i zT).2.1)/\w.cell? (qR b (off+i*3+2))=some (qI (zs.getD i zT).2.2))/\n<=cap
theorem aB {w w':qw}(hb:qY w w')(h:w.cell? (qR b o)=some v):w'.cell? (qR b o)=some v:=(hb.cell (xD w _ h)).trans h
theorem TgS.bw {w w':qw}(h:TgS w a n cap zs)(hb:qY w w'):TgS w' a n cap zs:=by
 obtain ⟨h1,h2,h3,h4⟩:=h;refine ⟨h1,h2,fun hn=>?_,h4⟩;obtain ⟨b,off,e,hc⟩:=h3 hn;exact ⟨b,off,e,fun i hi=>⟨aB hb (hc i hi).1,aB hb (hc i hi).2.1,aB hb (hc i hi).2.2⟩⟩
theorem TgS.at {w:qw}(h:TgS w a n cap zs)(i:Nat)(hi:i<n):∃ b off,a=some (qR b off)/\w.cell? (qR b (off+i*3))=some (qI (zs.getD i zT).1)/\w.cell? (qR b (off+i*3+1))=some (qI (zs.getD i zT).2.1)/\w.cell? (qR b (off+i*3+2))=some (qI (zs.getD i zT).2.2):=by
 obtain ⟨b,off,e,hc⟩:=h.2.2.1 (by omega);exact ⟨b,off,e,hc i hi⟩
def TsS (w:qw)(a:qO)(n cap:Nat)(ts:List TB):Prop:=
 ts.length=n/\n<=maxLen/\(n≠0->∃ b off,a=some (qR b off)/\∀ i,i<n->w.cell? (qR b (off+i))=some (svT (ts.getD i zTB)))/\(∀ i,i<n->TgS w (ts.getD i zTB).2.1 (ts.getD i zTB).1.length (ts.getD i zTB).2.2 (ts.getD i zTB).1)/\n<=cap
theorem TsS.bw {w w':qw}(h:TsS w a n cap ts)(hb:qY w w'):TsS w' a n cap ts:=by
 obtain ⟨h1,h2,h3,h4,h5⟩:=h;refine ⟨h1,h2,fun hn=>?_,fun i hi=>(h4 i hi).bw hb,h5⟩;obtain ⟨b,off,e,hc⟩:=h3 hn;exact ⟨b,off,e,fun i hi=>aB hb (hc i hi)⟩
theorem TsS.at {w:qw}(h:TsS w a n cap ts)(i:Nat)(hi:i<n):∃ b off,a=some (qR b off)/\w.cell? (qR b (off+i))=some (svT (ts.getD i zTB)):=by
 obtain ⟨b,off,e,hc⟩:=h.2.2.1 (by omega);exact ⟨b,off,e,hc i hi⟩
def PlS (w:qw)(a:qO)(n cap:Nat)(xs:List PB):Prop:=
 xs.length=n/\n<=maxLen/\(n≠0->∃ b off,a=some (qR b off)/\∀ i,i<n->w.cell? (qR b (off+i*4))=some (qI (xs.getD i zPB).1.text)/\w.cell? (qR b (off+i*4+1))=some (svP (xs.getD i zPB))/\w.cell? (qR b (off+i*4+2))=some (qI (xs.getD i zPB).1.data)/\w.cell? (qR b (off+i*4+3))=some (qI (xs.getD i zPB).1.size))/\(∀ i,i<n->IS w (xs.getD i zPB).2.1 (xs.getD i zPB).1.banks.length (xs.getD i zPB).2.2 (xs.getD i zPB).1.banks)/\n<=cap
theorem PlS.bw {w w':qw}(h:PlS w a n cap xs)(hb:qY w w'):PlS w' a n cap xs:=by
 obtain ⟨h1,h2,h3,h4,h5⟩:=h;refine ⟨h1,h2,fun hn=>?_,fun i hi=>(h4 i hi).bw hb,h5⟩;obtain ⟨b,off,e,hc⟩:=h3 hn;exact ⟨b,off,e,fun i hi=>⟨aB hb (hc i hi).1,aB hb (hc i hi).2.1,aB hb (hc i hi).2.2.1,aB hb (hc i hi).2.2.2⟩⟩
theorem PlS.at {w:qw}(h:PlS w a n cap xs)(i:Nat)(hi:i<n):∃ b off,a=some (qR b off)/\w.cell? (qR b (off+i*4))=some (qI (xs.getD i zPB).1.text)/\w.cell? (qR b (off+i*4+1))=some (svP (xs.getD i zPB))/\w.cell? (qR b (off+i*4+2))=some (qI (xs.getD i zPB).1.data)/\w.cell? (qR b (off+i*4+3))=some (qI (xs.getD i zPB).1.size):=by
 obtain ⟨b,off,e,hc⟩:=h.2.2.1 (by omega);exact ⟨b,off,e,hc i hi⟩
structure LyT (w:qw)(L:Lay)(a0:qO)(c0:Nat)(xs:List PB)(a2:qO)(c2:Nat)(a5:qO)(c5:Nat)(ts:List TB):Prop where
 p:PlS w a0 xs.length c0 xs
 ps:xs.map (fun x=>x.1)=L.places
 s:IS w a2 L.slots.length c2 L.slots
 t:TsS w a5 ts.length c5 ts
 tt:ts.map (fun x=>x.1)=L.targets
 v:wfi L.stack/\wfi L.flash/\wfi L.ram
theorem LyT.bw {w w':qw}{L:Lay}{a0:qO}{c0:Nat}{a2:qO}{c2:Nat}{a5:qO}{c5:Nat}(h:LyT w L a0 c0 xs a2 c2 a5 c5 ts)(hb:qY w w'):LyT w' L a0 c0 xs a2 c2 a5 c5 ts:=⟨h.p.bw hb,h.ps,h.s.bw hb,h.t.bw hb,h.tt,h.v⟩
theorem dD {α:Type}(z:α)(xs ys:List α)(k:Nat)(h:xs.take k=ys.take k)(hx:k<xs.length)(hy:k<ys.length)(he:xs.getD k z=ys.getD k z):xs.take (k+1)=ys.take (k+1):=by
 rw [List.take_succ_eq_append_getElem hx,List.take_succ_eq_append_getElem hy,h];simp [xB,hx,hy] at he;rw [he]
theorem kK (a a':qO)(n cap n' cap':Nat)(xs ys:qi)(w:qw)(h:IS w a n cap xs)(h':IS w a' n' cap' ys):
 qC 208 #[qS a n cap,qS a' n' cap'] w (qB w (.bool (decide (xs=ys)))):=by
 obtain ⟨hl,hmx,hr,hc,_⟩:=h;obtain ⟨hl',hmx',hr',hc',_⟩:=h';unfold maxLen at hmx hmx';by_cases hn:n=n'
 .subst hn;have hne:((n:Int) !=(n:Int))=false:=by simp
  by_cases hn0:n=0
  .subst hn0;obtain rfl:xs=[]:=xE hl;obtain rfl:ys=[]:=xE hl';clear hc hc';go_enter func208,ntmps208
   go_wp2;go_loop [5] (fun i=>i=qI 0) (fun _=>0)
   .rfl
   .obtain rfl:=hrel;go_wp2;go_ret;exact ⟨rfl,brf⟩
  .obtain ⟨b,off,rfl,hd⟩:=hc hn0;obtain ⟨b',off',rfl,hd'⟩:=hc' hn0;clear hc hc';go_enter func208,ntmps208
   go_wp2;go_loopw [5] (fun i wr=>∃ k:Nat,k<=n/\i=qI k/\xs.take k=ys.take k/\qY w wr) (qf n)
   .exact ⟨0,xC _,rfl,by simp,brf⟩
   .obtain ⟨k,hk,rfl,hT,hB⟩:=hrel;by_cases hlt:k<n
    .have hlt':(k:Int)<(n:Int):=by omega
     have hck:wr.cell? (qR b (off+k))=some (qI (xs.getD k 0)):=(hB.cell (xD w _ (hd k hlt))).trans (hd k hlt);have hck':wr.cell? (qR b' (off'+k))=some (qI (ys.getD k 0)):=(hB.cell (xD w _ (hd' k hlt))).trans (hd' k hlt);by_cases he:xs.getD k 0=ys.getD k 0
     .have hS:=gX xs ys k hT (by omega) (by omega) he;have HS:Zh (xs.take (k+1)=ys.take (k+1)):=hS;rw [he] at hck;clear hS hT hd hd' he;generalize ys.getD k 0=z at *;have hz:(z !=z)=false:=by simp
      go_wp2
      go_quiet (fail)
      go_wp2
      go_roundw
      .exact ⟨k+1,by omega,by go_num,HS.o,below_drewN hB _⟩
      .simp [qf,intOf];omega
     .have hf:Zh (decide (xs=ys)=false):=by
       show _=_;simp;intro e;exact he (by rw [e])
      have hz:(xs.getD k 0 !=ys.getD k 0)=true:=by simpa using he
      clear hT hd hd' he;generalize ys.getD k 0=z at *;generalize xs.getD k 0=z' at *;go_wp2
      go_quiet (fail)
      go_wp2;go_ret;exact ⟨aA hf.o.symm,below_drewN hB _⟩
    .have hf:Zh (decide (xs=ys)=true):=by
      show _=_;simp;rw [xG (by omega),xG (by omega)] at hT;exact hT
     clear hT hd hd';go_wp2;go_ret;exact ⟨aA hf.o.symm,hB⟩
 .have hf:Zh (decide (xs=ys)=false):=by
   show _=_;simp;intro e;rw [e] at hl;omega
  have hne:((n:Int) !=(n':Int))=true:=by simp;omega
  clear hc hc';go_enter func208,ntmps208
  go_wp2;go_ret;exact ⟨aA hf.o.symm,brf⟩
theorem mT (a a':qO)(n cap n' cap':Nat)(xs ys:qi)(w:qw)(h:IS w a n cap xs)(h':IS w a' n' cap' ys):
 qC 247 #[qS a n cap,qS a' n' cap'] w (qB w (.bool (decide (xs=ys)))):=by
 obtain ⟨hl,hmx,hr,hc,_⟩:=h;obtain ⟨hl',hmx',hr',hc',_⟩:=h';unfold maxLen at hmx hmx';by_cases hn:n=n'
 .subst hn;have hne:((n:Int) !=(n:Int))=false:=by simp
  by_cases hn0:n=0
  .subst hn0;obtain rfl:xs=[]:=xE hl;obtain rfl:ys=[]:=xE hl';clear hc hc';go_enter func247,ntmps247
   go_wp2;go_loop [13] (fun i=>i=qI 0) (fun _=>0)
   .rfl
   .obtain rfl:=hrel;go_wp2;go_ret;exact ⟨rfl,brf⟩
  .obtain ⟨b,off,rfl,hd⟩:=hc hn0;obtain ⟨b',off',rfl,hd'⟩:=hc' hn0;clear hc hc';go_enter func247,ntmps247
   go_wp2;go_loopw [13] (fun i wr=>∃ k:Nat,k<=n/\i=qI k/\xs.take k=ys.take k/\qY w wr) (qf n)
   .exact ⟨0,xC _,rfl,by simp,brf⟩
   .obtain ⟨k,hk,rfl,hT,hB⟩:=hrel;by_cases hlt:k<n
    .have hlt':(k:Int)<(n:Int):=by omega
     have hck:wr.cell? (qR b (off+k))=some (qI (xs.getD k 0)):=(hB.cell (xD w _ (hd k hlt))).trans (hd k hlt);have hck':wr.cell? (qR b' (off'+k))=some (qI (ys.getD k 0)):=(hB.cell (xD w _ (hd' k hlt))).trans (hd' k hlt);by_cases he:xs.getD k 0=ys.getD k 0
     .have hS:=gX xs ys k hT (by omega) (by omega) he;have HS:Zh (xs.take (k+1)=ys.take (k+1)):=hS;rw [he] at hck;clear hS hT hd hd' he;generalize ys.getD k 0=z at *;have hz:(z !=z)=false:=by simp
      go_wp2
      go_quiet (fail)
      go_wp2
      go_roundw
      .exact ⟨k+1,by omega,by go_num,HS.o,below_drewN hB _⟩
      .simp [qf,intOf];omega
     .have hf:Zh (decide (xs=ys)=false):=by
       show _=_;simp;intro e;exact he (by rw [e])
      have hz:(xs.getD k 0 !=ys.getD k 0)=true:=by simpa using he
      clear hT hd hd' he;generalize ys.getD k 0=z at *;generalize xs.getD k 0=z' at *;go_wp2
      go_quiet (fail)
      go_wp2;go_ret;exact ⟨aA hf.o.symm,below_drewN hB _⟩
    .have hf:Zh (decide (xs=ys)=true):=by
      show _=_;simp;rw [xG (by omega),xG (by omega)] at hT;exact hT
     clear hT hd hd';go_wp2;go_ret;exact ⟨aA hf.o.symm,hB⟩
 .have hf:Zh (decide (xs=ys)=false):=by
   show _=_;simp;intro e;rw [e] at hl;omega
  have hne:((n:Int) !=(n':Int))=true:=by simp;omega
  clear hc hc';go_enter func247,ntmps247
  go_wp2;go_ret;exact ⟨aA hf.o.symm,brf⟩
def dA (L:Lay):Int:=if L.slots=[] then wrap64 (65536+L.ram) else L.slots.getD 0 0
theorem tQ (L:Lay)(a0:qO)(c0:Nat)(xs:List PB)(a2:qO)(c2:Nat)(a5:qO)(c5:Nat)(ts:List TB)(w:qw)(h:LyT w L a0 c0 xs a2 c2 a5 c5 ts):
 qC 60 #[.agg (qL L a0 xs.length c0 a2 L.slots.length c2 a5 ts.length c5)] w (qB w (qI (dA L))):=by
 have HB:Zh (qY w (w.alloc (.cells (qL L a0 xs.length c0 a2 L.slots.length c2 a5 ts.length c5) 71))):=brf.alloc aN _;have hs:=h.s.bw HB.o;have hmx:=h.s.2.1;unfold maxLen at hmx;unfold dA;by_cases c:L.slots=[]
 .rw [if_pos c];have hl:L.slots.length=0:=by rw [c];rfl
  rw [hl];rw [hl] at HB;go_enter func60,ntmps60
  go_wp2;go_ret;exact ⟨rfl,HB.o⟩
 .rw [if_neg c];have hl:0<L.slots.length:=List.length_pos_iff.2 c;have hl':(0:Int)<(L.slots.length:Int):=by omega
  obtain ⟨b,off,rfl,hc⟩:=hs.2.2.2.1 (by omega);have q:=hc 0 hl;rw [Nat.add_zero] at q;generalize L.slots.length=n at *;generalize L.slots.getD 0 0=z at *;clear hs hc c;go_enter func60,ntmps60
  go_wp2;go_ret;exact ⟨rfl,HB.o⟩
def cfQ (L:Lay):Int:=wrap64 ((wrap64 (wrap64 (65536+L.ram)-L.slots.getD 0 0)).tdiv (L.slots.length:Int))
def cfW (L:Lay):Int:=if L.slots=[] then 1 else wrap64 ((cfQ L).tdiv 4)
def cfK (L:Lay):Int:=wrap64 (dA L-L.stack)
theorem aBj (L:Lay)(a0:qO)(c0:Nat)(xs:List PB)(a2:qO)(c2:Nat)(a5:qO)(c5:Nat)(ts:List TB)(w:qw)(h:LyT w L a0 c0 xs a2 c2 a5 c5 ts):
 qC 231 #[.agg (qL L a0 xs.length c0 a2 L.slots.length c2 a5 ts.length c5)] w (qB w (.agg (qW L.slots.length (cfW L) (cfK L) 0))):=by
 have hmx:=h.s.2.1;unfold maxLen at hmx;by_cases c:L.slots=[]
 .have hl:L.slots.length=0:=by rw [c];rfl
  have hW:=zh (show cfW L=1 by unfold cfW;rw [if_pos c]);have hK:=zh (show cfK L=wrap64 (wrap64 (65536+L.ram)-L.stack) by unfold cfK dA;rw [if_pos c]);rw [hW.o,hK.o,hl];go_enter func231,ntmps231
  go_wp2;refine bodyPost_ret (v:=.agg #[qI 0,qI 1,qI (wrap64 (wrap64 (65536+L.ram)-L.stack)),qI 0]) (by simp [results,results231,go_sem]) rfl ⟨rfl,?_⟩;exact (brf.alloc aN _).alloc (by simp) _
 .have hl:0<L.slots.length:=List.length_pos_iff.2 c;have hl':(0:Int)<(L.slots.length:Int):=by omega
  have he:((L.slots.length:Int)==0)=false:=by simp;omega
  have hW:=zh (show cfW L=wrap64 ((cfQ L).tdiv 4) by unfold cfW;rw [if_neg c]);have hK:=zh (show cfK L=wrap64 (L.slots.getD 0 0-L.stack) by unfold cfK dA;rw [if_neg c]);rw [hW.o,hK.o];have hQ:Zh (cfQ L=wrap64 ((wrap64 (wrap64 (65536+L.ram)-L.slots.getD 0 0)).tdiv (L.slots.length:Int))):=rfl;clear hW hK;obtain ⟨b,off,rfl,hc⟩:=h.s.2.2.2.1 (by omega);have q:=hc 0 hl;have qlt:=xD _ _ q;rw [Nat.add_zero] at q;generalize L.slots.length=n at *;generalize L.slots.getD 0 0=z at *;generalize cfQ L=Q at *;clear hc c h;have B0:qY w ((w.alloc (.cells (qL L a0 xs.length c0 (some (qR b off)) n c2 a5 ts.length c5) 71)).alloc (.cells (qW 0 0 0 0) 37)):=(brf.alloc aN _).alloc (by simp) _;have u:=(Blk.new w (qL L a0 xs.length c0 (some (qR b off)) n c2 a5 ts.length c5) 71).alloc (.cells (qW 0 0 0 0) 37);have v:=Blk.new (w.alloc (.cells (qL L a0 xs.length c0 (some (qR b off)) n c2 a5 ts.length c5) 71)) (qW 0 0 0 0) 37;try unfold qY at *
  simp only [xF] at v;have HF:=zh (fun (nq:Nat)=>xA (below_drewN B0 nq) (xA (u.bw (below_drewN brf nq)) (v.bw (below_drewN brf nq))));clear B0 u v;go_enter func231,ntmps231
  go_wp2
  go_quiet (fail)
  rw [<- hQ.o];go_wp2;obtain ⟨B1,u,v⟩:=HF.o nq;clear HF;generalize (((w.alloc (.cells (qL L a0 xs.length c0 (some (qR b off)) n c2 a5 ts.length c5) 71)).alloc (.cells (qW 0 0 0 0) 37)).drewN nq)=W at *;have q':=aB B1 q;have p1:=u.e1;have p2:=u.e2;obtain ⟨v0,v1,v2,v3⟩:=v.z4;have vf:=v.frozen;have nb:b≠w.heap.size+1:=by omega
  have nb':w.heap.size+1≠b:=by omega
  have HB1:=zh (xA B1 v);clear u v B1
  go_region_held3 (fun w'=>w'.cell? (qR w.heap.size 1)=some (qI L.stack)/\w'.cell? (qR w.heap.size 2)=some (qS (some (qR b off)) n c2)/\w'.cell? (qR b off)=some (qI z)) (go_keep) (fail)
  simp only [xP];have kz:=(((HB1.o.2.set 0 (qI n)).set 1 (qI (wrap64 (Q.tdiv 4)))).set 2 (qI (wrap64 (z-L.stack)))).set 3 (qI 0);have T:Turn (fun j=>j=w.heap.size+1) W ((((W.setCell (qR (w.heap.size+1) 0) (qI n)).setCell (qR (w.heap.size+1) 1) (qI (wrap64 (Q.tdiv 4)))).setCell (qR (w.heap.size+1) 2) (qI (wrap64 (z-L.stack)))).setCell (qR (w.heap.size+1) 3) (qI 0)):=(((aC _ _ _ _).trans (aC _ _ _ _)).trans (aC _ _ _ _)).trans (aC _ _ _ _);have HB2:=zh (aG HB1.o.1 T (fun k e=>by omega) HB1.o.1.size);simp only [yA,yB,yC] at kz;generalize ((((W.setCell (qR (w.heap.size+1) 0) (qI n)).setCell (qR (w.heap.size+1) 1) (qI (wrap64 (Q.tdiv 4)))).setCell (qR (w.heap.size+1) 2) (qI (wrap64 (z-L.stack)))).setCell (qR (w.heap.size+1) 3) (qI 0))=W2 at *;obtain ⟨s0,s1,s2,s3⟩:=kz.z4;clear T kz HB1;go_wp2;exact bodyPost_ret (v:=.agg (qW n (wrap64 (Q.tdiv 4)) (wrap64 (z-L.stack)) 0)) (by simp [results,results231,go_sem,s0,s1,s2,s3]) rfl ⟨rfl,HB2.o.drew⟩
def Lok (ps:List PMod)(L:Lay):Prop:=lkc ps (L.slots.length:Int) (cfW L) (cfK L) 0=0/\lkL ps (L.slots.length:Int) (cfW L) (cfK L) 0=L
def plE (a b:Pl):Decidable (a=b):=decidable_of_iff (a.text=b.text /\ a.banks=b.banks /\ a.data=b.data /\ a.size=b.size) (by cases a;cases b;simp)
def layE (a b:Lay):Decidable (a=b):=
 have:DecidableEq Pl:=plE
 decidable_of_iff (a.places=b.places /\ a.stack=b.stack /\ a.slots=b.slots /\ a.flash=b.flash /\ a.ram=b.ram /\ a.targets=b.targets) (by cases a;cases b;simp)
def lokD (ps:List PMod)(L:Lay):Decidable (Lok ps L):=@instDecidableAnd _ _ _ (layE _ _)
def lokB (ps:List PMod)(L:Lay):Bool:=@decide _ (lokD ps L)
theorem lokB_iff {ps:List PMod}{L:Lay}:lokB ps L=true ↔ Lok ps L:=⟨@of_decide_eq_true _ (lokD ps L),@decide_eq_true _ (lokD ps L)⟩
theorem zV (a a':qO)(n cap n' cap':Nat)(xs ys:List Tg)(w:qw)(h:TgS w a n cap xs)(h':TgS w a' n' cap' ys):
 qC 251 #[qS a n cap,qS a' n' cap'] w (qB w (.bool (decide (xs=ys)))):=by
 have hl:=h.1;have hl':=h'.1;have hmx:=h.2.1;have hmx':=h'.2.1;unfold maxLen at hmx hmx';by_cases hn:n=n'
 .subst hn;have hne:((n:Int) !=(n:Int))=false:=by simp
  go_enter func251,ntmps251
  go_wp2;go_loopw [13] (fun i wr=>∃ k:Nat,k<=n/\i=qI k/\xs.take k=ys.take k/\qY w wr) (qf n)
  .exact ⟨0,xC _,rfl,by simp,brf⟩
  .obtain ⟨k,hk,rfl,hT,hB⟩:=hrel;by_cases hlt:k<n
   .have hlt':(k:Int)<(n:Int):=by omega
    obtain ⟨b,off,rfl,q0,q1,q2⟩:=(h.bw hB).at k hlt;obtain ⟨b',off',rfl,p0,p1,p2⟩:=(h'.bw hB).at k hlt;by_cases he:xs.getD k zT=ys.getD k zT
    .have HS:Zh (xs.take (k+1)=ys.take (k+1)):=dD zT xs ys k hT (by omega) (by omega) he;rw [he] at q0 q1 q2;clear hT he;generalize ys.getD k zT=z at *;obtain ⟨z0,z1,z2⟩:=z;dsimp only at q0 q1 q2 p0 p1 p2;go_wp2
     go_quiet (fail)
     go_wp2
     go_roundw
     .exact ⟨k+1,by omega,by go_num,HS.o,below_drewN hB _⟩
     .simp [qf,intOf];omega
    .have hf:Zh (decide (xs=ys)=false):=by
      show _=_;simp;intro e;exact he (by rw [e])
     clear hT;generalize ys.getD k zT=z at *;generalize xs.getD k zT=z' at *;obtain ⟨z0,z1,z2⟩:=z;obtain ⟨x0,x1,x2⟩:=z';dsimp only at q0 q1 q2 p0 p1 p2;have hne3:¬ (x0=z0/\x1=z1/\x2=z2):=fun e=>he (by rw [e.1,e.2.1,e.2.2]);clear he;by_cases f0:x0=z0
     .by_cases f1:x1=z1
      .have f2:¬ x2=z2:=fun e=>hne3 ⟨f0,f1,e⟩;subst f0 f1;have f2':(x2==z2)=false:=by simpa using f2
       go_wp2
       go_quiet (fail)
       go_wp2;go_ret;exact ⟨aA hf.o.symm,below_drewN hB _⟩
      .subst f0;have f1':(x1==z1)=false:=by simpa using f1
       go_wp2
       go_quiet (fail)
       go_wp2;go_ret;exact ⟨aA hf.o.symm,below_drewN hB _⟩
     .have f0':(x0==z0)=false:=by simpa using f0
      go_wp2
      go_quiet (fail)
      go_wp2;go_ret;exact ⟨aA hf.o.symm,below_drewN hB _⟩
   .have hf:Zh (decide (xs=ys)=true):=by
     show _=_;simp;rw [xG (by omega),xG (by omega)] at hT;exact hT
    clear hT;go_wp2;go_ret;exact ⟨aA hf.o.symm,hB⟩
 .have hf:Zh (decide (xs=ys)=false):=by
   show _=_;simp;intro e;rw [e] at hl;omega
  have hne:((n:Int) !=(n':Int))=true:=by simp;omega
  go_enter func251,ntmps251
  go_wp2;go_ret;exact ⟨aA hf.o.symm,brf⟩
theorem vJ (t d z:Int)(a:qO)(n c:Nat)(bs:qi)(t' d' z':Int)(a':qO)(n' c':Nat)(bs':qi)(w:qw)(h:IS w a n c bs)(h':IS w a' n' c' bs'):
 qC 249 #[.agg #[qI t,qS a n c,qI d,qI z],.agg #[qI t',qS a' n' c',qI d',qI z']] w fun e w'=>e=.returned (.bool (decide ((⟨t,bs,d,z⟩:Pl)=⟨t',bs',d',z'⟩)))/\qY w w':=by
 have B0:qY w ((w.alloc (.cells #[qI t,qS a n c,qI d,qI z] 171)).alloc (.cells #[qI t',qS a' n' c',qI d',qI z'] 171)):=bal.alloc (by simp) _;have HB0:=zh B0;have HEQ:=zh (mT a a' n c n' c' bs bs' _ (h.bw B0) (h'.bw B0));clear B0 h h';obtain ⟨r,hr⟩:=eqx (decide ((⟨t,bs,d,z⟩:Pl)=⟨t',bs',d',z'⟩));rw [<- hr];simp only [Pl.mk.injEq] at hr;have HR:=zh hr;clear hr;by_cases c1:t=t'
 .by_cases c2:d=d'
  .by_cases c3:z=z'
   .have g1:(t==t')=true:=by simpa using c1
    have g2:(d==d')=true:=by simpa using c2
    have g3:(z==z')=true:=by simpa using c3
    have HV:=zh (show decide (bs=bs')=r by rw [HR.o];simp [c1,c2,c3]);rw [HV.o] at HEQ;clear c1 c2 c3 HR;go_enter func249,ntmps249
    go_wp2_with fail
    refine HEQ.o.mono ?_;rintro e w1 ⟨rfl,hb1⟩;cases r
    all_goals
     go_wp2;go_ret;exact ⟨rfl,HB0.o.trans (hb1.mono HB0.o.size)⟩
   .have g1:(t==t')=true:=by simpa using c1
    have g2:(d==d')=true:=by simpa using c2
    have g3:(z==z')=false:=by simpa using c3
    have HV:=zh (show r=false by rw [HR.o];simp [c3]);clear c1 c2 c3 HR HEQ;go_enter func249,ntmps249
    go_wp2;go_ret;exact ⟨aA HV.o.symm,HB0.o⟩
  .have g1:(t==t')=true:=by simpa using c1
   have g2:(d==d')=false:=by simpa using c2
   have HV:=zh (show r=false by rw [HR.o];simp [c2]);clear c1 c2 HR HEQ;go_enter func249,ntmps249
   go_wp2;go_ret;exact ⟨aA HV.o.symm,HB0.o⟩
 .have g1:(t==t')=false:=by simpa using c1
  have HV:=zh (show r=false by rw [HR.o];simp [c1]);clear c1 HR HEQ;go_enter func249,ntmps249
  go_wp2;go_ret;exact ⟨aA HV.o.symm,HB0.o⟩
theorem bD {α β:Type}(f:α->β)(xs:List α)(i:Nat)(a:α)(b:β)(h:i<xs.length:=by omega):(xs.map f).getD i b=f (xs.getD i a):=by
 simp [xB,h]
theorem uE (a a':qO)(n cap n' cap':Nat)(xs ys:List PB)(w:qw)(h:PlS w a n cap xs)(h':PlS w a' n' cap' ys):
 qC 248 #[qS a n cap,qS a' n' cap',.func (.func 249) #[] #[]] w fun e w'=>e=.returned (.bool (decide (xs.map (fun x=>x.1)=ys.map (fun x=>x.1))))/\qY w w':=by
 have hl:=h.1;have hl':=h'.1;have hmx:=h.2.1;have hmx':=h'.2.1;unfold maxLen at hmx hmx';obtain ⟨r,hr⟩:=eqx (decide (xs.map (fun x=>x.1)=ys.map (fun x=>x.1)));rw [<- hr];have HR:=zh hr;clear hr;by_cases hn:n=n'
 .subst hn;have hne:((n:Int) !=(n:Int))=false:=by simp
  go_enter func248,ntmps248
  go_wp2;go_loopw [17] (fun i wr=>∃ k:Nat,k<=n/\i=qI k/\(xs.map (fun x=>x.1)).take k=(ys.map (fun x=>x.1)).take k/\qY w wr) (qf n)
  .exact ⟨0,xC _,rfl,by simp,brf⟩
  .obtain ⟨k,hk,rfl,hT,hB⟩:=hrel;by_cases hlt:k<n
   .have hlt':(k:Int)<(n:Int):=by omega
    obtain ⟨b,off,rfl,q0,q1,q2,q3⟩:=(h.bw hB).at k hlt;obtain ⟨b',off',rfl,p0,p1,p2,p3⟩:=(h'.bw hB).at k hlt;have i1:=(h.bw hB).2.2.2.1 k hlt;have i2:=(h'.bw hB).2.2.2.1 k hlt;have HGO:Zh ((xs.getD k zPB).1=(ys.getD k zPB).1->(xs.map (fun x=>x.1)).take (k+1)=(ys.map (fun x=>x.1)).take (k+1)):=fun he=>dD zPB.1 _ _ k hT (by simp;omega) (by simp;omega) (by rw [bD _ _ _ zPB _,bD _ _ _ zPB _,he])
    have HNO:=zh (show (xs.getD k zPB).1≠(ys.getD k zPB).1->r=false from fun he=>by
     rw [HR.o,decide_eq_false_iff_not];intro e;have e2:=congrArg (fun l=>l.getD k zPB.1) e;try simp only at e2
     rw [bD _ _ _ zPB _,bD _ _ _ zPB _] at e2
     exact he e2)
    clear hT;unfold svP at q1 p1;generalize xs.getD k zPB=x at *;generalize ys.getD k zPB=y at *;obtain ⟨⟨xt,xb,xd,xz⟩,xa,xc⟩:=x;obtain ⟨⟨yt,yb,yd,yz⟩,ya,yc⟩:=y;dsimp only at q0 q1 q2 q3 p0 p1 p2 p3 i1 i2 HGO HNO;have hlb:=xD _ _ q0;have hlb':=xD _ _ p0;have HB2:qY wr ((wr.alloc (.cells #[qI xt,qS xa xb.length xc,qI xd,qI xz] 171)).alloc (.cells #[qI yt,qS ya yb.length yc,qI yd,qI yz] 171)):=bal.alloc (by simp) _;have HSP:=zh (vJ xt xd xz xa xb.length xc xb yt yd yz ya yb.length yc yb _ (i1.bw HB2) (i2.bw HB2));have HB3:=zh (hB.trans (HB2.mono hB.size));clear i1 i2 HB2 hB;by_cases he:(⟨xt,xb,xd,xz⟩:Pl)=⟨yt,yb,yd,yz⟩
    .rw [xR he] at HSP;have HG:=zh (HGO.o he);clear he HGO HNO;go_wp2_with fail
     refine HSP.o.mono ?_;rintro e w1 ⟨rfl,hb1⟩;have HB4:=zh (HB3.o.trans (hb1.mono HB3.o.size));clear q0 q1 q2 q3 p0 p1 p2 p3 hb1 HSP;go_wp2
     go_roundw
     .exact ⟨k+1,by omega,by go_num,HG.o,HB4.o⟩
     .simp [qf,intOf];omega
    .rw [xS he] at HSP;have HG:=zh (HNO.o he);clear he HGO HNO;go_wp2_with fail
     refine HSP.o.mono ?_;rintro e w1 ⟨rfl,hb1⟩;have HB4:=zh (HB3.o.trans (hb1.mono HB3.o.size));clear q0 q1 q2 q3 p0 p1 p2 p3 hb1 HSP;go_wp2;go_ret;exact ⟨aA HG.o.symm,HB4.o⟩
   .have hf:Zh (r=true):=by
     show _=_;rw [HR.o];simp;rw [xG (by simp;omega),xG (by simp;omega)] at hT;exact hT
    clear hT;go_wp2;go_ret;exact ⟨aA hf.o.symm,hB⟩
 .have hf:Zh (r=false):=by
   show _=_;rw [HR.o,decide_eq_false_iff_not];intro e;have:=congrArg List.length e;simp at this;omega
  have hne:((n:Int) !=(n':Int))=true:=by simp;omega
  go_enter func248,ntmps248
  go_wp2;go_ret;exact ⟨aA hf.o.symm,brf⟩
theorem uD (a a':qO)(n cap n' cap':Nat)(xs ys:List TB)(w:qw)(h:TsS w a n cap xs)(h':TsS w a' n' cap' ys):
 qC 250 #[qS a n cap,qS a' n' cap',.func (.func 251) #[] #[]] w fun e w'=>e=.returned (.bool (decide (xs.map (fun x=>x.1)=ys.map (fun x=>x.1))))/\qY w w':=by
 have hl:=h.1;have hl':=h'.1;have hmx:=h.2.1;have hmx':=h'.2.1;unfold maxLen at hmx hmx';obtain ⟨r,hr⟩:=eqx (decide (xs.map (fun x=>x.1)=ys.map (fun x=>x.1)));rw [<- hr];have HR:=zh hr;clear hr;by_cases hn:n=n'
 .subst hn;have hne:((n:Int) !=(n:Int))=false:=by simp
  go_enter func250,ntmps250
  go_wp2;go_loopw [17] (fun i wr=>∃ k:Nat,k<=n/\i=qI k/\(xs.map (fun x=>x.1)).take k=(ys.map (fun x=>x.1)).take k/\qY w wr) (qf n)
  .exact ⟨0,xC _,rfl,by simp,brf⟩
  .obtain ⟨k,hk,rfl,hT,hB⟩:=hrel;by_cases hlt:k<n
   .have hlt':(k:Int)<(n:Int):=by omega
    obtain ⟨b,off,rfl,q0⟩:=(h.bw hB).at k hlt;obtain ⟨b',off',rfl,p0⟩:=(h'.bw hB).at k hlt;have i1:=(h.bw hB).2.2.2.1 k hlt;have i2:=(h'.bw hB).2.2.2.1 k hlt;have HGO:Zh ((xs.getD k zTB).1=(ys.getD k zTB).1->(xs.map (fun x=>x.1)).take (k+1)=(ys.map (fun x=>x.1)).take (k+1)):=fun he=>dD zTB.1 _ _ k hT (by simp;omega) (by simp;omega) (by rw [bD _ _ _ zTB _,bD _ _ _ zTB _,he])
    have HNO:=zh (show (xs.getD k zTB).1≠(ys.getD k zTB).1->r=false from fun he=>by
     rw [HR.o,decide_eq_false_iff_not];intro e;have e2:=congrArg (fun l=>l.getD k zTB.1) e;try simp only at e2
     rw [bD _ _ _ zTB _,bD _ _ _ zTB _] at e2
     exact he e2)
    clear hT;unfold svT at q0 p0;generalize xs.getD k zTB=x at *;generalize ys.getD k zTB=y at *;obtain ⟨xl,xa,xc⟩:=x;obtain ⟨yl,ya,yc⟩:=y;dsimp only at q0 p0 i1 i2 HGO HNO;have HSP:=zh (zV xa ya xl.length xc yl.length yc xl yl _ i1 i2);have HB3:=zh hB;clear i1 i2 hB;by_cases he:xl=yl
    .rw [xR he] at HSP;have HG:=zh (HGO.o he);clear he HGO HNO;go_wp2_with fail
     refine HSP.o.mono ?_;rintro e w1 ⟨rfl,hb1⟩;have HB4:=zh (HB3.o.trans (hb1.mono HB3.o.size));clear q0 p0 hb1 HSP;go_wp2
     go_roundw
     .exact ⟨k+1,by omega,by go_num,HG.o,HB4.o⟩
     .simp [qf,intOf];omega
    .rw [xS he] at HSP;have HG:=zh (HNO.o he);clear he HGO HNO;go_wp2_with fail
     refine HSP.o.mono ?_;rintro e w1 ⟨rfl,hb1⟩;have HB4:=zh (HB3.o.trans (hb1.mono HB3.o.size));clear q0 p0 hb1 HSP;go_wp2;go_ret;exact ⟨aA HG.o.symm,HB4.o⟩
   .have hf:Zh (r=true):=by
     show _=_;rw [HR.o];simp;rw [xG (by simp;omega),xG (by simp;omega)] at hT;exact hT
    clear hT;go_wp2;go_ret;exact ⟨aA hf.o.symm,hB⟩
 .have hf:Zh (r=false):=by
   show _=_;rw [HR.o,decide_eq_false_iff_not];intro e;have:=congrArg List.length e;simp at this;omega
  have hne:((n:Int) !=(n':Int))=true:=by simp;omega
  go_enter func250,ntmps250
  go_wp2;go_ret;exact ⟨aA hf.o.symm,brf⟩
theorem Blk.ly6 {w:qw}{t:TypeId}{v0 v1 v2 v3 v4 v5:Value}(h:Blk w b #[v0,v1,v2,v3,v4,v5] t):w.cell? (qR b 0)=some v0/\w.cell? (qR b 1)=some v1/\w.cell? (qR b 2)=some v2/\w.cell? (qR b 3)=some v3/\w.cell? (qR b 4)=some v4/\w.cell? (qR b 5)=some v5:=⟨h.cell 0,h.cell 1,h.cell 2,h.cell 3,h.cell 4,h.cell 5⟩
theorem rY (L:Lay)(a0:qO)(c0:Nat)(xs:List PB)(a2:qO)(c2:Nat)(a5:qO)(c5:Nat)(ts:List TB)(L':Lay)(a0':qO)(c0':Nat)(xs':List PB)(a2':qO)(c2':Nat)(a5':qO)(c5':Nat)(ts':List TB)(w:qw)(h:LyT w L a0 c0 xs a2 c2 a5 c5 ts)(h':LyT w L' a0' c0' xs' a2' c2' a5' c5' ts'):
 qC 232 #[.agg (qJ L a0 xs c0 a2 c2 a5 ts c5),.agg (qL L' a0' xs'.length c0' a2' L'.slots.length c2' a5' ts'.length c5')] w (qB w (.bool (decide (L=L')))):=by
 have hps:=h.ps;have hps':=h'.ps;have htt:=h.tt;have htt':=h'.tt;have HE1:=zh (fun (W:qw) (hb:qY w W)=>mT a2 a2' L.slots.length c2 L'.slots.length c2' L.slots L'.slots W (h.s.bw hb) (h'.s.bw hb));have HE2:=zh (fun (W:qw) (hb:qY w W)=>uE a0 a0' xs.length c0 xs'.length c0' xs xs' W (h.p.bw hb) (h'.p.bw hb));have HE3:=zh (fun (W:qw) (hb:qY w W)=>uD a5 a5' ts.length c5 ts'.length c5' ts ts' W (h.t.bw hb) (h'.t.bw hb));rw [hps,hps'] at HE2;rw [htt,htt'] at HE3;clear h h' hps hps' htt htt';obtain ⟨pl,st,sl,fl,rm,tg⟩:=L;obtain ⟨pl',st',sl',fl',rm',tg'⟩:=L';dsimp only at HE1 HE2 HE3 ⊢;obtain ⟨r,hr⟩:=eqx (decide ((⟨pl,st,sl,fl,rm,tg⟩:Lay)=⟨pl',st',sl',fl',rm',tg'⟩));rw [<- hr];simp only [Lay.mk.injEq] at hr;have HR:=zh hr;clear hr;have B0:qY w ((w.alloc (.cells #[qS a0 xs.length c0,qI st,qS a2 sl.length c2,qI fl,qI rm,qS a5 ts.length c5] 71)).alloc (.cells #[qS a0' xs'.length c0',qI st',qS a2' sl'.length c2',qI fl',qI rm',qS a5' ts'.length c5'] 71)):=bal.alloc (by simp) _;have u:=(Blk.new w #[qS a0 xs.length c0,qI st,qS a2 sl.length c2,qI fl,qI rm,qS a5 ts.length c5] 71).alloc (.cells #[qS a0' xs'.length c0',qI st',qS a2' sl'.length c2',qI fl',qI rm',qS a5' ts'.length c5'] 71);have v:=Blk.new (w.alloc (.cells #[qS a0 xs.length c0,qI st,qS a2 sl.length c2,qI fl,qI rm,qS a5 ts.length c5] 71)) #[qS a0' xs'.length c0',qI st',qS a2' sl'.length c2',qI fl',qI rm',qS a5' ts'.length c5'] 71;try unfold qY at *
 simp only [xF] at v;have HK:=zh (xA B0 (xA u v));clear u v;by_cases k1:st=st'
 rotate_left
 .have g1:(st==st')=false:=by simpa using k1
  have HV:=zh (show r=false by rw [HR.o];simp [k1]);clear HR HE1 HE2 HE3;go_enter func232,ntmps232
  go_wp2;go_ret;exact ⟨aA HV.o.symm,HK.o.1⟩
 have g1:(st==st')=true:=by simpa using k1
 have HC1:=zh k1;clear k1;by_cases k2:fl=fl'
 rotate_left
 .have g2:(fl==fl')=false:=by simpa using k2
  have HV:=zh (show r=false by rw [HR.o];simp [k2]);clear HR HE1 HE2 HE3;go_enter func232,ntmps232
  go_wp2;go_ret;exact ⟨aA HV.o.symm,HK.o.1⟩
 have g2:(fl==fl')=true:=by simpa using k2
 have HC2:=zh k2;clear k2;by_cases k3:rm=rm'
 rotate_left
 .have g3:(rm==rm')=false:=by simpa using k3
  have HV:=zh (show r=false by rw [HR.o];simp [k3]);clear HR HE1 HE2 HE3;go_enter func232,ntmps232
  go_wp2;go_ret;exact ⟨aA HV.o.symm,HK.o.1⟩
 have g3:(rm==rm')=true:=by simpa using k3
 have HC3:=zh k3;clear k3;go_enter func232,ntmps232
 go_wp2_with fail
 refine (HE1.o _ HK.o.1).mono ?_;rintro e w1 ⟨rfl,hb1⟩;have HK1:=zh (xA (HK.o.1.trans (hb1.mono HK.o.1.size)) (xA (HK.o.2.1.bw hb1) (HK.o.2.2.bw hb1)));clear hb1 HK B0;by_cases k4:sl=sl'
 rotate_left
 .rw [xS k4];have HV:=zh (show r=false by rw [HR.o];simp [k4]);go_wp2;go_ret;exact ⟨aA HV.o.symm,HK1.o.1⟩
 rw [xR k4];have HC4:=zh k4;clear k4;obtain ⟨p0,p1,p2,p3,p4,p5⟩:=(HK1.o.2.1).ly6;obtain ⟨q0,q1,q2,q3,q4,q5⟩:=(HK1.o.2.2).ly6;go_wp2_with fail
 refine (HE2.o _ HK1.o.1).mono ?_;rintro e w2 ⟨rfl,hb2⟩;have HK2:=zh (xA (HK1.o.1.trans (hb2.mono HK1.o.1.size)) (xA (HK1.o.2.1.bw hb2) (HK1.o.2.2.bw hb2)));clear hb2 p0 p1 p2 p3 p4 p5 q0 q1 q2 q3 q4 q5;by_cases k5:pl=pl'
 rotate_left
 .rw [xS k5];have HV:=zh (show r=false by rw [HR.o];simp [k5]);go_wp2;go_ret;exact ⟨aA HV.o.symm,HK2.o.1⟩
 rw [xR k5];have HC5:=zh k5;clear k5;obtain ⟨p0,p1,p2,p3,p4,p5⟩:=(HK2.o.2.1).ly6;obtain ⟨q0,q1,q2,q3,q4,q5⟩:=(HK2.o.2.2).ly6;go_wp2_with fail
 refine (HE3.o _ HK2.o.1).mono ?_;rintro e w3 ⟨rfl,hb3⟩;have HB3:=zh (HK2.o.1.trans (hb3.mono HK2.o.1.size));have HV:=zh (show decide (tg=tg')=r by rw [HR.o];simp [HC1.o,HC2.o,HC3.o,HC4.o,HC5.o]);rw [HV.o];clear hb3 p0 p1 p2 p3 p4 p5 q0 q1 q2 q3 q4 q5 HR;cases r
 all_goals
  go_wp2;go_ret;exact ⟨rfl,HB3.o⟩
def dB (g:Rg):List Value:=[qI g.1,qI g.2.1,qI g.2.2.1,.bool g.2.2.2.1,.bool g.2.2.2.2.1,.bool g.2.2.2.2.2]
def dQ (rs:List Rg):List Value:=rs.flatMap dB
theorem oQ:∀ rs:List Rg,(dQ rs).length=rs.length*6
 | []=>rfl
 | g::rs=>by simp only [dQ,xT,xI];have:=oQ rs;simp only [dQ] at this;rw [this];simp [dB];omega
theorem oR:∀ (rs:List Rg) (i j:Nat),i<rs.length->j<6->(dQ rs)[i*6+j]?=(dB (rs.getD i z6))[j]?
 | [],i,j,h,_=>absurd h (by simp)
 | g::rs,0,j,_,hj=>by
   simp only [dQ,xT];rw [List.getElem?_append_left (by simp [dB];omega)];simp
 | g::rs,i+1,j,h,hj=>by
   have hh:=oR rs i j (by simpa using h) hj;simp only [dQ,xT] at hh ⊢;rw [List.getElem?_append_right (by simp [dB];omega)];have e:(i+1)*6+j-(dB g).length=i*6+j:=by simp [dB];omega
   rw [e,hh];simp
def ORg (w:qw)(base:Nat)(v:Value)(rs:List Rg):Prop:=w.ownsRow base 214 6 v rs.length (dQ rs)/\∀ g∈rs,wfi g.1/\wfi g.2.1/\wfi g.2.2.1
theorem fA {w:qw}(h:ORg w base (qS a n cap) rs):RS w a n cap rs:=by
 obtain ⟨hl,⟨h0,h0'⟩|⟨g,cap',cur,hv,hg,hh,h1,h2,h3,h4⟩⟩:=h.1
 .simp at h0;obtain ⟨rfl,rfl,rfl⟩:=h0;exact ⟨h0',xC _,h.2,fun hn=>absurd rfl hn,aN⟩
 .simp at hv;obtain ⟨rfl,rfl,rfl⟩:=hv;refine ⟨rfl,by omega,h.2,fun hn=>⟨g,0,rfl,fun i hi=>?_⟩,h1⟩
  have hc:∀ j,j<6->w.cell? (qR g (0+i*6+j))=(dB (rs.getD i z6))[j]?:=by
   intro j hj;rw [Blk.cell (w:=w) hh]
   have:cur.toList[0+i*6+j]?=(dQ rs)[i*6+j]?:=by
    rw [<- h4,List.getElem?_take,if_pos (by omega),Nat.zero_add]
   rw [Array.getElem?_toList] at this;rw [this,oR rs i j hi hj]
  exact ⟨hc 0 (by omega),hc 1 (by omega),hc 2 (by omega),hc 3 (by omega),hc 4 (by omega),hc 5 (by omega)⟩
theorem zF {S:Nat->Prop}{w w':qw}(t:Turn S w w')(h:ORg w base v rs)(hk:∀ k,base<=k->¬ S k):ORg w' base v rs:=by
 refine ⟨?_,h.2⟩;obtain ⟨hl,h0|⟨g',cap,cur,hv,hg,hh,h1,h2,h3,h4⟩⟩:=h.1
 .exact ⟨hl,.inl h0⟩
 .exact ⟨hl,.inr ⟨g',cap,cur,hv,hg,aF t hh (hk g' hg),h1,h2,h3,h4⟩⟩
theorem sM (w:qw)(base:Nat)(hb:base<=w.heap.size):ORg (w.alloc (.cells #[] 214)) base (qS (qP w.heap.size) 0 0) []:=
 ⟨⟨rfl,.inr ⟨w.heap.size,0,#[],rfl,hb,heap_alloc_new w _,aN,xC _,rfl,rfl⟩⟩,fun _ h=>by cases h⟩
theorem mY {w:qw}{t:TypeId}{sz:Nat}{xs:List Value}(h:w.ownsRow base t sz v n xs):∃ a cap,v=qS a n cap:=by
 obtain ⟨_,⟨rfl,rfl⟩|⟨g,cap,cur,rfl,_⟩⟩:=h
 .exact ⟨_,_,rfl⟩
 .exact ⟨_,_,rfl⟩
theorem aJ8 (w:qw)(g:Rg):∀ j u,(dB g)[j]?=some u->(w.alloc (.cells #[qI g.1,qI g.2.1,qI g.2.2.1,.bool g.2.2.2.1,.bool g.2.2.2.2.1,.bool g.2.2.2.2.2] 214)).cell? (((qR w.heap.size 0):Addr).add j)=some u:=by
 intro j u hj;rw [bN,Nat.zero_add,Blk.cell (Blk.new w _ _),<- hj]
 match j with
 | 0=>rfl
 | 1=>rfl
 | 2=>rfl
 | 3=>rfl
 | 4=>rfl
 | 5=>rfl
 | j+6=>rfl
theorem aMn (g:Rg):∀ u∈dB g,u.oneCell'=true:=by
 intro u hu;simp [dB] at hu;rcases hu with rfl|rfl|rfl|rfl|rfl|rfl<;>rfl
theorem aAo {W W':qw}{v v':Value}{g:Rg}(hr:∀ g∈rs,wfi g.1/\wfi g.2.1/\wfi g.2.2.1)(hw:wfi g.1/\wfi g.2.1/\wfi g.2.2.1)(h:W'.ownsRow base 214 6 v' (rs.length+1) (dQ rs++dB g)):ORg W' base v' (rs++[g]):=by
 refine ⟨by simpa [dQ] using h,fun y hy=>?_⟩;rcases List.mem_append.1 hy with hy|hy
 .exact hr y hy
 .simp at hy;subst hy;exact hw
theorem jG {W W':qw}{row:Option Nat}(h:W.grownBy W' row):Turn (fun j=>row=some j) W W':=⟨h.os,h.tape,h.output,h.size,fun k hk hn=>h.block k hk (fun e=>hn e.symm)⟩
theorem cQ {w:qw}{o':Nat}{v:Value}(h:b≠g\/o'≠o:=by omega):(w.setCell (qR g o) v).cell? (qR b o')=w.cell? (qR b o'):=
 World.cell?_setCell_other _ _ _ _ (by intro e;injection e;rcases h with h|h<;>simp_all)
theorem oX {w:qw}{u:Value}(h:w.cell? (qR g o)=some u):(w.setCell (qR g o) v).cell? (qR g o)=some v:=World.cell?_setCell_same _ _ _ h
