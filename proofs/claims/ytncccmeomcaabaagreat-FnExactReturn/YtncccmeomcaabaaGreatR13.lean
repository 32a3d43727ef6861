import Derived.Deep.OwnRows
import Derived.Test.YtncccmeomcaabaaGreatR11
set_option linter.all false
set_option maxHeartbeats 4000000
namespace Go.Proofs.YtncccmeomcaabaaGreat
open Go.RowKit Classical
open Go.Proofs.Tryz
set_option maxRecDepth 100000
variable {L:Lay}{P:PMod}{S:Nat->Prop}{a a0 a2 a5:qO}{base c c0 c2 c5 cap n:Nat}{m m':Md}{ms ms':List Md}{ps:List PMod}{ts:List TB}{xs:List PB}
def cfQ (L:Lay):Int:=wrap64 ((wrap64 (wrap64 (65536+L.ram)-L.slots.getD 0 0)).tdiv (L.slots.length:Int))
def cfW (L:Lay):Int:=if L.slots=[] then 1 else wrap64 ((cfQ L).tdiv 4)
def cfK (L:Lay):Int:=wrap64 (cZ L-L.stack)
theorem aA7 (L:Lay)(a0:qO)(c0:Nat)(xs:List PB)(a2:qO)(c2:Nat)(a5:qO)(c5:Nat)(ts:List TB)(w:qw)(h:LyT w L a0 c0 xs a2 c2 a5 c5 ts):
 qC 231 #[.agg (qL L a0 xs.length c0 a2 L.slots.length c2 a5 ts.length c5)] w (qB w (.agg (qW L.slots.length (cfW L) (cfK L) 0))):=by
 have hmx:=h.s.2.1;unfold maxLen at hmx;by_cases c:L.slots=[]
 .have hl:L.slots.length=0:=by rw [c];rfl
  have hW:=zh (show cfW L=1 by unfold cfW;rw [if_pos c]);have hK:=zh (show cfK L=wrap64 (wrap64 (65536+L.ram)-L.stack) by unfold cfK cZ;rw [if_pos c]);rw [hW.o,hK.o,hl];go_enter func231,ntmps231
  go_wp2;refine bodyPost_ret (v:=.agg #[qI 0,qI 1,qI (wrap64 (wrap64 (65536+L.ram)-L.stack)),qI 0]) (by simp [results,results231,go_sem]) rfl ⟨rfl,?_⟩;exact (brf.alloc aN _).alloc (by simp) _
 .have hl:0<L.slots.length:=List.length_pos_iff.2 c;have hl':(0:Int)<(L.slots.length:Int):=by omega
  have he:((L.slots.length:Int)==0)=false:=by simp;omega
  have hW:=zh (show cfW L=wrap64 ((cfQ L).tdiv 4) by unfold cfW;rw [if_neg c]);have hK:=zh (show cfK L=wrap64 (L.slots.getD 0 0-L.stack) by unfold cfK cZ;rw [if_neg c]);rw [hW.o,hK.o];have hQ:Zh (cfQ L=wrap64 ((wrap64 (wrap64 (65536+L.ram)-L.slots.getD 0 0)).tdiv (L.slots.length:Int))):=rfl;clear hW hK;obtain ⟨b,off,rfl,hc⟩:=h.s.2.2.2.1 (by omega);have q:=hc 0 hl;have qlt:=xD _ _ q;rw [Nat.add_zero] at q;generalize L.slots.length=n at *;generalize L.slots.getD 0 0=z at *;generalize cfQ L=Q at *;clear hc c h;have B0:qY w ((w.alloc (.cells (qL L a0 xs.length c0 (some (qR b off)) n c2 a5 ts.length c5) 71)).alloc (.cells (qW 0 0 0 0) 37)):=(brf.alloc aN _).alloc (by simp) _;have u:=(Blk.new w (qL L a0 xs.length c0 (some (qR b off)) n c2 a5 ts.length c5) 71).alloc (.cells (qW 0 0 0 0) 37);have v:=Blk.new (w.alloc (.cells (qL L a0 xs.length c0 (some (qR b off)) n c2 a5 ts.length c5) 71)) (qW 0 0 0 0) 37;try unfold qY at *
  simp only [xF] at v;have HF:=zh (fun (nq:Nat)=>xA (below_drewN B0 nq) (xA (u.bw (below_drewN brf nq)) (v.bw (below_drewN brf nq))));clear B0 u v;go_enter func231,ntmps231
  go_wp2
  go_quiet (fail)
  rw [<- hQ.o];go_wp2;obtain ⟨B1,u,v⟩:=HF.o nq;clear HF;generalize (((w.alloc (.cells (qL L a0 xs.length c0 (some (qR b off)) n c2 a5 ts.length c5) 71)).alloc (.cells (qW 0 0 0 0) 37)).drewN nq)=W at *;have q':=aB B1 q;have p1:=u.e1;have p2:=u.e2;obtain ⟨v0,v1,v2,v3⟩:=v.z4;have vf:=v.frozen;have nb:b≠w.heap.size+1:=by omega
  have nb':w.heap.size+1≠b:=by omega
  have HB1:=zh (xA B1 v);clear u v B1
  go_region_held3 (fun w'=>w'.cell? (qR w.heap.size 1)=some (qI L.stack)/\w'.cell? (qR w.heap.size 2)=some (qS (some (qR b off)) n c2)/\w'.cell? (qR b off)=some (qI z)) (go_keep) (fail)
  simp only [xP];have kz:=(((HB1.o.2.set 0 (qI n)).set 1 (qI (wrap64 (Q.tdiv 4)))).set 2 (qI (wrap64 (z-L.stack)))).set 3 (qI 0);have T:Turn (fun j=>j=w.heap.size+1) W ((((W.setCell (qR (w.heap.size+1) 0) (qI n)).setCell (qR (w.heap.size+1) 1) (qI (wrap64 (Q.tdiv 4)))).setCell (qR (w.heap.size+1) 2) (qI (wrap64 (z-L.stack)))).setCell (qR (w.heap.size+1) 3) (qI 0)):=(((aC _ _ _ _).trans (aC _ _ _ _)).trans (aC _ _ _ _)).trans (aC _ _ _ _);have HB2:=zh (aG HB1.o.1 T (fun k e=>by omega) HB1.o.1.size);simp only [yA,yB,yC] at kz;generalize ((((W.setCell (qR (w.heap.size+1) 0) (qI n)).setCell (qR (w.heap.size+1) 1) (qI (wrap64 (Q.tdiv 4)))).setCell (qR (w.heap.size+1) 2) (qI (wrap64 (z-L.stack)))).setCell (qR (w.heap.size+1) 3) (qI 0))=W2 at *;obtain ⟨s0,s1,s2,s3⟩:=kz.z4;clear T kz HB1;go_wp2;exact bodyPost_ret (v:=.agg (qW n (wrap64 (Q.tdiv 4)) (wrap64 (z-L.stack)) 0)) (by simp [results,results231,go_sem,s0,s1,s2,s3]) rfl ⟨rfl,HB2.o.drew⟩
def Lok (ps:List PMod)(L:Lay):Prop:=lkc ps (L.slots.length:Int) (cfW L) (cfK L) 0=0/\lkL ps (L.slots.length:Int) (cfW L) (cfK L) 0=L
def plE (a b:Pl):Decidable (a=b):=decidable_of_iff (a.text=b.text /\ a.banks=b.banks /\ a.data=b.data /\ a.size=b.size) (by cases a;cases b;simp)
def layE (a b:Lay):Decidable (a=b):=
 have:DecidableEq Pl:=plE
 decidable_of_iff (a.places=b.places /\ a.stack=b.stack /\ a.slots=b.slots /\ a.flash=b.flash /\ a.ram=b.ram /\ a.targets=b.targets) (by cases a;cases b;simp)
def lokD (ps:List PMod)(L:Lay):Decidable (Lok ps L):=@instDecidableAnd _ _ _ (layE _ _)
def lokB (ps:List PMod)(L:Lay):Bool:=@decide _ (lokD ps L)
theorem lokB_iff {ps:List PMod}{L:Lay}:lokB ps L=true ↔ Lok ps L:=⟨@of_decide_eq_true _ (lokD ps L),@decide_eq_true _ (lokD ps L)⟩
theorem zC (a a':qO)(n cap n' cap':Nat)(xs ys:List Tg)(w:qw)(h:TgS w a n cap xs)(h':TgS w a' n' cap' ys):
 qC 251 #[qS a n cap,qS a' n' cap'] w (qB w (.bool (decide (xs=ys)))):=by
 have hl:=h.1;have hl':=h'.1;have hmx:=h.2.1;have hmx':=h'.2.1;unfold maxLen at hmx hmx';by_cases hn:n=n'
 .subst hn;have hne:((n:Int) !=(n:Int))=false:=by simp
  go_enter func251,ntmps251
  go_wp2;go_loopw [13] (fun i wr=>∃ k:Nat,k<=n/\i=qI k/\xs.take k=ys.take k/\qY w wr) (qf n)
  .exact ⟨0,xC _,rfl,by simp,brf⟩
  .obtain ⟨k,hk,rfl,hT,hB⟩:=hrel;by_cases hlt:k<n
   .have hlt':(k:Int)<(n:Int):=by omega
    obtain ⟨b,off,rfl,q0,q1,q2⟩:=(h.bw hB).at k hlt;obtain ⟨b',off',rfl,p0,p1,p2⟩:=(h'.bw hB).at k hlt;by_cases he:xs.getD k zT=ys.getD k zT
    .have HS:Zh (xs.take (k+1)=ys.take (k+1)):=dC zT xs ys k hT (by omega) (by omega) he;rw [he] at q0 q1 q2;clear hT he;generalize ys.getD k zT=z at *;obtain ⟨z0,z1,z2⟩:=z;dsimp only at q0 q1 q2 p0 p1 p2;go_wp2
     go_quiet (fail)
     go_wp2
     go_roundw
     .exact ⟨k+1,by omega,by go_num,HS.o,below_drewN hB _⟩
     .simp [qf,intOf];omega
    .have hf:Zh (decide (xs=ys)=false):=by
      show _=_;simp;intro e;exact he (by rw [e])
     clear hT;generalize ys.getD k zT=z at *;generalize xs.getD k zT=z' at *;obtain ⟨z0,z1,z2⟩:=z;obtain ⟨x0,x1,x2⟩:=z';dsimp only at q0 q1 q2 p0 p1 p2;have hne3:¬ (x0=z0/\x1=z1/\x2=z2):=fun e=>he (by rw [e.1,e.2.1,e.2.2]);clear he;by_cases f0:x0=z0
     .by_cases f1:x1=z1
      .have f2:¬ x2=z2:=fun e=>hne3 ⟨f0,f1,e⟩;subst f0 f1;have f2':(x2==z2)=false:=by simpa using f2
       go_wp2
       go_quiet (fail)
       go_wp2;go_ret;exact ⟨aA hf.o.symm,below_drewN hB _⟩
      .subst f0;have f1':(x1==z1)=false:=by simpa using f1
       go_wp2
       go_quiet (fail)
       go_wp2;go_ret;exact ⟨aA hf.o.symm,below_drewN hB _⟩
     .have f0':(x0==z0)=false:=by simpa using f0
      go_wp2
      go_quiet (fail)
      go_wp2;go_ret;exact ⟨aA hf.o.symm,below_drewN hB _⟩
   .have hf:Zh (decide (xs=ys)=true):=by
     show _=_;simp;rw [xG (by omega),xG (by omega)] at hT;exact hT
    clear hT;go_wp2;go_ret;exact ⟨aA hf.o.symm,hB⟩
 .have hf:Zh (decide (xs=ys)=false):=by
   show _=_;simp;intro e;rw [e] at hl;omega
  have hne:((n:Int) !=(n':Int))=true:=by simp;omega
  go_enter func251,ntmps251
  go_wp2;go_ret;exact ⟨aA hf.o.symm,brf⟩
theorem uX (t d z:Int)(a:qO)(n c:Nat)(bs:qi)(t' d' z':Int)(a':qO)(n' c':Nat)(bs':qi)(w:qw)(h:IS w a n c bs)(h':IS w a' n' c' bs'):
 qC 249 #[.agg #[qI t,qS a n c,qI d,qI z],.agg #[qI t',qS a' n' c',qI d',qI z']] w fun e w'=>e=.returned (.bool (decide ((⟨t,bs,d,z⟩:Pl)=⟨t',bs',d',z'⟩)))/\qY w w':=by
 have B0:qY w ((w.alloc (.cells #[qI t,qS a n c,qI d,qI z] 171)).alloc (.cells #[qI t',qS a' n' c',qI d',qI z'] 171)):=bal.alloc (by simp) _;have HB0:=zh B0;have HEQ:=zh (mO a a' n c n' c' bs bs' _ (h.bw B0) (h'.bw B0));clear B0 h h';obtain ⟨r,hr⟩:=eqx (decide ((⟨t,bs,d,z⟩:Pl)=⟨t',bs',d',z'⟩));rw [<- hr];simp only [Pl.mk.injEq] at hr;have HR:=zh hr;clear hr;by_cases c1:t=t'
 .by_cases c2:d=d'
  .by_cases c3:z=z'
   .have g1:(t==t')=true:=by simpa using c1
    have g2:(d==d')=true:=by simpa using c2
    have g3:(z==z')=true:=by simpa using c3
    have HV:=zh (show decide (bs=bs')=r by rw [HR.o];simp [c1,c2,c3]);rw [HV.o] at HEQ;clear c1 c2 c3 HR;go_enter func249,ntmps249
    go_wp2_with fail
    refine HEQ.o.mono ?_;rintro e w1 ⟨rfl,hb1⟩;cases r
    all_goals
     go_wp2;go_ret;exact ⟨rfl,HB0.o.trans (hb1.mono HB0.o.size)⟩
   .have g1:(t==t')=true:=by simpa using c1
    have g2:(d==d')=true:=by simpa using c2
    have g3:(z==z')=false:=by simpa using c3
    have HV:=zh (show r=false by rw [HR.o];simp [c3]);clear c1 c2 c3 HR HEQ;go_enter func249,ntmps249
    go_wp2;go_ret;exact ⟨aA HV.o.symm,HB0.o⟩
  .have g1:(t==t')=true:=by simpa using c1
   have g2:(d==d')=false:=by simpa using c2
   have HV:=zh (show r=false by rw [HR.o];simp [c2]);clear c1 c2 HR HEQ;go_enter func249,ntmps249
   go_wp2;go_ret;exact ⟨aA HV.o.symm,HB0.o⟩
 .have g1:(t==t')=false:=by simpa using c1
  have HV:=zh (show r=false by rw [HR.o];simp [c1]);clear c1 HR HEQ;go_enter func249,ntmps249
  go_wp2;go_ret;exact ⟨aA HV.o.symm,HB0.o⟩
theorem bD {α β:Type}(f:α->β)(xs:List α)(i:Nat)(a:α)(b:β)(h:i<xs.length:=by omega):(xs.map f).getD i b=f (xs.getD i a):=by
 simp [xB,h]
theorem tT (a a':qO)(n cap n' cap':Nat)(xs ys:List PB)(w:qw)(h:PlS w a n cap xs)(h':PlS w a' n' cap' ys):
 qC 248 #[qS a n cap,qS a' n' cap',.func (.func 249) #[] #[]] w fun e w'=>e=.returned (.bool (decide (xs.map (fun x=>x.1)=ys.map (fun x=>x.1))))/\qY w w':=by
 have hl:=h.1;have hl':=h'.1;have hmx:=h.2.1;have hmx':=h'.2.1;unfold maxLen at hmx hmx';obtain ⟨r,hr⟩:=eqx (decide (xs.map (fun x=>x.1)=ys.map (fun x=>x.1)));rw [<- hr];have HR:=zh hr;clear hr;by_cases hn:n=n'
 .subst hn;have hne:((n:Int) !=(n:Int))=false:=by simp
  go_enter func248,ntmps248
  go_wp2;go_loopw [17] (fun i wr=>∃ k:Nat,k<=n/\i=qI k/\(xs.map (fun x=>x.1)).take k=(ys.map (fun x=>x.1)).take k/\qY w wr) (qf n)
  .exact ⟨0,xC _,rfl,by simp,brf⟩
  .obtain ⟨k,hk,rfl,hT,hB⟩:=hrel;by_cases hlt:k<n
   .have hlt':(k:Int)<(n:Int):=by omega
    obtain ⟨b,off,rfl,q0,q1,q2,q3⟩:=(h.bw hB).at k hlt;obtain ⟨b',off',rfl,p0,p1,p2,p3⟩:=(h'.bw hB).at k hlt;have i1:=(h.bw hB).2.2.2.1 k hlt;have i2:=(h'.bw hB).2.2.2.1 k hlt;have HGO:Zh ((xs.getD k zPB).1=(ys.getD k zPB).1->(xs.map (fun x=>x.1)).take (k+1)=(ys.map (fun x=>x.1)).take (k+1)):=fun he=>dC zPB.1 _ _ k hT (by simp;omega) (by simp;omega) (by rw [bD _ _ _ zPB _,bD _ _ _ zPB _,he])
    have HNO:=zh (show (xs.getD k zPB).1≠(ys.getD k zPB).1->r=false from fun he=>by
     rw [HR.o,decide_eq_false_iff_not];intro e;have e2:=congrArg (fun l=>l.getD k zPB.1) e;try simp only at e2
     rw [bD _ _ _ zPB _,bD _ _ _ zPB _] at e2
     exact he e2)
    clear hT;unfold svP at q1 p1;generalize xs.getD k zPB=x at *;generalize ys.getD k zPB=y at *;obtain ⟨⟨xt,xb,xd,xz⟩,xa,xc⟩:=x;obtain ⟨⟨yt,yb,yd,yz⟩,ya,yc⟩:=y;dsimp only at q0 q1 q2 q3 p0 p1 p2 p3 i1 i2 HGO HNO;have hlb:=xD _ _ q0;have hlb':=xD _ _ p0;have HB2:qY wr ((wr.alloc (.cells #[qI xt,qS xa xb.length xc,qI xd,qI xz] 171)).alloc (.cells #[qI yt,qS ya yb.length yc,qI yd,qI yz] 171)):=bal.alloc (by simp) _;have HSP:=zh (uX xt xd xz xa xb.length xc xb yt yd yz ya yb.length yc yb _ (i1.bw HB2) (i2.bw HB2));have HB3:=zh (hB.trans (HB2.mono hB.size));clear i1 i2 HB2 hB;by_cases he:(⟨xt,xb,xd,xz⟩:Pl)=⟨yt,yb,yd,yz⟩
    .rw [xR he] at HSP;have HG:=zh (HGO.o he);clear he HGO HNO;go_wp2_with fail
     refine HSP.o.mono ?_;rintro e w1 ⟨rfl,hb1⟩;have HB4:=zh (HB3.o.trans (hb1.mono HB3.o.size));clear q0 q1 q2 q3 p0 p1 p2 p3 hb1 HSP;go_wp2
     go_roundw
     .exact ⟨k+1,by omega,by go_num,HG.o,HB4.o⟩
     .simp [qf,intOf];omega
    .rw [xS he] at HSP;have HG:=zh (HNO.o he);clear he HGO HNO;go_wp2_with fail
     refine HSP.o.mono ?_;rintro e w1 ⟨rfl,hb1⟩;have HB4:=zh (HB3.o.trans (hb1.mono HB3.o.size));clear q0 q1 q2 q3 p0 p1 p2 p3 hb1 HSP;go_wp2;go_ret;exact ⟨aA HG.o.symm,HB4.o⟩
   .have hf:Zh (r=true):=by
     show _=_;rw [HR.o];simp;rw [xG (by simp;omega),xG (by simp;omega)] at hT;exact hT
    clear hT;go_wp2;go_ret;exact ⟨aA hf.o.symm,hB⟩
 .have hf:Zh (r=false):=by
   show _=_;rw [HR.o,decide_eq_false_iff_not];intro e;have:=congrArg List.length e;simp at this;omega
  have hne:((n:Int) !=(n':Int))=true:=by simp;omega
  go_enter func248,ntmps248
  go_wp2;go_ret;exact ⟨aA hf.o.symm,brf⟩
theorem tS (a a':qO)(n cap n' cap':Nat)(xs ys:List TB)(w:qw)(h:TsS w a n cap xs)(h':TsS w a' n' cap' ys):
 qC 250 #[qS a n cap,qS a' n' cap',.func (.func 251) #[] #[]] w fun e w'=>e=.returned (.bool (decide (xs.map (fun x=>x.1)=ys.map (fun x=>x.1))))/\qY w w':=by
 have hl:=h.1;have hl':=h'.1;have hmx:=h.2.1;have hmx':=h'.2.1;unfold maxLen at hmx hmx';obtain ⟨r,hr⟩:=eqx (decide (xs.map (fun x=>x.1)=ys.map (fun x=>x.1)));rw [<- hr];have HR:=zh hr;clear hr;by_cases hn:n=n'
 .subst hn;have hne:((n:Int) !=(n:Int))=false:=by simp
  go_enter func250,ntmps250
  go_wp2;go_loopw [17] (fun i wr=>∃ k:Nat,k<=n/\i=qI k/\(xs.map (fun x=>x.1)).take k=(ys.map (fun x=>x.1)).take k/\qY w wr) (qf n)
  .exact ⟨0,xC _,rfl,by simp,brf⟩
  .obtain ⟨k,hk,rfl,hT,hB⟩:=hrel;by_cases hlt:k<n
   .have hlt':(k:Int)<(n:Int):=by omega
    obtain ⟨b,off,rfl,q0⟩:=(h.bw hB).at k hlt;obtain ⟨b',off',rfl,p0⟩:=(h'.bw hB).at k hlt;have i1:=(h.bw hB).2.2.2.1 k hlt;have i2:=(h'.bw hB).2.2.2.1 k hlt;have HGO:Zh ((xs.getD k zTB).1=(ys.getD k zTB).1->(xs.map (fun x=>x.1)).take (k+1)=(ys.map (fun x=>x.1)).take (k+1)):=fun he=>dC zTB.1 _ _ k hT (by simp;omega) (by simp;omega) (by rw [bD _ _ _ zTB _,bD _ _ _ zTB _,he])
    have HNO:=zh (show (xs.getD k zTB).1≠(ys.getD k zTB).1->r=false from fun he=>by
     rw [HR.o,decide_eq_false_iff_not];intro e;have e2:=congrArg (fun l=>l.getD k zTB.1) e;try simp only at e2
     rw [bD _ _ _ zTB _,bD _ _ _ zTB _] at e2
     exact he e2)
    clear hT;unfold svT at q0 p0;generalize xs.getD k zTB=x at *;generalize ys.getD k zTB=y at *;obtain ⟨xl,xa,xc⟩:=x;obtain ⟨yl,ya,yc⟩:=y;dsimp only at q0 p0 i1 i2 HGO HNO;have HSP:=zh (zC xa ya xl.length xc yl.length yc xl yl _ i1 i2);have HB3:=zh hB;clear i1 i2 hB;by_cases he:xl=yl
    .rw [xR he] at HSP;have HG:=zh (HGO.o he);clear he HGO HNO;go_wp2_with fail
     refine HSP.o.mono ?_;rintro e w1 ⟨rfl,hb1⟩;have HB4:=zh (HB3.o.trans (hb1.mono HB3.o.size));clear q0 p0 hb1 HSP;go_wp2
     go_roundw
     .exact ⟨k+1,by omega,by go_num,HG.o,HB4.o⟩
     .simp [qf,intOf];omega
    .rw [xS he] at HSP;have HG:=zh (HNO.o he);clear he HGO HNO;go_wp2_with fail
     refine HSP.o.mono ?_;rintro e w1 ⟨rfl,hb1⟩;have HB4:=zh (HB3.o.trans (hb1.mono HB3.o.size));clear q0 p0 hb1 HSP;go_wp2;go_ret;exact ⟨aA HG.o.symm,HB4.o⟩
   .have hf:Zh (r=true):=by
     show _=_;rw [HR.o];simp;rw [xG (by simp;omega),xG (by simp;omega)] at hT;exact hT
    clear hT;go_wp2;go_ret;exact ⟨aA hf.o.symm,hB⟩
 .have hf:Zh (r=false):=by
   show _=_;rw [HR.o,decide_eq_false_iff_not];intro e;have:=congrArg List.length e;simp at this;omega
  have hne:((n:Int) !=(n':Int))=true:=by simp;omega
  go_enter func250,ntmps250
  go_wp2;go_ret;exact ⟨aA hf.o.symm,brf⟩
theorem Blk.ly6 {w:qw}{b:Nat}{t:TypeId}{v0 v1 v2 v3 v4 v5:Value}(h:Blk w b #[v0,v1,v2,v3,v4,v5] t):w.cell? (qR b 0)=some v0/\w.cell? (qR b 1)=some v1/\w.cell? (qR b 2)=some v2/\w.cell? (qR b 3)=some v3/\w.cell? (qR b 4)=some v4/\w.cell? (qR b 5)=some v5:=⟨h.cell 0,h.cell 1,h.cell 2,h.cell 3,h.cell 4,h.cell 5⟩
theorem rN (L:Lay)(a0:qO)(c0:Nat)(xs:List PB)(a2:qO)(c2:Nat)(a5:qO)(c5:Nat)(ts:List TB)(L':Lay)(a0':qO)(c0':Nat)(xs':List PB)(a2':qO)(c2':Nat)(a5':qO)(c5':Nat)(ts':List TB)(w:qw)(h:LyT w L a0 c0 xs a2 c2 a5 c5 ts)(h':LyT w L' a0' c0' xs' a2' c2' a5' c5' ts'):
 qC 232 #[.agg (qJ L a0 xs c0 a2 c2 a5 ts c5),.agg (qL L' a0' xs'.length c0' a2' L'.slots.length c2' a5' ts'.length c5')] w (qB w (.bool (decide (L=L')))):=by
 have hps:=h.ps;have hps':=h'.ps;have htt:=h.tt;have htt':=h'.tt;have HE1:=zh (fun (W:qw) (hb:qY w W)=>mO a2 a2' L.slots.length c2 L'.slots.length c2' L.slots L'.slots W (h.s.bw hb) (h'.s.bw hb));have HE2:=zh (fun (W:qw) (hb:qY w W)=>tT a0 a0' xs.length c0 xs'.length c0' xs xs' W (h.p.bw hb) (h'.p.bw hb));have HE3:=zh (fun (W:qw) (hb:qY w W)=>tS a5 a5' ts.length c5 ts'.length c5' ts ts' W (h.t.bw hb) (h'.t.bw hb));rw [hps,hps'] at HE2;rw [htt,htt'] at HE3;clear h h' hps hps' htt htt';obtain ⟨pl,st,sl,fl,rm,tg⟩:=L;obtain ⟨pl',st',sl',fl',rm',tg'⟩:=L';dsimp only at HE1 HE2 HE3 ⊢;obtain ⟨r,hr⟩:=eqx (decide ((⟨pl,st,sl,fl,rm,tg⟩:Lay)=⟨pl',st',sl',fl',rm',tg'⟩));rw [<- hr];simp only [Lay.mk.injEq] at hr;have HR:=zh hr;clear hr;have B0:qY w ((w.alloc (.cells #[qS a0 xs.length c0,qI st,qS a2 sl.length c2,qI fl,qI rm,qS a5 ts.length c5] 71)).alloc (.cells #[qS a0' xs'.length c0',qI st',qS a2' sl'.length c2',qI fl',qI rm',qS a5' ts'.length c5'] 71)):=bal.alloc (by simp) _;have u:=(Blk.new w #[qS a0 xs.length c0,qI st,qS a2 sl.length c2,qI fl,qI rm,qS a5 ts.length c5] 71).alloc (.cells #[qS a0' xs'.length c0',qI st',qS a2' sl'.length c2',qI fl',qI rm',qS a5' ts'.length c5'] 71);have v:=Blk.new (w.alloc (.cells #[qS a0 xs.length c0,qI st,qS a2 sl.length c2,qI fl,qI rm,qS a5 ts.length c5] 71)) #[qS a0' xs'.length c0',qI st',qS a2' sl'.length c2',qI fl',qI rm',qS a5' ts'.length c5'] 71;try unfold qY at *
 simp only [xF] at v;have HK:=zh (xA B0 (xA u v));clear u v;by_cases k1:st=st'
 rotate_left
 .have g1:(st==st')=false:=by simpa using k1
  have HV:=zh (show r=false by rw [HR.o];simp [k1]);clear HR HE1 HE2 HE3;go_enter func232,ntmps232
  go_wp2;go_ret;exact ⟨aA HV.o.symm,HK.o.1⟩
 have g1:(st==st')=true:=by simpa using k1
 have HC1:=zh k1;clear k1;by_cases k2:fl=fl'
 rotate_left
 .have g2:(fl==fl')=false:=by simpa using k2
  have HV:=zh (show r=false by rw [HR.o];simp [k2]);clear HR HE1 HE2 HE3;go_enter func232,ntmps232
  go_wp2;go_ret;exact ⟨aA HV.o.symm,HK.o.1⟩
 have g2:(fl==fl')=true:=by simpa using k2
 have HC2:=zh k2;clear k2;by_cases k3:rm=rm'
 rotate_left
 .have g3:(rm==rm')=false:=by simpa using k3
  have HV:=zh (show r=false by rw [HR.o];simp [k3]);clear HR HE1 HE2 HE3;go_enter func232,ntmps232
  go_wp2;go_ret;exact ⟨aA HV.o.symm,HK.o.1⟩
 have g3:(rm==rm')=true:=by simpa using k3
 have HC3:=zh k3;clear k3;go_enter func232,ntmps232
 go_wp2_with fail
 refine (HE1.o _ HK.o.1).mono ?_;rintro e w1 ⟨rfl,hb1⟩;have HK1:=zh (xA (HK.o.1.trans (hb1.mono HK.o.1.size)) (xA (HK.o.2.1.bw hb1) (HK.o.2.2.bw hb1)));clear hb1 HK B0;by_cases k4:sl=sl'
 rotate_left
 .rw [xS k4];have HV:=zh (show r=false by rw [HR.o];simp [k4]);go_wp2;go_ret;exact ⟨aA HV.o.symm,HK1.o.1⟩
 rw [xR k4];have HC4:=zh k4;clear k4;obtain ⟨p0,p1,p2,p3,p4,p5⟩:=(HK1.o.2.1).ly6;obtain ⟨q0,q1,q2,q3,q4,q5⟩:=(HK1.o.2.2).ly6;go_wp2_with fail
 refine (HE2.o _ HK1.o.1).mono ?_;rintro e w2 ⟨rfl,hb2⟩;have HK2:=zh (xA (HK1.o.1.trans (hb2.mono HK1.o.1.size)) (xA (HK1.o.2.1.bw hb2) (HK1.o.2.2.bw hb2)));clear hb2 p0 p1 p2 p3 p4 p5 q0 q1 q2 q3 q4 q5;by_cases k5:pl=pl'
 rotate_left
 .rw [xS k5];have HV:=zh (show r=false by rw [HR.o];simp [k5]);go_wp2;go_ret;exact ⟨aA HV.o.symm,HK2.o.1⟩
 rw [xR k5];have HC5:=zh k5;clear k5;obtain ⟨p0,p1,p2,p3,p4,p5⟩:=(HK2.o.2.1).ly6;obtain ⟨q0,q1,q2,q3,q4,q5⟩:=(HK2.o.2.2).ly6;go_wp2_with fail
 refine (HE3.o _ HK2.o.1).mono ?_;rintro e w3 ⟨rfl,hb3⟩;have HB3:=zh (HK2.o.1.trans (hb3.mono HK2.o.1.size));have HV:=zh (show decide (tg=tg')=r by rw [HR.o];simp [HC1.o,HC2.o,HC3.o,HC4.o,HC5.o]);rw [HV.o];clear hb3 p0 p1 p2 p3 p4 p5 q0 q1 q2 q3 q4 q5 HR;cases r
 all_goals
  go_wp2;go_ret;exact ⟨rfl,HB3.o⟩
theorem aJa (gs:List Nat)(bl:List Bk):(reb gs bl).map (fun B=>B.2.2.2)=bl.map (fun B=>B.2.2.2):=by
 apply List.ext_getElem
 .simp [mR]
 .intro i h1 h2;simp [reb] at h1 ⊢;simp [h1]
theorem aM3 {W:qw}(h:eK c m m' W):m'.pm=m.pm:=by
 obtain ⟨g1,g2,g3,g5,g6,g7,gs,rfl,_⟩:=h;simp only [Md.pm,aJa]
theorem aB0 {W:qw}(h:RowM W c n ms ms')(hl:ms'.length=n)(hl0:ms.length=n):aE ms'=aE ms:=by
 apply List.ext_getElem
 .simp [aE,hl,hl0]
 .intro i h1 h2;simp only [aE,xH] at h1 h2;have e:=aM3 (h.2.2 i (by omega)).2;simpa [aE,xB,h1,h2] using e
theorem yG {W:qw}(h:eK c m m' W)(hb:m.bl.length=m.bn):m'.size=m.size:=by
 obtain ⟨g1,g2,g3,g5,g6,g7,gs,rfl,_⟩:=h;exact aI9 _ _ _ _ _ _ _ _ _ _ _ hb
theorem aI4 {W w:qw}(h:RowM W c n ms ms')(hl:ms'.length=n)(hm:MS w a n cap ms)(hs:∀ i,i<n->(ms.getD i aK).size<=1048576):MSD W (qP c) n n ms':=
 ⟨h.ms hl hm,fun i hi=>aJ3 (aGh (hm.2.2.2.1 i hi) (h.2.2 i (by omega)).2) (by
  have e:=yG (h.2.2 i (by omega)).2 (hm.2.2.2.1 i hi).b.1;have:=hs i hi;unfold Md.size at e this;rw [e]
  exact this)⟩
def Sm (W:qw)(c j:Nat):Prop:=c<j/\j<W.heap.size/\¬ ∃ cs,Blk W j cs 25
def bnF (m:Md)(j:Nat):Rw3:=((m.bl.getD j zB).1,(m.bl.getD j zB).2.1,(m.bl.getD j zB).2.2.1)
theorem SlB.congr {w:qw}{f f':Nat->Rw3}(h:SlB S w a n f)(e:∀ i,i<n->f' i=f i):SlB S w a n f':=
 ⟨fun hn=>by obtain ⟨g,o,cs,t,ha,hs,hb,hl⟩:=h.head hn;exact ⟨g,o,cs,t,ha,hs,hb,fun i hi=>by rw [e i hi];exact hl i hi⟩,fun i hi=>by rw [e i hi];exact h.rows i hi⟩
theorem rG {f f':Nat->Rw3}:∀ n,(∀ i,i<n->f' i=f i)->bJ f' n=bJ f n
 | 0,_=>rfl
 | n+1,e=>by show bJ f' n+(f' n).2.1=bJ f n+(f n).2.1;rw [rG n (fun i hi=>e i (by omega)),e n (by omega)]
theorem wD {W:qw}{j:Nat}{cs:Array Value}{t:TypeId}(h1:c<j)(hb:Blk W j cs t)(hne:t≠25):Sm W c j:=⟨h1,hb.lt,fun ⟨c2,k2⟩=>hne (aI hb k2)⟩
theorem uA {w W:qw}(hm:m.mt w)(h:eK c m m' W):Rws (Sm W c) W c m' (bnF m')/\bJ (bnF m') m'.bn=upS (fun j=>(m.bl.getD j zB).2.1) m.bn:=by
 obtain ⟨g1,g2,g3,g5,g6,g7,gs,rfl,l1,l2,l3,l4,l5,l6,hg,r1,r2,r3,r5,r6,r7⟩:=h;have hbl:m.bl.length=m.bn:=hm.b.1;have s1:Sm W c g1:=wD (by omega) (show Blk W g1 _ _ from r1) (by decide);have s3:Sm W c g3:=wD (by omega) (show Blk W g3 _ _ from r3) (by decide);have s5:Sm W c g5:=wD (by omega) (show Blk W g5 _ _ from r5) (by decide);have s6:Sm W c g6:=wD (by omega) (show Blk W g6 _ _ from r6) (by decide);have s7:Sm W c g7:=by obtain ⟨⟨cx,hx,_⟩,_⟩:=r7;exact wD (by omega) hx (by decide)
 have s2:¬ Sm W c g2:=fun e=>by obtain ⟨⟨cur,h2,_⟩,_⟩:=r2;exact e.2.2 ⟨cur,h2⟩
 have sb:∀ i,i<m.bn->Sm W c (gs.getD i 0):=fun i hi=>by
  obtain ⟨q1,q2⟩:=r2.2.1 i (by omega);exact wD (by omega) (show Blk W (gs.getD i 0) _ _ from q1) (by decide)
 have e:∀ i,i<m.bn->bnF ⟨m.nm,some (qR g1 0),m.tn,m.tn,m.tz,some (qR g2 0),m.bn,m.bn,reb gs m.bl,some (qR g3 0),m.dn,m.dn,m.dz,m.bss,some (qR g5 0),m.rn,m.rn,m.rz,some (qR g6 0),m.im,m.im,m.ss,some (qR g7 0),m.en,m.en,m.es⟩ i=aDe gs m.bl i:=fun i hi=>by
  unfold bnF;rw [gW _ _ _];rfl
 obtain ⟨t1,t2,t3,t5,t6,t7⟩:=aOt hm hg r1 r2 r3 r5 r6 r7 s1 s2 sb s3 s5 s6 s7;refine ⟨⟨t1,t2.congr e,t3,t5,t6,t7,fun g o hh=>?_⟩,?_⟩
 .simp at hh;omega
 .rw [rG _ e,wC]
theorem aB1 {W w:qw}(h:RowM W c n ms ms')(hl:ms'.length=n)(hm:MS w a n cap ms):Mrs (Sm W c) W c n ms' (fun i=>bnF (ms'.getD i aK)):=by
 obtain ⟨⟨cur,hb,hsz⟩,_,hr⟩:=h;refine ⟨fun e=>by have:=e.1;omega,⟨cur,hb,fun i hi=>?_⟩,fun i hi=>(uA (hm.2.2.2.1 i hi) (hr i (by omega)).2).1⟩;obtain ⟨h0,h1,h2,h3,h4,h5,h6,h7⟩:=(hr i (by omega)).1;exact ⟨⟨_,(hb.cell _).symm.trans h0⟩,(hb.cell _).symm.trans h1,(hb.cell _).symm.trans h2,(hb.cell _).symm.trans h3,⟨_,(hb.cell _).symm.trans h4⟩,(hb.cell _).symm.trans h5,(hb.cell _).symm.trans h6,(hb.cell _).symm.trans h7⟩
theorem aI5 {W w:qw}(h:RowM W c n ms ms')(hl:ms'.length=n)(hm:MS w a n cap ms)(hz:n+upS (fun j=>(ms.getD j aK).size) n<=1048576):
 upS (gI ms' (fun i=>bnF (ms'.getD i aK))) n<=3145728/\(∀ i,i<n->(ms'.getD i aK).bn<=1048576)/\(∀ i,i<n->gI ms' (fun i=>bnF (ms'.getD i aK)) i<=4194304/\(ms'.getD i aK).tn<=1048576/\(ms'.getD i aK).dn<=1048576/\(ms'.getD i aK).rn<=1048576/\(ms'.getD i aK).im<=1048576/\(ms'.getD i aK).en<=1048576/\bJ (bnF (ms'.getD i aK)) (ms'.getD i aK).bn<=1048576):=by
 have key:∀ i,i<n->gI ms' (fun i=>bnF (ms'.getD i aK)) i<=2+3*(ms.getD i aK).size/\(ms'.getD i aK).bn<=(ms.getD i aK).size/\(ms'.getD i aK).tn<=(ms.getD i aK).size/\(ms'.getD i aK).dn<=(ms.getD i aK).size/\(ms'.getD i aK).rn<=(ms.getD i aK).size/\(ms'.getD i aK).im<=(ms.getD i aK).size/\(ms'.getD i aK).en<=(ms.getD i aK).size/\bJ (bnF (ms'.getD i aK)) (ms'.getD i aK).bn<=(ms.getD i aK).size:=fun i hi=>by
  have hc:=(h.2.2 i (by omega)).2;have e1:=(uA (hm.2.2.2.1 i hi) hc).2
  have e2:(ms'.getD i aK).tn=(ms.getD i aK).tn/\(ms'.getD i aK).bn=(ms.getD i aK).bn/\(ms'.getD i aK).dn=(ms.getD i aK).dn/\(ms'.getD i aK).rn=(ms.getD i aK).rn/\(ms'.getD i aK).im=(ms.getD i aK).im/\(ms'.getD i aK).en=(ms.getD i aK).en:=by
   obtain ⟨g1,g2,g3,g5,g6,g7,gs,e,_⟩:=hc;rw [e];exact ⟨rfl,rfl,rfl,rfl,rfl,rfl⟩
  obtain ⟨f1,f2,f3,f4,f5,f6⟩:=e2;have e3:(ms.getD i aK).size=(ms.getD i aK).nm.size+(ms.getD i aK).tn+((ms.getD i aK).bn+upS (fun j=>((ms.getD i aK).bl.getD j zB).2.1) (ms.getD i aK).bn)+(ms.getD i aK).dn+(ms.getD i aK).rn+((ms.getD i aK).im+upS (fun j=>((ms.getD i aK).ss.getD j zS).size) (ms.getD i aK).im)+((ms.getD i aK).en+upS (fun j=>((ms.getD i aK).es.getD j zE).1.size) (ms.getD i aK).en):=rfl;unfold gI;rw [e1,f1,f2,f3,f4,f5,f6,e3];omega
 have hle:∀ i,i<n->(ms.getD i aK).size<=1048576:=fun i hi=>by have:=yN (fun j=>(ms.getD j aK).size) n i hi;omega
 refine ⟨?_,fun i hi=>by have:=key i hi;have:=hle i hi;omega,fun i hi=>by have:=key i hi;have:=hle i hi;omega⟩
 have hsum:∀ q,q<=n->upS (gI ms' (fun i=>bnF (ms'.getD i aK))) q<=2*q+3*upS (fun j=>(ms.getD j aK).size) q:=by
  intro q
  induction q with
  | zero=>intro _;simp [upS]
  | succ q ih=>
    intro hq;have h1:=ih (by omega);have h2:=(key q (by omega)).1;show upS _ q+gI ms' (fun i=>bnF (ms'.getD i aK)) q<=2*(q+1)+3*(upS _ q+(ms.getD q aK).size);omega
 have:=hsum n aN;omega
theorem LayO.kept {W W':qw}(h:LayO W base L a0 c0 xs a2 c2 a5 c5 ts)(t:Turn S W W')(hs:∀ j,base<=j->j<W.heap.size->¬ S j):LayO W' base L a0 c0 xs a2 c2 a5 c5 ts where
 p:=h.p.kept t (fun k hk=>hs k (h.p.lt.1 k hk).1 (h.p.lt.1 k hk).2) (fun x hx k hk=>hs k (h.p.lt.2 x hx k hk).1 (h.p.lt.2 x hx k hk).2)
 ps:=h.ps
 s:=h.s.kept t (fun k hk=>hs k (h.s.lt k hk).1 (h.s.lt k hk).2)
 t:=h.t.kept t (fun k hk=>hs k (h.t.lt.1 k hk).1 (h.t.lt.1 k hk).2) (fun x hx k hk=>hs k (h.t.lt.2 x hx k hk).1 (h.t.lt.2 x hx k hk).2)
 tt:=h.tt
 sp:=h.sp
theorem LayO.below' {W W':qw}(h:LayO W base L a0 c0 xs a2 c2 a5 c5 ts)(hb:qY W W'):LayO W' base L a0 c0 xs a2 c2 a5 c5 ts:=h.kept (S:=fun _=>False) (aJ hb) (fun _ _ _ s=>s)
def Zb (zc:Array Value)(t:TypeId)(W0 X:qw)(o:Option Nat):Prop:=qY W0 X/\∀ g,o=some g->W0.heap.size<=g/\Blk X g zc t
section
variable {zc:Array Value}{t:TypeId}{W0 X Y:qw}{o:Option Nat}
theorem aN1 (zc:Array Value)(t:TypeId)(W0:qw):Zb zc t W0 W0 none:=⟨brf,fun g e=>by cases e⟩
theorem Zb.bw (h:Zb zc t W0 X o)(hb:qY X Y):Zb zc t W0 Y o:=⟨h.1.trans (hb.mono h.1.size),fun g e=>⟨(h.2 g e).1,(h.2 g e).2.bw hb⟩⟩
theorem Zb.drew (h:Zb zc t W0 X o):Zb zc t W0 X.drew o:=⟨h.1.drew,fun g e=>⟨(h.2 g e).1,(h.2 g e).2⟩⟩
theorem Zb.box (h:Zb zc t W0 X none):Zb zc t W0 (X.alloc (.cells zc t)) (some X.heap.size):=⟨h.1.alloc h.1.size _,fun g e=>by cases e;exact ⟨h.1.size,Blk.new X zc t⟩⟩
end
section
variable {zc:Array Value}{t:TypeId}{n g:Nat}{ms m:List Md}{W0 X Y:qw}{o:Option Nat}
end
section
variable {base:Nat}{L:Lay}{W0 X:qw}{gb:Nat}{a0:qO}{c0:Nat}{xs:List PB}{a2:qO}{c2:Nat}{a5:qO}{c5:Nat}{ts:List TB}
end
section
variable {cf:Array Value}{tc:TypeId}{base:Nat}{L:Lay}{w W5 W W':qw}{gb:Nat}{a0:qO}{c0:Nat}{xs:List PB}{a2:qO}{c2:Nat}{a5:qO}{c5:Nat}{ts:List TB}
end
def zby (n:Nat):Array Value:=((List.replicate n (0:Int)).map (Value.int .u8)).toArray
theorem wO (n:Nat)(hn:n<=16384)(W:qw):(Instr.makeSlice 28 (qI (n:Int)) (qI (n:Int))).run prog W=.ok (qS (qP W.heap.size) n n) (W.alloc (.cells (zby n) 5)):=by
 rw [run_make_row' 28 5 (.int .u8 0) 1 underlying28 wU rfl .i64 .i64 n (by omega) (by omega) W];have:=aNl n;rw [Nat.mul_one] at this;unfold zby;rw [<- this];rfl
theorem nM {W:qw}{g:Nat}(h:Blk W g (zby n) 5)(hg:base<=g)(hn:n<=16384):OB W base (qS (qP g) n n) (List.replicate n 0):=by
 refine ⟨⟨by simp,.inr ⟨g,n,zby n,by simp,hg,h,by simp,by unfold maxLen;omega,by simp [zby],?_⟩⟩,fun z hz=>by have:=List.eq_of_mem_replicate hz;omega⟩;unfold zby;simp only [List.toList_toArray,List.length_replicate,Nat.mul_one];exact xG (by simp)
def cM (zs:qi)(P:PMod)(p:Pl):Nat->List Int
 | 0=>bL zs p.text.toNat P.tz P.tz.length
 | j+1=>bL (cM zs P p j) (p.banks.getD j 0).toNat (P.bl.getD j []) (P.bl.getD j []).length
theorem aHe (zs:qi)(P:PMod)(p:Pl):∀ j,(cM zs P p j).length=zs.length
 | 0=>eX _ _ _ _
 | j+1=>by rw [cM,eX,aHe zs P p j]
def flB (ps:List PMod)(L:Lay):Nat->List Int
 | 0=>List.replicate L.flash.toNat 0
 | i+1=>cM (flB ps L i) (ps.getD i zP) (L.places.getD i zPB.1) (ps.getD i zP).bl.length
def iC (zs:qi)(f:Nat)(rz:qi)(d:Int):Nat->List Int
 | 0=>zs
 | j+1=>put (iC zs f rz d j) (f+(rz.getD j 0).toNat) (low (((iC zs f rz d j).drop (f+(rz.getD j 0).toNat)).take 4)+d) 4
theorem aB2 (zs:qi)(f:Nat)(rz:qi)(d:Int):∀ j,(iC zs f rz d j).length=zs.length
 | 0=>rfl
 | j+1=>by rw [iC,pZ,aB2 zs f rz d j]
def ovr (zs:qi)(f:Nat)(ds:qi):List Int:=zs.take f++(ds++zs.drop (f+ds.length))
theorem lC (zs:qi)(f:Nat)(ds:qi)(h:f+ds.length<=zs.length):(ovr zs f ds).length=zs.length:=by simp [ovr];omega
def raB (ps:List PMod)(L:Lay):Nat->List Int
 | 0=>List.replicate L.ram.toNat 0
 | i+1=>iC (ovr (raB ps L i) ((L.places.getD i zPB.1).data-65536).toNat (ps.getD i zP).dz) ((L.places.getD i zPB.1).data-65536).toNat (ps.getD i zP).rz (L.places.getD i zPB.1).data (ps.getD i zP).rz.length
theorem aMm {s w k d:Int}(h:lkc ps s w k d=0):(lay ps s w k).flash<=16384/\(lay ps s w k).ram<=16384:=by
 unfold lkc at h;split at h
 .rename_i h1;exact absurd h h1
 split at h
 .exact absurd h (by decide)
 split at h
 .exact absurd h (by decide)
 split at h
 .exact absurd h (by decide)
 split at h
 .exact absurd h (by decide)
 rename_i h1 h2;omega
theorem aGo {ps:List PMod}(hv:fO ps):∀ i j,i<=j->j<=ps.length->Fl ps i<=Fl ps j
 | i,0,h,_=>by
    have:i=0:=by omega
    subst this;exact Int.le_refl _
 | i,j+1,h,hj=>by
   by_cases e:i=j+1
   .subst e;exact Int.le_refl _
   .have h1:=aGo hv i j (by omega) (by omega);have hm:=hv j (by omega);have h2:=dW hm;have h3:=cC hm _ aN;show Fl ps i<=Fl ps j+(tsz (ps.getD j zP)+cA (ps.getD j zP) (ps.getD j zP).bl.length);omega
theorem aGn {ps:List PMod}(hv:fO ps):∀ i j,i<=j->j<=ps.length->Ra ps i<=Ra ps j
 | i,0,h,_=>by
    have:i=0:=by omega
    subst this;exact Int.le_refl _
 | i,j+1,h,hj=>by
   by_cases e:i=j+1
   .subst e;exact Int.le_refl _
   .have h1:=aGn hv i j (by omega) (by omega);have h2:=iH (hv j (by omega));show Ra ps i<=Ra ps j+dsz (ps.getD j zP);omega
theorem wY {P:PMod}(hv:fA P=0):∀ i j,i<=j->j<=P.bl.length->cA P i<=cA P j
 | i,0,h,_=>by
    have:i=0:=by omega
    subst this;exact Int.le_refl _
 | i,j+1,h,hj=>by
   by_cases e:i=j+1
   .subst e;exact Int.le_refl _
   .have h1:=wY hv i j (by omega) (by omega);have h2:=aR (x:=4*((P.bl.getD j []).length:Int));show cA P i<=cA P j+rnd (4*((P.bl.getD j []).length:Int));omega
structure Lkn (ps:List PMod)(L:Lay):Prop where
 n:1<=ps.length/\ps.length<=4
 v:fO ps
 im:jQ ps
 pl:L.places=(List.range ps.length).map (plc ps)
 fl:L.flash=Fl ps ps.length
 fr:0<=L.flash/\L.flash<=16384
 ra:Ra ps ps.length<=L.ram
 rr:0<=L.ram/\L.ram<=16384
 tg:L.targets=(List.range ps.length).map fun i=>tgs ps (ps.getD i zP)
 st:L.stack=65536+Ra ps ps.length
theorem jZ (h:Lok ps L):Lkn ps L:=by
 obtain ⟨h1,h2⟩:=h;have e:lay ps (L.slots.length:Int) (cfW L) (cfK L)=L:=by unfold lkL at h2;rw [if_pos h1] at h2;exact h2
 obtain ⟨hc,n1,n2,hv,hi⟩:=fY h1;obtain ⟨b1,b2⟩:=aMm h1;unfold cfo at hc;simp at hc;have a1:=cL hv ps.length aN;have a2:=bO hv ps.length aN;have a3:(0:Int)<=((L.slots.length:Int).toNat:Int)*rnd (4*cfW L):=Int.mul_nonneg (by omega) (by have:=aR (x:=4*cfW L);omega);have e1:L.flash=Fl ps ps.length:=by rw [<- e];rfl
 have e2:L.ram=Ra ps ps.length+cfK L+((L.slots.length:Int).toNat:Int)*rnd (4*cfW L):=by
  have:=congrArg Lay.ram e;rw [<- this];rfl
 rw [e] at b1 b2;exact ⟨⟨n1,n2⟩,hv,hi,by rw [<- e];rfl,e1,⟨by omega,b1⟩,by omega,⟨by omega,b2⟩,by rw [<- e];rfl,by have:=congrArg Lay.stack e;rw [<- this];rfl⟩
theorem Lkn.place (h:Lkn ps L)(i:Nat)(hi:i<ps.length):L.places.getD i zPB.1=plc ps i:=by
 rw [h.pl];simp [xB,hi]
theorem aIc (h:fA P=0):∀ j,j<P.rz.length->0<=P.rz.getD j 0/\P.rz.getD j 0+4<=(P.dz.length:Int):=by
 unfold fA mdo at h;split at h
 .exact absurd h (by decide)
 split at h
 .exact absurd h (by decide)
 split at h
 .exact absurd h (by decide)
 split at h
 .exact absurd h (by decide)
 rename_i h1 h2 h3 h4;intro j hj;have h5:rlo P.rz.length P.rz P.dz.length=true:=by simpa using h4
 unfold rlo at h5;rw [Bool.and_eq_true,List.all_eq_true] at h5;have h6:=h5.2 j (by simpa using hj);unfold rlk at h6;rw [decide_eq_true_eq] at h6;omega
theorem aKn {α:Type}(l:List α)(i:Nat)(z:α)(h:i<l.length):l.getD i z∈l:=by simp [xB,h]
theorem aDv {α:Type}(f:Nat->α)(n j:Nat)(z:α)(h:j<n):((List.range n).map f).getD j z=f j:=by simp [xB,h]
theorem aDh (h:fA P=0):(∀ i,i<P.tz.length->0<=P.tz.getD i 0/\P.tz.getD i 0<=4294967295)/\∀ k,k<P.bl.length->∀ i,i<(P.bl.getD k []).length->0<=(P.bl.getD k []).getD i 0/\(P.bl.getD k []).getD i 0<=4294967295:=by
 unfold fA at h;have V:=kY (by simp [lM]) h;refine ⟨fun i hi=>V.tw _ (by simp [xB,hi]),fun k hk i hi=>?_⟩
 have:=(V.bw k (by simp [lM];exact hk)).2 ((P.bl.getD k []).getD i 0) (by
  have e:((lM P.bl).getD k zB).2.2.2=P.bl.getD k []:=by simp [lM,xB,hk]
  rw [e]
  exact aKn _ _ _ hi)
 exact this
theorem Lkn.at (h:Lkn ps L)(i:Nat)(hi:i<ps.length):
 (0<=(plc ps i).text/\(plc ps i).text+4*((ps.getD i zP).tz.length:Int)<=L.flash)/\(plc ps i).banks.length=(ps.getD i zP).bl.length/\(∀ j,j<(ps.getD i zP).bl.length->0<=(plc ps i).banks.getD j 0/\(plc ps i).banks.getD j 0+4*(((ps.getD i zP).bl.getD j []).length:Int)<=L.flash)/\(65536<=(plc ps i).data/\(plc ps i).data-65536+((ps.getD i zP).dz.length:Int)<=L.ram):=by
 have hm:=h.v i hi;have a1:=cL h.v i (by omega);have a2:=aGo h.v (i+1) ps.length (by omega) aN;have a3:Fl ps (i+1)=Fl ps i+(tsz (ps.getD i zP)+cA (ps.getD i zP) (ps.getD i zP).bl.length):=rfl;have a4:=cC hm _ aN;have a5:=aR (x:=4*((ps.getD i zP).tz.length:Int));have a6:tsz (ps.getD i zP)=rnd (4*((ps.getD i zP).tz.length:Int)):=rfl;have b1:=bO h.v i (by omega);have b2:=aGn h.v (i+1) ps.length (by omega) aN;have b3:Ra ps (i+1)=Ra ps i+dsz (ps.getD i zP):=rfl;have b4:=bZ hm;have b5:=aR (x:=((ps.getD i zP).dz.length:Int)+(ps.getD i zP).bss);have b6:dsz (ps.getD i zP)=rnd (((ps.getD i zP).dz.length:Int)+(ps.getD i zP).bss):=rfl;have hfl:=h.fl;have hra:=h.ra;refine ⟨⟨a1.1,?_⟩,by simp [plc],fun j hj=>?_,?_,?_⟩
 .show Fl ps i+4*_<=_;omega
 .have c1:=cC hm j (by omega);have c2:=wY hm (j+1) (ps.getD i zP).bl.length (by omega) aN;have c3:cA (ps.getD i zP) (j+1)=cA (ps.getD i zP) j+rnd (4*(((ps.getD i zP).bl.getD j []).length:Int)):=rfl;have c4:=aR (x:=4*(((ps.getD i zP).bl.getD j []).length:Int));have e:(plc ps i).banks.getD j 0=Fl ps i+tsz (ps.getD i zP)+cA (ps.getD i zP) j:=aDv _ _ _ _ hj;rw [e];have c5:=dW hm;omega
 .show 65536<=65536+Ra ps i;omega
 .show 65536+Ra ps i-65536+_<=_;omega
theorem yY (L:Lay)(a0:qO)(c0:Nat)(xs:List PB)(a2:qO)(c2:Nat)(a5:qO)(c5:Nat)(ts:List TB)(w:qw)(h:LyT w L a0 c0 xs a2 c2 a5 c5 ts):
 qC 67 #[.agg (qL L a0 xs.length c0 a2 L.slots.length c2 a5 ts.length c5)] w (qB w (qI (cZ L))):=by
 have HB:Zh (qY w (w.alloc (.cells (qL L a0 xs.length c0 a2 L.slots.length c2 a5 ts.length c5) 71))):=brf.alloc aN _;have hs:=h.s.bw HB.o;have hmx:=h.s.2.1;unfold maxLen at hmx;unfold cZ;by_cases c:L.slots=[]
 .rw [if_pos c];have hl:L.slots.length=0:=by rw [c];rfl
  rw [hl];rw [hl] at HB;go_enter func67,ntmps67
  go_wp2;go_ret;exact ⟨rfl,HB.o⟩
 .rw [if_neg c];have hl:0<L.slots.length:=List.length_pos_iff.2 c;have hl':(0:Int)<(L.slots.length:Int):=by omega
  obtain ⟨b,off,rfl,hc⟩:=hs.2.2.2.1 (by omega);have q:=hc 0 hl;rw [Nat.add_zero] at q;generalize L.slots.length=n at *;generalize L.slots.getD 0 0=z at *;clear hs hc c;go_enter func67,ntmps67
  go_wp2;go_ret;exact ⟨rfl,HB.o⟩
def pcm (ms:List Md)(m b:Int):Int:=if 0<=m/\m<(ms.length:Int) then pcn (ms.getD m.toNat aK).tn (ms.getD m.toNat aK).bn (ms.getD m.toNat aK).bl b else -1
theorem kH (a:qO)(n cap:Nat)(ms:List Md)(m b:Int)(w:qw)(h:MS w a n cap ms):
 qC 80 #[qS a n cap,qI m,qI b] w (qB w (.bool (decide (0<=pcm ms m b)))):=by
 have hn:=h.1;have hm:=h.2.1;unfold maxLen at hm;have HB:=zh (Below.refl w.heap.size w);by_cases c1:m<0
 .have HP:=zh (show decide (0<=pcm ms m b)=false by unfold pcm;rw [if_neg (by omega)];rfl);rw [HP.o];clear hn;go_enter func80,ntmps80
  go_wp2;go_ret;exact ⟨rfl,HB.o⟩
 .by_cases c2:(n:Int)<=m
  .have HP:=zh (show decide (0<=pcm ms m b)=false by unfold pcm;rw [if_neg (by omega)];rfl);rw [HP.o];clear hn;go_enter func80,ntmps80
   go_wp2;go_ret;exact ⟨rfl,HB.o⟩
  .have HP:=zh (show pcm ms m b=pcn (ms.getD m.toNat aK).tn (ms.getD m.toNat aK).bn (ms.getD m.toNat aK).bl b by unfold pcm;rw [if_pos (by omega)]);rw [HP.o];clear HP;obtain ⟨g,off,rfl,q0,q1,q2,q3,q4,q5,q6,q7⟩:=h.at m.toNat (by omega);have hmt:=h.2.2.2.1 m.toNat (by omega);generalize ms.getD m.toNat aK=M at *;have HC:=zh (gR M.nm M.ta M.tn M.tc M.ba M.bn M.bc M.bl (qS M.da M.dn M.dc) (qS M.ra M.rn M.rc) (qS M.ia M.im M.ic) (qS M.ea M.en M.ec) M.bss b w hmt.t.2.1 hmt.b);have c1':0<=m:=by omega
   have c2':m<(n:Int):=by omega
   clear hn hmt h;go_enter func80,ntmps80
   go_wp2_with fail
   refine HC.o.mono ?_;rintro e w' ⟨xa,xn,xc,ok,rfl,ho,_,_,hB⟩;have HO:=zh ho;clear ho;go_wp2;go_ret;exact ⟨aA HO.o,hB⟩
theorem kK (a:qO)(n cap:Nat)(ms:List Md)(m b:Int)(w:qw)(h:MS w a n cap ms):
 qC 174 #[qS a n cap,qI m,qI b] w (qB w (.bool (decide (0<=pcm ms m b)))):=by
 have hn:=h.1;have hm:=h.2.1;unfold maxLen at hm;have HB:=zh (Below.refl w.heap.size w);by_cases c1:m<0
 .have HP:=zh (show decide (0<=pcm ms m b)=false by unfold pcm;rw [if_neg (by omega)];rfl);rw [HP.o];clear hn;have HU:=zh (cX m ((n:Int)-1));go_enter func174,ntmps174
  go_wp2_with (go_at_call 155;refine (HU.o _).mono ?_;rintro e w2 ⟨rfl,rfl⟩;rw [xS (by omega)])
  go_ret;exact ⟨rfl,HB.o⟩
 .by_cases c2:(n:Int)<=m
  .have HP:=zh (show decide (0<=pcm ms m b)=false by unfold pcm;rw [if_neg (by omega)];rfl);rw [HP.o];clear hn;have HU:=zh (cX m ((n:Int)-1));go_enter func174,ntmps174
   go_wp2_with (go_at_call 155;refine (HU.o _).mono ?_;rintro e w2 ⟨rfl,rfl⟩;rw [xS (by omega)])
   go_ret;exact ⟨rfl,HB.o⟩
  .have HP:=zh (show pcm ms m b=pcn (ms.getD m.toNat aK).tn (ms.getD m.toNat aK).bn (ms.getD m.toNat aK).bl b by unfold pcm;rw [if_pos (by omega)]);rw [HP.o];clear HP;obtain ⟨g,off,rfl,q0,q1,q2,q3,q4,q5,q6,q7⟩:=h.at m.toNat (by omega);have hmt:=h.2.2.2.1 m.toNat (by omega);generalize ms.getD m.toNat aK=M at *;have HC:=zh (gQ M.nm M.ta M.tn M.tc M.ba M.bn M.bc M.bl (qS M.da M.dn M.dc) (qS M.ra M.rn M.rc) (qS M.ia M.im M.ic) (qS M.ea M.en M.ec) M.bss b w hmt.t.2.1 hmt.b);have c1':0<=m:=by omega
   have c2':m<(n:Int):=by omega
   clear hn hmt h;have HU:=zh (cX m ((n:Int)-1));go_enter func174,ntmps174
   go_wp2_with (go_at_call 155;refine (HU.o _).mono ?_;rintro e w2 ⟨rfl,rfl⟩;rw [xR (by omega)])
   refine HC.o.mono ?_;rintro e w' ⟨xa,xn,xc,ok,rfl,ho,_,_,hB⟩;have HO:=zh ho;clear ho;go_wp2;go_ret;exact ⟨aA HO.o,hB⟩
