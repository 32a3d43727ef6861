import Derived.Deep.OwnRows
import Derived.Laws.AppendOwnNone
import Derived.Test.YtcimaholejajpaaGreatF04
set_option linter.all false
set_option maxHeartbeats 8000000
namespace Go.Proofs.YtcimaholejajpaaGreat
open Go.RowKit Classical
open Go.Proofs.Tryz
set_option maxRecDepth 100000
variable {B G N b base c c0 c2 c5 cap g gm k k' n r sz:Nat}{L:Lay}{S:Nat->Prop}{a a0 a2 a5:qO}{cs:Array Value}{d i o pc x:Int}{fd:Bool}{ts:List TB}{u v v0 v1 v2:Value}{xs:List PB}
theorem tW (t d z:Int)(a:qO)(n c:Nat)(bs:qi)(t' d' z':Int)(a':qO)(n' c':Nat)(bs':qi)(w:qw)(h:IS w a n c bs)(h':IS w a' n' c' bs'):
 qC 160 #[.agg #[qI t,qS a n c,qI d,qI z],.agg #[qI t',qS a' n' c',qI d',qI z']] w fun e w'=>e=.returned (.bool (decide ((⟨t,bs,d,z⟩:Pl)=⟨t',bs',d',z'⟩)))/\qY w w':=by
 have B0:qY w ((w.alloc (.cells #[qI t,qS a n c,qI d,qI z] 136)).alloc (.cells #[qI t',qS a' n' c',qI d',qI z'] 136)):=bal.alloc (by simp) _;have HB0:=zh B0;have HEQ:=zh (lP a a' n c n' c' bs bs' _ (h.bw B0) (h'.bw B0));clear B0 h h';obtain ⟨r,hr⟩:=eqx (decide ((⟨t,bs,d,z⟩:Pl)=⟨t',bs',d',z'⟩));rw [<- hr];simp only [Pl.mk.injEq] at hr;have HR:=zh hr;clear hr;by_cases c1:t=t'
 .by_cases c2:d=d'
  .by_cases c3:z=z'
   .have g1:(t==t')=true:=by simpa using c1
    have g2:(d==d')=true:=by simpa using c2
    have g3:(z==z')=true:=by simpa using c3
    have HV:=zh (show decide (bs=bs')=r by rw [HR.o];simp [c1,c2,c3]);rw [HV.o] at HEQ;clear c1 c2 c3 HR;go_enter func160,ntmps160
    go_wp2_with fail
    refine HEQ.o.mono ?_;rintro e w1 ⟨rfl,hb1⟩;cases r
    all_goals
     go_wp2;go_ret;exact ⟨rfl,HB0.o.trans (hb1.mono HB0.o.size)⟩
   .have g1:(t==t')=true:=by simpa using c1
    have g2:(d==d')=true:=by simpa using c2
    have g3:(z==z')=false:=by simpa using c3
    have HV:=zh (show r=false by rw [HR.o];simp [c3]);clear c1 c2 c3 HR HEQ;go_enter func160,ntmps160
    go_wp2;go_ret;exact ⟨aB HV.o.symm,HB0.o⟩
  .have g1:(t==t')=true:=by simpa using c1
   have g2:(d==d')=false:=by simpa using c2
   have HV:=zh (show r=false by rw [HR.o];simp [c2]);clear c1 c2 HR HEQ;go_enter func160,ntmps160
   go_wp2;go_ret;exact ⟨aB HV.o.symm,HB0.o⟩
 .have g1:(t==t')=false:=by simpa using c1
  have HV:=zh (show r=false by rw [HR.o];simp [c1]);clear c1 HR HEQ;go_enter func160,ntmps160
  go_wp2;go_ret;exact ⟨aB HV.o.symm,HB0.o⟩
theorem bK {α β:Type}(f:α->β)(xs:List α)(i:Nat)(a:α)(b:β)(h:i<xs.length:=by omega):(xs.map f).getD i b=f (xs.getD i a):=by
 simp [xB,h]
theorem sV (a a':qO)(n cap n' cap':Nat)(xs ys:List PB)(w:qw)(h:PlS w a n cap xs)(h':PlS w a' n' cap' ys):
 qC 159 #[qS a n cap,qS a' n' cap',.func (.func 160) #[] #[]] w fun e w'=>e=.returned (.bool (decide (xs.map (fun x=>x.1)=ys.map (fun x=>x.1))))/\qY w w':=by
 have hl:=h.1;have hl':=h'.1;have hmx:=h.2.1;have hmx':=h'.2.1;unfold maxLen at hmx hmx';obtain ⟨r,hr⟩:=eqx (decide (xs.map (fun x=>x.1)=ys.map (fun x=>x.1)));rw [<- hr];have HR:=zh hr;clear hr;by_cases hn:n=n'
 .subst hn;have hne:((n:Int) !=(n:Int))=false:=by simp
  go_enter func159,ntmps159
  go_wp2;go_loopw [17] (fun i wr=>∃ k:Nat,k<=n/\i=qI k/\(xs.map (fun x=>x.1)).take k=(ys.map (fun x=>x.1)).take k/\qY w wr) (qf n)
  .exact ⟨0,xC _,rfl,by simp,brf⟩
  .obtain ⟨k,hk,rfl,hT,hB⟩:=hrel;by_cases hlt:k<n
   .have hlt':(k:Int)<(n:Int):=by omega
    obtain ⟨b,off,rfl,q0,q1,q2,q3⟩:=(h.bw hB).at k hlt;obtain ⟨b',off',rfl,p0,p1,p2,p3⟩:=(h'.bw hB).at k hlt;have i1:=(h.bw hB).2.2.2.1 k hlt;have i2:=(h'.bw hB).2.2.2.1 k hlt;have HGO:Zh ((xs.getD k zPB).1=(ys.getD k zPB).1->(xs.map (fun x=>x.1)).take (k+1)=(ys.map (fun x=>x.1)).take (k+1)):=fun he=>cY zPB.1 _ _ k hT (by simp;omega) (by simp;omega) (by rw [bK _ _ _ zPB _,bK _ _ _ zPB _,he])
    have HNO:=zh (show (xs.getD k zPB).1≠(ys.getD k zPB).1->r=false from fun he=>by
     rw [HR.o,decide_eq_false_iff_not];intro e;have e2:=congrArg (fun l=>l.getD k zPB.1) e;try simp only at e2
     rw [bK _ _ _ zPB _,bK _ _ _ zPB _] at e2
     exact he e2)
    clear hT;unfold svP at q1 p1;generalize xs.getD k zPB=x at *;generalize ys.getD k zPB=y at *;obtain ⟨⟨xt,xb,xd,xz⟩,xa,xc⟩:=x;obtain ⟨⟨yt,yb,yd,yz⟩,ya,yc⟩:=y;dsimp only at q0 q1 q2 q3 p0 p1 p2 p3 i1 i2 HGO HNO;have hlb:=xD _ _ q0;have hlb':=xD _ _ p0;have HB2:qY wr ((wr.alloc (.cells #[qI xt,qS xa xb.length xc,qI xd,qI xz] 136)).alloc (.cells #[qI yt,qS ya yb.length yc,qI yd,qI yz] 136)):=bal.alloc (by simp) _;have HSP:=zh (tW xt xd xz xa xb.length xc xb yt yd yz ya yb.length yc yb _ (i1.bw HB2) (i2.bw HB2));have HB3:=zh (hB.trans (HB2.mono hB.size));clear i1 i2 HB2 hB;by_cases he:(⟨xt,xb,xd,xz⟩:Pl)=⟨yt,yb,yd,yz⟩
    .rw [xR he] at HSP;have HG:=zh (HGO.o he);clear he HGO HNO;go_wp2_with fail
     refine HSP.o.mono ?_;rintro e w1 ⟨rfl,hb1⟩;have HB4:=zh (HB3.o.trans (hb1.mono HB3.o.size));clear q0 q1 q2 q3 p0 p1 p2 p3 hb1 HSP;go_wp2
     go_roundw
     .exact ⟨k+1,by omega,by go_num,HG.o,HB4.o⟩
     .simp [qf,intOf];omega
    .rw [xS he] at HSP;have HG:=zh (HNO.o he);clear he HGO HNO;go_wp2_with fail
     refine HSP.o.mono ?_;rintro e w1 ⟨rfl,hb1⟩;have HB4:=zh (HB3.o.trans (hb1.mono HB3.o.size));clear q0 q1 q2 q3 p0 p1 p2 p3 hb1 HSP;go_wp2;go_ret;exact ⟨aB HG.o.symm,HB4.o⟩
   .have hf:Zh (r=true):=by
     show _=_;rw [HR.o];simp;rw [xG (by simp;omega),xG (by simp;omega)] at hT;exact hT
    clear hT;go_wp2;go_ret;exact ⟨aB hf.o.symm,hB⟩
 .have hf:Zh (r=false):=by
   show _=_;rw [HR.o,decide_eq_false_iff_not];intro e;have:=congrArg List.length e;simp at this;omega
  have hne:((n:Int) !=(n':Int))=true:=by simp;omega
  go_enter func159,ntmps159
  go_wp2;go_ret;exact ⟨aB hf.o.symm,brf⟩
theorem sU (a a':qO)(n cap n' cap':Nat)(xs ys:List TB)(w:qw)(h:TsS w a n cap xs)(h':TsS w a' n' cap' ys):
 qC 161 #[qS a n cap,qS a' n' cap',.func (.func 162) #[] #[]] w fun e w'=>e=.returned (.bool (decide (xs.map (fun x=>x.1)=ys.map (fun x=>x.1))))/\qY w w':=by
 have hl:=h.1;have hl':=h'.1;have hmx:=h.2.1;have hmx':=h'.2.1;unfold maxLen at hmx hmx';obtain ⟨r,hr⟩:=eqx (decide (xs.map (fun x=>x.1)=ys.map (fun x=>x.1)));rw [<- hr];have HR:=zh hr;clear hr;by_cases hn:n=n'
 .subst hn;have hne:((n:Int) !=(n:Int))=false:=by simp
  go_enter func161,ntmps161
  go_wp2;go_loopw [17] (fun i wr=>∃ k:Nat,k<=n/\i=qI k/\(xs.map (fun x=>x.1)).take k=(ys.map (fun x=>x.1)).take k/\qY w wr) (qf n)
  .exact ⟨0,xC _,rfl,by simp,brf⟩
  .obtain ⟨k,hk,rfl,hT,hB⟩:=hrel;by_cases hlt:k<n
   .have hlt':(k:Int)<(n:Int):=by omega
    obtain ⟨b,off,rfl,q0⟩:=(h.bw hB).at k hlt;obtain ⟨b',off',rfl,p0⟩:=(h'.bw hB).at k hlt;have i1:=(h.bw hB).2.2.2.1 k hlt;have i2:=(h'.bw hB).2.2.2.1 k hlt;have HGO:Zh ((xs.getD k zTB).1=(ys.getD k zTB).1->(xs.map (fun x=>x.1)).take (k+1)=(ys.map (fun x=>x.1)).take (k+1)):=fun he=>cY zTB.1 _ _ k hT (by simp;omega) (by simp;omega) (by rw [bK _ _ _ zTB _,bK _ _ _ zTB _,he])
    have HNO:=zh (show (xs.getD k zTB).1≠(ys.getD k zTB).1->r=false from fun he=>by
     rw [HR.o,decide_eq_false_iff_not];intro e;have e2:=congrArg (fun l=>l.getD k zTB.1) e;try simp only at e2
     rw [bK _ _ _ zTB _,bK _ _ _ zTB _] at e2
     exact he e2)
    clear hT;unfold svT at q0 p0;generalize xs.getD k zTB=x at *;generalize ys.getD k zTB=y at *;obtain ⟨xl,xa,xc⟩:=x;obtain ⟨yl,ya,yc⟩:=y;dsimp only at q0 p0 i1 i2 HGO HNO;have HSP:=zh (vV xa ya xl.length xc yl.length yc xl yl _ i1 i2);have HB3:=zh hB;clear i1 i2 hB;by_cases he:xl=yl
    .rw [xR he] at HSP;have HG:=zh (HGO.o he);clear he HGO HNO;go_wp2_with fail
     refine HSP.o.mono ?_;rintro e w1 ⟨rfl,hb1⟩;have HB4:=zh (HB3.o.trans (hb1.mono HB3.o.size));clear q0 p0 hb1 HSP;go_wp2
     go_roundw
     .exact ⟨k+1,by omega,by go_num,HG.o,HB4.o⟩
     .simp [qf,intOf];omega
    .rw [xS he] at HSP;have HG:=zh (HNO.o he);clear he HGO HNO;go_wp2_with fail
     refine HSP.o.mono ?_;rintro e w1 ⟨rfl,hb1⟩;have HB4:=zh (HB3.o.trans (hb1.mono HB3.o.size));clear q0 p0 hb1 HSP;go_wp2;go_ret;exact ⟨aB HG.o.symm,HB4.o⟩
   .have hf:Zh (r=true):=by
     show _=_;rw [HR.o];simp;rw [xG (by simp;omega),xG (by simp;omega)] at hT;exact hT
    clear hT;go_wp2;go_ret;exact ⟨aB hf.o.symm,hB⟩
 .have hf:Zh (r=false):=by
   show _=_;rw [HR.o,decide_eq_false_iff_not];intro e;have:=congrArg List.length e;simp at this;omega
  have hne:((n:Int) !=(n':Int))=true:=by simp;omega
  go_enter func161,ntmps161
  go_wp2;go_ret;exact ⟨aB hf.o.symm,brf⟩
theorem Blk.ly6 {w:qw}{t:TypeId}{v3 v4 v5:Value}(h:Blk w b #[v0,v1,v2,v3,v4,v5] t):w.cell? (qR b 0)=some v0/\w.cell? (qR b 1)=some v1/\w.cell? (qR b 2)=some v2/\w.cell? (qR b 3)=some v3/\w.cell? (qR b 4)=some v4/\w.cell? (qR b 5)=some v5:=⟨h.cell 0,h.cell 1,h.cell 2,h.cell 3,h.cell 4,h.cell 5⟩
theorem pZ (L:Lay)(a0:qO)(c0:Nat)(xs:List PB)(a2:qO)(c2:Nat)(a5:qO)(c5:Nat)(ts:List TB)(L':Lay)(a0':qO)(c0':Nat)(xs':List PB)(a2':qO)(c2':Nat)(a5':qO)(c5':Nat)(ts':List TB)(w:qw)(h:LyT w L a0 c0 xs a2 c2 a5 c5 ts)(h':LyT w L' a0' c0' xs' a2' c2' a5' c5' ts'):
 qC 146 #[.agg (qJ L a0 xs c0 a2 c2 a5 ts c5),.agg (qL L' a0' xs'.length c0' a2' L'.slots.length c2' a5' ts'.length c5')] w (qB w (.bool (decide (L=L')))):=by
 have hps:=h.ps;have hps':=h'.ps;have htt:=h.tt;have htt':=h'.tt;have HE1:=zh (fun (W:qw) (hb:qY w W)=>lP a2 a2' L.slots.length c2 L'.slots.length c2' L.slots L'.slots W (h.s.bw hb) (h'.s.bw hb));have HE2:=zh (fun (W:qw) (hb:qY w W)=>sV a0 a0' xs.length c0 xs'.length c0' xs xs' W (h.p.bw hb) (h'.p.bw hb));have HE3:=zh (fun (W:qw) (hb:qY w W)=>sU a5 a5' ts.length c5 ts'.length c5' ts ts' W (h.t.bw hb) (h'.t.bw hb));rw [hps,hps'] at HE2;rw [htt,htt'] at HE3;clear h h' hps hps' htt htt';obtain ⟨pl,st,sl,fl,rm,tg⟩:=L;obtain ⟨pl',st',sl',fl',rm',tg'⟩:=L';dsimp only at HE1 HE2 HE3 ⊢;obtain ⟨r,hr⟩:=eqx (decide ((⟨pl,st,sl,fl,rm,tg⟩:Lay)=⟨pl',st',sl',fl',rm',tg'⟩));rw [<- hr];simp only [Lay.mk.injEq] at hr;have HR:=zh hr;clear hr;have B0:qY w ((w.alloc (.cells #[qS a0 xs.length c0,qI st,qS a2 sl.length c2,qI fl,qI rm,qS a5 ts.length c5] 64)).alloc (.cells #[qS a0' xs'.length c0',qI st',qS a2' sl'.length c2',qI fl',qI rm',qS a5' ts'.length c5'] 64)):=bal.alloc (by simp) _;have u:=(Blk.new w #[qS a0 xs.length c0,qI st,qS a2 sl.length c2,qI fl,qI rm,qS a5 ts.length c5] 64).alloc (.cells #[qS a0' xs'.length c0',qI st',qS a2' sl'.length c2',qI fl',qI rm',qS a5' ts'.length c5'] 64);have v:=Blk.new (w.alloc (.cells #[qS a0 xs.length c0,qI st,qS a2 sl.length c2,qI fl,qI rm,qS a5 ts.length c5] 64)) #[qS a0' xs'.length c0',qI st',qS a2' sl'.length c2',qI fl',qI rm',qS a5' ts'.length c5'] 64;try unfold qY at *
 simp only [xF] at v;have HK:=zh (xA B0 (xA u v));clear u v;by_cases k1:st=st'
 rotate_left
 .have g1:(st==st')=false:=by simpa using k1
  have HV:=zh (show r=false by rw [HR.o];simp [k1]);clear HR HE1 HE2 HE3;go_enter func146,ntmps146
  go_wp2;go_ret;exact ⟨aB HV.o.symm,HK.o.1⟩
 have g1:(st==st')=true:=by simpa using k1
 have HC1:=zh k1;clear k1;by_cases k2:fl=fl'
 rotate_left
 .have g2:(fl==fl')=false:=by simpa using k2
  have HV:=zh (show r=false by rw [HR.o];simp [k2]);clear HR HE1 HE2 HE3;go_enter func146,ntmps146
  go_wp2;go_ret;exact ⟨aB HV.o.symm,HK.o.1⟩
 have g2:(fl==fl')=true:=by simpa using k2
 have HC2:=zh k2;clear k2;by_cases k3:rm=rm'
 rotate_left
 .have g3:(rm==rm')=false:=by simpa using k3
  have HV:=zh (show r=false by rw [HR.o];simp [k3]);clear HR HE1 HE2 HE3;go_enter func146,ntmps146
  go_wp2;go_ret;exact ⟨aB HV.o.symm,HK.o.1⟩
 have g3:(rm==rm')=true:=by simpa using k3
 have HC3:=zh k3;clear k3;go_enter func146,ntmps146
 go_wp2_with fail
 refine (HE1.o _ HK.o.1).mono ?_;rintro e w1 ⟨rfl,hb1⟩;have HK1:=zh (xA (HK.o.1.trans (hb1.mono HK.o.1.size)) (xA (HK.o.2.1.bw hb1) (HK.o.2.2.bw hb1)));clear hb1 HK B0;by_cases k4:sl=sl'
 rotate_left
 .rw [xS k4];have HV:=zh (show r=false by rw [HR.o];simp [k4]);go_wp2;go_ret;exact ⟨aB HV.o.symm,HK1.o.1⟩
 rw [xR k4];have HC4:=zh k4;clear k4;obtain ⟨p0,p1,p2,p3,p4,p5⟩:=(HK1.o.2.1).ly6;obtain ⟨q0,q1,q2,q3,q4,q5⟩:=(HK1.o.2.2).ly6;go_wp2_with fail
 refine (HE2.o _ HK1.o.1).mono ?_;rintro e w2 ⟨rfl,hb2⟩;have HK2:=zh (xA (HK1.o.1.trans (hb2.mono HK1.o.1.size)) (xA (HK1.o.2.1.bw hb2) (HK1.o.2.2.bw hb2)));clear hb2 p0 p1 p2 p3 p4 p5 q0 q1 q2 q3 q4 q5;by_cases k5:pl=pl'
 rotate_left
 .rw [xS k5];have HV:=zh (show r=false by rw [HR.o];simp [k5]);go_wp2;go_ret;exact ⟨aB HV.o.symm,HK2.o.1⟩
 rw [xR k5];have HC5:=zh k5;clear k5;obtain ⟨p0,p1,p2,p3,p4,p5⟩:=(HK2.o.2.1).ly6;obtain ⟨q0,q1,q2,q3,q4,q5⟩:=(HK2.o.2.2).ly6;go_wp2_with fail
 refine (HE3.o _ HK2.o.1).mono ?_;rintro e w3 ⟨rfl,hb3⟩;have HB3:=zh (HK2.o.1.trans (hb3.mono HK2.o.1.size));have HV:=zh (show decide (tg=tg')=r by rw [HR.o];simp [HC1.o,HC2.o,HC3.o,HC4.o,HC5.o]);rw [HV.o];clear hb3 p0 p1 p2 p3 p4 p5 q0 q1 q2 q3 q4 q5 HR;cases r
 all_goals
  go_wp2;go_ret;exact ⟨rfl,HB3.o⟩
theorem nG (a0:qO)(n c0:Nat)(xs:List PB)(st:Int)(a2:qO)(sn c2:Nat)(fl rm:Int)(a5:qO)(m0 c5:Nat)(ts:List TB)(a0':qO)(n' c0':Nat)(xs':List PB)(st':Int)(a2':qO)(sn' c2':Nat)(fl' rm':Int)(a5':qO)(m0' c5':Nat)(ts':List TB)(w:qw)(h0:PlS w a0 n c0 xs)(h1:TsS w a5 m0 c5 ts)(h0':PlS w a0' n' c0' xs')(h1':TsS w a5' m0' c5' ts'):
 qC 122 #[.agg #[qS a0 n c0,qI st,qS a2 sn c2,qI fl,qI rm,qS a5 m0 c5],.agg #[qS a0' n' c0',qI st',qS a2' sn' c2',qI fl',qI rm',qS a5' m0' c5']] w fun e w'=>e=.returned (.bool (decide (xs.map (fun x=>x.1)=xs'.map (fun x=>x.1)/\ts.map (fun x=>x.1)=ts'.map (fun x=>x.1))))/\qY w w':=by
 obtain ⟨r,hr⟩:=eqx (decide (xs.map (fun x=>x.1)=xs'.map (fun x=>x.1)/\ts.map (fun x=>x.1)=ts'.map (fun x=>x.1)));rw [<- hr];have HR:=zh hr;clear hr;have hm0:=h0.2.1;have hm1:=h1.2.1;have hm0':=h0'.2.1;have hm1':=h1'.2.1;unfold maxLen at hm0 hm1 hm0' hm1';have hl0:=h0.1;have hl1:=h1.1;have hl0':=h0'.1;have hl1':=h1'.1;have B0:qY w ((w.alloc (.cells #[qS a0 n c0,qI st,qS a2 sn c2,qI fl,qI rm,qS a5 m0 c5] 64)).alloc (.cells #[qS a0' n' c0',qI st',qS a2' sn' c2',qI fl',qI rm',qS a5' m0' c5'] 64)):=bal.alloc (by simp) _;have u:=(Blk.new w #[qS a0 n c0,qI st,qS a2 sn c2,qI fl,qI rm,qS a5 m0 c5] 64).alloc (.cells #[qS a0' n' c0',qI st',qS a2' sn' c2',qI fl',qI rm',qS a5' m0' c5'] 64);have v:=Blk.new (w.alloc (.cells #[qS a0 n c0,qI st,qS a2 sn c2,qI fl,qI rm,qS a5 m0 c5] 64)) #[qS a0' n' c0',qI st',qS a2' sn' c2',qI fl',qI rm',qS a5' m0' c5'] 64;try unfold qY at *
 simp only [xF] at v;have HK:=zh (xA B0 (xA u v));clear u v;by_cases n1:n=n'
 rotate_left
 .have g1:((n:Int) !=(n':Int))=true:=by simp;omega
  have HV:=zh (show r=false by
   rw [HR.o,decide_eq_false_iff_not];intro e;have:=congrArg List.length e.1;simp at this
   omega)
  clear HR;go_enter func122,ntmps122
  go_wp2;go_ret;exact ⟨aB HV.o.symm,HK.o.1⟩
 subst n1;have g1:((n:Int) !=(n:Int))=false:=by simp
 by_cases n2:m0=m0'
 rotate_left
 .have g2:((m0:Int) !=(m0':Int))=true:=by simp;omega
  have HV:=zh (show r=false by
   rw [HR.o,decide_eq_false_iff_not];intro e;have:=congrArg List.length e.2;simp at this
   omega)
  clear HR;go_enter func122,ntmps122
  go_wp2;go_ret;exact ⟨aB HV.o.symm,HK.o.1⟩
 subst n2;have g2:((m0:Int) !=(m0:Int))=false:=by simp
 have HP:=zh (xA h0 (xA h0' (xA h1 h1')));clear h0 h0' h1 h1' B0;go_enter func122,ntmps122
 go_wp2;go_loopw [5] (fun i wr=>∃ k:Nat,k<=n/\i=qI k/\(xs.map (fun x=>x.1)).take k=(xs'.map (fun x=>x.1)).take k/\qY w wr/\Blk wr w.heap.size #[qS a0 n c0,qI st,qS a2 sn c2,qI fl,qI rm,qS a5 m0 c5] 64/\Blk wr (w.heap.size+1) #[qS a0' n c0',qI st',qS a2' sn' c2',qI fl',qI rm',qS a5' m0 c5'] 64) (qf n)
 .exact ⟨0,xC _,rfl,by simp,HK.o⟩
 .obtain ⟨k,hk,rfl,hT,HB⟩:=hrel;clear HK;have HB:=zh HB;generalize wr=wo at *;obtain ⟨p0,p1,p2,p3,p4,p5⟩:=(HB.o.2.1).ly6;obtain ⟨q0,q1,q2,q3,q4,q5⟩:=(HB.o.2.2).ly6;by_cases hlt:k<n
  .have hlt':(k:Int)<(n:Int):=by omega
   obtain ⟨b,off,rfl,s0,s1,s2,s3⟩:=(HP.o.1.bw HB.o.1).at k hlt;obtain ⟨b',off',rfl,t0,t1,t2,t3⟩:=(HP.o.2.1.bw HB.o.1).at k (by omega);have i1:=(HP.o.1.bw HB.o.1).2.2.2.1 k hlt;have i2:=(HP.o.2.1.bw HB.o.1).2.2.2.1 k (by omega);have HGO:Zh ((xs.getD k zPB).1=(xs'.getD k zPB).1->(xs.map (fun x=>x.1)).take (k+1)=(xs'.map (fun x=>x.1)).take (k+1)):=fun he=>cY zPB.1 _ _ k hT (by simp;omega) (by simp;omega) (by rw [bK _ _ _ zPB _,bK _ _ _ zPB _,he])
   have HNO:=zh (show (xs.getD k zPB).1≠(xs'.getD k zPB).1->r=false from fun he=>by
    rw [HR.o,decide_eq_false_iff_not];intro e;have e2:=congrArg (fun l=>l.getD k zPB.1) e.1;try simp only at e2
    rw [bK _ _ _ zPB _,bK _ _ _ zPB _] at e2
    exact he e2)
   clear hT;unfold svP at s1 t1;generalize xs.getD k zPB=x at *;generalize xs'.getD k zPB=y at *;obtain ⟨⟨xt,xb,xd,xz⟩,xa,xc⟩:=x;obtain ⟨⟨yt,yb,yd,yz⟩,ya,yc⟩:=y;dsimp only at s0 s1 s2 s3 t0 t1 t2 t3 i1 i2 HGO HNO;have hlw:=HB.o.2.1.lt;have hlw':=HB.o.2.2.lt;have hlb:=xD _ _ s0;have hlb':=xD _ _ t0;have HB2:qY wo ((wo.alloc (.cells #[qI xt,qS xa xb.length xc,qI xd,qI xz] 136)).alloc (.cells #[qI yt,qS ya yb.length yc,qI yd,qI yz] 136)):=bal.alloc (by simp) _;have HEQ:=zh (fN xa ya xb.length xc yb.length yc xb yb _ (i1.bw HB2) (i2.bw HB2));have HB4:=zh (xA (HB.o.1.trans (HB2.mono HB.o.1.size)) (xA (HB.o.2.1.bw HB2) (HB.o.2.2.bw HB2)));have kp:=(Blk.new wo #[qI xt,qS xa xb.length xc,qI xd,qI xz] 136).alloc (.cells #[qI yt,qS ya yb.length yc,qI yd,qI yz] 136);have kq:=Blk.new (wo.alloc (.cells #[qI xt,qS xa xb.length xc,qI xd,qI xz] 136)) #[qI yt,qS ya yb.length yc,qI yd,qI yz] 136;try unfold qY at *
   simp only [xF] at kq;have HKP:=zh (xA kp kq);clear i1 i2 HB2 HB kp kq;by_cases e1:xt=yt
   rotate_left
   .have g3:(xt !=yt)=true:=by simpa using e1
    have HV:Zh (r=false):=HNO.o (fun e=>e1 (by injection e));clear HNO HGO HEQ;go_wp2;go_ret;exact ⟨aB HV.o.symm,HB4.o.1⟩
   have g3:(xt !=yt)=false:=by simpa using e1
   have HE1:=zh e1;clear e1;go_wp2_with fail
   refine HEQ.o.mono ?_;rintro e w1 ⟨rfl,hb1⟩;have HB5:=zh (xA (HB4.o.1.trans (hb1.mono HB4.o.1.size)) (xA (HB4.o.2.1.bw hb1) (HB4.o.2.2.bw hb1)));have kp:=HKP.o.1.bw hb1;have kq:=HKP.o.2.bw hb1;have x0:=kp.e2;have x1:=kp.e3;have y0:=kq.e2;have y1:=kq.e3;clear hb1 kp kq HKP HB4 p0 p1 p2 p3 p4 p5 q0 q1 q2 q3 q4 q5 s0 s1 s2 s3 t0 t1 t2 t3;by_cases e2:xb=yb
   rotate_left
   .rw [xS e2];have HV:Zh (r=false):=HNO.o (fun e=>e2 (by injection e));clear HNO HGO HEQ;go_wp2;go_ret;exact ⟨aB HV.o.symm,HB5.o.1⟩
   rw [xR e2];have HE2:=zh e2;clear e2;by_cases e3:xd=yd
   rotate_left
   .have g4:(xd !=yd)=true:=by simpa using e3
    have HV:Zh (r=false):=HNO.o (fun e=>e3 (by injection e));clear HNO HGO HEQ;go_wp2;go_ret;exact ⟨aB HV.o.symm,HB5.o.1⟩
   have g4:(xd !=yd)=false:=by simpa using e3
   have HE3:=zh e3;clear e3;by_cases e4:xz=yz
   rotate_left
   .have g5:(xz !=yz)=true:=by simpa using e4
    have HV:Zh (r=false):=HNO.o (fun e=>e4 (by injection e));clear HNO HGO HEQ;go_wp2;go_ret;exact ⟨aB HV.o.symm,HB5.o.1⟩
   have g5:(xz !=yz)=false:=by simpa using e4
   have HE4:=zh e4;clear e4;have HG:=zh (HGO.o (by rw [HE1.o,HE2.o,HE3.o,HE4.o]));clear HGO HNO HEQ;go_wp2
   go_roundw
   .exact ⟨k+1,by omega,by go_num,HG.o,HB5.o⟩
   .simp [qf,intOf];omega
  .have HPE:=zh (show xs.map (fun x=>x.1)=xs'.map (fun x=>x.1) from by
    rw [xG (by simp;omega),xG (by simp;omega)] at hT
    exact hT)
   clear hT;go_wp2;clear p0 p1 p2 p3 p4 p5 q0 q1 q2 q3 q4 q5;go_loopw [8] (fun i wr=>∃ m:Nat,m<=m0/\i=qI m/\(ts.map (fun x=>x.1)).take m=(ts'.map (fun x=>x.1)).take m/\qY w wr/\Blk wr w.heap.size #[qS a0 n c0,qI st,qS a2 sn c2,qI fl,qI rm,qS a5 m0 c5] 64/\Blk wr (w.heap.size+1) #[qS a0' n c0',qI st',qS a2' sn' c2',qI fl',qI rm',qS a5' m0 c5'] 64) (qf m0)
   .exact ⟨0,xC _,rfl,by simp,HB.o⟩
   .clear HB;obtain ⟨m,hm,rfl,hT,HC⟩:=hrel;have HC:=zh HC;generalize wr=wn at *;obtain ⟨p0,p1,p2,p3,p4,p5⟩:=(HC.o.2.1).ly6;obtain ⟨q0,q1,q2,q3,q4,q5⟩:=(HC.o.2.2).ly6;by_cases hmt:m<m0
    .have hmt':(m:Int)<(m0:Int):=by omega
     obtain ⟨b,off,rfl,s0⟩:=(HP.o.2.2.1.bw HC.o.1).at m hmt;obtain ⟨b',off',rfl,t0⟩:=(HP.o.2.2.2.bw HC.o.1).at m (by omega);have I1:=zh (HP.o.2.2.1.2.2.2.1 m hmt);have I2:=zh (HP.o.2.2.2.2.2.2.1 m (by omega));have HGO:Zh ((ts.getD m zTB).1=(ts'.getD m zTB).1->(ts.map (fun x=>x.1)).take (m+1)=(ts'.map (fun x=>x.1)).take (m+1)):=fun he=>cY zTB.1 _ _ m hT (by simp;omega) (by simp;omega) (by rw [bK _ _ _ zTB _,bK _ _ _ zTB _,he])
     have HNO:=zh (show (ts.getD m zTB).1≠(ts'.getD m zTB).1->r=false from fun he=>by
      rw [HR.o,decide_eq_false_iff_not];intro e;have e2:=congrArg (fun l=>l.getD m zTB.1) e.2;try simp only at e2
      rw [bK _ _ _ zTB _,bK _ _ _ zTB _] at e2
      exact he e2)
     have HHD:=zh (fun (W:qw) (hb:qY wn W)=>xA (aE hb s0) (aE hb t0));clear hT;unfold svT at s0 t0 HHD;generalize ts.getD m zTB=x at *;generalize ts'.getD m zTB=y at *;obtain ⟨xl,xa,xc⟩:=x;obtain ⟨yl,ya,yc⟩:=y;dsimp only at s0 t0 I1 I2 HGO HNO HHD;have hx1:=I1.o.2.1;have hy1:=I2.o.2.1;unfold maxLen at hx1 hy1;by_cases e1:xl.length=yl.length
     rotate_left
     .have g3:((xl.length:Int) !=(yl.length:Int))=true:=by simp;omega
      have HV:Zh (r=false):=HNO.o (fun e=>e1 (by rw [e]));clear HNO HGO;go_wp2
      go_quiet (fail)
      go_wp2;go_ret;exact ⟨aB HV.o.symm,below_drewN HC.o.1 _⟩
     have g3:((xl.length:Int) !=(yl.length:Int))=false:=by simp;omega
     go_wp2
     go_quiet (fail)
     go_wp2;clear p0 p1 p2 p3 p4 p5 q0 q1 q2 q3 q4 q5 s0 t0;go_loopw [9] (fun i wr=>∃ j:Nat,j<=xl.length/\i=qI j/\xl.take j=yl.take j/\qY wn wr) (qf xl.length)
     .exact ⟨0,xC _,rfl,by simp,below_drewN brf _⟩
     .obtain ⟨j,hj,rfl,hT,HD⟩:=hrel;have HD:=zh HD;generalize wr=wm at *;obtain ⟨s0,t0⟩:=HHD.o wm HD.o;obtain ⟨p0,p1,p2,p3,p4,p5⟩:=(HC.o.2.1.bw HD.o).ly6;obtain ⟨q0,q1,q2,q3,q4,q5⟩:=(HC.o.2.2.bw HD.o).ly6;have HCD:=zh (HC.o.1.trans (HD.o.mono HC.o.1.size));by_cases hjl:j<xl.length
      .have hjl':(j:Int)<(xl.length:Int):=by omega
       have hjlb':(j:Int)<(yl.length:Int):=by omega
       obtain ⟨bx,ox,rfl,u0,u1,u2⟩:=((I1.o.bw HCD.o)).at j hjl;obtain ⟨by',oy,rfl,v0,v1,v2⟩:=((I2.o.bw HCD.o)).at j (by omega);have HS:Zh (xl.getD j zT=yl.getD j zT->xl.take (j+1)=yl.take (j+1)):=fun he=>cY zT _ _ j hT (by omega) (by omega) he;have HF:Zh (xl.getD j zT≠yl.getD j zT->r=false):=fun he=>HNO.o (fun e=>he (by rw [e]));clear hT;generalize xl.getD j zT=z at *;generalize yl.getD j zT=z' at *;obtain ⟨z0,z1,z2⟩:=z;obtain ⟨z0',z1',z2'⟩:=z';dsimp only at u0 u1 u2 v0 v1 v2;by_cases he:(z0,z1,z2)=((z0',z1',z2'):Tg)
       .have HS2:=zh (HS.o he);simp only [Prod.mk.injEq] at he;obtain ⟨rfl,rfl,rfl⟩:=he;clear HS HF;go_wp2
        go_quiet (fail)
        go_wp2
        go_roundw
        .exact ⟨j+1,by omega,by go_num,HS2.o,below_drewN HD.o _⟩
        .simp [qf,intOf];omega
       .have HV:=zh (HF.o he);have hne3:¬ (z0=z0'/\z1=z1'/\z2=z2'):=fun e=>he (by rw [e.1,e.2.1,e.2.2]);clear HS HF he;by_cases f0:z0=z0'
        .by_cases f1:z1=z1'
         .have f2:¬ z2=z2':=fun e=>hne3 ⟨f0,f1,e⟩;subst f0 f1;have f2':(z2==z2')=false:=by simpa using f2
          go_wp2
          go_quiet (fail)
          go_wp2;go_ret;exact ⟨aB HV.o.symm,below_drewN HCD.o _⟩
         .subst f0;have f1':(z1==z1')=false:=by simpa using f1
          go_wp2
          go_quiet (fail)
          go_wp2;go_ret;exact ⟨aB HV.o.symm,below_drewN HCD.o _⟩
        .have f0':(z0==z0')=false:=by simpa using f0
         go_wp2
         go_quiet (fail)
         go_wp2;go_ret;exact ⟨aB HV.o.symm,below_drewN HCD.o _⟩
      .have HG:=zh (HGO.o (by
        rw [xG (by omega),xG (by omega)] at hT
        exact hT))
       have HCE:=zh (xA HCD.o (xA (HC.o.2.1.bw HD.o) (HC.o.2.2.bw HD.o)));clear hT HGO HNO;go_wp2
       go_roundw
       .exact ⟨m+1,by omega,by go_num,HG.o,HCE.o⟩
       .simp [qf,intOf];omega
    .have HV:=zh (show r=true from by
      rw [HR.o];simp only [decide_eq_true_eq];rw [xG (by simp;omega),xG (by simp;omega)] at hT
      exact ⟨HPE.o,hT⟩)
     clear hT;go_wp2;go_ret;exact ⟨aB HV.o.symm,HC.o.1⟩
theorem tK (L:Lay)(a0:qO)(c0:Nat)(xs:List PB)(a2:qO)(c2:Nat)(a5:qO)(c5:Nat)(ts:List TB)(L':Lay)(a0':qO)(c0':Nat)(xs':List PB)(a2':qO)(c2':Nat)(a5':qO)(c5':Nat)(ts':List TB)(w:qw)(h:LyT w L a0 c0 xs a2 c2 a5 c5 ts)(h':LyT w L' a0' c0' xs' a2' c2' a5' c5' ts'):
 qC 80 #[.agg (qJ L a0 xs c0 a2 c2 a5 ts c5),.agg (qL L' a0' xs'.length c0' a2' L'.slots.length c2' a5' ts'.length c5')] w (qB w (.bool (decide (L=L')))):=by
 have hps:=h.ps;have hps':=h'.ps;have htt:=h.tt;have htt':=h'.tt;have HE1:=zh (fun (W:qw) (hb:qY w W)=>fN a2 a2' L.slots.length c2 L'.slots.length c2' L.slots L'.slots W (h.s.bw hb) (h'.s.bw hb));have HE2:=zh (fun (W:qw) (hb:qY w W)=>nG a0 xs.length c0 xs L.stack a2 L.slots.length c2 L.flash L.ram a5 ts.length c5 ts a0' xs'.length c0' xs' L'.stack a2' L'.slots.length c2' L'.flash L'.ram a5' ts'.length c5' ts' W (h.p.bw hb) (h.t.bw hb) (h'.p.bw hb) (h'.t.bw hb));rw [hps,hps',htt,htt'] at HE2;clear h h' hps hps' htt htt';obtain ⟨pl,st,sl,fl,rm,tg⟩:=L;obtain ⟨pl',st',sl',fl',rm',tg'⟩:=L';dsimp only at HE1 HE2 ⊢;obtain ⟨r,hr⟩:=eqx (decide ((⟨pl,st,sl,fl,rm,tg⟩:Lay)=⟨pl',st',sl',fl',rm',tg'⟩));rw [<- hr];simp only [Lay.mk.injEq] at hr;have HR:=zh hr;clear hr;have B0:qY w ((w.alloc (.cells #[qS a0 xs.length c0,qI st,qS a2 sl.length c2,qI fl,qI rm,qS a5 ts.length c5] 64)).alloc (.cells #[qS a0' xs'.length c0',qI st',qS a2' sl'.length c2',qI fl',qI rm',qS a5' ts'.length c5'] 64)):=bal.alloc (by simp) _;have u:=(Blk.new w #[qS a0 xs.length c0,qI st,qS a2 sl.length c2,qI fl,qI rm,qS a5 ts.length c5] 64).alloc (.cells #[qS a0' xs'.length c0',qI st',qS a2' sl'.length c2',qI fl',qI rm',qS a5' ts'.length c5'] 64);have v:=Blk.new (w.alloc (.cells #[qS a0 xs.length c0,qI st,qS a2 sl.length c2,qI fl,qI rm,qS a5 ts.length c5] 64)) #[qS a0' xs'.length c0',qI st',qS a2' sl'.length c2',qI fl',qI rm',qS a5' ts'.length c5'] 64;try unfold qY at *
 simp only [xF] at v;have HK:=zh (xA B0 (xA u v));clear u v B0;go_enter func80,ntmps80
 go_wp2_with fail
 refine (HE2.o _ HK.o.1).mono ?_;rintro e w1 ⟨rfl,hb1⟩;have HK1:=zh (xA (HK.o.1.trans (hb1.mono HK.o.1.size)) (xA (HK.o.2.1.bw hb1) (HK.o.2.2.bw hb1)));clear hb1 HK;by_cases k0:pl=pl'/\tg=tg'
 rotate_left
 .rw [xS k0];have HV:=zh (show r=false by rw [HR.o,decide_eq_false_iff_not];exact fun e=>k0 ⟨e.1,e.2.2.2.2.2⟩);clear HR HE1 HE2;go_wp2;go_ret;exact ⟨aB HV.o.symm,HK1.o.1⟩
 rw [xR k0];have HC0:=zh k0;clear k0;obtain ⟨p0,p1,p2,p3,p4,p5⟩:=(HK1.o.2.1).ly6;obtain ⟨q0,q1,q2,q3,q4,q5⟩:=(HK1.o.2.2).ly6;by_cases k1:st=st'
 rotate_left
 .have g1:(st==st')=false:=by simpa using k1
  have HV:=zh (show r=false by rw [HR.o];simp [k1]);clear HR HE1 HE2;go_wp2;go_ret;exact ⟨aB HV.o.symm,HK1.o.1⟩
 have g1:(st==st')=true:=by simpa using k1
 have HC1:=zh k1;clear k1;go_wp2_with fail
 refine (HE1.o _ HK1.o.1).mono ?_;rintro e w2 ⟨rfl,hb2⟩;have HK2:=zh (xA (HK1.o.1.trans (hb2.mono HK1.o.1.size)) (xA (HK1.o.2.1.bw hb2) (HK1.o.2.2.bw hb2)));clear hb2 p0 p1 p2 p3 p4 p5 q0 q1 q2 q3 q4 q5;by_cases k4:sl=sl'
 rotate_left
 .rw [xS k4];have HV:=zh (show r=false by rw [HR.o];simp [k4]);clear HR HE1 HE2;go_wp2;go_ret;exact ⟨aB HV.o.symm,HK2.o.1⟩
 rw [xR k4];have HC4:=zh k4;clear k4;obtain ⟨p0,p1,p2,p3,p4,p5⟩:=(HK2.o.2.1).ly6;obtain ⟨q0,q1,q2,q3,q4,q5⟩:=(HK2.o.2.2).ly6;by_cases k2:fl=fl'
 rotate_left
 .have g2:(fl==fl')=false:=by simpa using k2
  have HV:=zh (show r=false by rw [HR.o];simp [k2]);clear HR HE1 HE2;go_wp2;go_ret;exact ⟨aB HV.o.symm,HK2.o.1⟩
 have g2:(fl==fl')=true:=by simpa using k2
 have HC2:=zh k2;clear k2;by_cases k3:rm=rm'
 rotate_left
 .have g3:(rm==rm')=false:=by simpa using k3
  have HV:=zh (show r=false by rw [HR.o];simp [k3]);clear HR HE1 HE2;go_wp2;go_ret;exact ⟨aB HV.o.symm,HK2.o.1⟩
 have g3:(rm==rm')=true:=by simpa using k3
 have HV:=zh (show r=true by rw [HR.o];simp [HC0.o.1,HC0.o.2,HC1.o,HC2.o,k3,HC4.o]);clear HR HE1 HE2 k3;go_wp2;go_ret;exact ⟨aB HV.o.symm,HK2.o.1⟩
theorem LayO.kept {W W':qw}(h:LayO W base L a0 c0 xs a2 c2 a5 c5 ts)(t:Turn S W W')(hs:∀ j,base<=j->j<W.heap.size->¬ S j):LayO W' base L a0 c0 xs a2 c2 a5 c5 ts where
 p:=h.p.kept t (fun k hk=>hs k (h.p.lt.1 k hk).1 (h.p.lt.1 k hk).2) (fun x hx k hk=>hs k (h.p.lt.2 x hx k hk).1 (h.p.lt.2 x hx k hk).2)
 ps:=h.ps
 s:=h.s.kept t (fun k hk=>hs k (h.s.lt k hk).1 (h.s.lt k hk).2)
 t:=h.t.kept t (fun k hk=>hs k (h.t.lt.1 k hk).1 (h.t.lt.1 k hk).2) (fun x hx k hk=>hs k (h.t.lt.2 x hx k hk).1 (h.t.lt.2 x hx k hk).2)
 tt:=h.tt
 sp:=h.sp
theorem LayO.below' {W W':qw}(h:LayO W base L a0 c0 xs a2 c2 a5 c5 ts)(hb:qY W W'):LayO W' base L a0 c0 xs a2 c2 a5 c5 ts:=h.kept (S:=fun _=>False) (aJ hb) (fun _ _ _ s=>s)
def Zb (zc:Array Value)(t:TypeId)(W0 X:qw)(o:Option Nat):Prop:=qY W0 X/\∀ g,o=some g->W0.heap.size<=g/\Blk X g zc t
section
variable {zc:Array Value}{t:TypeId}{W0 X Y:qw}{o:Option Nat}
theorem aLn (zc:Array Value)(t:TypeId)(W0:qw):Zb zc t W0 W0 none:=⟨brf,fun g e=>by cases e⟩
theorem Zb.bw (h:Zb zc t W0 X o)(hb:qY X Y):Zb zc t W0 Y o:=⟨h.1.trans (hb.mono h.1.size),fun g e=>⟨(h.2 g e).1,(h.2 g e).2.bw hb⟩⟩
theorem Zb.drew (h:Zb zc t W0 X o):Zb zc t W0 X.drew o:=⟨h.1.drew,fun g e=>⟨(h.2 g e).1,(h.2 g e).2⟩⟩
theorem Zb.box (h:Zb zc t W0 X none):Zb zc t W0 (X.alloc (.cells zc t)) (some X.heap.size):=⟨h.1.alloc h.1.size _,fun g e=>by cases e;exact ⟨h.1.size,Blk.new X zc t⟩⟩
end
section
variable {zc:Array Value}{t:TypeId}{n g:Nat}{ms m:List Md}{W0 X Y:qw}{o:Option Nat}
end
section
variable {base:Nat}{L:Lay}{W0 X:qw}{gb:Nat}{a0:qO}{c0:Nat}{xs:List PB}{a2:qO}{c2:Nat}{a5:qO}{c5:Nat}{ts:List TB}
end
section
variable {cf:Array Value}{tc:TypeId}{base:Nat}{L:Lay}{w W5 W W':qw}{gb:Nat}{a0:qO}{c0:Nat}{xs:List PB}{a2:qO}{c2:Nat}{a5:qO}{c5:Nat}{ts:List TB}
end
theorem aAk {w:qw}{m:Nat}{zs:qi}(h:OB w base (qS (qP g) n cap) zs)(hm:m<=n:=by omega):Room w g m:=by
 obtain ⟨cur,hb,hn⟩:=pC h;exact ⟨cur,hb,by omega⟩
theorem rG {a b c:qw}(h:eP g a b)(k:eP g b c):eP g a c:=⟨k.1.trans h.1,fun j hj=>(k.2.1 j hj).trans (h.2.1 j hj),k.2.2.1.trans h.2.2.1,k.2.2.2.1.trans h.2.2.2.1,k.2.2.2.2.trans h.2.2.2.2⟩
theorem rE {w w':qw}(h:eP g w w'):Turn (fun j=>j=g) w w':=⟨h.2.2.1,h.2.2.2.1,h.2.2.2.2,by rw [h.1];exact aL,fun k hk hn=>h.2.1 k hn⟩
def dR (zs:qi)(k:Nat)(ws:qi):Nat->List Int
 | 0=>zs
 | i+1=>put (dR zs k ws i) (k+4*i) (ws.getD i 0) 4
theorem qH (zs:qi)(k:Nat)(ws:qi):∀ i,(dR zs k ws i).length=zs.length
 | 0=>rfl
 | i+1=>by rw [dR,wD,qH zs k ws i]
theorem sB (g n cap k:Nat)(a:qO)(wn wc:Nat)(ws zs:qi)(base:Nat)(w0 w:qw)(h0:IS w0 a wn wc ws)(hb:qY w0 w)(hg:w0.heap.size<=g)(ho:OB w base (qS (qP g) n cap) zs)(hn:n<=16384)(hk:k+4*wn<=n)(hw:∀ i,i<wn->0<=ws.getD i 0/\ws.getD i 0<=4294967295):
 qC 84 #[qS (qP g) n cap,qI k,qS a wn wc] w fun e w'=>e=.returned (.tuple #[])/\OB w' base (qS (qP g) n cap) (dR zs k ws wn)/\eP g w w':=by
 have HO:=zh ho;have HB:=zh hb;clear ho hb;go_enter func84,ntmps84
 go_wp2;go_loopw [6] (fun i wr=>∃ m:Nat,m<=wn/\i=qI m/\OB wr base (qS (qP g) n cap) (dR zs k ws m)/\eP g w wr) (qf wn)
 .exact ⟨0,xC _,rfl,HO.o,gS _ _⟩
 .obtain ⟨m,hm,rfl,O,T⟩:=hrel;by_cases hlt:m<wn
  .have hlt':(m:Int)<(wn:Int):=by omega
   obtain ⟨b,off,rfl,hc⟩:=(h0.bw (cT HB.o T hg)).2.2.2.1 (by omega);have q:=hc m hlt;obtain ⟨v0,v1⟩:=hw m hlt;have HP:=zh (nH g n cap (k+4*m) 4 (ws.getD m 0) wr (pC O) hn (by omega) (by omega) (by omega) v0 v1);have HX:=zh (xA (wR O (k+4*m) (ws.getD m 0) 4 (by omega)) (rG T (lU g (k+4*m) (ws.getD m 0) wr 4)));have HE:Zh (dR zs k ws (m+1)=put (dR zs k ws m) (k+4*m) (ws.getD m 0) 4):=rfl;have hkm:((k+4*m:Nat):Int)=(k:Int)+4*(m:Int):=by omega
   rw [hkm] at HP;clear O T hc;generalize ws.getD m 0=v at *;go_wp2_with fail
   refine HP.o.mono ?_;rintro e w1 ⟨rfl,rfl⟩;go_wp2
   go_roundw
   .exact ⟨m+1,by omega,by go_num,by rw [HE.o];exact HX.o.1,HX.o.2⟩
   .simp [qf,intOf];omega
  .have e:Zh (m=wn):=by show m=wn;omega
   have HX:=zh (xA O T);clear O T;go_wp2
   go_end0
   exact ⟨rfl,by have:=HX.o.1;rw [e.o] at this;exact this,HX.o.2⟩
theorem iF (g n cap k m c:Nat)(a:qO)(wn wc:Nat)(ws zs:qi)(base:Nat)(w0 w:qw)(h0:IS w0 a wn wc ws)(hb:qY w0 w)(hg:w0.heap.size<=g)(ho:OB w base (qS (qP g) n cap) zs)(hn:n<=16384)(hk:k+4*wn<=n)(hm:4*wn<=m)(hc:m<=c)(hc2:c<=16384):
 qC 147 #[qS (some (qR g k)) m c,qS a wn wc] w fun e w'=>e=.returned (.tuple #[])/\OB w' base (qS (qP g) n cap) (dR zs k ws wn)/\eP g w w':=by
 have HO:=zh ho;have HB:=zh hb;clear ho hb;go_enter func147,ntmps147
 go_wp2;go_loopw [8] (fun i wr=>∃ j:Nat,j<=wn/\i=qI j/\OB wr base (qS (qP g) n cap) (dR zs k ws j)/\eP g w wr) (qf wn)
 .exact ⟨0,xC _,rfl,HO.o,gS _ _⟩
 .obtain ⟨j,hj,rfl,O,T⟩:=hrel;by_cases hlt:j<wn
  .have hlt':(j:Int)<(wn:Int):=by omega
   obtain ⟨b,off,rfl,hcc⟩:=(h0.bw (cT HB.o T hg)).2.2.2.1 (by omega);have q:=hcc j hlt;have wv:-9223372036854775808<=ws.getD j 0/\ws.getD j 0<=9223372036854775807:=h0.2.2.1 _ (by have:=h0.1;simp [xB,show j<ws.length by omega]);have HP:=zh (qF g (m-4*j) (c-4*j) (k+4*j) (ws.getD j 0) wr (aAk O) (by omega) wv);have HX:=zh (xA (aAl O (k+4*j) (ws.getD j 0)) (rG T (rH g (k+4*j) (ws.getD j 0) wr)));have HE:Zh (dR zs k ws (j+1)=put (dR zs k ws j) (k+4*j) (ws.getD j 0) 4):=rfl;have t0:(0:Int)<=4*(j:Int):=by omega
   have t1:4*(j:Int)<=(m:Int):=by omega
   have t2:4*(j:Int)<(c:Int):=by omega
   have t3:(4*(j:Int)).toNat=4*j:=by omega
   clear O T hcc wv;generalize ws.getD j 0=v at *;go_wp2_with fail
   refine HP.o.mono ?_;rintro e w1 ⟨rfl,rfl⟩;go_wp2
   go_roundw
   .exact ⟨j+1,by omega,by go_num,by rw [HE.o];exact HX.o.1,HX.o.2⟩
   .simp [qf,intOf];omega
  .have e:Zh (j=wn):=by show j=wn;omega
   have HX:=zh (xA O T);clear O T;go_wp2
   go_end0
   exact ⟨rfl,by have:=HX.o.1;rw [e.o] at this;exact this,HX.o.2⟩
theorem aOu {S F:Nat->Nat->Nat->Nat->World->Prop}{G:Prop}(main:(∀ a b c d W,F a b c d W->S a b c d W)->G)(pf:∀ a b c d W,F a b c d W->S a b c d W):G:=main pf
theorem oK {W:qw}{o:Nat}{x:Obj}(h:W.cell? (qR b o)=some v):(W.alloc x).cell? (qR b o)=some v:=aE bal h
theorem tH {W:qw}{o:Nat}(h:W.cell? (qR b o)=some v):W.drew.cell? (qR b o)=some v:=h
theorem vJ {W:qw}{o i:Nat}(hb:b<g)(h:W.cell? (qR b o)=some v):(W.setCell (qR g i) u).cell? (qR b o)=some v:=(aN6 (.inl (by omega))).trans h
structure Mk4 (N:Nat)(w1 W:qw)(ZF ZR:Array Value)(F R gf gr go gm:Nat):Prop where
 be:Below N w1 W
 f:Blk W gf ZF 5
 r:Blk W gr ZR 5
 o:Blk W go #[] 5
 m:Blk W gm (qV (qP gf) F F (qP gr) R R (qP go) 0 0) 33
 lo:N<=gf/\N<=gr/\N<=go/\N<=gm
 ne:gf≠gr/\gf≠go/\gr≠go
theorem fQ (w:qw):w.drew.heap.size=w.heap.size:=rfl
theorem fT {W:qw}{t:TypeId}(h:Blk W g cs t):Blk W.drew g cs t:=h
theorem fS {W:qw}{t:TypeId}(h:g=W.heap.size):Blk (W.alloc (.cells cs t)) g cs t:=by subst h;exact Blk.new W cs t
theorem dE {W:qw}{i:Nat}{t:TypeId}(hn:g≠b)(h:Blk W g cs t):Blk (W.setCell (qR b i) v) g cs t:=h.other _ _ hn
theorem cX {W:qw}{t:TypeId}(h:Blk W g (qV none 0 0 none 0 0 none 0 0) t):Blk (((W.setCell (qR g 0) v0).setCell (qR g 1) v1).setCell (qR g 2) v2) g #[v0,v1,v2] t:=by
 have:=((h.set 0 v0).set 1 v1).set 2 v2;simpa only [yA,yB,yC] using this
theorem vL {a W:qw}{x:Obj}(hN:N<=a.heap.size)(h:Below N a W):Below N a (W.alloc x):=h.alloc (xM hN h.size) _
theorem aEa {a W:qw}{i:Nat}(hg:N<=g)(h:Below N a W):Below N a (W.setCell (qR g i) v):=h.setCell (p:=(qR g i)) hg v
theorem aBk {a W:qw}(h:Below N a W):Below N a W.drew:=h.drew
structure ImS (w:qw)(V:Array Value)(F R gf gr go gm:Nat)(fz rz:qi)(W:qw):Prop where
 be:qY w W
 kl:Blk W w.heap.size V 64
 kr:Blk W (w.heap.size+1) (qV none 0 0 none 0 0 none 0 0) 33
 km:Blk W gm (qV (qP gf) F F (qP gr) R R (qP go) 0 0) 33
 f:OB W w.heap.size (qS (qP gf) F F) fz
 r:OB W w.heap.size (qS (qP gr) R R) rz
 o:Blk W go #[] 5
 lo:w.heap.size+1<gf/\w.heap.size+1<gr/\w.heap.size+1<go/\w.heap.size+1<gm
 ne:gf≠gr/\gf≠go/\gr≠go
section
variable {w:qw}{V:Array Value}{F R gf gr go gm:Nat}{fz rz:qi}{W W':qw}
theorem ImS.bw (h:ImS w V F R gf gr go gm fz rz W)(hb:qY W W'):ImS w V F R gf gr go gm fz rz W':=⟨h.be.trans (hb.mono h.be.size),h.kl.bw hb,h.kr.bw hb,h.km.bw hb,h.f.bw hb,h.r.bw hb,h.o.bw hb,h.lo,h.ne⟩
theorem gK {zs:qi}(h:OB W base (qS (qP g) n c) zs):∃ cs,Blk W g cs 5:=aM h.1 rfl
theorem ImS.mf (h:ImS w V F R gf gr go gm fz rz W):gm≠gf/\gm≠gr:=by
 obtain ⟨c1,k1⟩:=gK h.f;obtain ⟨c2,k2⟩:=gK h.r;exact ⟨fun e=>by subst e;exact absurd (aW h.km k1) (by decide),fun e=>by subst e;exact absurd (aW h.km k2) (by decide)⟩
theorem ImS.setf (h:ImS w V F R gf gr go gm fz rz W){fz':qi}(O:OB W' w.heap.size (qS (qP gf) F F) fz')(T:eP gf W W'):ImS w V F R gf gr go gm fz' rz W':=
 ⟨cT h.be T (by have:=h.lo;omega),bY T h.kl (by have:=h.lo;omega),bY T h.kr (by have:=h.lo;omega),bY T h.km h.mf.1,O,aDd T h.r (by have:=h.ne.1;simp [Value.ownBlock];omega),bY T h.o (by have:=h.ne;omega),h.lo,h.ne⟩
theorem ImS.setr (h:ImS w V F R gf gr go gm fz rz W){rz':qi}(O:OB W' w.heap.size (qS (qP gr) R R) rz')(T:eP gr W W'):ImS w V F R gf gr go gm fz rz' W':=
 ⟨cT h.be T (by have:=h.lo;omega),bY T h.kl (by have:=h.lo;omega),bY T h.kr (by have:=h.lo;omega),bY T h.km h.mf.2,aDd T h.f (by have:=h.ne.1;simp [Value.ownBlock];omega),O,bY T h.o (by have:=h.ne;omega),h.lo,h.ne⟩
structure Im5 (w:qw)(V:Array Value)(F R gf gr go gm gp:Nat)(PV:Array Value)(fz rz:qi)(W:qw):Prop where
 s:ImS w V F R gf gr go gm fz rz W
 p:Blk W gp PV 136
variable {gp:Nat}{PV:Array Value}
theorem Im5.bw (h:Im5 w V F R gf gr go gm gp PV fz rz W)(hb:qY W W'):Im5 w V F R gf gr go gm gp PV fz rz W':=⟨h.s.bw hb,h.p.bw hb⟩
theorem Im5.drew (h:Im5 w V F R gf gr go gm gp PV fz rz W):Im5 w V F R gf gr go gm gp PV fz rz W.drew:=h.bw brf.drew
theorem Im5.pf (h:Im5 w V F R gf gr go gm gp PV fz rz W):gp≠gf/\gp≠gr:=by
 obtain ⟨c1,k1⟩:=gK h.s.f;obtain ⟨c2,k2⟩:=gK h.s.r;exact ⟨fun e=>by subst e;exact absurd (aW h.p k1) (by decide),fun e=>by subst e;exact absurd (aW h.p k2) (by decide)⟩
theorem Im5.setf (h:Im5 w V F R gf gr go gm gp PV fz rz W){fz':qi}(O:OB W' w.heap.size (qS (qP gf) F F) fz')(T:eP gf W W'):Im5 w V F R gf gr go gm gp PV fz' rz W':=⟨h.s.setf O T,bY T h.p h.pf.1⟩
theorem Im5.setr (h:Im5 w V F R gf gr go gm gp PV fz rz W){rz':qi}(O:OB W' w.heap.size (qS (qP gr) R R) rz')(T:eP gr W W'):Im5 w V F R gf gr go gm gp PV fz rz' W':=⟨h.s.setr O T,bY T h.p h.pf.2⟩
end
theorem eG (n:Int)(h0:0<=n)(h:n<=20)(w:qw):
 qC 164 #[qI n] w fun e w'=>e=.returned (qI ((2:Int)^n.toNat))/\w'=w:=by
 go_enter func164,ntmps164
 go_wp2;go_loop [3,4] (fun v i=>∃ k:Nat,(k:Int)<=n/\i=qI k/\v=qI ((2:Int)^k)) (fun _ i=>n.toNat-(intOf i).toNat)
 .exact ⟨0,by omega,rfl,rfl⟩
 .obtain ⟨k,hk,rfl,rfl⟩:=hrel;by_cases hlt:(k:Int)<n
  .have hp:=wG k;have hp0:=pow_pos k;have hs:Zh ((2:Int)^(k+1)=(2:Int)^k*2):=Int.pow_succ 2 k;generalize (2:Int)^k=P at *;go_wp2
   go_round
   .exact ⟨k+1,by omega,by go_num,by rw [hs.o]⟩
   .simp [intOf];omega
  .have e:Zh (n.toNat=k):=by show n.toNat=k;omega
   go_wp2;go_ret;exact ⟨aQ (by rw [e.o]),rfl⟩
def rok (b l o:Int):Bool:=
 decide (5<=l/\l<=14/\0<=o/\o<=255/\(8<=l\/o=0)/\0<=b/\b<=262144-(2:Int)^l.toNat/\b%(2:Int)^l.toNat=0)
theorem kP (b l o:Int)(r x y:Bool)(w:qw)(hb:(Lit.int .i64 b).wf=true):
 qC 165 #[.agg #[qI b,qI l,qI o,.bool r,.bool x,.bool y]] w (qB w (.bool (rok b l o))):=by
 by_cases h1:l<5
 .have hf:Zh (rok b l o=false):=by show _=_;unfold rok;simp;omega
  go_enter func165,ntmps165
  go_wp2;go_ret;exact ⟨aB hf.o.symm,bal⟩
 .by_cases h2:14<l
  .have hf:Zh (rok b l o=false):=by show _=_;unfold rok;simp;omega
   go_enter func165,ntmps165
   go_wp2;go_ret;exact ⟨aB hf.o.symm,bal⟩
  .by_cases h3:o<0
   .have hf:Zh (rok b l o=false):=by show _=_;unfold rok;simp;omega
    go_enter func165,ntmps165
    go_wp2;go_ret;exact ⟨aB hf.o.symm,bal⟩
   .by_cases h4:255<o
    .have hf:Zh (rok b l o=false):=by show _=_;unfold rok;simp;omega
     go_enter func165,ntmps165
     go_wp2;go_ret;exact ⟨aB hf.o.symm,bal⟩
    .by_cases h5:l<8/\o≠0
     .obtain ⟨h5a,h5b⟩:=h5;have hf:Zh (rok b l o=false):=by show _=_;unfold rok;simp;omega
      have h5c:(o !=0)=true:=by simpa using h5b
      clear h5b;go_enter func165,ntmps165
      go_wp2;go_ret;exact ⟨aB hf.o.symm,bal⟩
     .have hp:=wG l.toNat;have hp0:=pow_pos l.toNat
      have hf:Zh (rok b l o=decide (0<=b/\b<=262144-(2:Int)^l.toNat/\b%(2:Int)^l.toNat=0)):=by
       show _=_;unfold rok;congr 1;apply propext;constructor
       .rintro ⟨_,_,_,_,_,h⟩;exact h
       .intro h;exact ⟨by omega,by omega,by omega,by omega,by omega,h⟩
      by_cases h8:l<8
      .have h0:o=0:=by omega
       subst h0;clear h5 h3 h4;go_enter func165,ntmps165
       go_wp2_with (go_at_call 164;refine (eG _ (by omega) (by omega) _).mono ?_;rintro e w' ⟨rfl,rfl⟩)
       all_goals
        go_ret;refine ⟨aB ?_,bal⟩;rw [hf.o,xJ];simp;try omega
      .clear h5;go_enter func165,ntmps165
       go_wp2_with (go_at_call 164;refine (eG _ (by omega) (by omega) _).mono ?_;rintro e w' ⟨rfl,rfl⟩)
       all_goals
        go_ret;refine ⟨aB ?_,bal⟩;rw [hf.o,xJ];simp;try omega
theorem uH (b l o:Int)(r x y:Bool)(w:qw)(hb:(Lit.int .i64 b).wf=true):
 qC 180 #[.agg #[qI b,qI l,qI o,.bool r,.bool x,.bool y]] w (qB w (.bool (rok b l o))):=by
 by_cases h1:l<5
 .have hf:Zh (rok b l o=false):=by show _=_;unfold rok;simp;omega
  go_enter func180,ntmps180
  go_wp2;go_ret;exact ⟨aB hf.o.symm,bal⟩
 .by_cases h2:14<l
  .have hf:Zh (rok b l o=false):=by show _=_;unfold rok;simp;omega
   go_enter func180,ntmps180
   go_wp2;go_ret;exact ⟨aB hf.o.symm,bal⟩
  .by_cases h3:o<0
   .have hf:Zh (rok b l o=false):=by show _=_;unfold rok;simp;omega
    go_enter func180,ntmps180
    go_wp2;go_ret;exact ⟨aB hf.o.symm,bal⟩
   .by_cases h4:255<o
    .have hf:Zh (rok b l o=false):=by show _=_;unfold rok;simp;omega
     go_enter func180,ntmps180
     go_wp2;go_ret;exact ⟨aB hf.o.symm,bal⟩
    .by_cases h5:l<8/\o≠0
     .obtain ⟨h5a,h5b⟩:=h5;have hf:Zh (rok b l o=false):=by show _=_;unfold rok;simp;omega
      have h5c:(o !=0)=true:=by simpa using h5b
      clear h5b;go_enter func180,ntmps180
      go_wp2;go_ret;exact ⟨aB hf.o.symm,bal⟩
     .have hp:=wG l.toNat;have hp0:=pow_pos l.toNat
      have hf:Zh (rok b l o=decide (0<=b/\b<=262144-(2:Int)^l.toNat/\b%(2:Int)^l.toNat=0)):=by
       show _=_;unfold rok;congr 1;apply propext;constructor
       .rintro ⟨_,_,_,_,_,h⟩;exact h
       .intro h;exact ⟨by omega,by omega,by omega,by omega,by omega,h⟩
      by_cases h8:l<8
      .have h0:o=0:=by omega
       subst h0;clear h5 h3 h4;go_enter func180,ntmps180
       go_wp2
       all_goals
        go_ret;refine ⟨aB ?_,bal⟩;rw [hf.o,xJ];simp [*];try omega
      .clear h5;by_cases ho:o=0
       .subst ho;clear h3 h4;go_enter func180,ntmps180
        go_wp2
        all_goals
         go_ret;refine ⟨aB ?_,bal⟩;rw [hf.o,xJ];simp [*];try omega
       .have ho':(o !=0)=true:=by simpa using ho
        clear ho;go_enter func180,ntmps180
        go_wp2
        all_goals
         go_ret;refine ⟨aB ?_,bal⟩;rw [hf.o,xJ];simp [*];try omega
def qK (x:Nat):Nat:=x%2+x/2%2+x/4%2+x/8%2+x/16%2+x/32%2+x/64%2+x/128%2
set_option maxRecDepth 100000 in
theorem rI (x:Nat)(w:qw)(h1:x<256):
 qC 173 #[.int .u8 x] w fun e w'=>e=.returned (qI (qK x))/\w=w':=by
 go_enter func173,ntmps173
 go_wp2;go_ret;refine ⟨aQ ?_,rfl⟩;clear w
 revert x
 decide +kernel
theorem aFn:∀ o:Fin 256,(255 ^^^ (255-o.val))=o.val:=by decide +kernel
theorem aIa (q:Nat)(h:q<256):bits BinOp.xor IntKind.u8 IntKind.u8.max (255-(q:Int))=(q:Int):=by
 have hm:IntKind.u8.max=255:=by decide
 rw [hm,u8_xor 255 (255-(q:Int)) (by omega) (by omega) (by omega) (by omega)];have:=aFn ⟨q,h⟩;simp only at this;have e:(255:Int).toNat=255:=rfl;have e2:(255-(q:Int)).toNat=255-q:=by omega
 rw [e,e2,this]
theorem aI9:∀ q,q<256->qK q<=8:=by decide +kernel
theorem aBh (b l:Int)(q:Nat)(r x y:Bool)(w:qw)(h:q<256):
 qC 174 #[.agg #[qI b,qI l,qI (255-(q:Int)),.bool r,.bool x,.bool y]] w (qB w (.int .u8 q)):=by
 have hx:=zh (aIa q h);have h0:0<=255-(q:Int):=by omega
 have h1:255-(q:Int)<=255:=by omega
 generalize 255-(q:Int)=o at *;go_enter func174,ntmps174
 go_wp2;go_ret;exact ⟨aQ hx.o,bal⟩
theorem Blk.six' {w:qw}{a b c d e f:Value}{t:TypeId}(h:Blk w g #[a,b,c,d,e,f] t):
 w.cell? (qR g 0)=some a/\w.cell? (qR g 1)=some b/\w.cell? (qR g 2)=some c/\w.cell? (qR g 3)=some d/\w.cell? (qR g 4)=some e/\w.cell? (qR g 5)=some f/\∀ i,w.frozen? (qR g i)=false:=
 ⟨by rw [h.cell];rfl,by rw [h.cell];rfl,by rw [h.cell];rfl,by rw [h.cell];rfl,by rw [h.cell];rfl,by rw [h.cell];rfl,fun i=>h.frozen i⟩
theorem mS {n:Int}(h0:-9223372036854775808<=n:=by omega)(h1:n<=9223372036854775807:=by omega):IntKind.i64.wrap n=n:=by
 simp only [IntKind.wrap,IntKind.bits,IntKind.signed];simp;omega
def cnt (l:Int)(q:Nat):Int:=(qK q:Int)*(2:Int)^(l-3).toNat
theorem dW (b l:Int)(q:Nat)(r x y:Bool)(w:qw)(h:q<256)(hl:5<=l)(hl':l<=14):
 qC 168 #[.agg #[qI b,qI l,qI (255-(q:Int)),.bool r,.bool x,.bool y]] w (qB w (qI (cnt l q))):=by
 have hp:=aI9 q h;have hpw:=wG (l-3).toNat;have hpw0:=pow_pos (l-3).toNat
 have hmul:(qK q:Int)*(2:Int)^(l-3).toNat<=8*1048576:=by
  have h1:(qK q:Int)*(2:Int)^(l-3).toNat<=8*(2:Int)^(l-3).toNat:=Int.mul_le_mul_of_nonneg_right (by omega) (by omega);omega
 have hmul0:0<=(qK q:Int)*(2:Int)^(l-3).toNat:=Int.mul_nonneg (by omega) (by omega);have hw2:IntKind.i64.wrap (l-3)=l-3:=mS;have HC:Zh (cnt l q=(qK q:Int)*(2:Int)^(l-3).toNat):=rfl;have kb:=Blk.new w #[qI b,qI l,qI (255-(q:Int)),.bool r,.bool x,.bool y] 177;have hB0:qY w (w.alloc (.cells #[qI b,qI l,qI (255-(q:Int)),.bool r,.bool x,.bool y] 177)):=bal;have HM:=zh (xA hmul0 hmul);clear hmul hmul0;have HP:=zh (rI q);go_enter func168,ntmps168
 go_wp2
 go_region_held3 (fun w'=>w'.cell? (qR w.heap.size 0)=some (qI b)/\w'.cell? (qR w.heap.size 1)=some (qI l)/\w'.cell? (qR w.heap.size 2)=some (qI (255-(q:Int)))/\w'.cell? (qR w.heap.size 3)=some (.bool r)/\w'.cell? (qR w.heap.size 4)=some (.bool x)/\w'.cell? (qR w.heap.size 5)=some (.bool y)) (go_keep)
  (first
    | (go_at_call 174;refine (aBh b l q r x y _ h).mono ?_;rintro e w1 ⟨rfl,hb1⟩;obtain ⟨q1,q2,q3,q4,q5,q6,q7⟩:=(Blk.bw (by exact kb) hb1).six')
    | (go_at_call 173;refine (HP.o _ h).mono ?_;rintro e w2 ⟨rfl,rfl⟩))
 go_wp2;go_ret;refine ⟨aQ ?_,hB0.drew.trans (hb1.mono (by simp))⟩;rw [HC.o];exact mS (by have:=HM.o;omega) (by have:=HM.o;omega)
theorem aO1:∀ (q i:Nat),q<256->i<8->(q ||| 2^i)<256:=by
 intro q i hq hi;exact Nat.or_lt_two_pow (n:=8) hq (Nat.pow_lt_pow_right (by omega) hi)
theorem aFr (q i:Nat)(w:qw)(h:q<256)(hi:i<8):
 qC 179 #[.int .u8 q,qI i] w fun e w'=>e=.returned (.int .u8 ((q ||| 2^i:Nat):Int))/\w=w':=by
 go_enter func179,ntmps179
 go_wp2;go_ret;refine ⟨aQ ?_,rfl⟩;have hp:(2:Nat)^i<256:=Nat.pow_lt_pow_right (by omega) hi
 have e:(2:Int)^i%256=((2^i:Nat):Int):=by
  have:((2^i:Nat):Int)=(2:Int)^i:=by simp
  have:=pow_pos i;omega
 rw [e];exact u8_or_nat q (2^i) h hp
def cm (l:Int)(q:Nat)(l':Int)(q':Nat):Bool:=decide (cnt l' q'<cnt l q\/(cnt l q=cnt l' q'/\l<l'))
theorem tD (b l b' l':Int)(q q':Nat)(w:qw)(h:q<256)(h':q'<256)(hl:5<=l)(hl2:l<=14)(hl':5<=l')(hl2':l'<=14):
 qC 171 #[.agg #[qI b,qI l,qI (255-(q:Int)),.bool false,.bool false,.bool false],.agg #[qI b',qI l',qI (255-(q':Int)),.bool false,.bool false,.bool false]] w (qB w (.bool (cm l q l' q'))):=by
 have ka:=(Blk.new w #[qI b,qI l,qI (255-(q:Int)),.bool false,.bool false,.bool false] 177).alloc (.cells #[qI b',qI l',qI (255-(q':Int)),.bool false,.bool false,.bool false] 177);have kb:=Blk.new (w.alloc (.cells #[qI b,qI l,qI (255-(q:Int)),.bool false,.bool false,.bool false] 177)) #[qI b',qI l',qI (255-(q':Int)),.bool false,.bool false,.bool false] 177;try unfold qY at *
 simp only [xF] at kb;have hB0:qY w ((w.alloc (.cells #[qI b,qI l,qI (255-(q:Int)),.bool false,.bool false,.bool false] 177)).alloc (.cells #[qI b',qI l',qI (255-(q':Int)),.bool false,.bool false,.bool false] 177)):=bal.alloc (by simp) _;have A1:=zh (dW b l q false false false);have A2:=zh (dW b' l' q' false false false);obtain ⟨o,ho⟩:=eqx (255-(q:Int));obtain ⟨o',ho'⟩:=eqx (255-(q':Int));have HM:Zh (cm l q l' q'=decide (cnt l' q'<cnt l q\/(cnt l q=cnt l' q'/\l<l'))):=rfl;rw [<- ho] at A1 ka kb hB0 ⊢;rw [<- ho'] at A2 ka kb hB0 ⊢;clear ho ho';generalize cnt l q=c1 at *;generalize cnt l' q'=c2 at *;go_enter func171,ntmps171
 go_wp2
 go_region_held3 (fun w'=>w'.cell? (qR w.heap.size 0)=some (qI b)/\w'.cell? (qR w.heap.size 1)=some (qI l)/\w'.cell? (qR w.heap.size 2)=some (qI o)/\w'.cell? (qR w.heap.size 3)=some (.bool false)/\w'.cell? (qR w.heap.size 4)=some (.bool false)/\w'.cell? (qR w.heap.size 5)=some (.bool false)/\w'.cell? (qR (w.heap.size+1) 0)=some (qI b')/\w'.cell? (qR (w.heap.size+1) 1)=some (qI l')/\w'.cell? (qR (w.heap.size+1) 2)=some (qI o')/\w'.cell? (qR (w.heap.size+1) 3)=some (.bool false)/\w'.cell? (qR (w.heap.size+1) 4)=some (.bool false)/\w'.cell? (qR (w.heap.size+1) 5)=some (.bool false)) (go_keep)
  (first
    | (go_at_call_of 168 (qI l);refine (A1.o _ h hl hl2).mono ?_;rintro e w1 ⟨rfl,hb1⟩;replace hb1:=fE hb1;obtain ⟨q1,q2,q3,q4,q5,q6,q7⟩:=(ka.bw hb1).six';obtain ⟨p1,p2,p3,p4,p5,p6,p7⟩:=(kb.bw hb1).six')
    | (go_at_call_of 168 (qI l');refine (A2.o _ h' hl' hl2').mono ?_;rintro e w2 ⟨rfl,hb2⟩;replace hb2:=hb1.trans (hb2.mono hb1.size);obtain ⟨q1,q2,q3,q4,q5,q6,q7⟩:=(ka.bw hb2).six';obtain ⟨p1,p2,p3,p4,p5,p6,p7⟩:=(kb.bw hb2).six'))
 have ka2:=ka.bw hb2;have kb2:=kb.bw hb2;have hB2:=hB0.trans (hb2.mono hB0.size);clear hb1 hb2 ka kb hB0;by_cases hc:c1=c2
 .subst hc;have hne:(c1 !=c1)=false:=by simp
  have HF:=zh (show decide (c1<c1\/(c1=c1/\l<l'))=decide (l<l') from by simp);obtain ⟨q1,q2,q3,q4,q5,q6,q7⟩:=ka2.six';obtain ⟨p1,p2,p3,p4,p5,p6,p7⟩:=kb2.six';go_wp2;go_ret;exact ⟨aB (by rw [HM.o,HF.o]),hB2⟩
 .have hne:(c1 !=c2)=true:=by simpa using hc
  have HF:=zh (show decide (c2<c1\/(c1=c2/\l<l'))=decide (c2<c1) from by simp [hc]);clear hc;obtain ⟨q1,q2,q3,q4,q5,q6,q7⟩:=ka2.six';obtain ⟨p1,p2,p3,p4,p5,p6,p7⟩:=kb2.six';go_wp2
  go_region_held3 (fun w'=>w'.cell? (qR w.heap.size 0)=some (qI b)/\w'.cell? (qR w.heap.size 1)=some (qI l)/\w'.cell? (qR w.heap.size 2)=some (qI o)/\w'.cell? (qR w.heap.size 3)=some (.bool false)/\w'.cell? (qR w.heap.size 4)=some (.bool false)/\w'.cell? (qR w.heap.size 5)=some (.bool false)/\w'.cell? (qR (w.heap.size+1) 0)=some (qI b')/\w'.cell? (qR (w.heap.size+1) 1)=some (qI l')/\w'.cell? (qR (w.heap.size+1) 2)=some (qI o')/\w'.cell? (qR (w.heap.size+1) 3)=some (.bool false)/\w'.cell? (qR (w.heap.size+1) 4)=some (.bool false)/\w'.cell? (qR (w.heap.size+1) 5)=some (.bool false)) (go_keep)
   (first
     | (go_at_call_of 168 (qI l);refine (A1.o _ h hl hl2).mono ?_;rintro e w3 ⟨rfl,hb1⟩;replace hb1:=fE hb1;obtain ⟨q1,q2,q3,q4,q5,q6,q7⟩:=(ka2.bw hb1).six';obtain ⟨p1,p2,p3,p4,p5,p6,p7⟩:=(kb2.bw hb1).six')
     | (go_at_call_of 168 (qI l');refine (A2.o _ h' hl' hl2').mono ?_;rintro e w4 ⟨rfl,hb2⟩;replace hb2:=hb1.trans (hb2.mono hb1.size);obtain ⟨q1,q2,q3,q4,q5,q6,q7⟩:=(ka2.bw hb2).six';obtain ⟨p1,p2,p3,p4,p5,p6,p7⟩:=(kb2.bw hb2).six'))
  have hB4:=hB2.trans (hb2.mono hB2.size);clear hb1 hb2 q1 q2 q3 q4 q5 q6 q7 p1 p2 p3 p4 p5 p6 p7;go_wp2;go_ret;exact ⟨aB (by rw [HM.o,HF.o]),hB4⟩
def Bst (w:qw)(B:Nat)(fd:Bool)(b l o:Int):Prop:=
 Blk w B #[.func (Fn.func 171) #[] #[],.bool fd,qI b,qI l,qI o,.bool false,.bool false,.bool false] 215
theorem Bst.cells {w:qw}{b l:Int}(h:Bst w B fd b l o):
 w.cell? (qR B 0)=some (.func (Fn.func 171) #[] #[])/\w.cell? (qR B 1)=some (.bool fd)/\w.cell? (qR B 2)=some (qI b)/\w.cell? (qR B 3)=some (qI l)/\w.cell? (qR B 4)=some (qI o)/\w.cell? (qR B 5)=some (.bool false)/\w.cell? (qR B 6)=some (.bool false)/\w.cell? (qR B 7)=some (.bool false)/\∀ i,w.frozen? (qR B i)=false:=
 ⟨by rw [Blk.cell h];rfl,by rw [Blk.cell h];rfl,by rw [Blk.cell h];rfl,by rw [Blk.cell h];rfl,by rw [Blk.cell h];rfl,by rw [Blk.cell h];rfl,by rw [Blk.cell h];rfl,by rw [Blk.cell h];rfl,fun i=>Blk.frozen h i⟩
theorem aEj {a W:qw}(h:Turn S a W)(n:Nat):Turn S a (W.drewN n):=⟨h.os,h.tape,h.output,h.size,h.block⟩
def aC5 (W:qw)(B:Nat)(b l o:Int):World:=
 ((((((W.setCell (qR B 1) (.bool true)).setCell (qR B 2) (qI b)).setCell (qR B 3) (qI l)).setCell (qR B 4) (qI o)).setCell (qR B 5) (.bool false)).setCell (qR B 6) (.bool false)).setCell (qR B 7) (.bool false)
theorem uM {W:qw}{b' l' o':Int}(h:Bst W B fd b' l' o')(b l o:Int):Bst (aC5 W B b l o) B true b l o:=by
 have:=((((((Blk.set h 1 (.bool true)).set 2 (qI b)).set 3 (qI l)).set 4 (qI o)).set 5 (.bool false)).set 6 (.bool false)).set 7 (.bool false);unfold Bst aC5;simpa using this
theorem pP (W:qw)(B:Nat)(b l o:Int):Turn (fun j=>j=B) W (aC5 W B b l o):=by
 have T:∀ (X:qw) (i:Nat) (v:Value),Turn (fun j=>j=B) X (X.setCell (qR B i) v):=fun X i v=>⟨rfl,rfl,rfl,by rw [aG];exact aL,fun j hj hn=>heap_setCell_other _ _ _ _ hn⟩;unfold aC5;exact ((((((T _ _ _).trans (T _ _ _)).trans (T _ _ _)).trans (T _ _ _)).trans (T _ _ _)).trans (T _ _ _)).trans (T _ _ _)
theorem aE2 (B:Nat)(b l o b' l' o':Int)(w:qw)(h:Bst w B false b' l' o'):
 qC 181 #[.pointer (qP B),.agg #[qI b,qI l,qI o,.bool false,.bool false,.bool false]] w fun e w'=>e=.returned (.tuple #[])/\Bst w' B true b l o/\Turn (fun j=>j=B) w w':=by
 have hlt:=Blk.lt h;obtain ⟨q1,q2,q3,q4,q5,q6,q7,q8,q9⟩:=h.cells;have HF:Zh (Bst (w.alloc (.cells #[qI b,qI l,qI o,.bool false,.bool false,.bool false] 177)) B false b' l' o'):=Blk.alloc h _;have HT:=zh (aD (S:=fun j=>j=B) w (.cells #[qI b,qI l,qI o,.bool false,.bool false,.bool false] 177));clear h;go_enter func181,ntmps181
 go_wp2
 go_quiet (fail)
 go_wp2
 go_end0
 exact ⟨rfl,uM (W:=(w.alloc (.cells #[qI b,qI l,qI o,.bool false,.bool false,.bool false] 177)).drewN _) HF.o b l o,(aEj HT.o _).trans (pP _ B b l o)⟩
def aN7 (w:qw)(B:Nat)(t:Bool)(b l o b' l' o':Int):Prop:=Bst w B true (if t then b else b') (if t then l else l') (if t then o else o')
theorem aE3 (B:Nat)(b l b' l':Int)(q q':Nat)(w:qw)(h:Bst w B true b' l' (255-(q':Int)))(hq:q<256)(hq':q'<256)(hl:5<=l)(hl2:l<=14)(hl':5<=l')(hl2':l'<=14):
 qC 181 #[.pointer (qP B),.agg #[qI b,qI l,qI (255-(q:Int)),.bool false,.bool false,.bool false]] w fun e w'=>e=.returned (.tuple #[])/\aN7 w' B (cm l q l' q') b l (255-(q:Int)) b' l' (255-(q':Int))/\Turn (fun j=>j=B) w w':=by
 have hlt:=Blk.lt h;have C1:=zh (tD b l b' l' q q');have kb:=Blk.new w #[qI b,qI l,qI (255-(q:Int)),.bool false,.bool false,.bool false] 177;have hb:Bst (w.alloc (.cells #[qI b,qI l,qI (255-(q:Int)),.bool false,.bool false,.bool false] 177)) B true b' l' (255-(q':Int)):=Blk.alloc h _;have HT:=zh (aD (S:=fun j=>j=B) w (.cells #[qI b,qI l,qI (255-(q:Int)),.bool false,.bool false,.bool false] 177));obtain ⟨o,ho⟩:=eqx (255-(q:Int));obtain ⟨o',ho'⟩:=eqx (255-(q':Int));rw [<- ho] at C1 kb hb HT ⊢;rw [<- ho'] at C1 hb ⊢;clear ho ho' h;obtain ⟨q1,q2,q3,q4,q5,q6,q7,q8,q9⟩:=hb.cells;generalize cm l q l' q'=t at *;go_enter func181,ntmps181
 go_wp2
 go_region_held3 (fun w'=>w'.cell? (qR w.heap.size 0)=some (qI b)/\w'.cell? (qR w.heap.size 1)=some (qI l)/\w'.cell? (qR w.heap.size 2)=some (qI o)/\w'.cell? (qR w.heap.size 3)=some (.bool false)/\w'.cell? (qR w.heap.size 4)=some (.bool false)/\w'.cell? (qR w.heap.size 5)=some (.bool false)/\w'.cell? (qR B 0)=some (.func (Fn.func 171) #[] #[])/\w'.cell? (qR B 1)=some (.bool true)/\w'.cell? (qR B 2)=some (qI b')/\w'.cell? (qR B 3)=some (qI l')/\w'.cell? (qR B 4)=some (qI o')/\w'.cell? (qR B 5)=some (.bool false)/\w'.cell? (qR B 6)=some (.bool false)/\w'.cell? (qR B 7)=some (.bool false)) (go_keep)
  (first
    | (go_at_call 171;refine (C1.o _ hq hq' hl hl2 hl' hl2').mono ?_;rintro e w1 ⟨rfl,hb1⟩;replace hb1:=fE hb1;obtain ⟨p1,p2,p3,p4,p5,p6,p7⟩:=(kb.bw hb1).six';obtain ⟨q1,q2,q3,q4,q5,q6,q7,q8,q9⟩:=Bst.cells (show Bst w1 B true b' l' o' from Blk.bw hb hb1)))
 have hb':Bst w1 B true b' l' o':=Blk.bw hb hb1;have T1:=HT.o.trans (aJ (S:=fun j=>j=B) hb1);cases t
 .go_wp2
  go_end0
  exact ⟨rfl,hb',T1⟩
 .go_wp2
  go_end0
  exact ⟨rfl,uM hb' b l o,T1.trans (pP _ B b l o)⟩
def bN (i0 j:Nat):Nat:=2^(i0+j)-2^i0
theorem uP (i0:Nat):bN i0 0=0:=by simp [bN]
theorem aEr:∀ i0,i0<8->∀ j,j<8->i0+j<8->(bN i0 j ||| 2^(i0+j))=bN i0 (j+1):=by decide +kernel
theorem jS:∀ i0,i0<8->∀ j,j<9->i0+j<=8->bN i0 j<256:=by decide +kernel
theorem aGa:∀ i0,i0<8->∀ j,j<9->i0+j<=8->qK (bN i0 j)=j:=by decide +kernel
theorem aEs:∀ i0,i0<8->∀ j,j<9->i0+j<=8->(bN i0 j=255 ↔ j=8):=by decide +kernel
abbrev CSt:=Option (Int×Int×Nat)
def lC:CSt->Int
 | none=>0
 | some (b,l,q)=>cnt l q
def aM6 (s:CSt)(L:Int):Prop:=∀ b l q,s=some (b,l,q)->5<=l/\l<L/\q<256/\0<cnt l q
def gI (w:qw)(B:Nat):CSt->Prop
 | none=>Bst w B false 0 0 0
 | some (b,l,q)=>Bst w B true b l (255-(q:Int))
def fX (s:CSt)(b L:Int)(q:Nat):CSt:=if lC s<cnt L q then some (b,L,q) else s
theorem mT (l:Int)(P:Int)(hP:(2:Int)^(l-3).toNat=P)(i0 j:Nat)(h0:i0<8)(h:i0+j<=8):cnt l (bN i0 j)=j*P:=by
 unfold cnt;rw [hP,aGa i0 h0 j (by omega) h]
theorem aB9 (B:Nat)(b l:Int)(q:Nat)(w:qw)(h:gI w B none):
 qC 181 #[.pointer (qP B),.agg #[qI b,qI l,qI (255-(q:Int)),.bool false,.bool false,.bool false]] w fun e w'=>e=.returned (.tuple #[])/\gI w' B (some (b,l,q))/\Turn (fun j=>j=B) w w':=
 aE2 B b l (255-(q:Int)) 0 0 0 w h
theorem rM (B:Nat)(b l b' l':Int)(q q':Nat)(w:qw)(h:gI w B (some (b',l',q')))(hq:q<256)(hq':q'<256)(hl:5<=l)(hl2:l<=14)(hl':5<=l')(hl2':l'<=14):
 qC 181 #[.pointer (qP B),.agg #[qI b,qI l,qI (255-(q:Int)),.bool false,.bool false,.bool false]] w fun e w'=>e=.returned (.tuple #[])/\gI w' B (if cm l q l' q' then some (b,l,q) else some (b',l',q'))/\Turn (fun j=>j=B) w w':=
 (aE3 B b l b' l' q q' w h hq hq' hl hl2 hl' hl2').mono fun e w' he=>⟨he.1,by
   have:=he.2.1;cases hc:cm l q l' q'
   .rw [hc] at this;exact this
   .rw [hc] at this;exact this,he.2.2⟩
def stJ (s:CSt)(b l:Int)(i0 j:Nat):CSt:=if 8<=l\/j=8 then fX s b l (bN i0 j) else s
theorem aF1 (s:CSt)(b l P:Int)(hP:(2:Int)^(l-3).toNat=P)(i0:Nat)(h0:i0<8)(hs:0<=lC s):stJ s b l i0 0=s:=by
 unfold stJ fX;rw [mT l P hP i0 0 h0 (by omega)];simp;omega
theorem aB8 (B:Nat)(s:CSt)(b l P:Int)(hP:(2:Int)^(l-3).toNat=P)(hP0:0<P)(i0 j:Nat)(w:qw)(h0:i0<8)(hj:i0+j<8)(hl:5<=l)(hl2:l<=14)(hs:aM6 s l)(hs0:0<=lC s)(h8:8<=l\/j+1=8)(h:gI w B (stJ s b l i0 j)):
 qC 181 #[.pointer (qP B),.agg #[qI b,qI l,qI (255-(bN i0 (j+1):Int)),.bool false,.bool false,.bool false]] w fun e w'=>e=.returned (.tuple #[])/\gI w' B (stJ s b l i0 (j+1))/\Turn (fun j=>j=B) w w':=by
 have hq1:=jS i0 h0 (j+1) (by omega) (by omega);have hc1:=mT l P hP i0 (j+1) h0 (by omega);have hc0:=mT l P hP i0 j h0 (by omega);have hmul:((j+1:Nat):Int)*P=(j:Int)*P+P:=by rw [Int.natCast_add,Int.add_mul];simp
 have hjP:0<=(j:Int)*P:=Int.mul_nonneg (by omega) (by omega);have e1:stJ s b l i0 (j+1)=fX s b l (bN i0 (j+1)):=by unfold stJ;rw [if_pos h8]
 rw [e1];by_cases hk:8<=l/\lC s<cnt l (bN i0 j)
 .have e0:stJ s b l i0 j=some (b,l,bN i0 j):=by unfold stJ fX;rw [if_pos (Or.inl hk.1),if_pos hk.2]
  rw [e0] at h;refine (rM B b l b l (bN i0 (j+1)) (bN i0 j) w h hq1 (jS i0 h0 j (by omega) (by omega)) hl hl2 hl hl2).mono fun e w' he=>?_;have hcm:cm l (bN i0 (j+1)) l (bN i0 j)=true:=by unfold cm;rw [hc1,hc0,hmul];simp;omega
  have ek:fX s b l (bN i0 (j+1))=some (b,l,bN i0 (j+1)):=by unfold fX;rw [if_pos (by rw [hc1,hmul];rw [hc0] at hk;omega)]
  rw [hcm] at he;rw [ek];exact he
 .have e0:stJ s b l i0 j=s:=by
   unfold stJ;by_cases h8':8<=l
   .rw [if_pos (Or.inl h8')];unfold fX;rw [if_neg (fun e=>hk ⟨h8',e⟩)]
   .rw [if_neg (by omega)]
  rw [e0] at h
  match s,h,hs,hs0,hk with
  | none,h,_,_,_=>
    have ek:fX none b l (bN i0 (j+1))=some (b,l,bN i0 (j+1)):=by unfold fX;rw [if_pos (by rw [hc1,hmul];simp [lC];omega)]
    rw [ek];exact aB9 B b l (bN i0 (j+1)) w h
  | some (b',l',q'),h,hs,hs0,hk=>
    obtain ⟨g1,g2,g3,g4⟩:=hs b' l' q' rfl;refine (rM B b l b' l' (bN i0 (j+1)) q' w h hq1 g3 hl hl2 g1 (by omega)).mono fun e w' he=>?_
    have hcm:cm l (bN i0 (j+1)) l' q'=decide (cnt l' q'<cnt l (bN i0 (j+1))):=by
     unfold cm;rw [xJ];simp;intro _ h;omega
    rw [hcm] at he;by_cases hlt:cnt l' q'<cnt l (bN i0 (j+1))
    .have ek:fX (some (b',l',q')) b l (bN i0 (j+1))=some (b,l,bN i0 (j+1)):=by
      show (if cnt l' q'<cnt l (bN i0 (j+1)) then some (b,l,bN i0 (j+1)) else some (b',l',q'))=_;rw [if_pos hlt]
     rw [ek];simp only [xR hlt,if_true] at he;exact he
    .have ek:fX (some (b',l',q')) b l (bN i0 (j+1))=some (b',l',q'):=by
      show (if cnt l' q'<cnt l (bN i0 (j+1)) then some (b,l,bN i0 (j+1)) else some (b',l',q'))=_;rw [if_neg hlt]
     rw [ek];simp only [xS hlt] at he;exact he
theorem sK {w w':qw}{s:CSt}(t:Turn S w w')(h:gI w B s)(hk:¬ S B):gI w' B s:=by
 match s,h with
 | none,h=>exact aA t h hk
 | some (b,l,q),h=>exact aA t h hk
theorem kH (a l N:Int)(hl:5<=l)(hl2:l<=14)(hN:(2:Int)^l.toNat=N)(h0:0<=a:=by omega)(h1:a<262144:=by omega):0<=a-a%N/\a-a%N<=262144-N/\(a-a%N)%N=0/\0<=a%N/\a%N<N:=by
 have:l=5\/l=6\/l=7\/l=8\/l=9\/l=10\/l=11\/l=12\/l=13\/l=14:=by omega
 rcases this with rfl|rfl|rfl|rfl|rfl|rfl|rfl|rfl|rfl|rfl<;>(subst hN;simp;omega)
theorem uT (l:Int)(hl:5<=l):(2:Int)^l.toNat=8*(2:Int)^(l-3).toNat:=by
 have:l.toNat=(l-3).toNat+3:=by omega
 rw [this,Int.pow_add];omega
theorem aAf (l:Int)(hl:5<=l)(hl2:l<=14):4<=(2:Int)^(l-3).toNat/\(2:Int)^(l-3).toNat<=2048:=by
 have:l=5\/l=6\/l=7\/l=8\/l=9\/l=10\/l=11\/l=12\/l=13\/l=14:=by omega
 rcases this with rfl|rfl|rfl|rfl|rfl|rfl|rfl|rfl|rfl|rfl<;>simp
theorem aJw (q:Nat)(h:q<256):bits BinOp.xor IntKind.u8 IntKind.u8.max (q:Int)=255-(q:Int):=by
 have:=aIa (255-q) (by omega);have e:(255-((255-q:Nat):Int))=(q:Int):=by omega
 rw [e] at this;rw [this];omega
def aEg (s:CSt)(a en l P b:Int)(i0:Nat)(s':CSt):Prop:=
 (a%P≠0/\s'=s) \/
 (a%P=0/\∃ j:Nat,i0+j<=8/\(b+((i0+j:Nat):Int)*P<=en\/j=0)/\(i0+j=8\/en<b+(((i0+j:Nat):Int)+1)*P)/\s'=stJ s b l i0 j)
theorem aLm {a w w':qw}(h:Turn S a w)(hb:qY w w'):Turn S a w':=h.trans (aJ hb)
theorem tY (B:Nat)(s:CSt)(a en l P N b:Int)(i0:Nat)(w:qw)(hl:5<=l)(hl2:l<=14)(ha:0<=a)(hae:a<en)(hen:en<=262144)(hs:aM6 s l)(hs0:0<=lC s)(hP:(2:Int)^(l-3).toNat=P)(hN:(2:Int)^l.toNat=N)(hb:a-a%N=b)(hi:(a-b)/P=(i0:Int))(h:gI w B s):
 qC 172 #[.pointer (qP B),qI a,qI en,qI l] w fun e w'=>e=.returned (.tuple #[])/\(∃ s',gI w' B s'/\aEg s a en l P b i0 s')/\Turn (fun j=>j=B) w w':=by
 obtain ⟨p4,p5⟩:=aAf l hl hl2;obtain ⟨b0,b1,b2,b3,b4⟩:=kH a l N hl hl2 hN ha;have hNP:=uT l hl;rw [hP,hN] at hNP;have hN1:N<=16384:=by rw [hP] at p5;omega
 have hN0:0<N:=by rw [hP] at p4;omega
 rw [hb] at b0 b1 b2;rw [hP] at p4 p5;have hP':=zh hP;have hN':=zh hN;have hab:a-b=a%N:=by omega
 have hi8:i0<8:=by
  have:(a-b)/P<8:=by
   apply Int.ediv_lt_of_lt_mul (by omega);omega
  omega
 by_cases hm:a%P=0
 .have hab2:a=b+(i0:Int)*P:=by
   have e1:(a%N)%P=0:=by
    rw [hNP,Int.emod_emod_of_dvd a (Int.dvd_mul_left 8 P)];exact hm
   have e2:=Int.mul_ediv_add_emod (a-b) P;rw [hi,hab,e1,Int.mul_comm] at e2;omega
  have HK:=zh (aF1 s b l P hP i0 hi8 hs0);have HS:=zh hs;have HNP:=zh hNP;have HAB:=zh hab2;have HAB1:=zh hab;have HH:=zh h;have HB2:=zh b2;have HM:=zh hm;clear hNP hs hab2 hab h b2;go_enter func172,ntmps172
  go_wp2;go_loopw [10,11] (fun r i wr=>∃ j:Nat,i0+j<=8/\r=.int .u8 (bN i0 j:Nat)/\i=qI ((i0+j:Nat):Int)/\(b+((i0+j:Nat):Int)*P<=en\/j=0)/\gI wr B (stJ s b l i0 j)/\Turn (fun j=>j=B) w wr) (fun _ i _=>8-(intOf i).toNat)
  .exact ⟨0,by omega,by rw [uP];rfl,by rw [hi];rfl,Or.inr rfl,by rw [HK.o];exact HH.o,Turn.refl _ _⟩
  .obtain ⟨j,hj,rfl,rfl,hq,hH,hT⟩:=hrel;obtain ⟨k,hk⟩:∃ k:Nat,k=i0+j:=⟨_,rfl⟩;have hkP:((k:Int)+1)*P=(k:Int)*P+P:=by rw [Int.add_mul];simp
   have hkP0:0<=(k:Int)*P:=Int.mul_nonneg (by omega) (by omega);have hkP1:(k:Int)*P<=8*P:=Int.mul_le_mul_of_nonneg_right (by omega) (by omega);have hm0:0<=((k:Int)+1)*P:=by omega
   have hm1:((k:Int)+1)*P<=18432:=by omega
   rw [<- hk] at hj hq ⊢;have HKP:=zh hkP;have HQ:=zh hq;have HHH:=zh hH;have HT:=zh hT;have HKK:=zh hk;have HI:=zh hi;have HBB:=zh hb;clear hkP hkP0 hkP1 hq hH hT hk hi hb hP hN b3 b4 hm;by_cases h8:k<8
   .by_cases hle:b+((k:Int)+1)*P<=en
    .have HLE:=zh hle;have hq0:=jS i0 hi8 j (by have:=HKK.o;omega) (by have:=HKK.o;omega);have hq1:=jS i0 hi8 (j+1) (by have:=HKK.o;omega) (by have:=HKK.o;omega);have HST:=zh (aEr i0 hi8 j (by have:=HKK.o;omega) (by have:=HKK.o;omega));rw [<- HKK.o] at HST;have HNR:=zh (aJw (bN i0 (j+1)) hq1)
     have HROK:=zh (show rok b l (255-(bN i0 (j+1):Int))=decide (8<=l\/j+1=8) from by
      have hf:=aEs i0 hi8 (j+1) (by have:=HKK.o;omega) (by have:=HKK.o;omega);unfold rok;rw [hN'.o];have:=HB2.o;rw [xJ];simp only [decide_eq_true_eq];constructor
      .rintro ⟨_,_,_,_,h|h,_⟩
       .exact Or.inl h
       .exact Or.inr (hf.1 (by omega))
      .intro h;refine ⟨hl,hl2,by omega,by omega,?_,by omega,by omega,HB2.o⟩;rcases h with h|h
       .exact Or.inl h
       .exact Or.inr (by have:=hf.2 h;omega))
     go_wp2_with fail
     refine (aFr (bN i0 j) k _ hq0 h8).mono ?_;rintro e w1 ⟨rfl,rfl⟩;rw [HST.o];obtain ⟨q,hq⟩:=eqx (bN i0 (j+1));rw [<- hq] at HNR HROK hq1 ⊢;have HQQ:=zh hq;clear hq;have hwf:(Lit.int .i64 b).wf=true:=by simp [Lit.wf,IntKind.min,IntKind.max,IntKind.bits,IntKind.signed];omega
     go_wp2_with fail
     rw [HNR.o];rw [show wrap64 (255-(q:Int))=255-(q:Int) from by unfold wrap64;omega];refine (uH b l (255-(q:Int)) false false false _ hwf).mono ?_;rintro e w2 ⟨rfl,hb2⟩;obtain ⟨q1,q2,q3,q4,q5,q6,q7⟩:=(Blk.bw (Blk.new wr #[qI b,qI l,qI (255-(q:Int)),.bool false,.bool false,.bool false] 177) hb2).six';have HT2:=zh (aLm (aLm HT.o (brf.alloc aL (.cells #[qI b,qI l,qI (255-(q:Int)),.bool false,.bool false,.bool false] 177))) hb2);have HH2:=zh (sK (S:=fun _=>False) (aJ hb2) (sK (S:=fun _=>False) (aD wr (.cells #[qI b,qI l,qI (255-(q:Int)),.bool false,.bool false,.bool false] 177)) HHH.o id) id);rw [HROK.o];clear hb2;by_cases hc:8<=l\/j+1=8
     .simp only [hc,decide_true];have HOF:=zh (aB8 B s b l P hP'.o (by omega) i0 j w2 hi8 (by have:=HKK.o;omega) hl hl2 HS.o hs0 hc HH2.o);rw [<- HQQ.o] at HOF;go_wp2_with fail
      refine HOF.o.mono ?_;rintro e w3 ⟨rfl,hH3,hT3⟩;have HH3:=zh hH3;have HT3:=zh (HT2.o.trans hT3);clear hH3 hT3;go_wp2_with fail
      go_roundw
      .exact ⟨j+1,by have:=HKK.o;omega,by rw [HQQ.o],by rw [HKK.o];go_num,Or.inl (by have:=HLE.o;have e:=HKK.o;rw [show ((i0+(j+1):Nat):Int)=(k:Int)+1 by omega];exact this),HH3.o,HT3.o⟩
      .simp [intOf];omega
     .simp only [hc,decide_false]
      have HH3:=zh (show gI w2 B (stJ s b l i0 (j+1)) from by
       have e1:stJ s b l i0 (j+1)=s:=by unfold stJ;rw [if_neg hc]
       have e2:stJ s b l i0 j=s:=by unfold stJ;rw [if_neg (by have:=HKK.o;omega)]
       rw [e1,<- e2]
       exact HH2.o)
      go_wp2_with fail
      go_roundw
      .exact ⟨j+1,by have:=HKK.o;omega,by rw [HQQ.o],by rw [HKK.o];go_num,Or.inl (by have:=HLE.o;have e:=HKK.o;rw [show ((i0+(j+1):Nat):Int)=(k:Int)+1 by omega];exact this),HH3.o,HT2.o⟩
      .simp [intOf];omega
    .have HLE:=zh hle;go_wp2
     go_end0
     exact ⟨rfl,⟨_,HHH.o,Or.inr ⟨HM.o,j,by have:=HKK.o;omega,by rw [<- HKK.o];exact HQ.o,by rw [<- HKK.o];exact Or.inr (by have:=HLE.o;omega),rfl⟩⟩,HT.o⟩
   .go_wp2
    go_end0
    exact ⟨rfl,⟨_,HHH.o,Or.inr ⟨HM.o,j,by have:=HKK.o;omega,by rw [<- HKK.o];exact HQ.o,Or.inl (by have:=HKK.o;omega),rfl⟩⟩,HT.o⟩
 .have hm':(a%P !=0)=true:=by simpa using hm
  have HN:=zh hm;clear hm;go_enter func172,ntmps172
  go_wp2
  (try simp only [Exit.inBlock,Exit.then]);refine bodyPost_ret (results_none rfl _ _ _) rfl ?_
  exact ⟨rfl,⟨s,h,Or.inl ⟨HN.o,rfl⟩⟩,Turn.refl _ _⟩
def bH (a l:Int):Int:=a-a%(2:Int)^l.toNat
def cF (a l:Int):Nat:=((a%(2:Int)^l.toNat)/(2:Int)^(l-3).toNat).toNat
def jOf (a en l:Int):Nat:=min (8-cF a l) ((en-a)/(2:Int)^(l-3).toNat).toNat
def qOf (a en l:Int):Nat:=
 if l<8 then (if a%(2:Int)^l.toNat=0/\a+(2:Int)^l.toNat<=en then 255 else 0)
 else if a%(2:Int)^(l-3).toNat=0 then bN (cF a l) (jOf a en l) else 0
theorem tF (l:Int):cnt l 0=0:=by simp [cnt,qK]
theorem vB (s:CSt)(b l:Int)(h:0<=lC s):fX s b l 0=s:=by
 unfold fX;rw [tF,if_neg (by omega)]
theorem oC (a l P N:Int)(hl:5<=l)(hl2:l<=14)(hP:(2:Int)^(l-3).toNat=P)(hN:(2:Int)^l.toNat=N)(ha:0<=a)(ha2:a<262144):
 N=8*P/\4<=P/\P<=2048/\(a%N)%P=a%P/\cF a l<8/\(a%P=0->a%N=(cF a l:Int)*P)/\(a-bH a l)/P=(cF a l:Int):=by
 obtain ⟨p4,p5⟩:=aAf l hl hl2;have hNP:=uT l hl;rw [hP,hN] at hNP;rw [hP] at p4 p5;obtain ⟨b0,b1,b2,b3,b4⟩:=kH a l N hl hl2 hN ha ha2;have hd:(a%N)%P=a%P:=by rw [hNP,Int.emod_emod_of_dvd a (Int.dvd_mul_left 8 P)]
 have h0:0<=(a%N)/P:=Int.ediv_nonneg b3 (by omega);have h8:(a%N)/P<8:=Int.ediv_lt_of_lt_mul (by omega) (by omega);have hi:((cF a l:Nat):Int)=(a%N)/P:=by unfold cF;rw [hP,hN];omega
 refine ⟨hNP,p4,p5,hd,by omega,fun hm=>?_,?_⟩
 .have e2:=Int.mul_ediv_add_emod (a%N) P;rw [hd,hm,<- hi,Int.mul_comm] at e2;omega
 .unfold bH;rw [hN,hi];congr 1;omega
theorem aOq (a en l P N:Int)(hl:5<=l)(hl2:l<=14)(hP:(2:Int)^(l-3).toNat=P)(hN:(2:Int)^l.toNat=N)(ha:0<=a)(hae:a<en)(hen:en<=262144)(hm:a%P=0)(j:Nat)(h1:cF a l+j<=8)
 (h2:bH a l+((cF a l+j:Nat):Int)*P<=en\/j=0) (h3:cF a l+j=8\/en<bH a l+(((cF a l+j:Nat):Int)+1)*P):j=jOf a en l/\a+(j:Int)*P<=en:=by
 obtain ⟨g1,g2,g3,g4,g5,g6,g7⟩:=oC a l P N hl hl2 hP hN ha (by omega);have hb:bH a l=a-a%N:=by unfold bH;rw [hN]
 have e1:((cF a l+j:Nat):Int)*P=(cF a l:Int)*P+(j:Int)*P:=by rw [Int.natCast_add,Int.add_mul]
 have e2:(((cF a l+j:Nat):Int)+1)*P=(cF a l:Int)*P+(j:Int)*P+P:=by rw [Int.add_mul,e1];omega
 rw [hb,g6 hm,e1] at h2;rw [hb,g6 hm,e2] at h3
 have hjP:a+(j:Int)*P<=en:=by
  rcases h2 with h|h
  .omega
  .subst h;simp;omega
 have hd:(j:Int)<=(en-a)/P:=Int.le_ediv_of_mul_le (by omega) (by omega);refine ⟨?_,hjP⟩;unfold jOf;rw [hP];rcases h3 with h|h
 .omega
 .have:(en-a)/P<(j:Int)+1:=Int.ediv_lt_of_lt_mul (by omega) (by rw [Int.add_mul];omega);omega
theorem aBl (s s':CSt)(a en l P N:Int)(hl:5<=l)(hl2:l<=14)(hP:(2:Int)^(l-3).toNat=P)(hN:(2:Int)^l.toNat=N)(ha:0<=a)(hae:a<en)(hen:en<=262144)(hs:0<=lC s)
 (h:aEg s a en l P (bH a l) (cF a l) s'):s'=fX s (bH a l) l (qOf a en l):=by
 obtain ⟨g1,g2,g3,g4,g5,g6,g7⟩:=oC a l P N hl hl2 hP hN ha (by omega);rcases h with ⟨hm,rfl⟩|⟨hm,j,h1,h2,h3,rfl⟩
 .have hq:qOf a en l=0:=by
   unfold qOf;rw [hP,hN];by_cases h8:l<8
   .rw [if_pos h8,if_neg];rintro ⟨h,_⟩;rw [h] at g4;simp at g4;exact hm g4.symm
   .rw [if_neg h8,if_neg hm]
  rw [hq,vB _ _ _ hs]
 .obtain ⟨hj,hjP⟩:=aOq a en l P N hl hl2 hP hN ha hae hen hm j h1 h2 h3;have g6':=g6 hm;unfold stJ qOf;rw [hP,hN];by_cases h8:l<8
  .rw [if_pos h8];by_cases h88:j=8
   .have:cF a l=0:=by omega
    rw [this] at g6';simp at g6';subst h88;rw [if_pos (Or.inr rfl),if_pos ⟨g6',by omega⟩,this];rfl
   .rw [if_neg (by omega),if_neg,vB _ _ _ hs];rintro ⟨k1,k2⟩;rw [k1] at g6'
    have hi0:cF a l=0:=by
     have:(cF a l:Int)=0:=by
      rcases Int.mul_eq_zero.1 g6'.symm with h|h
      .exact h
      .omega
     omega
    have hd:(8:Int)<=(en-a)/P:=Int.le_ediv_of_mul_le (by omega) (by omega);unfold jOf at hj;rw [hP] at hj;omega
  .rw [if_pos (Or.inl (by omega)),if_neg h8,if_pos hm,<- hj]
def bL (a en:Int)(n:Nat):CSt:=
 if h:n=0 then none else fX (bL a en (n-1)) (bH a (5+((n-1:Nat):Int))) (5+((n-1:Nat):Int)) (qOf a en (5+((n-1:Nat):Int)))
theorem dG (a en:Int):bL a en 0=none:=by rw [bL,dif_pos rfl]
theorem dF (a en:Int)(n:Nat):bL a en (n+1)=fX (bL a en n) (bH a (5+n)) (5+n) (qOf a en (5+n)):=by
 rw [bL,dif_neg (by omega)];rfl
theorem tG (l:Int)(q:Nat):0<=cnt l q:=by
 unfold cnt;exact Int.mul_nonneg (by omega) (Int.le_of_lt (pow_pos _))
theorem gA (s:CSt):0<=lC s:=by
 match s with
 | none=>exact Int.le_refl _
 | some (b,l,q)=>exact tG l q
theorem aL6 (a en l:Int)(hl:5<=l)(hl2:l<=14)(ha:0<=a)(ha2:a<262144):qOf a en l<256:=by
 obtain ⟨g1,g2,g3,g4,g5,g6,g7⟩:=oC a l _ _ hl hl2 rfl rfl ha ha2;unfold qOf;split
 .split<;>omega
 .split
  .apply jS _ g5<;>(unfold jOf;omega)
  .omega
theorem nQ (a en:Int)(ha:0<=a)(ha2:a<262144):∀ n:Nat,n<=10->aM6 (bL a en n) (5+n)
 | 0,_=>fun b l q h=>by rw [dG] at h;cases h
 | n+1,hn=>by
   have ih:=nQ a en ha ha2 n (by omega);intro b l q h;rw [dF] at h;unfold fX at h;split at h
   .rename_i hlt;simp at h;obtain ⟨rfl,rfl,rfl⟩:=h;refine ⟨by omega,by omega,aL6 a en _ (by omega) (by omega) ha ha2,?_⟩;have:=gA (bL a en n);omega
   .obtain ⟨k1,k2,k3,k4⟩:=ih b l q h;exact ⟨k1,by omega,k3,k4⟩
theorem aBn (a en:Int)(w:qw)(ha:0<=a)(hae:a<en)(hen:en<=262144)(b l:Int)(q:Nat)(hF:bL a en 10=some (b,l,q)):
 qC 167 #[qI a,qI en] w (qB w (.agg #[qI b,qI l,qI (255-(q:Int)),.bool false,.bool false,.bool false])):=by
 have HF:=zh hF;clear hF;have HA:=zh (xA ha (xA hae hen));go_enter func167,ntmps167
 go_wp2;go_loopw [6] (fun x wr=>∃ n:Nat,n<=10/\x=qI (5+(n:Int))/\gI wr (w.heap.size+1) (bL a en n)/\Blk wr w.heap.size #[qI 0,qI 0,qI 0,.bool false,.bool false,.bool false] 177/\qY w wr) (qf 15)
 .refine ⟨0,by omega,rfl,?_,?_,?_⟩
  .rw [dG];have:=Blk.new (w.alloc (.cells #[qI 0,qI 0,qI 0,.bool false,.bool false,.bool false] 177)) #[.func (Fn.func 171) #[] #[],.bool false,qI 0,qI 0,qI 0,.bool false,.bool false,.bool false] 215;try unfold qY at *
   simp only [xF] at this;exact this
  .exact (Blk.new w _ _).alloc _
  .exact bal.alloc (by simp) _
 .obtain ⟨n,hn,rfl,hH,hZ,hB⟩:=hrel;have HH:=zh hH;have HB:=zh hB;have HZ:=zh hZ;clear hH hB hZ;by_cases hlt:n<10
  .have hsz:=HB.o.size;have HC:=zh (tY (w.heap.size+1) (bL a en n) a en (5+(n:Int)) _ _ _ (cF a (5+(n:Int))) wr (by omega) (by omega) ha hae hen (nQ a en ha (by omega) n (by omega)) (gA _) rfl rfl rfl (oC a (5+(n:Int)) _ _ (by omega) (by omega) rfl rfl ha (by omega)).2.2.2.2.2.2 HH.o);go_wp2_with fail
   refine HC.o.mono ?_;rintro e w1 ⟨rfl,⟨s',hs',hb'⟩,t1⟩;have hk:=aBl _ _ a en (5+(n:Int)) _ _ (by omega) (by omega) rfl rfl ha hae hen (gA _) hb';have H1:=zh (show gI w1 (w.heap.size+1) (bL a en (n+1)) from by rw [hk] at hs';rw [dF];exact hs');have Z1:=zh (aA t1 HZ.o (by omega));have B1:=zh (aI HB.o t1 (fun k e=>by omega) hsz);clear hk hs' hb' t1 HC;go_wp2_with fail
   go_roundw
   .exact ⟨n+1,by omega,by go_num,H1.o,Z1.o,B1.o⟩
   .simp [qf,intOf];omega
  .have hn10:n=10:=by omega
   subst hn10;rw [HF.o] at HH;have HC:=zh (Bst.cells HH.o);obtain ⟨q1,q2,q3,q4,q5,q6,q7,q8,q9⟩:=HC.o;obtain ⟨p1,p2,p3,p4,p5,p6,p7⟩:=HZ.o.six';have HK:=zh (Blk.set (Blk.set (Blk.set (Blk.set (Blk.set (Blk.set HZ.o 0 (qI b)) 1 (qI l)) 2 (qI (255-(q:Int)))) 3 (.bool false)) 4 (.bool false)) 5 (.bool false));go_wp2;refine bodyPost_ret (results_cell_row rfl _ _ w.heap.size 177 #[qI b,qI l,qI (255-(q:Int)),.bool false,.bool false,.bool false] (0,0) _ rfl (by exact HK.o) underlying177 rfl (by kernel_rfl)) rfl ⟨rfl,?_⟩;exact (((((HB.o.setCell aL _).setCell aL _).setCell aL _).setCell aL _).setCell aL _).setCell aL _
theorem cM {w:qw}{o o':Nat}{v:Value}(h:b≠g\/o'≠o:=by omega):(w.setCell (qR g o) v).cell? (qR b o')=w.cell? (qR b o'):=
 World.cell?_setCell_other _ _ _ _ (by intro e;injection e;rcases h with h|h<;>simp_all)
theorem nT {w:qw}{o:Nat}(h:w.cell? (qR g o)=some u):(w.setCell (qR g o) v).cell? (qR g o)=some v:=World.cell?_setCell_same _ _ _ h
def cok (pc:Int)(n:Nat)(zs:qi):Bool:=decide (0<=pc/\pc<=4294967295/\n=8)&&zs.all fun z=>decide (0<=z/\z<=4294967295)
theorem aKn {zs:qi}(k:Nat)(hk:k<zs.length)(h:¬ (0<=zs.getD k 0/\zs.getD k 0<=4294967295)):cok pc n zs=false:=by
 unfold cok;rw [Bool.and_eq_false_iff];right;rw [List.all_eq_false];refine ⟨zs.getD k 0,?_,by simpa using h⟩;rw [xB,xN hk];exact List.getElem_mem hk
theorem aIb {zs:qi}(h0:0<=pc)(h1:pc<=4294967295)(hl:zs.length=8)(h:∀ j,j<8->0<=zs.getD j 0/\zs.getD j 0<=4294967295):cok pc 8 zs=true:=by
 unfold cok;rw [Bool.and_eq_true];refine ⟨by simp;omega,?_⟩;rw [List.all_eq_true];intro z hz;obtain ⟨j,hj,rfl⟩:=List.getElem_of_mem hz;have:=h j (by omega);rw [xB,xN hj] at this;simpa using this
theorem aCv (pc:Int)(a:qO)(n cap:Nat)(zs:qi)(w:qw)(h:IS w a n cap zs):
 qC 59 #[.agg #[qI pc,qS a n cap]] w (qB w (.bool (cok pc n zs))):=by
 have hB0:qY w (w.alloc (.cells #[qI pc,qS a n cap] 31)):=bal;have hmx:=h.2.1;unfold maxLen at hmx;have hl:=h.1;have HIW:=zh (fun v w=>cA v w);by_cases c1:pc<0
 .have HF:Zh (cok pc n zs=false):=by show _=_;unfold cok;simp;omega
  rw [HF.o];have HW:=zh (fun w=>cA pc w);rw [xS (by omega)] at HW;go_enter func59,ntmps59
  go_wp2_with (go_at_call 106;refine (HW.o _).mono ?_;rintro e w' ⟨rfl,rfl⟩)
  go_ret;exact ⟨rfl,hB0⟩
 .by_cases c2:4294967295<pc
  .have HF:Zh (cok pc n zs=false):=by show _=_;unfold cok;simp;omega
   rw [HF.o];have HW:=zh (fun w=>cA pc w);rw [xS (by omega)] at HW;go_enter func59,ntmps59
   go_wp2_with (go_at_call 106;refine (HW.o _).mono ?_;rintro e w' ⟨rfl,rfl⟩)
   go_ret;exact ⟨rfl,hB0⟩
  .by_cases c3:n=8
   .subst c3;obtain ⟨b,off,rfl⟩:=h.addr (by omega);have h':=h.bw hB0;have HB:=zh hB0;clear h hB0 hmx;have h8:(((8:Nat):Int) !=8)=false:=by simp
    have HW:=zh (fun w=>cA pc w);rw [xR (by omega)] at HW;go_enter func59,ntmps59
    go_wp2_with (go_at_call 106;refine (HW.o _).mono ?_;rintro e w' ⟨rfl,rfl⟩)
    go_loop [18] (fun i=>∃ k:Nat,k<=8/\i=qI k/\Hid (∀ j,j<k->0<=zs.getD j 0/\zs.getD j 0<=4294967295)) (fun i=>8-(intOf i).toNat)
    .exact ⟨0,by omega,rfl,zh (fun j hj=>by omega)⟩
    .obtain ⟨k,hk,rfl,HJ⟩:=hrel;by_cases hlt:k<8
     .have hlt':(k:Int)<8:=by omega
      have hc:=h'.at k hlt;have HZ:Zh (∀ z,z=zs.getD k 0->¬ (0<=z/\z<=4294967295)->cok pc 8 zs=false):=fun z hz hn=>aKn k (by omega) (by rw [<- hz];exact hn)
      have HG:=zh (show ∀ z,z=zs.getD k 0->(0<=z/\z<=4294967295)->∀ j,j<k+1->0<=zs.getD j 0/\zs.getD j 0<=4294967295 from fun z hz hn j hj=>by
       by_cases e:j=k
       .subst e;rw [<- hz];exact hn
       .exact HJ.out j (by omega))
      obtain ⟨z,hz⟩:=eqx (zs.getD k 0);rw [<- hz] at hc;have HZ:=zh (HZ.o z hz);have HG:=zh (HG.o z hz);clear hz;by_cases z0:z<0
      .have HX:=zh (HZ.o (by omega));have HV:=zh (fun w=>cA z w);rw [xS (by omega)] at HV;go_wp2_with (go_at_call 106;refine (HV.o _).mono ?_;rintro e w' ⟨rfl,rfl⟩)
       go_ret;exact ⟨aB HX.o.symm,HB.o⟩
      .by_cases z1:4294967295<z
       .have HX:=zh (HZ.o (by omega));have HV:=zh (fun w=>cA z w);rw [xS (by omega)] at HV;go_wp2_with (go_at_call 106;refine (HV.o _).mono ?_;rintro e w' ⟨rfl,rfl⟩)
        go_ret;exact ⟨aB HX.o.symm,HB.o⟩
       .have HV:=zh (fun w=>cA z w);rw [xR (by omega)] at HV;go_wp2_with (go_at_call 106;refine (HV.o _).mono ?_;rintro e w' ⟨rfl,rfl⟩)
        go_round
        .exact ⟨k+1,by omega,by go_num,zh (HG.o (by omega))⟩
        .simp [intOf];omega
     .have e:Zh (cok pc 8 zs=true):=zh (aIb (by omega) (by omega) hl (fun j hj=>HJ.out j (by omega)));go_wp2;go_ret;exact ⟨aB e.o.symm,HB.o⟩
   .have HF:Zh (cok pc n zs=false):=by show _=_;unfold cok;simp;omega
    rw [HF.o];have h8:((n:Int) !=8)=true:=by simp;omega
    have HW:=zh (fun w=>cA pc w);rw [xR (by omega)] at HW;go_enter func59,ntmps59
    go_wp2_with (go_at_call 106;refine (HW.o _).mono ?_;rintro e w' ⟨rfl,rfl⟩)
    go_ret;exact ⟨rfl,hB0⟩
structure Cpm (W0 X:qw)(gm:Nat)(cs:Array Value):Prop where
 b:qY W0 X
 k:Blk X gm cs 53
 g:W0.heap.size<=gm
theorem Cpm.bw {W0 X X':qw}(h:Cpm W0 X gm cs)(hb:qY X X'):Cpm W0 X' gm cs:=⟨h.b.trans (hb.mono h.b.size),h.k.bw hb,h.g⟩
theorem Cpm.grown {W0 X A X':qw}(h:Cpm W0 X gm cs)(ha:qY X A)(hg:X.heap.size<=g)(G:A.grownBy X' (some g)):Cpm W0 X' gm cs/\Turn (fun j=>j=gm\/X.heap.size<=j) X X':=by
 have T:Turn (fun j=>j=gm\/X.heap.size<=j) X X':=(aJ ha).trans ⟨G.os,G.tape,G.output,G.size,fun k hk hs=>G.block k hk (fun e=>hs (.inr (by cases e;exact hg)))⟩;have hlt:=h.k.lt;exact ⟨⟨aI (h.b.trans (ha.mono h.b.size)) (S:=fun k=>k=g) ⟨G.os,G.tape,G.output,G.size,fun k hk hs=>G.block k hk (fun e=>hs (by cases e;rfl))⟩ (fun k hk=>by have:=h.b.size;omega) (xM h.b.size ha.size),fD G (h.k.bw ha) (fun e=>by cases e;omega),h.g⟩,T⟩
theorem Cpm.set {W0 X:qw}(h:Cpm W0 X gm cs)(j:Nat)(u:Value):Cpm W0 (X.setCell (qR gm j) u) gm (cs.setIfInBounds j u)/\Turn (fun k=>k=gm) X (X.setCell (qR gm j) u):=⟨⟨aI h.b (aC X gm j u) (fun k hk=>by have:=h.g;omega) h.b.size,h.k.set j u,h.g⟩,aC X gm j u⟩
theorem fH {X X':qw}{t:TypeId}{xs:List Value}(T:Turn (fun j=>j=gm\/X.heap.size<=j) X X')(kg:Blk X gm cs 53)(h:X.ownsRow b t sz v n xs)(hne:t≠53):X'.ownsRow b t sz v n xs:=by
 have hk:∀ k,v.ownBlock=some k->¬ (k=gm\/X.heap.size<=k):=fun k hk s=>by
  rcases s with rfl|s
  .obtain ⟨c,kb⟩:=aM h hk;exact hne (aW kb kg)
  .have:=(World.ownsRow.lt h k hk).2;omega
 obtain ⟨hl,h0|⟨g,cap,cur,hv,hg,hh,h1,h2,h3,h4⟩⟩:=h
 .exact ⟨hl,.inl h0⟩
 .exact ⟨hl,.inr ⟨g,cap,cur,hv,hg,aA (w:=X) T hh (hk g (by rw [hv];rfl)),h1,h2,h3,h4⟩⟩
theorem Cpm.row {α:Type}{f:α->List Value}{W0 X w':qw}{t:TypeId}{v':Value}{ys:List α}(h:Cpm W0 X gm cs)(j:Nat)(O:OG t sz f w' X.heap.size v' ys)(hne:t≠53)(G:(X.alloc (.cells #[] t)).grownBy w' (some X.heap.size)):
 Blk w' gm cs 53/\Cpm W0 (w'.setCell (qR gm j) v') gm (cs.setIfInBounds j v')/\OG t sz f (w'.setCell (qR gm j) v') X.heap.size v' ys/\Turn (fun j=>j=gm\/X.heap.size<=j) X (w'.setCell (qR gm j) v'):=by
 obtain ⟨c1,t1⟩:=h.grown bal aL G;obtain ⟨c2,t2⟩:=c1.set j v';refine ⟨c1.k,c2,O.kept t2 (fun k hk e=>?_),t1.trans (t2.mono (fun k hk=>.inl hk))⟩;subst e;obtain ⟨c,kb⟩:=aM O hk;exact hne (aW kb c1.k)
def sbO (x:qi):ByteArray:=⟨(x.map fun z=>UInt8.ofNat z.toNat).toArray⟩
theorem aF9:∀ x y:List Int,(∀ z∈x,0<=z/\z<=255)->(∀ z∈y,0<=z/\z<=255)->(x.map fun z=>UInt8.ofNat z.toNat)=(y.map fun z=>UInt8.ofNat z.toNat)->x=y
 | [],[],_,_,_=>rfl
 | [],b::y,_,_,h=>by simp at h
 | a::x,[],_,_,h=>by simp at h
 | a::x,b::y,hx,hy,h=>by
   simp only [List.map_cons,List.cons.injEq] at h;have h1:=hx a (by simp);have h2:=hy b (by simp);have e:=congrArg UInt8.toNat h.1;rw [UInt8.toNat_ofNat',UInt8.toNat_ofNat'] at e;have e':a=b:=by omega
   rw [e',aF9 x y (fun z hz=>hx z (by simp [hz])) (fun z hz=>hy z (by simp [hz])) h.2]
theorem aL1 {x y:qi}(hx:∀ z∈x,0<=z/\z<=255)(hy:∀ z∈y,0<=z/\z<=255):sbO x=sbO y ↔ x=y:=by
 constructor
 .intro h;unfold sbO at h;simp at h;exact aF9 x y hx hy (by simpa using h)
 .rintro rfl;rfl
theorem aBi (w:qw)(a:qO)(n c:Nat)(x:qi)(h:BS w a n c x):(convert 22 9 (qS a n c)).run prog w=.ok (.string (sbO x)) w:=by
 obtain ⟨rfl,h2,h3,h4,h5⟩:=h;by_cases hn:x.length=0
 .obtain rfl:x=[]:=xE hn;rw [run_convert_bytes_string w 22 9 5 a _ c underlying22 underlying5 underlying9];cases a<;>simp [Conv.bytesToString,sbO]<;>rfl
 .obtain ⟨b,k,rfl,hc⟩:=h4 hn;have hl:(x.map fun z=>UInt8.ofNat z.toNat).length=x.length:=by simp
  have:=run_convert_bytes_back (P:=prog) w 22 9 5 (qR b k) c (x.map fun z=>UInt8.ofNat z.toNat) underlying22 underlying5 underlying9 (fun j hj=>by
   have hj':j<x.length:=by simpa using hj
   rw [bZ,hc j hj'];have e1:x.getD j 0=x[j]:=by simp [xB,hj']
   have hz:=h3 _ (List.getElem_mem hj');have e2:(UInt8.ofNat (x[j]).toNat).toNat=(x[j]).toNat%256:=UInt8.toNat_ofNat';rw [List.getElem_map,e2,e1];congr 2
   omega)
  rw [hl] at this;exact this
theorem jL (a a':qO)(n c n' c':Nat)(x y:qi)(w:qw)(h:BS w a n c x)(h':BS w a' n' c' y):
 qC 108 #[qS a n c,qS a' n' c'] w fun e w'=>e=.returned (.bool (decide (x=y)))/\w=w':=by
 have h1:=aBi w a n c x h;have h2:=aBi w a' n' c' y h';have HE:=zh (aL1 h.2.2.1 h'.2.2.1);clear h h';generalize sbO x=s at *;generalize sbO y=t at *;go_enter func108,ntmps108
 go_wp2;go_ret;refine ⟨aB ?_,rfl⟩;rw [xJ];simp [<- HE.o,ByteArray.toList_eq];exact ⟨fun h=>by cases s;cases t;cases h;rfl,fun h=>by rw [h]⟩
theorem rJ {op a:Int}(h:okI op d a i=true):1<=op/\op<=25/\0<=d/\d<=7/\0<=a/\a<=7/\0<=i/\i<=65535:=by
 unfold okI okU at h;simp at h;obtain ⟨h0,h1,h2,h3,h4,h5,h6⟩:=h;have hx:mD (us op)<=7:=by unfold mD;split<;>omega
 have hy:mA (us op)<=7:=by unfold mA;split<;>omega
 have hz:mI (us op)<=65535:=by unfold mI;split<;>omega
 by_cases ho:op<=0\/26<=op
 .rw [aBp op ho] at h0;omega
 .omega
def enc (op d a i:Int):Int:=op*67108864+d*8388608+a*1048576+i
def aCs (op d a i:Int):Int:=if okI op d a i then enc op d a i else 0
theorem oA (op d a i:Int)(w:qw):
 qC 74 #[.agg (qW op d a i)] w (qB w (.tuple #[qI (aCs op d a i),.bool (okI op d a i)])):=by
 have kb:=Blk.new w (qW op d a i) 131;have hB0:qY w (w.alloc (.cells (qW op d a i) 131)):=bal;have HI:=zh (aAx op d a i);unfold aCs;cases hk:okI op d a i
 .rw [hk] at HI;clear hk;rw [if_neg (by simp)];go_enter func74,ntmps74
  go_wp2_with fail
  refine (HI.o _).mono ?_;rintro e w1 ⟨rfl,hb1⟩;go_wp2
  go_ret2
  exact ⟨rfl,hB0.trans (hb1.mono (by simp))⟩
 .obtain ⟨h1,h2,h3,h4,h5,h6,h7,h8⟩:=rJ hk;rw [hk] at HI;clear hk;rw [if_pos rfl];unfold enc;go_enter func74,ntmps74
  go_wp2_with fail
  refine (HI.o _).mono ?_;rintro e w1 ⟨rfl,hb1⟩;obtain ⟨p1,p2,p3,p4,p5⟩:=(kb.bw hb1).four';go_wp2
  go_ret2
  exact ⟨rfl,hB0.trans (hb1.mono (by simp))⟩
structure Rdr (W:qw)(r:Nat)(a:qO)(n c:Nat)(zs:qi)(k:Nat):Prop where
 blk:Blk W r #[qS a n c,qI ((min k n:Nat):Int)] 81
 bs:BS W a n c zs
 small:n<=1000
 far:n≠0->∀ b off,a=some (qR b off)->b≠r
theorem aH {W W':qw}{zs:qi}(h:Rdr W r a n c zs k)(hb:qY W W'):Rdr W' r a n c zs k:=⟨h.blk.bw hb,h.bs.bw hb,h.small,h.far⟩
theorem Blk.two {w:qw}{a b:Value}{t:TypeId}(h:Blk w g #[a,b] t):w.cell? (qR g 0)=some a/\w.cell? (qR g 1)=some b/\∀ i,w.frozen? (qR g i)=false:=
 ⟨by rw [h.cell];rfl,by rw [h.cell];rfl,fun i=>h.frozen i⟩
theorem pO {w w':qw}{zs:qi}(ht:Turn S w w')(h:BS w a n cap zs)(hk:n≠0->∀ k,S k->∀ b off,a=some (qR b off)->b≠k):BS w' a n cap zs:=by
 by_cases hn:n=0
 .exact ⟨h.1,h.2.1,h.2.2.1,fun e=>absurd hn e,h.2.2.2.2⟩
 .exact dK ht h (hk hn)
theorem mY (w:qw)(r i:Nat)(v:Value):Turn (fun j=>j=r) w (w.setCell (qR r i) v):=⟨rfl,rfl,rfl,by rw [aG];exact aL,fun j hj hn=>heap_setCell_other _ _ _ _ hn⟩
theorem aCi (a:qO)(n c n':Nat)(zs:qi)(w:qw)(h:BS w a n c zs)(hn':n'=min n 1000):
 qC 9 #[qS a n c] w fun e w'=>e=.returned (.pointer (qP w.heap.size))/\Rdr w' w.heap.size a n' c (zs.take 1000) 0/\qY w w':=by
 have hm:=h.2.1;unfold maxLen at hm;have hl:=h.1;have hcap:=h.2.2.2.2;have hB:∀ o,qY w (w.alloc o):=fun o=>bal
 have hfar:n≠0->∀ b off,a=some (qR b off)->b<w.heap.size:=by
  intro hn b off e;subst e;exact xD w _ (h.at 0 (by omega))
 have HFAR:=zh hfar;clear hfar;by_cases hn:(1000:Int)<(n:Int)
 .obtain ⟨b,off,rfl⟩:=h.some (by omega);have h':=(h.take 1000 (by omega));have hn1:n'=1000:=by omega
  subst hn1;clear hn';go_enter func9,ntmps9
  go_wp2;go_ret;exact ⟨rfl,⟨Blk.new w _ _,h'.bw (hB _),aL,fun _ b' off' e=>by have:=HFAR.o (by omega) b' off' e;omega⟩,hB _⟩
 .have ht:zs.take 1000=zs:=xG (by omega);rw [ht];have hn1:n'=n:=by omega
  subst hn1;clear hn' ht;have HB:=zh hB;have H:=zh h;clear hB h;go_enter func9,ntmps9
  go_wp2;go_ret;exact ⟨rfl,⟨by rw [Nat.zero_min];exact Blk.new w _ _,H.o.bw (HB.o _),by omega,fun h0 b' off' e=>by have:=HFAR.o h0 b' off' e;omega⟩,HB.o _⟩
theorem aGx (r:Nat)(a:qO)(n c:Nat)(zs:qi)(k:Nat)(w:qw)(h:Rdr w r a n c zs k):
 qC 10 #[.pointer (qP r)] w fun e w'=>e=.returned (qI (zs.getD k 0))/\Rdr w' r a n c zs (k+1)/\Turn (fun j=>j=r) w w':=by
 obtain ⟨q1,q2,q3⟩:=h.blk.two;have hs:=h.small;have hl:=h.bs.1;by_cases hlt:k<n
 .have e1:min k n=k:=by omega
  rw [e1] at q2;have hlt':(k:Int)<(n:Int):=by omega
  obtain ⟨b,off,rfl⟩:=h.bs.some (by omega);have hc:=h.bs.at k hlt;have hr:=h.bs.range k
  have hfin:Rdr (w.setCell (qR r 1) (qI ((k:Int)+1))) r (some (qR b off)) n c zs (k+1):=by
   refine ⟨?_,?_,hs,h.far⟩
   .have:=h.blk.set 1 (qI ((k:Int)+1));rw [show (min (k+1) n)=k+1 by omega];simpa using this
   .refine pO (mY w r 1 _) h.bs ?_;intro h0 j hj b' off' e;subst hj;exact h.far h0 b' off' e
  have HF:=zh hfin;have HT:=zh (mY w r 1 (qI ((k:Int)+1)));clear hfin h e1;generalize zs.getD k 0=z at *;obtain ⟨z0,z1⟩:=hr;go_enter func10,ntmps10
  go_wp2
  go_quiet (fail)
  go_wp2
  go_quiet (fail)
  go_wp2;go_ret;exact ⟨rfl,⟨HF.o.blk,HF.o.bs,HF.o.small,HF.o.far⟩,⟨HT.o.os,HT.o.tape,HT.o.output,HT.o.size,HT.o.block⟩⟩
 .have e1:min k n=n:=by omega
  rw [e1] at q2;have e0:zs.getD k 0=0:=by simp [xB,show zs.length<=k by omega]
  have hfin:Rdr w r a n c zs (k+1):=⟨by rw [show min (k+1) n=min k n by omega];exact h.blk,h.bs,hs,h.far⟩;have HF:=zh hfin;rw [e0];have hd:((n:Int)<(n:Int))=False:=by simp
  clear hfin h e1 e0;go_enter func10,ntmps10
  go_wp2
  go_quiet (fail)
  go_wp2;go_ret;exact ⟨rfl,⟨HF.o.blk,HF.o.bs,HF.o.small,HF.o.far⟩,⟨rfl,rfl,rfl,aL,fun _ _ _=>rfl⟩⟩
theorem aK (r:Nat)(a:qO)(n c:Nat)(zs:qi)(k:Nat)(v:Int)(w:qw)(h:Rdr w r a n c zs k)(hv:Hid (zs.getD k 0=v)):
 qC 10 #[.pointer (qP r)] w fun e w'=>e=.returned (qI v)/\Rdr w' r a n c zs (k+1)/\Turn (fun j=>j=r) w w':=
 (aGx r a n c zs k w h).mono fun e w' he=>⟨by rw [he.1,hv.out],he.2⟩
def hs (b l o a:Int):Bool:=decide (b<=a/\a<b+(2:Int)^l.toNat/\(o/(2:Int)^((a-b)/((2:Int)^l.toNat/8)).toNat)%2=0)
theorem aGg {W W':qw}{zs:qi}(h:Rdr W r a n c zs k)(t:Turn S W W')(hr:¬ S r)(ha:n≠0->∀ j,S j->∀ b off,a=some (qR b off)->b≠j):Rdr W' r a n c zs k:=
 ⟨aA t h.blk hr,pO t h.bs ha,h.small,h.far⟩
theorem dJ {w W:qw}(h:Turn S w W)(hb:w.heap.size<=b)(i:Nat)(v:Value):Turn S w (W.setCell (qR b i) v):=
 ⟨h.os,h.tape,h.output,by rw [aG];exact h.size,fun k hk hn=>by rw [heap_setCell_other _ _ _ _ (by dsimp only;omega)];exact h.block k hk hn⟩
theorem uL {w W:qw}(h:Turn S w W)(o:Obj):Turn S w (W.alloc o):=h.trans (aD W o)
theorem eX {W:qw}{zs:qi}(h:Rdr W r a n c zs k)(hb:r≠b)(ha:n≠0->∀ b' off,a=some (qR b' off)->b'≠b)(i:Nat)(v:Value):Rdr (W.setCell (qR b i) v) r a n c zs k:=
 aGg h (mY W b i v) hb (fun h0 j hj b' off e=>by subst hj;exact ha h0 b' off e)
theorem uR {W:qw}{zs:qi}(h:Rdr W r a n c zs k)(o:Obj):Rdr (W.alloc o) r a n c zs k:=aH h (brf.alloc aL o)
def dQ (w:qw)(r:Nat)(a:qO)(n c:Nat)(zs:qi)(o d x i:Int)(k':Nat)(e:Ending)(w':qw):Prop:=
 e=.returned (.agg (qW o d x i))/\Rdr w' r a n c zs k'/\Turn (fun j=>j=r) w w'
theorem aR {zs:qi}(h:∀ j,0<=zs.getD j 0/\zs.getD j 0<=255)(k:Nat):∃ v:Int,Hid (zs.getD k 0=v)/\0<=v/\v<=255:=⟨_,rfl,(h k).1,(h k).2⟩
abbrev q25:Array Value:=#[qI 2,qI 6,qI 15,qI 16,qI 19,qI 20,qI 21,qI 22,qI 23,qI 24,qI 25,qI 1,qI 3,qI 4,qI 5,qI 7,qI 8,qI 9,qI 10,qI 11,qI 12,qI 13,qI 14,qI 17,qI 18]
theorem aGs (i:Nat)(hi:i<25):∃ o:Int,1<=o/\o<=25/\∀ W:World,(W.alloc (.cells q25 3)).cell? (qR W.heap.size i)=some (qI o):=by
 have hc:=fun W=>(Blk.new W q25 3).cell i
 match i,hi with
 | 0,_=>exact ⟨_,by decide,by decide,hc⟩
 | 1,_=>exact ⟨_,by decide,by decide,hc⟩
 | 2,_=>exact ⟨_,by decide,by decide,hc⟩
 | 3,_=>exact ⟨_,by decide,by decide,hc⟩
 | 4,_=>exact ⟨_,by decide,by decide,hc⟩
 | 5,_=>exact ⟨_,by decide,by decide,hc⟩
 | 6,_=>exact ⟨_,by decide,by decide,hc⟩
 | 7,_=>exact ⟨_,by decide,by decide,hc⟩
 | 8,_=>exact ⟨_,by decide,by decide,hc⟩
 | 9,_=>exact ⟨_,by decide,by decide,hc⟩
 | 10,_=>exact ⟨_,by decide,by decide,hc⟩
 | 11,_=>exact ⟨_,by decide,by decide,hc⟩
 | 12,_=>exact ⟨_,by decide,by decide,hc⟩
 | 13,_=>exact ⟨_,by decide,by decide,hc⟩
 | 14,_=>exact ⟨_,by decide,by decide,hc⟩
 | 15,_=>exact ⟨_,by decide,by decide,hc⟩
 | 16,_=>exact ⟨_,by decide,by decide,hc⟩
 | 17,_=>exact ⟨_,by decide,by decide,hc⟩
 | 18,_=>exact ⟨_,by decide,by decide,hc⟩
 | 19,_=>exact ⟨_,by decide,by decide,hc⟩
 | 20,_=>exact ⟨_,by decide,by decide,hc⟩
 | 21,_=>exact ⟨_,by decide,by decide,hc⟩
 | 22,_=>exact ⟨_,by decide,by decide,hc⟩
 | 23,_=>exact ⟨_,by decide,by decide,hc⟩
 | 24,_=>exact ⟨_,by decide,by decide,hc⟩
 | i+25,h=>omega
theorem gH (i:Nat)(hi:i<8):∃ o:Int,0<=o/\o<=7/\∀ W:World,(W.alloc (.cells #[qI 7,qI 6,qI 0,qI 1,qI 2,qI 7,qI 6,qI 3] 3)).cell? (qR W.heap.size i)=some (qI o):=by
 have hc:=fun W=>(Blk.new W #[qI 7,qI 6,qI 0,qI 1,qI 2,qI 7,qI 6,qI 3] 3).cell i
 match i,hi with
 | 0,_=>exact ⟨_,by decide,by decide,hc⟩
 | 1,_=>exact ⟨_,by decide,by decide,hc⟩
 | 2,_=>exact ⟨_,by decide,by decide,hc⟩
 | 3,_=>exact ⟨_,by decide,by decide,hc⟩
 | 4,_=>exact ⟨_,by decide,by decide,hc⟩
 | 5,_=>exact ⟨_,by decide,by decide,hc⟩
 | 6,_=>exact ⟨_,by decide,by decide,hc⟩
 | 7,_=>exact ⟨_,by decide,by decide,hc⟩
 | i+8,h=>omega
structure Is (w W:qw)(r:Nat)(a:qO)(n c:Nat)(zs:qi)(k' G:Nat)(o d x i:Int):Prop where
 res:Blk W w.heap.size (qW 0 0 0 0) 131
 ins:Blk W G (qW o d x i) 131
 rd:Rdr W r a n c zs k'
 turn:Turn (fun j=>j=r) w W
 big:w.heap.size<G
 low:r<w.heap.size
 code:n≠0->∀ b off,a=some (qR b off)->b<w.heap.size
theorem Is.other {w W:qw}{zs:qi}(h:Is w W r a n c zs k' G o d x i)(j:Nat)(v:Value)(d' x' i':Int)(hz:Blk (W.setCell (qR G j) v) G (qW o d' x' i') 131):Is w (W.setCell (qR G j) v) r a n c zs k' G o d' x' i':=by
 have hb:=h.big;have hl:=h.low;exact ⟨h.res.other _ _ (by dsimp only;omega),hz,eX h.rd (by omega) (fun h0 b off e=>by have:=h.code h0 b off e;omega) _ _,dJ h.turn (by omega) _ _,hb,hl,h.code⟩
theorem Is.set1 {w W:qw}{zs:qi}(h:Is w W r a n c zs k' G o d x i)(v:Int):Is w (W.setCell (qR G 1) (qI v)) r a n c zs k' G o v x i:=h.other 1 _ v x i (h.ins.set 1 (qI v))
theorem Is.set2 {w W:qw}{zs:qi}(h:Is w W r a n c zs k' G o d x i)(v:Int):Is w (W.setCell (qR G 2) (qI v)) r a n c zs k' G o d v i:=h.other 2 _ d v i (h.ins.set 2 (qI v))
theorem Is.set3 {w W:qw}{zs:qi}(h:Is w W r a n c zs k' G o d x i)(v:Int):Is w (W.setCell (qR G 3) (qI v)) r a n c zs k' G o d x v:=h.other 3 _ d x v (h.ins.set 3 (qI v))
theorem Is.more {w W:qw}{zs:qi}(h:Is w W r a n c zs k' G o d x i)(O:Obj):Is w (W.alloc O) r a n c zs k' G o d x i:=
 ⟨h.res.alloc O,h.ins.alloc O,uR h.rd O,uL h.turn O,h.big,h.low,h.code⟩
theorem Is.next {w W W':qw}{zs:qi}{k2:Nat}(h:Is w W r a n c zs k' G o d x i)(hr:Rdr W' r a n c zs k2)(t:Turn (fun j=>j=r) W W'):Is w W' r a n c zs k2 G o d x i:=by
 have hb:=h.big;have hl:=h.low;exact ⟨aA t h.res (by omega),aA t h.ins (by omega),hr,h.turn.trans t,hb,hl,h.code⟩
theorem Is.done {w W:qw}{zs:qi}(h:Is w W r a n c zs k' G o d x i)(fn:Func)(hf:fn.results=#[.cell 2 131])(tmps:Array Value)(h2:tmps[2]?=some (.pointer (qP w.heap.size)))(hb:-1<=o/\o<=64/\-1<=d/\d<=10/\-1<=x/\x<=10/\-1<=i/\i<=65536):
 bodyPost prog fn (dQ w r a n c zs o d x i k') Exit.ret ⟨tmps,[]⟩ ((((W.setCell (qR w.heap.size 0) (qI o)).setCell (qR w.heap.size 1) (qI d)).setCell (qR w.heap.size 2) (qI x)).setCell (qR w.heap.size 3) (qI i)):=by
 have hl:=h.low;have hc':n≠0->∀ b' off,a=some (qR b' off)->b'≠w.heap.size:=fun h0 b off e=>by have:=h.code h0 b off e;omega
 have hz:=aDu h.res o d x i;have hR:=eX (eX (eX (eX h.rd (show r≠w.heap.size by omega) hc' 0 (qI o)) (by omega) hc' 1 (qI d)) (by omega) hc' 2 (qI x)) (by omega) hc' 3 (qI i);have hT:=dJ (dJ (dJ (dJ h.turn aL 0 (qI o)) aL 1 (qI d)) aL 2 (qI x)) aL 3 (qI i);generalize (((W.setCell (qR w.heap.size 0) (qI o)).setCell (qR w.heap.size 1) (qI d)).setCell (qR w.heap.size 2) (qI x)).setCell (qR w.heap.size 3) (qI i)=V at *;refine bodyPost_ret (v:=.agg (qW o d x i)) ?_ rfl ⟨rfl,hR,hT⟩;obtain ⟨p1,p2,p3,p4,p5⟩:=hz.four';simp [results,hf,go_sem,h2,p1,p2,p3,p4]
theorem Is.doneA {w W:qw}{zs:qi}(h:Is w W r a n c zs k' G o d x i)(fn:Func)(hf:fn.results=#[.cell 2 131])(O:Obj)(tmps:Array Value)(h2:tmps[2]?=some (.pointer (qP w.heap.size)))(hb:-1<=o/\o<=64/\-1<=d/\d<=10/\-1<=x/\x<=10/\-1<=i/\i<=65536):
 bodyPost prog fn (dQ w r a n c zs o d x i k') Exit.ret ⟨tmps,[]⟩ (((((W.setCell (qR w.heap.size 0) (qI o)).setCell (qR w.heap.size 1) (qI d)).setCell (qR w.heap.size 2) (qI x)).setCell (qR w.heap.size 3) (qI i)).alloc O):=by
 have hl:=h.low;have hc':n≠0->∀ b' off,a=some (qR b' off)->b'≠w.heap.size:=fun h0 b off e=>by have:=h.code h0 b off e;omega
 have hz:=(aDu h.res o d x i).alloc O;have hR:=uR (eX (eX (eX (eX h.rd (show r≠w.heap.size by omega) hc' 0 (qI o)) (by omega) hc' 1 (qI d)) (by omega) hc' 2 (qI x)) (by omega) hc' 3 (qI i)) O;have hT:=uL (dJ (dJ (dJ (dJ h.turn aL 0 (qI o)) aL 1 (qI d)) aL 2 (qI x)) aL 3 (qI i)) O;generalize ((((W.setCell (qR w.heap.size 0) (qI o)).setCell (qR w.heap.size 1) (qI d)).setCell (qR w.heap.size 2) (qI x)).setCell (qR w.heap.size 3) (qI i)).alloc O=V at *;refine bodyPost_ret (v:=.agg (qW o d x i)) ?_ rfl ⟨rfl,hR,hT⟩;obtain ⟨p1,p2,p3,p4,p5⟩:=hz.four';simp [results,hf,go_sem,h2,p1,p2,p3,p4]
