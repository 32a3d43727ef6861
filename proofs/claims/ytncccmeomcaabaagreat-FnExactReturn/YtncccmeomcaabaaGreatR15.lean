import Derived.Laws.CopyOwn
import Derived.Test.YtncccmeomcaabaaGreatR13
import Derived.Test.YtncccmeomcaabaaGreatR14
set_option linter.all false
set_option maxHeartbeats 8000000
namespace Go.Proofs.YtncccmeomcaabaaGreat
open Go.RowKit Classical
open Go.Proofs.Tryz
set_option maxRecDepth 100000
variable {a:qO}{base c f g n:Nat}
theorem oE (a0:qO)(n c0:Nat)(xs:List PB)(st:Int)(a2:qO)(sn c2:Nat)(fl rm:Int)(a5:qO)(m0 c5:Nat)(ts:List TB)(a0':qO)(n' c0':Nat)(xs':List PB)(st':Int)(a2':qO)(sn' c2':Nat)(fl' rm':Int)(a5':qO)(m0' c5':Nat)(ts':List TB)(w:qw)(h0:PlS w a0 n c0 xs)(h1:TsS w a5 m0 c5 ts)(h0':PlS w a0' n' c0' xs')(h1':TsS w a5' m0' c5' ts'):
 qC 207 #[.agg #[qS a0 n c0,qI st,qS a2 sn c2,qI fl,qI rm,qS a5 m0 c5],.agg #[qS a0' n' c0',qI st',qS a2' sn' c2',qI fl',qI rm',qS a5' m0' c5']] w fun e w'=>e=.returned (.bool (decide (xs.map (fun x=>x.1)=xs'.map (fun x=>x.1)/\ts.map (fun x=>x.1)=ts'.map (fun x=>x.1))))/\qY w w':=by
 obtain ⟨r,hr⟩:=eqx (decide (xs.map (fun x=>x.1)=xs'.map (fun x=>x.1)/\ts.map (fun x=>x.1)=ts'.map (fun x=>x.1)));rw [<- hr];have HR:=zh hr;clear hr;have hm0:=h0.2.1;have hm1:=h1.2.1;have hm0':=h0'.2.1;have hm1':=h1'.2.1;unfold maxLen at hm0 hm1 hm0' hm1';have hl0:=h0.1;have hl1:=h1.1;have hl0':=h0'.1;have hl1':=h1'.1;have B0:qY w ((w.alloc (.cells #[qS a0 n c0,qI st,qS a2 sn c2,qI fl,qI rm,qS a5 m0 c5] 71)).alloc (.cells #[qS a0' n' c0',qI st',qS a2' sn' c2',qI fl',qI rm',qS a5' m0' c5'] 71)):=bal.alloc (by simp) _;have u:=(Blk.new w #[qS a0 n c0,qI st,qS a2 sn c2,qI fl,qI rm,qS a5 m0 c5] 71).alloc (.cells #[qS a0' n' c0',qI st',qS a2' sn' c2',qI fl',qI rm',qS a5' m0' c5'] 71);have v:=Blk.new (w.alloc (.cells #[qS a0 n c0,qI st,qS a2 sn c2,qI fl,qI rm,qS a5 m0 c5] 71)) #[qS a0' n' c0',qI st',qS a2' sn' c2',qI fl',qI rm',qS a5' m0' c5'] 71;try unfold qY at *
 simp only [xF] at v;have HK:=zh (xA B0 (xA u v));clear u v;by_cases n1:n=n'
 rotate_left
 .have g1:((n:Int) !=(n':Int))=true:=by simp;omega
  have HV:=zh (show r=false by
   rw [HR.o,decide_eq_false_iff_not];intro e;have:=congrArg List.length e.1;simp at this
   omega)
  clear HR;go_enter func207,ntmps207
  go_wp2;go_ret;exact ⟨aA HV.o.symm,HK.o.1⟩
 subst n1;have g1:((n:Int) !=(n:Int))=false:=by simp
 by_cases n2:m0=m0'
 rotate_left
 .have g2:((m0:Int) !=(m0':Int))=true:=by simp;omega
  have HV:=zh (show r=false by
   rw [HR.o,decide_eq_false_iff_not];intro e;have:=congrArg List.length e.2;simp at this
   omega)
  clear HR;go_enter func207,ntmps207
  go_wp2;go_ret;exact ⟨aA HV.o.symm,HK.o.1⟩
 subst n2;have g2:((m0:Int) !=(m0:Int))=false:=by simp
 have HP:=zh (xA h0 (xA h0' (xA h1 h1')));clear h0 h0' h1 h1' B0;go_enter func207,ntmps207
 go_wp2;go_loopw [5] (fun i wr=>∃ k:Nat,k<=n/\i=qI k/\(xs.map (fun x=>x.1)).take k=(xs'.map (fun x=>x.1)).take k/\qY w wr/\Blk wr w.heap.size #[qS a0 n c0,qI st,qS a2 sn c2,qI fl,qI rm,qS a5 m0 c5] 71/\Blk wr (w.heap.size+1) #[qS a0' n c0',qI st',qS a2' sn' c2',qI fl',qI rm',qS a5' m0 c5'] 71) (qf n)
 .exact ⟨0,xC _,rfl,by simp,HK.o⟩
 .obtain ⟨k,hk,rfl,hT,HB⟩:=hrel;clear HK;have HB:=zh HB;generalize wr=wo at *;obtain ⟨p0,p1,p2,p3,p4,p5⟩:=(HB.o.2.1).ly6;obtain ⟨q0,q1,q2,q3,q4,q5⟩:=(HB.o.2.2).ly6;by_cases hlt:k<n
  .have hlt':(k:Int)<(n:Int):=by omega
   obtain ⟨b,off,rfl,s0,s1,s2,s3⟩:=(HP.o.1.bw HB.o.1).at k hlt;obtain ⟨b',off',rfl,t0,t1,t2,t3⟩:=(HP.o.2.1.bw HB.o.1).at k (by omega);have i1:=(HP.o.1.bw HB.o.1).2.2.2.1 k hlt;have i2:=(HP.o.2.1.bw HB.o.1).2.2.2.1 k (by omega);have HGO:Zh ((xs.getD k zPB).1=(xs'.getD k zPB).1->(xs.map (fun x=>x.1)).take (k+1)=(xs'.map (fun x=>x.1)).take (k+1)):=fun he=>dC zPB.1 _ _ k hT (by simp;omega) (by simp;omega) (by rw [bD _ _ _ zPB _,bD _ _ _ zPB _,he])
   have HNO:=zh (show (xs.getD k zPB).1≠(xs'.getD k zPB).1->r=false from fun he=>by
    rw [HR.o,decide_eq_false_iff_not];intro e;have e2:=congrArg (fun l=>l.getD k zPB.1) e.1;try simp only at e2
    rw [bD _ _ _ zPB _,bD _ _ _ zPB _] at e2
    exact he e2)
   clear hT;unfold svP at s1 t1;generalize xs.getD k zPB=x at *;generalize xs'.getD k zPB=y at *;obtain ⟨⟨xt,xb,xd,xz⟩,xa,xc⟩:=x;obtain ⟨⟨yt,yb,yd,yz⟩,ya,yc⟩:=y;dsimp only at s0 s1 s2 s3 t0 t1 t2 t3 i1 i2 HGO HNO;have hlw:=HB.o.2.1.lt;have hlw':=HB.o.2.2.lt;have hlb:=xD _ _ s0;have hlb':=xD _ _ t0;have HB2:qY wo ((wo.alloc (.cells #[qI xt,qS xa xb.length xc,qI xd,qI xz] 171)).alloc (.cells #[qI yt,qS ya yb.length yc,qI yd,qI yz] 171)):=bal.alloc (by simp) _;have HEQ:=zh (kI xa ya xb.length xc yb.length yc xb yb _ (i1.bw HB2) (i2.bw HB2));have HB4:=zh (xA (HB.o.1.trans (HB2.mono HB.o.1.size)) (xA (HB.o.2.1.bw HB2) (HB.o.2.2.bw HB2)));have kp:=(Blk.new wo #[qI xt,qS xa xb.length xc,qI xd,qI xz] 171).alloc (.cells #[qI yt,qS ya yb.length yc,qI yd,qI yz] 171);have kq:=Blk.new (wo.alloc (.cells #[qI xt,qS xa xb.length xc,qI xd,qI xz] 171)) #[qI yt,qS ya yb.length yc,qI yd,qI yz] 171;try unfold qY at *
   simp only [xF] at kq;have HKP:=zh (xA kp kq);clear i1 i2 HB2 HB kp kq;by_cases e1:xt=yt
   rotate_left
   .have g3:(xt !=yt)=true:=by simpa using e1
    have HV:Zh (r=false):=HNO.o (fun e=>e1 (by injection e));clear HNO HGO HEQ;go_wp2;go_ret;exact ⟨aA HV.o.symm,HB4.o.1⟩
   have g3:(xt !=yt)=false:=by simpa using e1
   have HE1:=zh e1;clear e1;go_wp2_with fail
   refine HEQ.o.mono ?_;rintro e w1 ⟨rfl,hb1⟩;have HB5:=zh (xA (HB4.o.1.trans (hb1.mono HB4.o.1.size)) (xA (HB4.o.2.1.bw hb1) (HB4.o.2.2.bw hb1)));have kp:=HKP.o.1.bw hb1;have kq:=HKP.o.2.bw hb1;have x0:=kp.e2;have x1:=kp.e3;have y0:=kq.e2;have y1:=kq.e3;clear hb1 kp kq HKP HB4 p0 p1 p2 p3 p4 p5 q0 q1 q2 q3 q4 q5 s0 s1 s2 s3 t0 t1 t2 t3;by_cases e2:xb=yb
   rotate_left
   .rw [xS e2];have HV:Zh (r=false):=HNO.o (fun e=>e2 (by injection e));clear HNO HGO HEQ;go_wp2;go_ret;exact ⟨aA HV.o.symm,HB5.o.1⟩
   rw [xR e2];have HE2:=zh e2;clear e2;by_cases e3:xd=yd
   rotate_left
   .have g4:(xd !=yd)=true:=by simpa using e3
    have HV:Zh (r=false):=HNO.o (fun e=>e3 (by injection e));clear HNO HGO HEQ;go_wp2;go_ret;exact ⟨aA HV.o.symm,HB5.o.1⟩
   have g4:(xd !=yd)=false:=by simpa using e3
   have HE3:=zh e3;clear e3;by_cases e4:xz=yz
   rotate_left
   .have g5:(xz !=yz)=true:=by simpa using e4
    have HV:Zh (r=false):=HNO.o (fun e=>e4 (by injection e));clear HNO HGO HEQ;go_wp2;go_ret;exact ⟨aA HV.o.symm,HB5.o.1⟩
   have g5:(xz !=yz)=false:=by simpa using e4
   have HE4:=zh e4;clear e4;have HG:=zh (HGO.o (by rw [HE1.o,HE2.o,HE3.o,HE4.o]));clear HGO HNO HEQ;go_wp2
   go_roundw
   .exact ⟨k+1,by omega,by go_num,HG.o,HB5.o⟩
   .simp [qf,intOf];omega
  .have HPE:=zh (show xs.map (fun x=>x.1)=xs'.map (fun x=>x.1) from by
    rw [xG (by simp;omega),xG (by simp;omega)] at hT
    exact hT)
   clear hT;go_wp2;clear p0 p1 p2 p3 p4 p5 q0 q1 q2 q3 q4 q5;go_loopw [8] (fun i wr=>∃ m:Nat,m<=m0/\i=qI m/\(ts.map (fun x=>x.1)).take m=(ts'.map (fun x=>x.1)).take m/\qY w wr/\Blk wr w.heap.size #[qS a0 n c0,qI st,qS a2 sn c2,qI fl,qI rm,qS a5 m0 c5] 71/\Blk wr (w.heap.size+1) #[qS a0' n c0',qI st',qS a2' sn' c2',qI fl',qI rm',qS a5' m0 c5'] 71) (qf m0)
   .exact ⟨0,xC _,rfl,by simp,HB.o⟩
   .clear HB;obtain ⟨m,hm,rfl,hT,HC⟩:=hrel;have HC:=zh HC;generalize wr=wn at *;obtain ⟨p0,p1,p2,p3,p4,p5⟩:=(HC.o.2.1).ly6;obtain ⟨q0,q1,q2,q3,q4,q5⟩:=(HC.o.2.2).ly6;by_cases hmt:m<m0
    .have hmt':(m:Int)<(m0:Int):=by omega
     obtain ⟨b,off,rfl,s0⟩:=(HP.o.2.2.1.bw HC.o.1).at m hmt;obtain ⟨b',off',rfl,t0⟩:=(HP.o.2.2.2.bw HC.o.1).at m (by omega);have I1:=zh (HP.o.2.2.1.2.2.2.1 m hmt);have I2:=zh (HP.o.2.2.2.2.2.2.1 m (by omega));have HGO:Zh ((ts.getD m zTB).1=(ts'.getD m zTB).1->(ts.map (fun x=>x.1)).take (m+1)=(ts'.map (fun x=>x.1)).take (m+1)):=fun he=>dC zTB.1 _ _ m hT (by simp;omega) (by simp;omega) (by rw [bD _ _ _ zTB _,bD _ _ _ zTB _,he])
     have HNO:=zh (show (ts.getD m zTB).1≠(ts'.getD m zTB).1->r=false from fun he=>by
      rw [HR.o,decide_eq_false_iff_not];intro e;have e2:=congrArg (fun l=>l.getD m zTB.1) e.2;try simp only at e2
      rw [bD _ _ _ zTB _,bD _ _ _ zTB _] at e2
      exact he e2)
     have HHD:=zh (fun (W:qw) (hb:qY wn W)=>xA (aB hb s0) (aB hb t0));clear hT;unfold svT at s0 t0 HHD;generalize ts.getD m zTB=x at *;generalize ts'.getD m zTB=y at *;obtain ⟨xl,xa,xc⟩:=x;obtain ⟨yl,ya,yc⟩:=y;dsimp only at s0 t0 I1 I2 HGO HNO HHD;have hx1:=I1.o.2.1;have hy1:=I2.o.2.1;unfold maxLen at hx1 hy1;by_cases e1:xl.length=yl.length
     rotate_left
     .have g3:((xl.length:Int) !=(yl.length:Int))=true:=by simp;omega
      have HV:Zh (r=false):=HNO.o (fun e=>e1 (by rw [e]));clear HNO HGO;go_wp2
      go_quiet (fail)
      go_wp2;go_ret;exact ⟨aA HV.o.symm,below_drewN HC.o.1 _⟩
     have g3:((xl.length:Int) !=(yl.length:Int))=false:=by simp;omega
     go_wp2
     go_quiet (fail)
     go_wp2;clear p0 p1 p2 p3 p4 p5 q0 q1 q2 q3 q4 q5 s0 t0;go_loopw [9] (fun i wr=>∃ j:Nat,j<=xl.length/\i=qI j/\xl.take j=yl.take j/\qY wn wr) (qf xl.length)
     .exact ⟨0,xC _,rfl,by simp,below_drewN brf _⟩
     .obtain ⟨j,hj,rfl,hT,HD⟩:=hrel;have HD:=zh HD;generalize wr=wm at *;obtain ⟨s0,t0⟩:=HHD.o wm HD.o;obtain ⟨p0,p1,p2,p3,p4,p5⟩:=(HC.o.2.1.bw HD.o).ly6;obtain ⟨q0,q1,q2,q3,q4,q5⟩:=(HC.o.2.2.bw HD.o).ly6;have HCD:=zh (HC.o.1.trans (HD.o.mono HC.o.1.size));by_cases hjl:j<xl.length
      .have hjl':(j:Int)<(xl.length:Int):=by omega
       have hjlb':(j:Int)<(yl.length:Int):=by omega
       obtain ⟨bx,ox,rfl,u0,u1,u2⟩:=((I1.o.bw HCD.o)).at j hjl;obtain ⟨by',oy,rfl,v0,v1,v2⟩:=((I2.o.bw HCD.o)).at j (by omega);have HS:Zh (xl.getD j zT=yl.getD j zT->xl.take (j+1)=yl.take (j+1)):=fun he=>dC zT _ _ j hT (by omega) (by omega) he;have HF:Zh (xl.getD j zT≠yl.getD j zT->r=false):=fun he=>HNO.o (fun e=>he (by rw [e]));clear hT;generalize xl.getD j zT=z at *;generalize yl.getD j zT=z' at *;obtain ⟨z0,z1,z2⟩:=z;obtain ⟨z0',z1',z2'⟩:=z';dsimp only at u0 u1 u2 v0 v1 v2;by_cases he:(z0,z1,z2)=((z0',z1',z2'):Tg)
       .have HS2:=zh (HS.o he);simp only [Prod.mk.injEq] at he;obtain ⟨rfl,rfl,rfl⟩:=he;clear HS HF;go_wp2
        go_quiet (fail)
        go_wp2
        go_roundw
        .exact ⟨j+1,by omega,by go_num,HS2.o,below_drewN HD.o _⟩
        .simp [qf,intOf];omega
       .have HV:=zh (HF.o he);have hne3:¬ (z0=z0'/\z1=z1'/\z2=z2'):=fun e=>he (by rw [e.1,e.2.1,e.2.2]);clear HS HF he;by_cases f0:z0=z0'
        .by_cases f1:z1=z1'
         .have f2:¬ z2=z2':=fun e=>hne3 ⟨f0,f1,e⟩;subst f0 f1;have f2':(z2==z2')=false:=by simpa using f2
          go_wp2
          go_quiet (fail)
          go_wp2;go_ret;exact ⟨aA HV.o.symm,below_drewN HCD.o _⟩
         .subst f0;have f1':(z1==z1')=false:=by simpa using f1
          go_wp2
          go_quiet (fail)
          go_wp2;go_ret;exact ⟨aA HV.o.symm,below_drewN HCD.o _⟩
        .have f0':(z0==z0')=false:=by simpa using f0
         go_wp2
         go_quiet (fail)
         go_wp2;go_ret;exact ⟨aA HV.o.symm,below_drewN HCD.o _⟩
      .have HG:=zh (HGO.o (by
        rw [xG (by omega),xG (by omega)] at hT
        exact hT))
       have HCE:=zh (xA HCD.o (xA (HC.o.2.1.bw HD.o) (HC.o.2.2.bw HD.o)));clear hT HGO HNO;go_wp2
       go_roundw
       .exact ⟨m+1,by omega,by go_num,HG.o,HCE.o⟩
       .simp [qf,intOf];omega
    .have HV:=zh (show r=true from by
      rw [HR.o];simp only [decide_eq_true_eq];rw [xG (by simp;omega),xG (by simp;omega)] at hT
      exact ⟨HPE.o,hT⟩)
     clear hT;go_wp2;go_ret;exact ⟨aA HV.o.symm,HC.o.1⟩
theorem uI (L:Lay)(a0:qO)(c0:Nat)(xs:List PB)(a2:qO)(c2:Nat)(a5:qO)(c5:Nat)(ts:List TB)(L':Lay)(a0':qO)(c0':Nat)(xs':List PB)(a2':qO)(c2':Nat)(a5':qO)(c5':Nat)(ts':List TB)(w:qw)(h:LyT w L a0 c0 xs a2 c2 a5 c5 ts)(h':LyT w L' a0' c0' xs' a2' c2' a5' c5' ts'):
 qC 182 #[.agg (qJ L a0 xs c0 a2 c2 a5 ts c5),.agg (qL L' a0' xs'.length c0' a2' L'.slots.length c2' a5' ts'.length c5')] w (qB w (.bool (decide (L=L')))):=by
 have hps:=h.ps;have hps':=h'.ps;have htt:=h.tt;have htt':=h'.tt;have HE1:=zh (fun (W:qw) (hb:qY w W)=>kI a2 a2' L.slots.length c2 L'.slots.length c2' L.slots L'.slots W (h.s.bw hb) (h'.s.bw hb));have HE2:=zh (fun (W:qw) (hb:qY w W)=>oE a0 xs.length c0 xs L.stack a2 L.slots.length c2 L.flash L.ram a5 ts.length c5 ts a0' xs'.length c0' xs' L'.stack a2' L'.slots.length c2' L'.flash L'.ram a5' ts'.length c5' ts' W (h.p.bw hb) (h.t.bw hb) (h'.p.bw hb) (h'.t.bw hb));rw [hps,hps',htt,htt'] at HE2;clear h h' hps hps' htt htt';obtain ⟨pl,st,sl,fl,rm,tg⟩:=L;obtain ⟨pl',st',sl',fl',rm',tg'⟩:=L';dsimp only at HE1 HE2 ⊢;obtain ⟨r,hr⟩:=eqx (decide ((⟨pl,st,sl,fl,rm,tg⟩:Lay)=⟨pl',st',sl',fl',rm',tg'⟩));rw [<- hr];simp only [Lay.mk.injEq] at hr;have HR:=zh hr;clear hr;have B0:qY w ((w.alloc (.cells #[qS a0 xs.length c0,qI st,qS a2 sl.length c2,qI fl,qI rm,qS a5 ts.length c5] 71)).alloc (.cells #[qS a0' xs'.length c0',qI st',qS a2' sl'.length c2',qI fl',qI rm',qS a5' ts'.length c5'] 71)):=bal.alloc (by simp) _;have u:=(Blk.new w #[qS a0 xs.length c0,qI st,qS a2 sl.length c2,qI fl,qI rm,qS a5 ts.length c5] 71).alloc (.cells #[qS a0' xs'.length c0',qI st',qS a2' sl'.length c2',qI fl',qI rm',qS a5' ts'.length c5'] 71);have v:=Blk.new (w.alloc (.cells #[qS a0 xs.length c0,qI st,qS a2 sl.length c2,qI fl,qI rm,qS a5 ts.length c5] 71)) #[qS a0' xs'.length c0',qI st',qS a2' sl'.length c2',qI fl',qI rm',qS a5' ts'.length c5'] 71;try unfold qY at *
 simp only [xF] at v;have HK:=zh (xA B0 (xA u v));clear u v B0;go_enter func182,ntmps182
 go_wp2_with fail
 refine (HE2.o _ HK.o.1).mono ?_;rintro e w1 ⟨rfl,hb1⟩;have HK1:=zh (xA (HK.o.1.trans (hb1.mono HK.o.1.size)) (xA (HK.o.2.1.bw hb1) (HK.o.2.2.bw hb1)));clear hb1 HK;by_cases k0:pl=pl'/\tg=tg'
 rotate_left
 .rw [xS k0];have HV:=zh (show r=false by rw [HR.o,decide_eq_false_iff_not];exact fun e=>k0 ⟨e.1,e.2.2.2.2.2⟩);clear HR HE1 HE2;go_wp2;go_ret;exact ⟨aA HV.o.symm,HK1.o.1⟩
 rw [xR k0];have HC0:=zh k0;clear k0;obtain ⟨p0,p1,p2,p3,p4,p5⟩:=(HK1.o.2.1).ly6;obtain ⟨q0,q1,q2,q3,q4,q5⟩:=(HK1.o.2.2).ly6;by_cases k1:st=st'
 rotate_left
 .have g1:(st==st')=false:=by simpa using k1
  have HV:=zh (show r=false by rw [HR.o];simp [k1]);clear HR HE1 HE2;go_wp2;go_ret;exact ⟨aA HV.o.symm,HK1.o.1⟩
 have g1:(st==st')=true:=by simpa using k1
 have HC1:=zh k1;clear k1;go_wp2_with fail
 refine (HE1.o _ HK1.o.1).mono ?_;rintro e w2 ⟨rfl,hb2⟩;have HK2:=zh (xA (HK1.o.1.trans (hb2.mono HK1.o.1.size)) (xA (HK1.o.2.1.bw hb2) (HK1.o.2.2.bw hb2)));clear hb2 p0 p1 p2 p3 p4 p5 q0 q1 q2 q3 q4 q5;by_cases k4:sl=sl'
 rotate_left
 .rw [xS k4];have HV:=zh (show r=false by rw [HR.o];simp [k4]);clear HR HE1 HE2;go_wp2;go_ret;exact ⟨aA HV.o.symm,HK2.o.1⟩
 rw [xR k4];have HC4:=zh k4;clear k4;obtain ⟨p0,p1,p2,p3,p4,p5⟩:=(HK2.o.2.1).ly6;obtain ⟨q0,q1,q2,q3,q4,q5⟩:=(HK2.o.2.2).ly6;by_cases k2:fl=fl'
 rotate_left
 .have g2:(fl==fl')=false:=by simpa using k2
  have HV:=zh (show r=false by rw [HR.o];simp [k2]);clear HR HE1 HE2;go_wp2;go_ret;exact ⟨aA HV.o.symm,HK2.o.1⟩
 have g2:(fl==fl')=true:=by simpa using k2
 have HC2:=zh k2;clear k2;by_cases k3:rm=rm'
 rotate_left
 .have g3:(rm==rm')=false:=by simpa using k3
  have HV:=zh (show r=false by rw [HR.o];simp [k3]);clear HR HE1 HE2;go_wp2;go_ret;exact ⟨aA HV.o.symm,HK2.o.1⟩
 have g3:(rm==rm')=true:=by simpa using k3
 have HV:=zh (show r=true by rw [HR.o];simp [HC0.o.1,HC0.o.2,HC1.o,HC2.o,k3,HC4.o]);clear HR HE1 HE2 k3;go_wp2;go_ret;exact ⟨aA HV.o.symm,HK2.o.1⟩
theorem qN {W:qw}{zs:qi}(h:OB W base (qS (qP g) n n) zs):W.heap[g]?=some (.cells (zs.map (Value.int .u8)).toArray 5 (0,0))/\zs.length=n/\base<=g/\n<=maxLen:=by
 obtain ⟨hl,⟨h0,_⟩|⟨g',cap',cur,hv,hg,hh,h1,h2,h3,h4⟩⟩:=h.1
 .simp at h0
 .simp at hv;obtain ⟨rfl,rfl,rfl⟩:=hv;refine ⟨?_,rfl,hg,by omega⟩;have e:cur.toList=zs.map (Value.int .u8):=by rw [<- h4,xG (by simp [h3])]
  rw [hh,<- e]
theorem zZ (zs:qi)(f:Nat)(ds:qi):splice (zs.map (Value.int .u8)) f (ds.map (Value.int .u8))=(ovr zs f ds).map (Value.int .u8):=by
 simp [splice,ovr,List.map_take,List.map_drop]
theorem wL {zs ds:qi}(hz:∀ z∈zs,0<=z/\z<=255)(hd:∀ z∈ds,0<=z/\z<=255):∀ z∈ovr zs f ds,0<=z/\z<=255:=fun z h=>by
 unfold ovr at h;rcases List.mem_append.1 h with h|h
 .exact hz z (List.mem_of_mem_take h)
 .rcases List.mem_append.1 h with h|h
  .exact hd z h
  .exact hz z (List.mem_of_mem_drop h)
theorem aL6 (zs:qi)(f:Nat):ovr zs f []=zs:=by simp [ovr]
theorem oY (g:Nat)(w:qw)(cs:Array Value):fF g w (w.setRow g cs):=⟨by simp [World.setRow],fun k hk=>setRow_other w g k cs hk,rfl,rfl,rfl⟩
theorem lD {W:qw}{zs:qi}(h:W.heap[g]?=some (.cells (zs.map (Value.int .u8)).toArray 5 (0,0)))(hl:zs.length=n)(hg:base<=g)(hm:n<=maxLen)(hr:∀ z∈zs,0<=z/\z<=255):OB W base (qS (qP g) n n) zs:=by
 subst hl;refine ⟨⟨by simp,.inr ⟨g,zs.length,_,rfl,hg,h,aN,hm,by simp,?_⟩⟩,hr⟩;simp only [List.toList_toArray,Nat.mul_one];exact xG (by simp)
theorem uB {W:qw}{zs ds:qi}(ho:OB W base (qS (qP g) n n) zs)(ty:TypeId)(dp sp:qO)(dLen dCap sLen sCap:Nat)(hds:BS W sp sLen sCap ds)(hle:sLen<=dLen)(hfit:f+sLen<=n)(hpos:0<sLen->dp=some (qR g f)):
 ∃ w',(Builtin.copy_ #[28,28] ty #[qS dp dLen dCap,qS sp sLen sCap]).run prog W=.ok (goInt sLen) w'/\OB w' base (qS (qP g) n n) (ovr zs f ds)/\fF g W w':=by
 obtain ⟨hrow,hlz,hg,hm⟩:=qN ho;have hld:=hds.1;have hi8:(prog.info? 5).map (·.size)=some 1:=by kernel_rfl
 by_cases h0:sLen=0
 .subst h0;obtain rfl:ds=[]:=xE hld;exact ⟨W,run_copy_none (P:=prog) W _ _ ty 5 dp sp dLen dCap 0 sCap underlying28 hi8 (by simp),by rw [aL6];exact ho,iD _ _⟩
 .obtain ⟨b,off,rfl,hc⟩:=hds.2.2.2.1 h0;rw [hpos (by omega)];subst hld
  have hrun:=run_copy_row (P:=prog) W 28 28 ty 5 g f dLen dCap (qR b off) ds.length sCap (zs.map (Value.int .u8)).toArray 5 (ds.map (Value.int .u8)) underlying28 hi8 hrow (by rw [xH];exact (Nat.min_eq_left hle).symm) (fun j v hj=>by
   have hjl:j<ds.length:=by
    rcases Nat.lt_or_ge j ds.length with h1|h1
    .exact h1
    .rw [xO (by simp;omega)] at hj;cases hj
   rw [bN,hc j hjl,<- hj]
   simp [xB,show j<ds.length by omega]) (by simp;omega) (fun v hv=>by
   simp at hv;obtain ⟨z,_,rfl⟩:=hv
   rfl)
  rw [xH] at hrun;refine ⟨_,hrun,?_,oY _ _ _⟩;refine lD ?_ (by rw [lC _ _ _ (by omega)];exact hlz) hg hm (wL ho.2 hds.2.2.1);have:=setRow_heap W g (zs.map (Value.int .u8)).toArray (splice (zs.map (Value.int .u8)) f (ds.map (Value.int .u8))).toArray 5 (0,0) hrow;rw [zZ] at this;rw [<- zZ] at this ⊢;simpa [splice] using this
theorem lV (a:qO)(n cap:Nat)(l:Int)(w:qw)(h0:0<=l)(h1:l<=1048576)(hn:n<=maxLen)(h:l<n):
 qC 73 #[qS a n cap,qI l] w fun e w'=>e=.returned (qI (-1))/\w=w':=
 (jR a n cap l w h0 h1 hn).mono fun e w' he=>⟨by rw [he.1,if_pos h],he.2.symm⟩
theorem dX (a:qO)(n cap:Nat)(l:Int)(w:qw)(h0:0<=l)(h1:l<=1048576)(hn:n<=maxLen)(h:n<=l:=by omega):
 qC 73 #[qS a n cap,qI l] w fun e w'=>e=.returned (qI (l-n))/\w=w':=
 (jR a n cap l w h0 h1 hn).mono fun e w' he=>⟨by rw [he.1,if_neg (by omega)],he.2.symm⟩
theorem aIi (a1 a2 a3:qO)(n1 c1 n2 c2 n3 c3:Nat)(l:Int)(w:qw)(h0:0<=l)(h1:l<=1048576)(m1:n1<=maxLen)(m2:n2<=maxLen)(m3:n3<=maxLen)(h:(n1:Int)+n2+n3<=l):
 qC 26 #[.agg (qV a1 n1 c1 a2 n2 c2 a3 n3 c3),qI l] w (qB w (qI (l-n1-n2-n3))):=by
 go_enter func26,ntmps26
 go_wp2_with fail
 refine (dX a1 n1 c1 l _ (by omega) (by omega) m1).mono ?_;rintro e w' ⟨rfl,rfl⟩;go_wp2_with fail
 refine (dX a2 n2 c2 _ _ (by omega) (by omega) m2).mono ?_;rintro e w' ⟨rfl,rfl⟩;go_wp2_with fail
 refine (dX a3 n3 c3 _ _ (by omega) (by omega) m3).mono ?_;rintro e w' ⟨rfl,rfl⟩;go_wp2;go_ret;exact ⟨rfl,bal⟩
theorem aIh (a1 a2 a3:qO)(n1 c1 n2 c2 n3 c3:Nat)(l:Int)(w:qw)(h0:0<=l)(h1:l<=1048576)(m1:n1<=maxLen)(m2:n2<=maxLen)(m3:n3<=maxLen)(h:l<(n1:Int)+n2+n3):
 qC 26 #[.agg (qV a1 n1 c1 a2 n2 c2 a3 n3 c3),qI l] w (qB w (qI (-1))):=by
 by_cases k1:l<(n1:Int)
 .go_enter func26,ntmps26
  go_wp2_with fail
  refine (lV a1 n1 c1 l _ (by omega) (by omega) m1 (by omega)).mono ?_;rintro e w' ⟨rfl,rfl⟩;go_wp2;go_ret;exact ⟨rfl,bal⟩
 .by_cases k2:l<(n1:Int)+n2
  .go_enter func26,ntmps26
   go_wp2_with fail
   refine (dX a1 n1 c1 l _ (by omega) (by omega) m1).mono ?_;rintro e w' ⟨rfl,rfl⟩;go_wp2_with fail
   refine (lV a2 n2 c2 _ _ (by omega) (by omega) m2 (by omega)).mono ?_;rintro e w' ⟨rfl,rfl⟩;go_wp2;go_ret;exact ⟨rfl,bal⟩
  .go_enter func26,ntmps26
   go_wp2_with fail
   refine (dX a1 n1 c1 l _ (by omega) (by omega) m1).mono ?_;rintro e w' ⟨rfl,rfl⟩;go_wp2_with fail
   refine (dX a2 n2 c2 _ _ (by omega) (by omega) m2).mono ?_;rintro e w' ⟨rfl,rfl⟩;go_wp2_with fail
   refine (lV a3 n3 c3 _ _ (by omega) (by omega) m3 (by omega)).mono ?_;rintro e w' ⟨rfl,rfl⟩;go_wp2;go_ret;exact ⟨rfl,bal⟩
theorem aNj {α:Type}{f:α->List Value}(hf:∀ x,(f x).length=4):∀ (L:List α) (i:Nat) (x:α),L[i]?=some x->∀ j,j<4->(L.flatMap f)[i*4+j]?=(f x)[j]?
 | [],i,x,h,j,hj=>by simp at h
 | y::L,0,x,h,j,hj=>by
   simp at h;subst h;rw [xT,List.getElem?_append_left (by rw [hf];omega)];simp
 | y::L,i+1,x,h,j,hj=>by
   rw [xT,List.getElem?_append_right (by rw [hf];omega)];have e:(i+1)*4+j-(f y).length=i*4+j:=by rw [hf];omega
   rw [e];exact aNj hf L i x (by simpa using h) j hj
theorem aJb {α:Type}{f:α->List Value}(hf:∀ x,(f x).length=4)(x:α)(v0 v1 v2 v3:Value)(hx:f x=[v0,v1,v2,v3]):∀ (xs:List α) (i:Nat),i<xs.length->((((xs.flatMap f).set (i*4) v0).set (i*4+1) v1).set (i*4+2) v2).set (i*4+3) v3=(xs.set i x).flatMap f
 | [],i,h=>by simp at h
 | y::ys,0,h=>by
   match e:f y,hf y with
   | [a,b,c,d],_=>simp [e,hx]
 | y::ys,i+1,h=>by
   have ih:=aJb hf x v0 v1 v2 v3 hx ys i (by simpa using h)
   match e:f y,hf y with
   | [a,b,c,d],_=>
     rw [show (i+1)*4=i*4+1+1+1+1 by omega];simp only [xT,e,List.cons_append,List.nil_append,List.set_cons_succ];rw [<- ih]
theorem aAd {α:Type}{f:α->List Value}(hf:∀ x,(f x).length=4){t:TypeId}{w:qw}{xs:List α}(h:OG t 4 f w base (qS (qP g) n c) xs)(i:Nat)(hi:i<n)(x:α)(v0 v1 v2 v3:Value)(hx:f x=[v0,v1,v2,v3]):OG t 4 f ((((w.setCell (qR g (i*4)) v0).setCell (qR g (i*4+1)) v1).setCell (qR g (i*4+2)) v2).setCell (qR g (i*4+3)) v3) base (qS (qP g) n c) (xs.set i x):=by
 obtain ⟨hl,⟨h0,_⟩|⟨g',cap',cur,hv,hg,hh,h1,h2,h3,h4⟩⟩:=h
 .simp at h0
 .simp at hv;obtain ⟨rfl,rfl,rfl⟩:=hv;refine ⟨?_,.inr ⟨g,c,(((cur.setIfInBounds (i*4) v0).setIfInBounds (i*4+1) v1).setIfInBounds (i*4+2) v2).setIfInBounds (i*4+3) v3,by simp,hg,Blk.set (Blk.set (Blk.set (Blk.set (w:=w) hh _ _) _ _) _ _) _ _,by simpa using h1,h2,by simpa using h3,?_⟩⟩
  .rw [<- aJb hf x v0 v1 v2 v3 hx xs i hi];simpa using hl
  .rw [List.length_set,xW,xW,xW,xW,List.take_set,List.take_set,List.take_set,List.take_set,h4];exact aJb hf x v0 v1 v2 v3 hx xs i hi
theorem nU {α:Type}{f:α->List Value}(hf:∀ x,(f x).length=4)(z:α){t:TypeId}{w:qw}{xs:List α}(h:OG t 4 f w base (qS a n c) xs)(m:Nat)(hm:m<n):∃ g,a=some (qR g 0)/\∀ j,j<4->∀ u,(f (xs.getD m z))[j]?=some u->w.cell? (qR g (m*4+j))=some u:=by
 obtain ⟨hl,_,_,h4⟩:=aQ h;obtain ⟨g,hg,hc⟩:=h4 (by omega);have hx:xs[m]?=some (xs.getD m z):=by simp [xB,show m<xs.length by omega]
 exact ⟨g,hg,fun j hj u hu=>hc _ _ (by rw [aNj hf xs m _ hx j hj];exact hu)⟩
def lJ {α:Type}(mk:Nat->α)(n:Nat):List α:=(List.range n).map mk
def pK {α:Type}(z:α)(zs:List α)(mk:Nat->α)(m:Nat):List α:=(List.range zs.length).map fun i=>if i<m then mk i else zs.getD i z
theorem aF2 {α:Type}(z:α)(mk:Nat->α)(n m:Nat)(h:m<n):(lJ mk n).getD m z=mk m:=by simp [lJ,xB,h]
theorem wM {α:Type}(z:α)(zs:List α)(mk:Nat->α):pK z zs mk 0=zs:=by
 apply List.ext_getElem
 .simp [pK]
 .intro i h1 h2;simp [pK,h2]
theorem aCj {α:Type}(z:α)(zs:List α)(mk:Nat->α):pK z zs mk zs.length=lJ mk zs.length:=by
 apply List.ext_getElem
 .simp [pK,lJ]
 .intro i h1 h2;simp [lJ] at h2;simp [pK,lJ,h2]
theorem aCi {α:Type}(z:α)(zs:List α)(mk:Nat->α)(m:Nat)(h:m<zs.length):(pK z zs mk m).set m (mk m)=pK z zs mk (m+1):=by
 apply List.ext_getElem
 .simp [pK]
 .intro i h1 h2;simp only [pK,List.getElem_set,List.getElem_map,List.getElem_range];by_cases hik:m=i
  .subst hik;simp
  .by_cases h3:i<m
   .simp [hik,h3,show i<m+1 by omega]
   .simp [hik,h3,show ¬ i<m+1 by omega]
theorem rZ {cap:Nat}{w:qw}{rs:List Rg}(h:ORg w base (qS a n cap) rs)(k:Nat)(hk:(qS a n cap).ownBlock=some k):base<=k:=by
 obtain ⟨hl,⟨h0,_⟩|⟨g',cap',cur,hv,hg,hh,h1,h2,h3,h4⟩⟩:=h.1
 .rw [h0] at hk;cases hk
 .rw [hv] at hk;have e:some g'=some k:=hk;injection e with e
  omega
theorem aEf (A:qO)(m cap:Nat)(rs:List Rg)(f s:Int)(r x y:Bool)(base:Nat)(w:qw)(hb:base<=w.heap.size)(h:ORg w base (qS A m cap) rs)(hf:wfi f)(hs:wfi s)(hm:m<=1000000):
 qC 183 #[qS A m cap,qI f,qI s,.bool r,.bool x,.bool y] w fun e w'=>∃ A' m' cap',e=.returned (qS A' m' cap')/\m'=m+(cvL f s).length/\ORg w' base (qS A' m' cap') (rs++rts r x y (cvL f s))/\Below base w w':=by
 obtain ⟨i0,hi,hz0,hz1,hz2⟩:=info_parts aF7;have HC:=zh (aDt f s w (by unfold wfi at hf;omega) (by unfold wfi at hs;omega));have HL:=zh (rA f s);have HO0:=zh h;have HLEN0:=zh (eZ h).1;generalize cvL f s=C at *;clear h;go_enter func183,ntmps183
 go_wp2_with fail
 refine HC.o.mono ?_;rintro e w2 ⟨c,n,cc,rfl,hC,hB2⟩;have HN:=zh (eZ hC).1;have hn:n<=8192:=by have:=HN.o;have:=HL.o;omega
 have HX:=zh (xA hC hB2);have HO2:=zh (eV (aJ hB2) HO0.o (fun k hk h=>by exact h));clear hC hB2;go_wp2_with fail
 go_loopw [0,15] (fun o i wr=>∃ (A':qO) (m' cap' k:Nat),k<=n/\m'=m+k/\o=qS A' m' cap'/\i=qI k/\ORg wr base (qS A' m' cap') (rs++(rts r x y C).take k)/\ORg wr w.heap.size (qS c n cc) C/\(∀ j,(qS A' m' cap').ownBlock=some j->¬ (qS c n cc).ownBlock=some j)/\Below base w wr) (fun _ i _=>n-(intOf i).toNat)
 .exact ⟨A,m,cap,0,xC _,rfl,rfl,rfl,by simpa using HO2.o,HX.o.1,fun j h1 h2=>by have:=aFz HO0.o j h1;have:=rZ HX.o.1 j h2;omega,HX.o.2.mono hb⟩
 .obtain ⟨A',m',cap',k,hk,hm',rfl,rfl,hO,hC,hd,hB⟩:=hrel;by_cases hlt:k<n
  .have hlt':(k:Int)<(n:Int):=by omega
   obtain ⟨b,off,rfl⟩:=(eZ hC).some (by omega);have hat:=(eZ hC).at k hlt
   have hC2:=hC.2 (C.getD k z6) (by
    have:k<C.length:=by rw [HN.o];exact hlt
    simp [xB,this])
   have HT:=zh (aI2 r x y C k (by rw [HN.o];exact hlt));generalize hG:C.getD k z6=G at *;obtain ⟨g1,g2,g3,g4,g5,g6⟩:=G;have HG:=zh hG;obtain ⟨p0,p1,p2,p3,p4,p5⟩:=hat;obtain ⟨W1,hW1⟩:=eqx (wr.alloc (.cells #[qI g1,qI g2,qI g3,.bool g4,.bool g5,.bool g6] 214));have K1:Blk W1 wr.heap.size #[qI g1,qI g2,qI g3,.bool g4,.bool g5,.bool g6] 214:=by rw [hW1];exact Blk.new _ _ _
   have B1:qY wr W1:=by rw [hW1];exact bal
   have s1:W1.heap.size=wr.heap.size+1:=by rw [hW1];simp
   obtain ⟨W2,hW2⟩:=eqx (((W1.setCell ⟨wr.heap.size,3,none⟩ (.bool r)).setCell ⟨wr.heap.size,4,none⟩ (.bool x)).setCell ⟨wr.heap.size,5,none⟩ (.bool y))
   have K2:Blk W2 wr.heap.size #[qI g1,qI g2,qI g3,.bool r,.bool x,.bool y] 214:=by
    rw [hW2];exact ((K1.set 3 (.bool r)).set 4 (.bool x)).set 5 (.bool y)
   have B2:qY wr W2:=by rw [hW2];exact ((B1.setCell aN _).setCell aN _).setCell aN _
   have s2:W2.heap.size=wr.heap.size+1:=by rw [hW2];simp [s1]
   have BB:qY wr (W2.alloc (.cells #[qI g1,qI g2,qI g3,.bool r,.bool x,.bool y] 214)):=B2.alloc (by rw [s2];omega) _
   have HOW:=zh (show (W2.alloc (.cells #[qI g1,qI g2,qI g3,.bool r,.bool x,.bool y] 214)).ownsRow base 214 6 (qS A' m' cap') m' (dO (rs++(rts r x y C).take k)) from by
    have:=(eV (aJ BB) hO (fun _ _ h=>h)).1
    rwa [(eZ hO).1] at this)
   have HNEWS:=zh (by have:=aJs W2 (g1,g2,g3,r,x,y);rw [s2] at this;exact this);have HMM:=zh hm';have HONE:=zh (aL8 (g1,g2,g3,r,x,y));have HRS:=zh hO.2;have HLB:=zh (aFz hO);have HGE:=zh (rZ hO);have HCW:=zh (eV (aJ BB) hC (fun _ _ h=>h));have HCL:=zh (aFz hC);have HD:=zh hd;have HML:=zh (eZ hO).1;have HSZ:=zh (show base<=(W2.alloc (.cells #[qI g1,qI g2,qI g3,.bool r,.bool x,.bool y] 214)).heap.size from by have:=hB.size;simp;omega);have HSY:=zh (show (W2.alloc (.cells #[qI g1,qI g2,qI g3,.bool r,.bool x,.bool y] 214)).heap.size=wr.heap.size+2 from by simp [s2]);have HB3:Zh (Below base w (W2.alloc (.cells #[qI g1,qI g2,qI g3,.bool r,.bool x,.bool y] 214))):=hB.trans (BB.mono (by have:=hB.size;omega));have HG2:=zh hC2;obtain ⟨q1,q2,q3,q4,q5,q6,q7⟩:=K1.six';obtain ⟨u1,u2,u3,u4,u5,u6,u7⟩:=K2.six';have HW1:=zh hW1;have HW2:=zh hW2;clear hW1 hW2 K1 K2 B1 B2 BB hO hC hd hB hC2 hG hm';generalize hW3:W2.alloc (.cells #[qI g1,qI g2,qI g3,.bool r,.bool x,.bool y] 214)=W3 at *;have HW3:=zh hW3;clear hW3;go_wp2_with (first|rw [<- HW1.o]|rw [<- HW2.o]|rw [HW3.o]|(at_builtin;refine wpList_append_own_at _ rfl _ _ 108 rfl base 214 i0 (.agg #[qI 0,qI 0,qI 0,.bool false,.bool false,.bool false]) 6 32 underlying108 hi hz0 hz1 hz2 rfl (by decide) (qS A' m' cap') m' (dO (rs++(rts r x y C).take k)) rfl HOW.o (qR (wr.heap.size+1) 0) 1 1 (dA (g1,g2,g3,r,x,y)) rfl rfl HNEWS.o HONE.o (by have:=HMM.o;unfold maxLen;omega) (by have:=HMM.o;omega) HSZ.o ?_;intro v' w3 hown3 hgr3 _ hat3;have HP:=zh (xA hown3 (xA hgr3 hat3));clear hown3 hgr3 hat3;obtain ⟨A2,cap2,he⟩:=mT HP.o.1;subst he))
   have t3:=jD HP.o.2.1;refine ⟨⟨A2,m'+1,cap2,k+1,by omega,by have:=HMM.o;omega,rfl,by go_num,?_,?_,?_,?_⟩,by simp [intOf];omega⟩
   .rw [HT.o,<- List.append_assoc];refine aAb (W:=W3) (v:=qS A' m' cap') HRS.o HG2.o ?_;rw [HML.o];exact HP.o.1
   .exact eV t3 HCW.o (fun j hj h=>HD.o j h hj)
   .intro j h1 h2;rcases HP.o.2.2 with h|h
    .exact HD.o j (h ▸ h1) h2
    .rw [h1] at h;injection h with h
     have:=HCL.o j h2;have:=HSY.o;omega
   .exact aG HB3.o t3 (fun j hj=>HGE.o j hj) HSZ.o
  .have HE:=zh (show k=n by omega);have HF:=zh (xA hO hB);clear hO hC hd hB;go_wp2;go_ret;refine ⟨A',m',cap',rfl,by rw [hm',HE.o,HN.o],?_,HF.o.2⟩;have:=HF.o.1
   rwa [xG (by rw [fQ,HE.o,HN.o];exact aN)] at this
