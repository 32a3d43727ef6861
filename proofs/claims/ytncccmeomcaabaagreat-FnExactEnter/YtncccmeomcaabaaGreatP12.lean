import Derived.Test.YtncccmeomcaabaaGreatP09
set_option maxHeartbeats 8000000
namespace Go.Proofs.YtncccmeomcaabaaGreat
open Go.RowKit Classical
open Go.Proofs.Tryz
set_option linter.all false
set_option maxRecDepth 100000
variable {base cap g n:Nat}
theorem oJ (a0:qO)(n c0:Nat)(xs:List PB)(st:Int)(a2:qO)(sn c2:Nat)(fl rm:Int)(a5:qO)(m0 c5:Nat)(ts:List TB)(a0':qO)(n' c0':Nat)(xs':List PB)(st':Int)(a2':qO)(sn' c2':Nat)(fl' rm':Int)(a5':qO)(m0' c5':Nat)(ts':List TB)(w:qw)(h0:PlS w a0 n c0 xs)(h1:TsS w a5 m0 c5 ts)(h0':PlS w a0' n' c0' xs')(h1':TsS w a5' m0' c5' ts'):
 qC 207 #[.agg #[qS a0 n c0,qI st,qS a2 sn c2,qI fl,qI rm,qS a5 m0 c5],.agg #[qS a0' n' c0',qI st',qS a2' sn' c2',qI fl',qI rm',qS a5' m0' c5']] w fun e w'=>e=.returned (.bool (decide (xs.map (fun x=>x.1)=xs'.map (fun x=>x.1)/\ts.map (fun x=>x.1)=ts'.map (fun x=>x.1))))/\qY w w':=by
 obtain ⟨r,hr⟩:=eqx (decide (xs.map (fun x=>x.1)=xs'.map (fun x=>x.1)/\ts.map (fun x=>x.1)=ts'.map (fun x=>x.1)));rw [<- hr];have HR:=zh hr;clear hr;have hm0:=h0.2.1;have hm1:=h1.2.1;have hm0':=h0'.2.1;have hm1':=h1'.2.1;unfold maxLen at hm0 hm1 hm0' hm1';have hl0:=h0.1;have hl1:=h1.1;have hl0':=h0'.1;have hl1':=h1'.1;have B0:qY w ((w.alloc (.cells #[qS a0 n c0,qI st,qS a2 sn c2,qI fl,qI rm,qS a5 m0 c5] 71)).alloc (.cells #[qS a0' n' c0',qI st',qS a2' sn' c2',qI fl',qI rm',qS a5' m0' c5'] 71)):=bal.alloc (by simp) _;have u:=(Blk.new w #[qS a0 n c0,qI st,qS a2 sn c2,qI fl,qI rm,qS a5 m0 c5] 71).alloc (.cells #[qS a0' n' c0',qI st',qS a2' sn' c2',qI fl',qI rm',qS a5' m0' c5'] 71);have v:=Blk.new (w.alloc (.cells #[qS a0 n c0,qI st,qS a2 sn c2,qI fl,qI rm,qS a5 m0 c5] 71)) #[qS a0' n' c0',qI st',qS a2' sn' c2',qI fl',qI rm',qS a5' m0' c5'] 71;try unfold qY at *
 simp only [xF] at v;have HK:=zh (xA B0 (xA u v));clear u v;by_cases n1:n=n'
 rotate_left
 .have g1:((n:Int) !=(n':Int))=true:=by simp;omega
  have HV:=zh (show r=false by
   rw [HR.o,decide_eq_false_iff_not];intro e;have:=congrArg List.length e.1;simp at this
   omega)
  clear HR;go_enter func207,ntmps207
  go_wp2;go_ret;exact ⟨aA HV.o.symm,HK.o.1⟩
 subst n1;have g1:((n:Int) !=(n:Int))=false:=by simp
 by_cases n2:m0=m0'
 rotate_left
 .have g2:((m0:Int) !=(m0':Int))=true:=by simp;omega
  have HV:=zh (show r=false by
   rw [HR.o,decide_eq_false_iff_not];intro e;have:=congrArg List.length e.2;simp at this
   omega)
  clear HR;go_enter func207,ntmps207
  go_wp2;go_ret;exact ⟨aA HV.o.symm,HK.o.1⟩
 subst n2;have g2:((m0:Int) !=(m0:Int))=false:=by simp
 have HP:=zh (xA h0 (xA h0' (xA h1 h1')));clear h0 h0' h1 h1' B0;go_enter func207,ntmps207
 go_wp2;go_loopw [5] (fun i wr=>∃ k:Nat,k<=n/\i=qI k/\(xs.map (fun x=>x.1)).take k=(xs'.map (fun x=>x.1)).take k/\qY w wr/\Blk wr w.heap.size #[qS a0 n c0,qI st,qS a2 sn c2,qI fl,qI rm,qS a5 m0 c5] 71/\Blk wr (w.heap.size+1) #[qS a0' n c0',qI st',qS a2' sn' c2',qI fl',qI rm',qS a5' m0 c5'] 71) (qf n)
 .exact ⟨0,xC _,rfl,by simp,HK.o⟩
 .obtain ⟨k,hk,rfl,hT,HB⟩:=hrel;clear HK;have HB:=zh HB;generalize wr=wo at *;obtain ⟨p0,p1,p2,p3,p4,p5⟩:=(HB.o.2.1).ly6;obtain ⟨q0,q1,q2,q3,q4,q5⟩:=(HB.o.2.2).ly6;by_cases hlt:k<n
  .have hlt':(k:Int)<(n:Int):=by omega
   obtain ⟨b,off,rfl,s0,s1,s2,s3⟩:=(HP.o.1.bw HB.o.1).at k hlt;obtain ⟨b',off',rfl,t0,t1,t2,t3⟩:=(HP.o.2.1.bw HB.o.1).at k (by omega);have i1:=(HP.o.1.bw HB.o.1).2.2.2.1 k hlt;have i2:=(HP.o.2.1.bw HB.o.1).2.2.2.1 k (by omega);have HGO:Zh ((xs.getD k zPB).1=(xs'.getD k zPB).1->(xs.map (fun x=>x.1)).take (k+1)=(xs'.map (fun x=>x.1)).take (k+1)):=fun he=>dD zPB.1 _ _ k hT (by simp;omega) (by simp;omega) (by rw [bD _ _ _ zPB _,bD _ _ _ zPB _,he])
   have HNO:=zh (show (xs.getD k zPB).1≠(xs'.getD k zPB).1->r=false from fun he=>by
    rw [HR.o,decide_eq_false_iff_not];intro e;have e2:=congrArg (fun l=>l.getD k zPB.1) e.1;try simp only at e2
    rw [bD _ _ _ zPB _,bD _ _ _ zPB _] at e2
    exact he e2)
   clear hT;unfold svP at s1 t1;generalize xs.getD k zPB=x at *;generalize xs'.getD k zPB=y at *;obtain ⟨⟨xt,xb,xd,xz⟩,xa,xc⟩:=x;obtain ⟨⟨yt,yb,yd,yz⟩,ya,yc⟩:=y;dsimp only at s0 s1 s2 s3 t0 t1 t2 t3 i1 i2 HGO HNO;have hlw:=HB.o.2.1.lt;have hlw':=HB.o.2.2.lt;have hlb:=xD _ _ s0;have hlb':=xD _ _ t0;have HB2:qY wo ((wo.alloc (.cells #[qI xt,qS xa xb.length xc,qI xd,qI xz] 171)).alloc (.cells #[qI yt,qS ya yb.length yc,qI yd,qI yz] 171)):=bal.alloc (by simp) _;have HEQ:=zh (kK xa ya xb.length xc yb.length yc xb yb _ (i1.bw HB2) (i2.bw HB2));have HB4:=zh (xA (HB.o.1.trans (HB2.mono HB.o.1.size)) (xA (HB.o.2.1.bw HB2) (HB.o.2.2.bw HB2)));have kp:=(Blk.new wo #[qI xt,qS xa xb.length xc,qI xd,qI xz] 171).alloc (.cells #[qI yt,qS ya yb.length yc,qI yd,qI yz] 171);have kq:=Blk.new (wo.alloc (.cells #[qI xt,qS xa xb.length xc,qI xd,qI xz] 171)) #[qI yt,qS ya yb.length yc,qI yd,qI yz] 171;try unfold qY at *
   simp only [xF] at kq;have HKP:=zh (xA kp kq);clear i1 i2 HB2 HB kp kq;by_cases e1:xt=yt
   rotate_left
   .have g3:(xt !=yt)=true:=by simpa using e1
    have HV:Zh (r=false):=HNO.o (fun e=>e1 (by injection e));clear HNO HGO HEQ;go_wp2;go_ret;exact ⟨aA HV.o.symm,HB4.o.1⟩
   have g3:(xt !=yt)=false:=by simpa using e1
   have HE1:=zh e1;clear e1;go_wp2_with fail
   refine HEQ.o.mono ?_;rintro e w1 ⟨rfl,hb1⟩;have HB5:=zh (xA (HB4.o.1.trans (hb1.mono HB4.o.1.size)) (xA (HB4.o.2.1.bw hb1) (HB4.o.2.2.bw hb1)));have kp:=HKP.o.1.bw hb1;have kq:=HKP.o.2.bw hb1;have x0:=kp.e2;have x1:=kp.e3;have y0:=kq.e2;have y1:=kq.e3;clear hb1 kp kq HKP HB4 p0 p1 p2 p3 p4 p5 q0 q1 q2 q3 q4 q5 s0 s1 s2 s3 t0 t1 t2 t3;by_cases e2:xb=yb
   rotate_left
   .rw [xS e2];have HV:Zh (r=false):=HNO.o (fun e=>e2 (by injection e));clear HNO HGO HEQ;go_wp2;go_ret;exact ⟨aA HV.o.symm,HB5.o.1⟩
   rw [xR e2];have HE2:=zh e2;clear e2;by_cases e3:xd=yd
   rotate_left
   .have g4:(xd !=yd)=true:=by simpa using e3
    have HV:Zh (r=false):=HNO.o (fun e=>e3 (by injection e));clear HNO HGO HEQ;go_wp2;go_ret;exact ⟨aA HV.o.symm,HB5.o.1⟩
   have g4:(xd !=yd)=false:=by simpa using e3
   have HE3:=zh e3;clear e3;by_cases e4:xz=yz
   rotate_left
   .have g5:(xz !=yz)=true:=by simpa using e4
    have HV:Zh (r=false):=HNO.o (fun e=>e4 (by injection e));clear HNO HGO HEQ;go_wp2;go_ret;exact ⟨aA HV.o.symm,HB5.o.1⟩
   have g5:(xz !=yz)=false:=by simpa using e4
   have HE4:=zh e4;clear e4;have HG:=zh (HGO.o (by rw [HE1.o,HE2.o,HE3.o,HE4.o]));clear HGO HNO HEQ;go_wp2
   go_roundw
   .exact ⟨k+1,by omega,by go_num,HG.o,HB5.o⟩
   .simp [qf,intOf];omega
  .have HPE:=zh (show xs.map (fun x=>x.1)=xs'.map (fun x=>x.1) from by
    rw [xG (by simp;omega),xG (by simp;omega)] at hT
    exact hT)
   clear hT;go_wp2;clear p0 p1 p2 p3 p4 p5 q0 q1 q2 q3 q4 q5;go_loopw [8] (fun i wr=>∃ m:Nat,m<=m0/\i=qI m/\(ts.map (fun x=>x.1)).take m=(ts'.map (fun x=>x.1)).take m/\qY w wr/\Blk wr w.heap.size #[qS a0 n c0,qI st,qS a2 sn c2,qI fl,qI rm,qS a5 m0 c5] 71/\Blk wr (w.heap.size+1) #[qS a0' n c0',qI st',qS a2' sn' c2',qI fl',qI rm',qS a5' m0 c5'] 71) (qf m0)
   .exact ⟨0,xC _,rfl,by simp,HB.o⟩
   .clear HB;obtain ⟨m,hm,rfl,hT,HC⟩:=hrel;have HC:=zh HC;generalize wr=wn at *;obtain ⟨p0,p1,p2,p3,p4,p5⟩:=(HC.o.2.1).ly6;obtain ⟨q0,q1,q2,q3,q4,q5⟩:=(HC.o.2.2).ly6;by_cases hmt:m<m0
    .have hmt':(m:Int)<(m0:Int):=by omega
     obtain ⟨b,off,rfl,s0⟩:=(HP.o.2.2.1.bw HC.o.1).at m hmt;obtain ⟨b',off',rfl,t0⟩:=(HP.o.2.2.2.bw HC.o.1).at m (by omega);have I1:=zh (HP.o.2.2.1.2.2.2.1 m hmt);have I2:=zh (HP.o.2.2.2.2.2.2.1 m (by omega));have HGO:Zh ((ts.getD m zTB).1=(ts'.getD m zTB).1->(ts.map (fun x=>x.1)).take (m+1)=(ts'.map (fun x=>x.1)).take (m+1)):=fun he=>dD zTB.1 _ _ m hT (by simp;omega) (by simp;omega) (by rw [bD _ _ _ zTB _,bD _ _ _ zTB _,he])
     have HNO:=zh (show (ts.getD m zTB).1≠(ts'.getD m zTB).1->r=false from fun he=>by
      rw [HR.o,decide_eq_false_iff_not];intro e;have e2:=congrArg (fun l=>l.getD m zTB.1) e.2;try simp only at e2
      rw [bD _ _ _ zTB _,bD _ _ _ zTB _] at e2
      exact he e2)
     have HHD:=zh (fun (W:qw) (hb:qY wn W)=>xA (aB hb s0) (aB hb t0));clear hT;unfold svT at s0 t0 HHD;generalize ts.getD m zTB=x at *;generalize ts'.getD m zTB=y at *;obtain ⟨xl,xa,xc⟩:=x;obtain ⟨yl,ya,yc⟩:=y;dsimp only at s0 t0 I1 I2 HGO HNO HHD;have hx1:=I1.o.2.1;have hy1:=I2.o.2.1;unfold maxLen at hx1 hy1;by_cases e1:xl.length=yl.length
     rotate_left
     .have g3:((xl.length:Int) !=(yl.length:Int))=true:=by simp;omega
      have HV:Zh (r=false):=HNO.o (fun e=>e1 (by rw [e]));clear HNO HGO;go_wp2
      go_quiet (fail)
      go_wp2;go_ret;exact ⟨aA HV.o.symm,below_drewN HC.o.1 _⟩
     have g3:((xl.length:Int) !=(yl.length:Int))=false:=by simp;omega
     go_wp2
     go_quiet (fail)
     go_wp2;clear p0 p1 p2 p3 p4 p5 q0 q1 q2 q3 q4 q5 s0 t0;go_loopw [9] (fun i wr=>∃ j:Nat,j<=xl.length/\i=qI j/\xl.take j=yl.take j/\qY wn wr) (qf xl.length)
     .exact ⟨0,xC _,rfl,by simp,below_drewN brf _⟩
     .obtain ⟨j,hj,rfl,hT,HD⟩:=hrel;have HD:=zh HD;generalize wr=wm at *;obtain ⟨s0,t0⟩:=HHD.o wm HD.o;obtain ⟨p0,p1,p2,p3,p4,p5⟩:=(HC.o.2.1.bw HD.o).ly6;obtain ⟨q0,q1,q2,q3,q4,q5⟩:=(HC.o.2.2.bw HD.o).ly6;have HCD:=zh (HC.o.1.trans (HD.o.mono HC.o.1.size));by_cases hjl:j<xl.length
      .have hjl':(j:Int)<(xl.length:Int):=by omega
       have hjlb':(j:Int)<(yl.length:Int):=by omega
       obtain ⟨bx,ox,rfl,u0,u1,u2⟩:=((I1.o.bw HCD.o)).at j hjl;obtain ⟨by',oy,rfl,v0,v1,v2⟩:=((I2.o.bw HCD.o)).at j (by omega);have HS:Zh (xl.getD j zT=yl.getD j zT->xl.take (j+1)=yl.take (j+1)):=fun he=>dD zT _ _ j hT (by omega) (by omega) he;have HF:Zh (xl.getD j zT≠yl.getD j zT->r=false):=fun he=>HNO.o (fun e=>he (by rw [e]));clear hT;generalize xl.getD j zT=z at *;generalize yl.getD j zT=z' at *;obtain ⟨z0,z1,z2⟩:=z;obtain ⟨z0',z1',z2'⟩:=z';dsimp only at u0 u1 u2 v0 v1 v2;by_cases he:(z0,z1,z2)=((z0',z1',z2'):Tg)
       .have HS2:=zh (HS.o he);simp only [Prod.mk.injEq] at he;obtain ⟨rfl,rfl,rfl⟩:=he;clear HS HF;go_wp2
        go_quiet (fail)
        go_wp2
        go_roundw
        .exact ⟨j+1,by omega,by go_num,HS2.o,below_drewN HD.o _⟩
        .simp [qf,intOf];omega
       .have HV:=zh (HF.o he);have hne3:¬ (z0=z0'/\z1=z1'/\z2=z2'):=fun e=>he (by rw [e.1,e.2.1,e.2.2]);clear HS HF he;by_cases f0:z0=z0'
        .by_cases f1:z1=z1'
         .have f2:¬ z2=z2':=fun e=>hne3 ⟨f0,f1,e⟩;subst f0 f1;have f2':(z2==z2')=false:=by simpa using f2
          go_wp2
          go_quiet (fail)
          go_wp2;go_ret;exact ⟨aA HV.o.symm,below_drewN HCD.o _⟩
         .subst f0;have f1':(z1==z1')=false:=by simpa using f1
          go_wp2
          go_quiet (fail)
          go_wp2;go_ret;exact ⟨aA HV.o.symm,below_drewN HCD.o _⟩
        .have f0':(z0==z0')=false:=by simpa using f0
         go_wp2
         go_quiet (fail)
         go_wp2;go_ret;exact ⟨aA HV.o.symm,below_drewN HCD.o _⟩
      .have HG:=zh (HGO.o (by
        rw [xG (by omega),xG (by omega)] at hT
        exact hT))
       have HCE:=zh (xA HCD.o (xA (HC.o.2.1.bw HD.o) (HC.o.2.2.bw HD.o)));clear hT HGO HNO;go_wp2
       go_roundw
       .exact ⟨m+1,by omega,by go_num,HG.o,HCE.o⟩
       .simp [qf,intOf];omega
    .have HV:=zh (show r=true from by
      rw [HR.o];simp only [decide_eq_true_eq];rw [xG (by simp;omega),xG (by simp;omega)] at hT
      exact ⟨HPE.o,hT⟩)
     clear hT;go_wp2;go_ret;exact ⟨aA HV.o.symm,HC.o.1⟩
theorem uT (L:Lay)(a0:qO)(c0:Nat)(xs:List PB)(a2:qO)(c2:Nat)(a5:qO)(c5:Nat)(ts:List TB)(L':Lay)(a0':qO)(c0':Nat)(xs':List PB)(a2':qO)(c2':Nat)(a5':qO)(c5':Nat)(ts':List TB)(w:qw)(h:LyT w L a0 c0 xs a2 c2 a5 c5 ts)(h':LyT w L' a0' c0' xs' a2' c2' a5' c5' ts'):
 qC 182 #[.agg (qJ L a0 xs c0 a2 c2 a5 ts c5),.agg (qL L' a0' xs'.length c0' a2' L'.slots.length c2' a5' ts'.length c5')] w (qB w (.bool (decide (L=L')))):=by
 have hps:=h.ps;have hps':=h'.ps;have htt:=h.tt;have htt':=h'.tt;have HE1:=zh (fun (W:qw) (hb:qY w W)=>kK a2 a2' L.slots.length c2 L'.slots.length c2' L.slots L'.slots W (h.s.bw hb) (h'.s.bw hb));have HE2:=zh (fun (W:qw) (hb:qY w W)=>oJ a0 xs.length c0 xs L.stack a2 L.slots.length c2 L.flash L.ram a5 ts.length c5 ts a0' xs'.length c0' xs' L'.stack a2' L'.slots.length c2' L'.flash L'.ram a5' ts'.length c5' ts' W (h.p.bw hb) (h.t.bw hb) (h'.p.bw hb) (h'.t.bw hb));rw [hps,hps',htt,htt'] at HE2;clear h h' hps hps' htt htt';obtain ⟨pl,st,sl,fl,rm,tg⟩:=L;obtain ⟨pl',st',sl',fl',rm',tg'⟩:=L';dsimp only at HE1 HE2 ⊢;obtain ⟨r,hr⟩:=eqx (decide ((⟨pl,st,sl,fl,rm,tg⟩:Lay)=⟨pl',st',sl',fl',rm',tg'⟩));rw [<- hr];simp only [Lay.mk.injEq] at hr;have HR:=zh hr;clear hr;have B0:qY w ((w.alloc (.cells #[qS a0 xs.length c0,qI st,qS a2 sl.length c2,qI fl,qI rm,qS a5 ts.length c5] 71)).alloc (.cells #[qS a0' xs'.length c0',qI st',qS a2' sl'.length c2',qI fl',qI rm',qS a5' ts'.length c5'] 71)):=bal.alloc (by simp) _;have u:=(Blk.new w #[qS a0 xs.length c0,qI st,qS a2 sl.length c2,qI fl,qI rm,qS a5 ts.length c5] 71).alloc (.cells #[qS a0' xs'.length c0',qI st',qS a2' sl'.length c2',qI fl',qI rm',qS a5' ts'.length c5'] 71);have v:=Blk.new (w.alloc (.cells #[qS a0 xs.length c0,qI st,qS a2 sl.length c2,qI fl,qI rm,qS a5 ts.length c5] 71)) #[qS a0' xs'.length c0',qI st',qS a2' sl'.length c2',qI fl',qI rm',qS a5' ts'.length c5'] 71;try unfold qY at *
 simp only [xF] at v;have HK:=zh (xA B0 (xA u v));clear u v B0;go_enter func182,ntmps182
 go_wp2_with fail
 refine (HE2.o _ HK.o.1).mono ?_;rintro e w1 ⟨rfl,hb1⟩;have HK1:=zh (xA (HK.o.1.trans (hb1.mono HK.o.1.size)) (xA (HK.o.2.1.bw hb1) (HK.o.2.2.bw hb1)));clear hb1 HK;by_cases k0:pl=pl'/\tg=tg'
 rotate_left
 .rw [xS k0];have HV:=zh (show r=false by rw [HR.o,decide_eq_false_iff_not];exact fun e=>k0 ⟨e.1,e.2.2.2.2.2⟩);clear HR HE1 HE2;go_wp2;go_ret;exact ⟨aA HV.o.symm,HK1.o.1⟩
 rw [xR k0];have HC0:=zh k0;clear k0;obtain ⟨p0,p1,p2,p3,p4,p5⟩:=(HK1.o.2.1).ly6;obtain ⟨q0,q1,q2,q3,q4,q5⟩:=(HK1.o.2.2).ly6;by_cases k1:st=st'
 rotate_left
 .have g1:(st==st')=false:=by simpa using k1
  have HV:=zh (show r=false by rw [HR.o];simp [k1]);clear HR HE1 HE2;go_wp2;go_ret;exact ⟨aA HV.o.symm,HK1.o.1⟩
 have g1:(st==st')=true:=by simpa using k1
 have HC1:=zh k1;clear k1;go_wp2_with fail
 refine (HE1.o _ HK1.o.1).mono ?_;rintro e w2 ⟨rfl,hb2⟩;have HK2:=zh (xA (HK1.o.1.trans (hb2.mono HK1.o.1.size)) (xA (HK1.o.2.1.bw hb2) (HK1.o.2.2.bw hb2)));clear hb2 p0 p1 p2 p3 p4 p5 q0 q1 q2 q3 q4 q5;by_cases k4:sl=sl'
 rotate_left
 .rw [xS k4];have HV:=zh (show r=false by rw [HR.o];simp [k4]);clear HR HE1 HE2;go_wp2;go_ret;exact ⟨aA HV.o.symm,HK2.o.1⟩
 rw [xR k4];have HC4:=zh k4;clear k4;obtain ⟨p0,p1,p2,p3,p4,p5⟩:=(HK2.o.2.1).ly6;obtain ⟨q0,q1,q2,q3,q4,q5⟩:=(HK2.o.2.2).ly6;by_cases k2:fl=fl'
 rotate_left
 .have g2:(fl==fl')=false:=by simpa using k2
  have HV:=zh (show r=false by rw [HR.o];simp [k2]);clear HR HE1 HE2;go_wp2;go_ret;exact ⟨aA HV.o.symm,HK2.o.1⟩
 have g2:(fl==fl')=true:=by simpa using k2
 have HC2:=zh k2;clear k2;by_cases k3:rm=rm'
 rotate_left
 .have g3:(rm==rm')=false:=by simpa using k3
  have HV:=zh (show r=false by rw [HR.o];simp [k3]);clear HR HE1 HE2;go_wp2;go_ret;exact ⟨aA HV.o.symm,HK2.o.1⟩
 have g3:(rm==rm')=true:=by simpa using k3
 have HV:=zh (show r=true by rw [HR.o];simp [HC0.o.1,HC0.o.2,HC1.o,HC2.o,k3,HC4.o]);clear HR HE1 HE2 k3;go_wp2;go_ret;exact ⟨aA HV.o.symm,HK2.o.1⟩
theorem aPq (a1 a2 a3:qO)(n1 c1 n2 c2 n3 c3:Nat)(p:Int)(w:qw)(h:mok n1 n2 n3=true)(hmax:p<=9223372036854775807)(hm:(p.tmod 4 !=0)=false)(hp:(p==131072)=false)(hi:ins p 4 0 n1=true):
 qC 243 #[.agg (qV a1 n1 c1 a2 n2 c2 a3 n3 c3),qI p,qI 4] w (qB w (qI 3)):=by
 have hB0:qY w (w.alloc (.cells (qV a1 n1 c1 a2 n2 c2 a3 n3 c3) 39)):=bal;go_enter func243,ntmps243
 obtain ⟨l1,l2,l3⟩:=aPa h;go_wp2_with fail
 refine (aBs a1 a2 a3 n1 c1 n2 c2 n3 c3 p _ h hm).mono ?_;rintro e w1 ⟨rfl,hb1⟩;have k1:=(Blk.new w (qV a1 n1 c1 a2 n2 c2 a3 n3 c3) 39).bw hb1;have hB1:=hB0.trans (hb1.mono (by simp));obtain ⟨q1,q2,q3,q4⟩:=k1.three;clear hb1 k1;go_wp2_with fail
 refine (iK a1 n1 c1 _ 4 0 _).mono ?_;rw [hi];rintro e wx ⟨rfl,rfl⟩;go_wp2;go_ret;exact ⟨rfl,hB1⟩
theorem aQi (a1 a2 a3:qO)(n1 c1 n2 c2 n3 c3:Nat)(p:Int)(w:qw)(h:mok n1 n2 n3=true)(hmax:p<=9223372036854775807)(hm:(p.tmod 4 !=0)=false)(hp:(p==131072)=false)(hi:ins p 4 0 n1=false)(hj:ins p 4 65536 n2=false):
 qC 243 #[.agg (qV a1 n1 c1 a2 n2 c2 a3 n3 c3),qI p,qI 4] w (qB w (qI 2)):=by
 have hB0:qY w (w.alloc (.cells (qV a1 n1 c1 a2 n2 c2 a3 n3 c3) 39)):=bal;go_enter func243,ntmps243
 obtain ⟨l1,l2,l3⟩:=aPa h;go_wp2_with fail
 refine (aBs a1 a2 a3 n1 c1 n2 c2 n3 c3 p _ h hm).mono ?_;rintro e w1 ⟨rfl,hb1⟩;have k1:=(Blk.new w (qV a1 n1 c1 a2 n2 c2 a3 n3 c3) 39).bw hb1;have hB1:=hB0.trans (hb1.mono (by simp));obtain ⟨q1,q2,q3,q4⟩:=k1.three;clear hb1 k1;go_wp2_with fail
 refine (iK a1 n1 c1 _ 4 0 _).mono ?_;rw [hi];rintro e wx ⟨rfl,rfl⟩;go_wp2_with fail
 refine (iK a2 n2 c2 _ 4 65536 _).mono ?_;rw [hj];rintro e wx ⟨rfl,rfl⟩;go_wp2;go_ret;exact ⟨rfl,hB1⟩
theorem aLy (a1 a2 a3:qO)(n1 c1 n2 c2 n3 c3:Nat)(p:Int)(w:qw)(h:mok n1 n2 n3=true)(hmax:p<=9223372036854775807)(hm:(p.tmod 4 !=0)=false)(hp:(p==131072)=false)(hi:ins p 4 0 n1=false)(hj:ins p 4 65536 n2=true):
 qC 243 #[.agg (qV a1 n1 c1 a2 n2 c2 a3 n3 c3),qI p,qI 4] w (qB w (qI 0)):=by
 have hB0:qY w (w.alloc (.cells (qV a1 n1 c1 a2 n2 c2 a3 n3 c3) 39)):=bal;go_enter func243,ntmps243
 obtain ⟨l1,l2,l3⟩:=aPa h;go_wp2_with fail
 refine (aBs a1 a2 a3 n1 c1 n2 c2 n3 c3 p _ h hm).mono ?_;rintro e w1 ⟨rfl,hb1⟩;have k1:=(Blk.new w (qV a1 n1 c1 a2 n2 c2 a3 n3 c3) 39).bw hb1;have hB1:=hB0.trans (hb1.mono (by simp));obtain ⟨q1,q2,q3,q4⟩:=k1.three;clear hb1 k1;go_wp2_with fail
 refine (iK a1 n1 c1 _ 4 0 _).mono ?_;rw [hi];rintro e wx ⟨rfl,rfl⟩;go_wp2_with fail
 refine (iK a2 n2 c2 _ 4 65536 _).mono ?_;rw [hj];rintro e wx ⟨rfl,rfl⟩;go_wp2;go_ret;exact ⟨rfl,hB1⟩
theorem aCp {w:qw}{a:qO}{zs:qi}(h:OB w base (qS a n cap) zs)(hn:n≠0:=by omega):∃ g,a=some (qR g 0):=by
 obtain ⟨hl,⟨h0',_⟩|⟨g,cap',cur,hv,_⟩⟩:=h.1
 .simp at h0';exact absurd h0'.2.1 hn
 .simp at hv;exact ⟨g,hv.1⟩
theorem sU {w:qw}{m:Nat}{zs:qi}(h:OB w base (qS (qP g) n cap) zs)(hm:m<=n:=by omega):Room w g m:=by
 obtain ⟨cur,hb,hn⟩:=nA h;exact ⟨cur,hb,by omega⟩
def aPo (w:qw)(g o:Nat)(cs:Array Value)(t:TypeId)(base:Nat)(v1 v2 v3:Value)(r:List Int×List Int×List Int×Int)(e:Ending)(w':qw):Prop:=
 ∃ a3 m3 d3,e=.returned (qI r.2.2.2)/\Blk w' g (cs.setIfInBounds (o+2) (qS a3 m3 d3)) t/\gL w' base v1 v2 (qS a3 m3 d3) r.1 r.2.1 r.2.2.1/\(qS a3 m3 d3).ownBlock≠some g/\Turn (fun j=>j=g\/v2.ownBlock=some j\/v3.ownBlock=some j) w w'
theorem aJf {cs:Array Value}{i:Nat}{v:Value}(h:cs[i]?=some v):cs.setIfInBounds i v=cs:=by
 apply Array.ext_getElem?;intro j;rw [Array.getElem?_setIfInBounds];split
 .next e=>
  subst e;split
  .exact h.symm
  .next hl=>rw [Array.getElem?_eq_none (by omega)] at h;cases h
 .rfl
theorem aMk {W W':qw}{gg:Nat}{v1 v3:Value}{x1 x2 y2 x3:qi}(h3:gL W base v1 (qS (qP g) n cap) v3 x1 x2 x3)
 (ho:fG g W W') (hy:OB W' base (qS (qP g) n cap) y2):gL W' base v1 (qS (qP g) n cap) v3 x1 y2 x3/\Turn (fun j=>j=gg\/(qS (qP g) n cap).ownBlock=some j\/v3.ownBlock=some j) W W':=by
 refine ⟨⟨?_,hy,?_,h3.2.2.2⟩,?_⟩
 .exact rG ho h3.1 (fun e=>Nat.lt_irrefl _ (h3.2.2.2.1 g g e rfl))
 .exact rG ho h3.2.2.1 (fun e=>Nat.lt_irrefl _ (h3.2.2.2.2.2 g g rfl e))
 .obtain ⟨e1,e2,e3,e4,e5⟩:=ho;refine ⟨by assumption,by assumption,by assumption,by omega,fun k hk hn=>e2 k (fun e=>hn (Or.inr (Or.inl (by rw [e];rfl))))⟩
theorem sO {a b c:qw}(h:fG g a b)(k:fG g b c):fG g a c:=⟨k.1.trans h.1,fun j hj=>(k.2.1 j hj).trans (h.2.1 j hj),k.2.2.1.trans h.2.2.1,k.2.2.2.1.trans h.2.2.2.1,k.2.2.2.2.trans h.2.2.2.2⟩
theorem sN {w w':qw}(h:fG g w w'):Turn (fun j=>j=g) w w':=⟨h.2.2.1,h.2.2.2.1,h.2.2.2.2,by rw [h.1];exact aN,fun k hk hn=>h.2.1 k hn⟩
def bL (zs:qi)(k:Nat)(ws:qi):Nat->List Int
 | 0=>zs
 | i+1=>put (bL zs k ws i) (k+4*i) (ws.getD i 0) 4
theorem eZ (zs:qi)(k:Nat)(ws:qi):∀ i,(bL zs k ws i).length=zs.length
 | 0=>rfl
 | i+1=>by rw [bL,qU,eZ zs k ws i]
theorem mI (g n cap k:Nat)(a:qO)(wn wc:Nat)(ws zs:qi)(base:Nat)(w0 w:qw)(h0:IS w0 a wn wc ws)(hb:qY w0 w)(hg:w0.heap.size<=g)(ho:OB w base (qS (qP g) n cap) zs)(hn:n<=16384)(hk:k+4*wn<=n)(hw:∀ i,i<wn->0<=ws.getD i 0/\ws.getD i 0<=4294967295):
 qC 144 #[qS (qP g) n cap,qI k,qS a wn wc] w fun e w'=>e=.returned (.tuple #[])/\OB w' base (qS (qP g) n cap) (bL zs k ws wn)/\fG g w w':=by
 have HO:=zh ho;have HB:=zh hb;clear ho hb;go_enter func144,ntmps144
 go_wp2;go_loopw [6] (fun i wr=>∃ m:Nat,m<=wn/\i=qI m/\OB wr base (qS (qP g) n cap) (bL zs k ws m)/\fG g w wr) (qf wn)
 .exact ⟨0,xC _,rfl,HO.o,iJ _ _⟩
 .obtain ⟨m,hm,rfl,O,T⟩:=hrel;by_cases hlt:m<wn
  .have hlt':(m:Int)<(wn:Int):=by omega
   obtain ⟨b,off,rfl,hc⟩:=(h0.bw (cX HB.o T hg)).2.2.2.1 (by omega);have q:=hc m hlt;obtain ⟨v0,v1⟩:=hw m hlt;have HP:=zh (yM g n cap (k+4*m) 4 (ws.getD m 0) wr (nA O) hn (by omega) (by omega) (by omega) v0 v1);have HX:=zh (xA (aEg O (k+4*m) (ws.getD m 0) 4 (by omega)) (sO T (sP g (k+4*m) (ws.getD m 0) wr 4)));have HE:Zh (bL zs k ws (m+1)=put (bL zs k ws m) (k+4*m) (ws.getD m 0) 4):=rfl;have hkm:((k+4*m:Nat):Int)=(k:Int)+4*(m:Int):=by omega
   rw [hkm] at HP;clear O T hc;generalize ws.getD m 0=v at *;go_wp2_with fail
   refine HP.o.mono ?_;rintro e w1 ⟨rfl,rfl⟩;go_wp2
   go_roundw
   .exact ⟨m+1,by omega,by go_num,by rw [HE.o];exact HX.o.1,HX.o.2⟩
   .simp [qf,intOf];omega
  .have e:Zh (m=wn):=by show m=wn;omega
   have HX:=zh (xA O T);clear O T;go_wp2
   go_end0
   exact ⟨rfl,by have:=HX.o.1;rw [e.o] at this;exact this,HX.o.2⟩
theorem jB (g n cap k m c:Nat)(a:qO)(wn wc:Nat)(ws zs:qi)(base:Nat)(w0 w:qw)(h0:IS w0 a wn wc ws)(hb:qY w0 w)(hg:w0.heap.size<=g)(ho:OB w base (qS (qP g) n cap) zs)(hn:n<=16384)(hk:k+4*wn<=n)(hm:4*wn<=m)(hc:m<=c)(hc2:c<=16384):
 qC 219 #[qS (some (qR g k)) m c,qS a wn wc] w fun e w'=>e=.returned (.tuple #[])/\OB w' base (qS (qP g) n cap) (bL zs k ws wn)/\fG g w w':=by
 have HO:=zh ho;have HB:=zh hb;clear ho hb;go_enter func219,ntmps219
 go_wp2;go_loopw [8] (fun i wr=>∃ j:Nat,j<=wn/\i=qI j/\OB wr base (qS (qP g) n cap) (bL zs k ws j)/\fG g w wr) (qf wn)
 .exact ⟨0,xC _,rfl,HO.o,iJ _ _⟩
 .obtain ⟨j,hj,rfl,O,T⟩:=hrel;by_cases hlt:j<wn
  .have hlt':(j:Int)<(wn:Int):=by omega
   obtain ⟨b,off,rfl,hcc⟩:=(h0.bw (cX HB.o T hg)).2.2.2.1 (by omega);have q:=hcc j hlt;have wv:-9223372036854775808<=ws.getD j 0/\ws.getD j 0<=9223372036854775807:=h0.2.2.1 _ (by have:=h0.1;simp [xB,show j<ws.length by omega]);have HP:=zh (mA g (m-4*j) (c-4*j) (k+4*j) (ws.getD j 0) wr (sU O) (by omega) wv);have HX:=zh (xA (sV O (k+4*j) (ws.getD j 0)) (sO T (jC g (k+4*j) (ws.getD j 0) wr)));have HE:Zh (bL zs k ws (j+1)=put (bL zs k ws j) (k+4*j) (ws.getD j 0) 4):=rfl;have t0:(0:Int)<=4*(j:Int):=by omega
   have t1:4*(j:Int)<=(m:Int):=by omega
   have t2:4*(j:Int)<(c:Int):=by omega
   have t3:(4*(j:Int)).toNat=4*j:=by omega
   clear O T hcc wv;generalize ws.getD j 0=v at *;go_wp2_with fail
   refine HP.o.mono ?_;rintro e w1 ⟨rfl,rfl⟩;go_wp2
   go_roundw
   .exact ⟨j+1,by omega,by go_num,by rw [HE.o];exact HX.o.1,HX.o.2⟩
   .simp [qf,intOf];omega
  .have e:Zh (j=wn):=by show j=wn;omega
   have HX:=zh (xA O T);clear O T;go_wp2
   go_end0
   exact ⟨rfl,by have:=HX.o.1;rw [e.o] at this;exact this,HX.o.2⟩
