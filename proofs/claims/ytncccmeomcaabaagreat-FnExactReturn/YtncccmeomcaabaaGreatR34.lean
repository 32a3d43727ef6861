import Derived.Test.YtncccmeomcaabaaGreatR25
set_option linter.all false
set_option maxHeartbeats 64000000
namespace Go.Proofs.YtncccmeomcaabaaGreat
open Go.RowKit Classical
open Go.Proofs.Tryz
set_option maxRecDepth 100000
variable {G i k:Nat}{L:Lay}{T cw x1 x2 x3:Int}{a:Act}{d:Option Tmp}{p:String}{ps:List PMod}{v v0 v1 v2 v3 v4 v5:Value}{xs:List SlT}
theorem aPg {m b:Int}(h:0<=pcq ps m b)(hb:b≠-1):0<=b:=by
 unfold pcq at h;by_cases c1:0<=m/\m<(ps.length:Int)
 .rw [if_pos c1,if_neg hb] at h;by_cases c2:0<=b/\b<((ps.getD m.toNat zP).bl.length:Int)
  .exact c2.1
  .rw [if_neg c2] at h;exact absurd h (by decide)
 .rw [if_neg c1] at h;exact absurd h (by decide)
theorem aNg:slk ps T (false,x1,x2,x3) ↔ (false,x1,x2,x3)=zSl:=by unfold slk;simp
theorem aFo:slk ps T (true,x1,x2,x3) ↔ 0<=x2/\0<=pcq ps x1 x2/\1<=x3/\x3<=T:=by unfold slk;simp
theorem aDn (M:Mn)(x0:Bool)(x1 x2 x3:Int)(w:qw)(h:MnD w M):
 qC 194 #[.agg (qA M),.agg #[.bool x0,qI x1,qI x2,qI x3]] w (Yn (slk (aE M.ms) M.tn (x0,x1,x2,x3)) w):=by
 obtain ⟨U,hU,bU,kU⟩:=nwb w (qA M) 43;obtain ⟨V,hV,bV,kV⟩:=nwb U #[.bool x0,qI x1,qI x2,qI x3] 142;have hUs:U.heap.size=w.heap.size+1:=by rw [hU];simp
 have BV:=bU.trans (bV.mono bU.size);have kU':=kU.bw bV;have HIP:=zh (kK M.ma M.mn M.mc M.ms x1 x2 V (h.m.s.bw BV));rw [eM h.m x1 x2] at HIP
 have HC:=zh (fun (X:qw) (hX:qY V X)=>show (X.cell? (qR w.heap.size 0)=some (qS M.ma M.mn M.mc)/\X.cell? (qR w.heap.size 14)=some (qI M.tn))/\X.cell? (qR (w.heap.size+1) 0)=some (.bool x0)/\X.cell? (qR (w.heap.size+1) 1)=some (qI x1)/\X.cell? (qR (w.heap.size+1) 2)=some (qI x2)/\X.cell? (qR (w.heap.size+1) 3)=some (qI x3) from
  ⟨⟨(kU'.bw hX).cell 0,(kU'.bw hX).cell 14⟩,by rw [<- hUs];exact (kV.bw hX).cell 0,by rw [<- hUs];exact (kV.bw hX).cell 1,by rw [<- hUs];exact (kV.bw hX).cell 2,by rw [<- hUs];exact (kV.bw hX).cell 3⟩)
 have HB:=zh BV;have HU:=zh hU;have HV:=zh hV;rw [<- hUs] at HC;have HUS:=zh hUs;clear hU hV bU bV kU kU' kV BV h hUs;obtain ⟨⟨y0,y14⟩,s0,s1,s2,s3⟩:=HC.o V brf;cases x0 with
 | false=>
   rw [aNg];clear HIP HC y0 y14;by_cases e1:x1=0
   .by_cases e2:x2=0
    .by_cases e3:x3=0
     .subst e1 e2 e3;go_enter func194,ntmps194
      go_wp2_with (first|rw [<- HU.o]|rw [<- HV.o])
      go_ret;exact pH rfl (HB.o)
     .have e3':(x3==0)=false:=by simp [e3]
      have HX:Zh (¬ (false,x1,x2,x3)=zSl):=fun q=>e3 (by unfold zSl at q;simp at q;exact q.2.2);subst e1 e2;clear e3;go_enter func194,ntmps194
      go_wp2_with (first|rw [<- HU.o]|rw [<- HV.o])
      go_ret;exact cT HX.o (HB.o)
    .have e2':(x2==0)=false:=by simp [e2]
     have HX:Zh (¬ (false,x1,x2,x3)=zSl):=fun q=>e2 (by unfold zSl at q;simp at q;exact q.2.1);subst e1;clear e2;go_enter func194,ntmps194
     go_wp2_with (first|rw [<- HU.o]|rw [<- HV.o])
     go_ret;exact cT HX.o (HB.o)
   .have e1':(x1==0)=false:=by simp [e1]
    have HX:Zh (¬ (false,x1,x2,x3)=zSl):=fun q=>e1 (by unfold zSl at q;simp at q;exact q.1);clear e1;go_enter func194,ntmps194
    go_wp2_with (first|rw [<- HU.o]|rw [<- HV.o])
    go_ret;exact cT HX.o (HB.o)
 | true=>
   rw [aFo];by_cases c1:x2=-1
   .subst c1;have e1:((-1:Int) !=-1)=false:=by decide
    clear HIP HC;go_enter func194,ntmps194
    go_wp2_with (first|rw [<- HU.o]|rw [<- HV.o])
    go_ret;exact cT (by simp) HB.o
   have c1':(x2 !=-1)=true:=by simp [c1]
   by_cases c2:0<=pcq (aE M.ms) x1 x2
   .have HX2:=zh (aPg c2 c1);have HC2:=zh c2;rw [xR c2] at HIP;clear c2 c1;go_enter func194,ntmps194
    go_wp2_with (first|rw [<- HU.o]|rw [<- HV.o])
    refine HIP.o.mono ?_;rintro e X1 ⟨rfl,hb1⟩;have HB1:=zh (HB.o.trans (hb1.mono HB.o.size));obtain ⟨⟨p0,p14⟩,t0,t1,t2,t3⟩:=HC.o X1 hb1;clear hb1 HIP HC HU HV y0 y14 s0 s1 s2 s3;by_cases c3:x3<1
    .go_wp2;go_ret;exact cT (fun q=>by omega) HB1.o
    go_wp2;go_ret;exact aO9 ⟨fun q=>⟨HX2.o,HC2.o,by omega,q⟩,fun q=>q.2.2.2⟩ HB1.o
   .rw [xS c2] at HIP;have HC2:=zh c2;clear c1 c2;go_enter func194,ntmps194
    go_wp2_with (first|rw [<- HU.o]|rw [<- HV.o])
    refine HIP.o.mono ?_;rintro e X1 ⟨rfl,hb1⟩;have HB1:=zh (HB.o.trans (hb1.mono HB.o.size));clear hb1 HIP HC HU HV y0 y14 s0 s1 s2 s3;go_wp2;go_ret;exact cT (fun q=>by have h1:=HC2.o;have h2:=q.2.1;omega) HB1.o
theorem aLb (hk:k<i)(h:cmn (xs.getD i zSl) (xs.getD k zSl)):¬ aln xs i:=fun q=>q k hk h
theorem aLa (hF:∀ j,j<k->¬ cmn (xs.getD i zSl) (xs.getD j zSl))(h:¬ cmn (xs.getD i zSl) (xs.getD k zSl)):∀ j,j<k+1->¬ cmn (xs.getD i zSl) (xs.getD j zSl):=fun j hj=>by
 by_cases e:j=k
 .rw [e];exact h
 .exact hF j (by omega)
theorem aCt (a:qO)(n c i:Nat)(xs:List SlT)(w:qw)(h:QS bR zSl w a n c xs)(hi:i<n):
 qC 195 #[qS a n c,qI i] w (Yn (aln xs i) w):=by
 have hl:=h.1;have hmx:=h.2.1;have hcp:=h.2.2.2;unfold maxLen at hmx;have hi':(i:Int)<(n:Int):=by omega
 obtain ⟨g,f,rfl,q0,q1,q2,q3⟩:=h.at i hi _ _ _ _ rfl;have HNO0:=zh (fun (k:Nat) (hk:k<i) (q:cmn (xs.getD i zSl) (xs.getD k zSl))=>aLb hk q);have HST0:=zh (fun (k:Nat) (hF:∀ j,j<k->¬ cmn (xs.getD i zSl) (xs.getD j zSl)) (q:¬ cmn (xs.getD i zSl) (xs.getD k zSl))=>aLa hF q);have HYES:Zh ((∀ j,j<i->¬ cmn (xs.getD i zSl) (xs.getD j zSl))->aln xs i):=fun q=>q;generalize xs.getD i zSl=x at *;obtain ⟨x0,x1,x2,x3⟩:=x;dsimp only at q0 q1 q2 q3;obtain ⟨V,hV,bV,kV⟩:=nwb w #[.bool x0,qI x1,qI x2,qI x3] 142;have HH:=zh (h.bw bV);have HV:=zh hV;have HBK:=zh (xA bV kV);have HRE:=zh (Below.refl V.heap.size V);have hic:(i:Int)<=(c:Int):=by omega
 clear hV bV kV h;go_enter func195,ntmps195
 go_wp2_with (rw [<- HV.o])
 clear q0 q1 q2 q3 HV;go_loopw [16] (fun j wr=>∃ k:Nat,k<=i/\j=qI k/\(∀ j,j<k->¬ cmn (x0,x1,x2,x3) (xs.getD j zSl))/\qY V wr) (qf i)
 .exact ⟨0,xC _,rfl,fun j hj=>absurd hj (by omega),HRE.o⟩
 .obtain ⟨k,hk,rfl,hF,hB⟩:=hrel;by_cases hlt:k<i
  .have hlt':(k:Int)<(i:Int):=by omega
   obtain ⟨g',f',hg',q0,q1,q2,q3⟩:=(HH.o.bw hB).at k (by omega) _ _ _ _ rfl;simp at hg';obtain ⟨rfl,rfl⟩:=hg';have HNO:=zh (HNO0.o k hlt);have HST:=zh (HST0.o k hF);generalize xs.getD k zSl=y at *;obtain ⟨o0,o1,o2,o3⟩:=y;dsimp only at q0 q1 q2 q3;obtain ⟨W,hW,bW,kW⟩:=nwb wr #[.bool o0,qI o1,qI o2,qI o3] 142;have BW:=hB.trans (bW.mono hB.size);have HBW:=zh BW;have HW:=zh hW;have k2:=HBK.o.2.bw BW;obtain ⟨t0,t1,t2,t3⟩:=k2.z4;obtain ⟨p0,p1,p2,p3⟩:=kW.z4;clear hW bW kW BW k2 hB hF HNO0 HST0 HYES HH HRE;cases x0 with
   | false=>
     have HN:=zh (HST.o (fun q=>by have:=q.1;cases this));clear HNO HST;go_wp2_with (rw [<- HW.o])
     go_roundw
     .exact ⟨k+1,by omega,by go_num,HN.o,HBW.o⟩
     .simp [qf,intOf];omega
   | true=>
     cases o0 with
     | false=>
       have HN:=zh (HST.o (fun q=>by have:=q.2.1;cases this));clear HNO HST;go_wp2_with (rw [<- HW.o])
       go_roundw
       .exact ⟨k+1,by omega,by go_num,HN.o,HBW.o⟩
       .simp [qf,intOf];omega
     | true=>
       by_cases c3:o3=x3
       .subst c3;have HN:=zh (HNO.o ⟨rfl,rfl,.inl rfl⟩);clear HNO HST;go_wp2_with (rw [<- HW.o])
        go_ret;exact cT HN.o (HBK.o.1.trans (HBW.o.mono HBK.o.1.size))
       .have c3':(o3==x3)=false:=by simp [c3]
        by_cases c1:o1=x1
        .by_cases c2:o2=x2
         .have HN:=zh (HNO.o ⟨rfl,rfl,.inr ⟨c1,c2⟩⟩);subst c1 c2;clear HNO HST c3;go_wp2_with (rw [<- HW.o])
          go_ret;exact cT HN.o (HBK.o.1.trans (HBW.o.mono HBK.o.1.size))
         .have c2':(o2==x2)=false:=by simp [c2]
          have HN:=zh (HST.o (fun q=>by rcases q.2.2 with e|e;exact c3 e;exact c2 e.2));subst c1;clear HNO HST c3 c2;go_wp2_with (rw [<- HW.o])
          go_roundw
          .exact ⟨k+1,by omega,by go_num,HN.o,HBW.o⟩
          .simp [qf,intOf];omega
        .have c1':(o1==x1)=false:=by simp [c1]
         have HN:=zh (HST.o (fun q=>by rcases q.2.2 with e|e;exact c3 e;exact c1 e.1));clear HNO HST c3 c1;go_wp2_with (rw [<- HW.o])
         go_roundw
         .exact ⟨k+1,by omega,by go_num,HN.o,HBW.o⟩
         .simp [qf,intOf];omega
  .have HY:=zh (HYES.o (fun j hj=>hF j (by omega)));have HB:=zh hB;clear hB hF;go_wp2;go_ret;exact pH HY.o (HBK.o.1.trans (HB.o.mono HBK.o.1.size))
theorem sZ {W:qw}{ty:TypeId}{af:Array _}{gd:Option _}{v6 v7 v8 v9 v10 v11 v12 v13 v14:Value}(kb:Blk W G #[v0,v1,v2,v3,v4,v5,v6,v7,v8,v9,v10,v11,v12,v13,v14] 43)(h:a.tmps[k]?.getD undef=.pointer (qP G)):(execOp a.eval { dst:=d,op:=Op.load 43 (Operand.tmp k),type:=ty,pos:=p,after:=af,guard:=gd }).run prog W=.ok (.value (.agg #[v0,v1,v2,v3,v4,v5,v6,v7,v8,v9,v10,v11,v12,v13,v14])) W:=by
 obtain ⟨q0,q1,q2,q3,q4,q5,q6,q7,q8,q9,q10,q11,q12,q13,q14⟩:=kb.mc;go_simp
theorem aJ9 {W:qw}{ty:TypeId}{af:Array _}{gd:Option _}(kb:Blk W G #[v0,v1,v2,v3,v4,v5] 71)(h:a.tmps[k]?.getD undef=.pointer (qP G)):(execOp a.eval { dst:=d,op:=Op.load 71 (Operand.tmp k),type:=ty,pos:=p,after:=af,guard:=gd }).run prog W=.ok (.value (.agg #[v0,v1,v2,v3,v4,v5])) W:=by
 obtain ⟨q0,q1,q2,q3,q4,q5⟩:=kb.ly6;go_simp
theorem aNt {W:qw}{ty:TypeId}{af:Array _}{gd:Option _}(kb:Blk W G #[v0,v1,v2,v3] 142)(h:a.tmps[k]?.getD undef=.pointer (qP G)):(execOp a.eval { dst:=d,op:=Op.load 142 (Operand.tmp k),type:=ty,pos:=p,after:=af,guard:=gd }).run prog W=.ok (.value (.agg #[v0,v1,v2,v3])) W:=by
 have q0:=kb.cell 0;have q1:=kb.cell 1;have q2:=kb.cell 2;have q3:=kb.cell 3;simp at q0 q1 q2 q3;go_simp
theorem aNs {W:qw}{ty:TypeId}{af:Array _}{gd:Option _}(q:W.cell? ⟨G,i,none⟩=some v)(h:a.tmps[k]?.getD undef=.pointer (some ⟨G,i,none⟩)):(execOp a.eval { dst:=d,op:=Op.load 40 (Operand.tmp k),type:=ty,pos:=p,after:=af,guard:=gd }).run prog W=.ok (.value v) W:=by
 go_simp
theorem aPp {W:qw}{ty:TypeId}{af:Array _}{gd:Option _}(q:W.cell? ⟨G,i,none⟩=some v)(h:a.tmps[k]?.getD undef=.pointer (some ⟨G,i,none⟩)):(execOp a.eval { dst:=d,op:=Op.load 4 (Operand.tmp k),type:=ty,pos:=p,after:=af,guard:=gd }).run prog W=.ok (.value v) W:=by
 go_simp
theorem aJ8 {s c k d:Int}(h:lkc ps s c k d=0):((lkL ps s c k d).slots.length:Int)=s/\(1<=c/\c<=64):=by
 have e:lkL ps s c k d=lay ps s c k:=by unfold lkL;rw [if_pos h]
 have h1:=(fU.1 h).1;unfold cfo at h1;simp at h1;have hl:(lay ps s c k).slots.length=s.toNat:=by simp [lay]
 rw [e,hl];exact ⟨by omega,h1.2.2.1,h1.2.2.2.1⟩
theorem mK {P:Prop}{w w':qw}{e:Ending}(h:Yn P w e w')(b:Bool)(hb:b=true ↔ P):e=.returned (.bool b)/\qY w w':=by
 obtain ⟨r,he,hr,hB⟩:=h;have:r=b:=by rw [xJ,hr,hb]
 exact ⟨by rw [he,this],hB⟩
theorem aIu {cs:Int}{rz:qi}(hk:k<xs.length)(h:¬ mP ps L cw T rz xs k):¬ cU ps L cs cw T rz xs:=fun f=>h (f.2 k hk)
theorem aIt {rz:qi}(hF:∀ i,i<k->mP ps L cw T rz xs i)(h:mP ps L cw T rz xs k):∀ i,i<k+1->mP ps L cw T rz xs i:=fun i hi=>by
 by_cases e:i=k
 .rw [e];exact h
 .exact hF i (by omega)
theorem aBt (M:Mn)(L:Lay)(a0:qO)(c0:Nat)(xs:List PB)(a2:qO)(c2:Nat)(a5:qO)(c5:Nat)(ts:List TB)(w:qw)(h:MnD w M)(hL:LyT w L a0 c0 xs a2 c2 a5 c5 ts)(eL:L=M.L)(hk:lkc (aE M.ms) M.cs M.cw M.ck M.cd=0)(hr:(M.rn:Int)=L.ram):
 qC 158 #[.agg (qA M),.agg (qJ L a0 xs c0 a2 c2 a5 ts c5)] w (Yn (cU (aE M.ms) L M.cs M.cw M.tn M.rz M.lz) w):=by
 obtain ⟨hsl,w0,w1⟩:=aJ8 hk;have eL':L=lkL (aE M.ms) M.cs M.cw M.ck M.cd:=eL;rw [<- eL'] at hsl;have hl:=h.l.1;have hmx:=h.l.2.1;unfold maxLen at hmx;obtain ⟨U,hU,bU,kU⟩:=nwb w (qA M) 43;obtain ⟨V,hV,bV,kV⟩:=nwb U (qJ L a0 xs c0 a2 c2 a5 ts c5) 71;have BV:=bU.trans (bV.mono bU.size);have kU':=kU.bw bV;have HDV:=zh (h.bw BV);have HSV:=zh (hL.s.bw BV);have HU:=zh hU;have HV:=zh hV;have HB:=zh BV;have HC:=zh (fun (X:qw) (hX:qY V X)=>xA (kU'.bw hX) (kV.bw hX));have y1:=kU'.e1;have y12:=kU'.e12;have HRE:=zh (Below.refl V.heap.size V);have HEQ:=zh (xA eL' (xA hsl (xA hr hk)));clear hU hV bU bV kU kU' kV BV h hL eL eL' hsl hr hk;by_cases c0':¬ (M.ln:Int)=M.cs
 .have HN:Zh (¬ cU (aE M.ms) L M.cs M.cw M.tn M.rz M.lz):=fun f=>c0' (by have:=f.1;omega);have c0'':((M.ln:Int) !=M.cs)=true:=by simp [c0']
  clear c0';go_enter func158,ntmps158
  go_wp2_with (first|rw [<- HU.o]|rw [<- HV.o])
  go_ret;exact cT HN.o HB.o
 replace c0':(M.ln:Int)=M.cs:=xZ.1 c0';have c0'':((M.ln:Int) !=M.cs)=false:=by simp [c0']
 have HCS:=zh c0';clear c0';by_cases cn:M.ln=0
 .have HY:Zh (cU (aE M.ms) L M.cs M.cw M.tn M.rz M.lz):=⟨by have:=HCS.o;omega,fun i hi=>absurd hi (by omega)⟩;have HCN:=zh cn;clear cn;go_enter func158,ntmps158
  go_wp2_with (first|rw [<- HU.o]|rw [<- HV.o])
  go_loopw [17] (fun i wr=>∃ k:Nat,i=qI k/\qY V wr) (fun i _=>0)
  .exact ⟨0,rfl,HRE.o⟩
  .obtain ⟨k,rfl,hB⟩:=hrel;have hlt:¬ ((k:Int)<(M.ln:Int)):=by have:=HCN.o;omega
   have HB2:=zh hB;clear hB;go_wp2;go_ret;exact pH HY.o (HB.o.trans (HB2.o.mono HB.o.size))
 obtain ⟨g,f,hg⟩:∃ g f,M.la=some ⟨g,f,none⟩:=by
  obtain ⟨g,f,hg,_⟩:=HDV.o.l.2.2.1 cn;exact ⟨g,f,hg⟩
 obtain ⟨eL',hsl,hr,hk⟩:=HEQ.o;have HQ:=zh (fun (wr:qw) (hB:qY V wr) (k:Nat) (hk:k<M.ln)=>(HDV.o.l.bw hB).at k hk _ _ _ _ rfl);have HSO:=zh (fun (x0:Bool) (x1 x2 x3:Int) (b:Bool) (hb:b=true ↔ slk (aE M.ms) M.tn (x0,x1,x2,x3)) (X:qw) (hX:qY V X)=>(aDn M x0 x1 x2 x3 X (HDV.o.bw hX)).mono (fun e w' he=>show e=.returned (.bool b)/\qY X w' from mK he b hb));have HAL:=zh (fun (k:Nat) (hk:k<M.ln) (b:Bool) (hb:b=true ↔ aln M.lz k) (X:qw) (hX:qY V X)=>(aCt M.la M.ln M.lc k M.lz X (HDV.o.l.bw hX) hk).mono (fun e w' he=>show e=.returned (.bool b)/\qY X w' from mK he b hb));have HSB:=zh (fun (k:Nat) (hi:k<L.slots.length) (X:qw) (hX:qY V X)=>(uW M L a0 c0 xs a2 c2 a5 c5 ts k X (HDV.o.bw hX) (HSV.o.bw hX) hi w0 w1 (by have:=(rK hk (by rw [<- eL'];exact hi)).1;rw [eL'];exact this) (by have:=(rK hk (by rw [<- eL'];exact hi)).2.1;rw [<- eL'] at this;omega) (by have:=(rK hk (by rw [<- eL'];exact hi)).2.2.1;rw [<- eL'] at this;omega)).mono (fun e w' he=>show ∃ a c,e=.returned (qS a (slz M.cw) c)/\BS w' a (slz M.cw) c (slb M.rz L M.cw k)/\qY X w' from he))
 have HBB:=zh (fun (x0:Bool) (x1 x2 x3:Int) (hp:0<=pcq (aE M.ms) x1 x2) (hb:0<=x2) (X:qw) (hX:qY V X)=>(vZ M x0 x1 x2 x3 X (HDV.o.bw hX) hk (by have:=HCS.o;omega) hp hb).mono (fun e w' he=>show ∃ g,e=.returned (qS (qP g) (slz M.cw) (slz M.cw))/\BS w' (qP g) (slz M.cw) (slz M.cw) (bkb (aE M.ms) M.cw x1 x2)/\qY X w' from by
  obtain ⟨g,h1,h2,h3⟩:=he
  exact ⟨g,h1,h2.bs,h3⟩))
 try unfold qA at *
 try unfold qL at *
 rw [hg] at HC HSO HAL HSB HBB y12 HU HQ ⊢;have HSN:=zh (show L.slots.length=M.ln by have:=HCS.o;omega);clear cn hg HDV HSV hk eL' hsl hr HEQ;go_enter func158,ntmps158
 go_wp2_with (first|rw [<- HU.o]|rw [<- HV.o])
 clear y1 y12 HU HV;go_loopw [17] (fun i wr=>∃ k:Nat,k<=M.ln/\i=qI k/\(∀ i,i<k->mP (aE M.ms) L M.cw M.tn M.rz M.lz i)/\qY V wr) (qf M.ln)
 .exact ⟨0,xC _,rfl,fun i hi=>absurd hi (by omega),HRE.o⟩
 .obtain ⟨k,hk,rfl,hF,hB⟩:=hrel;by_cases hlt:k<M.ln
  .have hlt':(k:Int)<(M.ln:Int):=by omega
   obtain ⟨g',f',hg',q0,q1,q2,q3⟩:=HQ.o wr hB k hlt;simp at hg';obtain ⟨rfl,rfl⟩:=hg';have HNO:=zh (fun (q:¬ mP (aE M.ms) L M.cw M.tn M.rz M.lz k)=>aIu (cs:=M.cs) (show k<M.lz.length by omega) q);have HST:=zh (fun (q:mP (aE M.ms) L M.cw M.tn M.rz M.lz k)=>aIt hF q);have HOK:Zh (mP (aE M.ms) L M.cw M.tn M.rz M.lz k ↔ slk (aE M.ms) M.tn (M.lz.getD k zSl)/\aln M.lz k/\((M.lz.getD k zSl).1=true->slb M.rz L M.cw k=bkb (aE M.ms) M.cw (M.lz.getD k zSl).2.1 (M.lz.getD k zSl).2.2.1)):=Iff.rfl;generalize M.lz.getD k zSl=x at *;obtain ⟨x0,x1,x2,x3⟩:=x;dsimp only at q0 q1 q2 q3 HOK;obtain ⟨W,hW,bW,kW⟩:=nwb wr #[.bool x0,qI x1,qI x2,qI x3] 142;have BW:=hB.trans (bW.mono hB.size);have HBW:=zh BW;have HW:=zh hW;have HS:=zh (fun (X:qw) (hX:qY W X)=>show Blk X w.heap.size (qX M M.ma M.mn M.mc M.ka M.kn M.kc M.fa M.fn M.fc M.ra M.rn M.rc M.oa M.on M.oc (some (qR g f)) M.ln M.lc M.ha M.hn M.hc) 43/\Blk X U.heap.size (qJ L a0 xs c0 a2 c2 a5 ts c5) 71/\Blk X wr.heap.size #[.bool x0,qI x1,qI x2,qI x3] 142 from ⟨(HC.o X (BW.trans (hX.mono BW.size))).1,(HC.o X (BW.trans (hX.mono BW.size))).2,kW.bw hX⟩);have HVW:=zh (fun (X:qw) (hX:qY W X)=>BW.trans (hX.mono BW.size));have HD:=zh ((Below.refl W.heap.size W).drew);clear hW bW kW BW hB hF HQ HC HRE
   obtain ⟨b1,hb1⟩:∃ b:Bool,b=true ↔ slk (aE M.ms) M.tn (x0,x1,x2,x3):=by
    by_cases c:slk (aE M.ms) M.tn (x0,x1,x2,x3)
    .exact ⟨true,by simp [c]⟩
    .exact ⟨false,by simp [c]⟩
   obtain ⟨b2,hb2⟩:∃ b:Bool,b=true ↔ aln M.lz k:=by
    by_cases c:aln M.lz k
    .exact ⟨true,by simp [c]⟩
    .exact ⟨false,by simp [c]⟩
   obtain ⟨b3,hb3⟩:∃ b:Bool,b=decide (slb M.rz L M.cw k=bkb (aE M.ms) M.cw x1 x2):=⟨_,rfl⟩;have HDE:=zh hb3.symm;have HSO1:=zh (HSO.o x0 x1 x2 x3 b1 hb1);have HAL1:=zh (HAL.o k hlt b2 hb2);have HSB1:=zh (HSB.o k (by rw [HSN.o];exact hlt));have HNA:=zh (fun (e:b1=false)=>HNO.o (fun q=>by have:=hb1.2 (HOK.o.1 q).1;rw [e] at this;cases this));have HNB:=zh (fun (e:b2=false)=>HNO.o (fun q=>by have:=hb2.2 (HOK.o.1 q).2.1;rw [e] at this;cases this));have HNC:=zh (fun (e1:b1=true) (e2:b2=true) (e3:x0=false)=>HST.o (HOK.o.2 ⟨hb1.1 e1,hb2.1 e2,fun q=>by rw [e3] at q;cases q⟩));have HND:=zh (fun (e0:x0=true) (e:b3=false)=>HNO.o (fun q=>by have:=(HOK.o.1 q).2.2 e0;rw [e] at hb3;exact absurd this (of_decide_eq_false hb3.symm)));have HNE:=zh (fun (e1:b1=true) (e2:b2=true) (e3:b3=true)=>HST.o (HOK.o.2 ⟨hb1.1 e1,hb2.1 e2,fun _=>by rw [e3] at hb3;exact of_decide_eq_true hb3.symm⟩))
   have HPP:=zh (fun (e1:b1=true) (e0:x0=true)=>show 0<=pcq (aE M.ms) x1 x2/\0<=x2 from by
    have h1:=hb1.1 e1;rw [e0] at h1;obtain ⟨p2,pq,_⟩:=aFo.1 h1
    exact ⟨pq,p2⟩)
   clear hb1 hb2 hb3 HNO HST HOK HSO HAL HSB;go_wp2_with (rw [<- HW.o])
   refine wp_region_held_drew (S:=(fun X=>Blk X w.heap.size (qX M M.ma M.mn M.mc M.ka M.kn M.kc M.fa M.fn M.fc M.ra M.rn M.rc M.oa M.on M.oc (some (qR g f)) M.ln M.lc M.ha M.hn M.hc) 43/\Blk X U.heap.size (qJ L a0 xs c0 a2 c2 a5 ts c5) 71/\Blk X wr.heap.size #[.bool x0,qI x1,qI x2,qI x3] 142)) (by kernel_rfl) ?_ (fun hHeld=>?_)
   .exact HS.o _ HD.o
   refine tkV 0 _ rfl (fun w hSw=>sZ hSw.1 rfl) ?_;try simp only [yD,yE,yF,Act.put,yA,yB,yC]
   refine tkV 1 _ rfl (fun w hSw=>aNt hSw.2.2 rfl) ?_;try simp only [yD,yE,yF,Act.put,yA,yB,yC]
   refine wpAnyH_ready (rs:=[2]) (by kernel_rfl) (by simp) (AllReadyH.cons rfl (fun K hK=>?_) AllReadyH.nil);go_simp;refine (HSO1.o _ (HVW.o _ HD.o)).mono ?_;rintro e w1 ⟨rfl,hb⟩;have HB1:=zh (HD.o.trans (hb.mono HD.o.size));clear hb;try go_wp2_with fail
   refine hK.out _ _ ?_ (fun hHeld=>?_)
   .exact HS.o _ HB1.o
   clear hK K;try simp only [yD,yE,yF,Act.put,yA,yB,yC]
   cases b1
   focus
    have HN:=zh (HNA.o (by simp));refine tkV 3 ?_ rfl ?_ ?_;rotate_left
    ·(intro w hSw;(try dsimp only at hSw);go_simp;try with_reducible rfl)
    try simp only [yD,yE,yF,Act.put,yA,yB,yC]
    refine tkV 4 ?_ rfl ?_ ?_;rotate_left
    ·(intro w hSw;(try dsimp only at hSw);go_simp;try with_reducible rfl)
    try simp only [yD,yE,yF,Act.put,yA,yB,yC]
    refine tkS 5 rfl ?_;try simp only [yD,yE,yF,Act.put,yA,yB,yC]
    refine tkS 6 rfl ?_;try simp only [yD,yE,yF,Act.put,yA,yB,yC]
    refine tkS 7 rfl ?_;try simp only [yD,yE,yF,Act.put,yA,yB,yC]
    refine tkS 8 rfl ?_;try simp only [yD,yE,yF,Act.put,yA,yB,yC]
    refine tkS 9 rfl ?_;try simp only [yD,yE,yF,Act.put,yA,yB,yC]
    refine tkV 10 ?_ rfl ?_ ?_;rotate_left
    ·(intro w hSw;(try dsimp only at hSw);go_simp;try with_reducible rfl)
    try simp only [yD,yE,yF,Act.put,yA,yB,yC]
    refine tkV 11 ?_ rfl ?_ ?_;rotate_left
    ·(intro w hSw;(try dsimp only at hSw);go_simp;try with_reducible rfl)
    try simp only [yD,yE,yF,Act.put,yA,yB,yC]
    have HBx:=zh HB1.o
   rotate_left;refine tkV 3 ?_ rfl ?_ ?_;rotate_left
   ·(intro w hSw;(try dsimp only at hSw);go_simp;try with_reducible rfl)
   try simp only [yD,yE,yF,Act.put,yA,yB,yC]
   refine tkV 4 ?_ rfl ?_ ?_;rotate_left
   ·(intro w hSw;(try dsimp only at hSw);go_simp;try with_reducible rfl)
   try simp only [yD,yE,yF,Act.put,yA,yB,yC]
   refine tkV 5 ?_ rfl ?_ ?_;rotate_left
   ·(intro w hSw;(try dsimp only at hSw);go_simp;try with_reducible rfl)
   try simp only [yD,yE,yF,Act.put,yA,yB,yC]
   refine tkV 6 _ rfl (fun w hSw=>aNs (hSw.1.cell 12) rfl) ?_;try simp only [yD,yE,yF,Act.put,yA,yB,yC]
   refine tkV 7 ?_ rfl ?_ ?_;rotate_left
   ·(intro w hSw;(try dsimp only at hSw);go_simp;try with_reducible rfl)
   try simp only [yD,yE,yF,Act.put,yA,yB,yC]
   refine wpAnyH_ready (rs:=[8]) (by kernel_rfl) (by simp) (AllReadyH.cons rfl (fun K hK=>?_) AllReadyH.nil);go_simp;refine (HAL1.o _ (HVW.o _ HB1.o)).mono ?_;rintro e w2 ⟨rfl,hb⟩;have HB2:=zh (HB1.o.trans (hb.mono HB1.o.size));clear hb;try go_wp2_with fail
   refine hK.out _ _ ?_ (fun hHeld=>?_)
   .exact HS.o _ HB2.o
   clear hK K;try simp only [yD,yE,yF,Act.put,yA,yB,yC]
   cases b2
   focus
    have HN:=zh (HNB.o (by simp));refine tkV 9 ?_ rfl ?_ ?_;rotate_left
    ·(intro w hSw;(try dsimp only at hSw);go_simp;try with_reducible rfl)
    try simp only [yD,yE,yF,Act.put,yA,yB,yC]
    refine tkV 10 ?_ rfl ?_ ?_;rotate_left
    ·(intro w hSw;(try dsimp only at hSw);go_simp;try with_reducible rfl)
    try simp only [yD,yE,yF,Act.put,yA,yB,yC]
    refine tkV 11 ?_ rfl ?_ ?_;rotate_left
    ·(intro w hSw;(try dsimp only at hSw);go_simp;try with_reducible rfl)
    try simp only [yD,yE,yF,Act.put,yA,yB,yC]
    have HBx:=zh HB2.o
   rotate_left;refine tkV 9 ?_ rfl ?_ ?_;rotate_left
   ·(intro w hSw;(try dsimp only at hSw);go_simp;try with_reducible rfl)
   try simp only [yD,yE,yF,Act.put,yA,yB,yC]
   refine tkV 10 ?_ rfl ?_ ?_;rotate_left
   ·(intro w hSw;(try dsimp only at hSw);go_simp;try with_reducible rfl)
   try simp only [yD,yE,yF,Act.put,yA,yB,yC]
   refine tkV 11 ?_ rfl ?_ ?_;rotate_left
   ·(intro w hSw;(try dsimp only at hSw);go_simp;try with_reducible rfl)
   try simp only [yD,yE,yF,Act.put,yA,yB,yC]
   refine tkV 12 ?_ rfl ?_ ?_;rotate_left
   ·(intro w hSw;(try dsimp only at hSw);go_simp;try with_reducible rfl)
   try simp only [yD,yE,yF,Act.put,yA,yB,yC]
   refine tkV 13 _ rfl (fun w hSw=>aPp (hSw.2.2.cell 0) rfl) ?_;try simp only [yD,yE,yF,Act.put,yA,yB,yC]
   refine tkV 14 ?_ rfl ?_ ?_;rotate_left
   ·(intro w hSw;(try dsimp only at hSw);go_simp;try with_reducible rfl)
   try simp only [yD,yE,yF,Act.put,yA,yB,yC]
   cases x0
   focus
    have HN:=zh (HNC.o (by simp) (by simp) (by simp));refine tkS 15 rfl ?_;try simp only [yD,yE,yF,Act.put,yA,yB,yC]
    refine tkS 16 rfl ?_;try simp only [yD,yE,yF,Act.put,yA,yB,yC]
    refine tkS 17 rfl ?_;try simp only [yD,yE,yF,Act.put,yA,yB,yC]
    refine tkS 18 rfl ?_;try simp only [yD,yE,yF,Act.put,yA,yB,yC]
    refine tkS 19 rfl ?_;try simp only [yD,yE,yF,Act.put,yA,yB,yC]
    refine tkS 20 rfl ?_;try simp only [yD,yE,yF,Act.put,yA,yB,yC]
    refine tkS 21 rfl ?_;try simp only [yD,yE,yF,Act.put,yA,yB,yC]
    refine tkS 22 rfl ?_;try simp only [yD,yE,yF,Act.put,yA,yB,yC]
    refine tkS 23 rfl ?_;try simp only [yD,yE,yF,Act.put,yA,yB,yC]
    refine tkV 24 ?_ rfl ?_ ?_;rotate_left
    ·(intro w hSw;(try dsimp only at hSw);go_simp;try with_reducible rfl)
    try simp only [yD,yE,yF,Act.put,yA,yB,yC]
    refine tkV 25 ?_ rfl ?_ ?_;rotate_left
    ·(intro w hSw;(try dsimp only at hSw);go_simp;try with_reducible rfl)
    try simp only [yD,yE,yF,Act.put,yA,yB,yC]
    refine wpAnyH_done (by kernel_rfl) ?_ _;have HE:=zh (HVW.o _ HB2.o);clear HS HVW HD hHeld;go_wp2
    go_roundw
    .exact ⟨k+1,by omega,by go_num,HN.o,HE.o⟩
    .simp [qf,intOf];omega
   obtain ⟨pq,p2⟩:=HPP.o (by simp) (by simp);have HBB1:=zh (HBB.o true x1 x2 x3 pq p2);clear pq p2;refine tkV 15 _ rfl (fun w hSw=>sZ hSw.1 rfl) ?_;try simp only [yD,yE,yF,Act.put,yA,yB,yC]
   refine tkV 16 _ rfl (fun w hSw=>aJ9 hSw.2.1 rfl) ?_;try simp only [yD,yE,yF,Act.put,yA,yB,yC]
   refine tkV 17 ?_ rfl ?_ ?_;rotate_left
   ·(intro w hSw;(try dsimp only at hSw);go_simp;try with_reducible rfl)
   try simp only [yD,yE,yF,Act.put,yA,yB,yC]
   refine tkV 19 _ rfl (fun w hSw=>sZ hSw.1 rfl) ?_;try simp only [yD,yE,yF,Act.put,yA,yB,yC]
   refine tkV 20 _ rfl (fun w hSw=>aNt hSw.2.2 rfl) ?_;try simp only [yD,yE,yF,Act.put,yA,yB,yC]
   refine wpAnyH_ready (rs:=[18]) (by kernel_rfl) (by simp) (AllReadyH.cons rfl (fun K hK=>?_) AllReadyH.nil);go_simp;refine (HSB1.o _ (HVW.o _ HB2.o)).mono ?_;rintro e w3 ⟨sa,sc,rfl,hs,hb⟩;have HB3:=zh (HB2.o.trans (hb.mono HB2.o.size));have HS3:=zh hs;clear hs;clear hb;try go_wp2_with fail
   refine hK.out _ _ ?_ (fun hHeld=>?_)
   .exact HS.o _ HB3.o
   clear hK K;try simp only [yD,yE,yF,Act.put,yA,yB,yC]
   refine wpAnyH_ready (rs:=[21]) (by kernel_rfl) (by simp) (AllReadyH.cons rfl (fun K hK=>?_) AllReadyH.nil);go_simp;refine (HBB1.o _ (HVW.o _ HB3.o)).mono ?_;rintro e w4 ⟨bg,rfl,hs,hb⟩;have HB4:=zh (HB3.o.trans (hb.mono HB3.o.size));have HBE:=zh (kP sa (qP bg) (slz M.cw) sc (slz M.cw) (slz M.cw) _ _ w4 (HS3.o.bw hb) hs);rw [HDE.o] at HBE;clear hs hb HS3;try go_wp2_with fail
   refine hK.out _ _ ?_ (fun hHeld=>?_)
   .exact HS.o _ HB4.o
   clear hK K;try simp only [yD,yE,yF,Act.put,yA,yB,yC]
   refine wpAnyH_ready (rs:=[22]) (by kernel_rfl) (by simp) (AllReadyH.cons rfl (fun K hK=>?_) AllReadyH.nil);go_simp;refine HBE.o.mono ?_;rintro e w5 ⟨rfl,rfl⟩;try go_wp2_with fail
   refine hK.out _ _ ?_ (fun hHeld=>?_)
   .exact HS.o _ HB4.o
   clear hK K;try simp only [yD,yE,yF,Act.put,yA,yB,yC]
   focus
    cases b3
    focus
     have HN:=zh (HND.o (by simp) (by simp))
    rotate_left
    focus
     have HN:=zh (HNE.o (by simp) (by simp) (by simp))
    all_goals
     refine tkV 23 ?_ rfl ?_ ?_;rotate_left
     ·(intro w hSw;(try dsimp only at hSw);go_simp;try with_reducible rfl)
     try simp only [yD,yE,yF,Act.put,yA,yB,yC]
     refine tkV 24 ?_ rfl ?_ ?_;rotate_left
     ·(intro w hSw;(try dsimp only at hSw);go_simp;try with_reducible rfl)
     try simp only [yD,yE,yF,Act.put,yA,yB,yC]
     refine tkV 25 ?_ rfl ?_ ?_;rotate_left
     ·(intro w hSw;(try dsimp only at hSw);go_simp;try with_reducible rfl)
     try simp only [yD,yE,yF,Act.put,yA,yB,yC]
     refine wpAnyH_done (by kernel_rfl) ?_ _;have HE:=zh (HVW.o _ HB4.o);clear HS HVW HD hHeld;go_wp2
    focus
     go_roundw
     .exact ⟨k+1,by omega,by go_num,HN.o,HE.o⟩
     .simp [qf,intOf];omega
    go_ret;exact cT HN.o (HB.o.trans (HE.o.mono HB.o.size))
   all_goals
    refine tkS 12 rfl ?_;try simp only [yD,yE,yF,Act.put,yA,yB,yC]
    refine tkS 13 rfl ?_;try simp only [yD,yE,yF,Act.put,yA,yB,yC]
    refine tkS 14 rfl ?_;try simp only [yD,yE,yF,Act.put,yA,yB,yC]
    refine tkS 15 rfl ?_;try simp only [yD,yE,yF,Act.put,yA,yB,yC]
    refine tkS 16 rfl ?_;try simp only [yD,yE,yF,Act.put,yA,yB,yC]
    refine tkS 17 rfl ?_;try simp only [yD,yE,yF,Act.put,yA,yB,yC]
    refine tkS 18 rfl ?_;try simp only [yD,yE,yF,Act.put,yA,yB,yC]
    refine tkS 19 rfl ?_;try simp only [yD,yE,yF,Act.put,yA,yB,yC]
    refine tkS 20 rfl ?_;try simp only [yD,yE,yF,Act.put,yA,yB,yC]
    refine tkS 21 rfl ?_;try simp only [yD,yE,yF,Act.put,yA,yB,yC]
    refine tkS 22 rfl ?_;try simp only [yD,yE,yF,Act.put,yA,yB,yC]
    refine tkS 23 rfl ?_;try simp only [yD,yE,yF,Act.put,yA,yB,yC]
    refine tkS 24 rfl ?_;try simp only [yD,yE,yF,Act.put,yA,yB,yC]
    refine tkV 25 ?_ rfl ?_ ?_;rotate_left
    ·(intro w hSw;(try dsimp only at hSw);go_simp;try with_reducible rfl)
    try simp only [yD,yE,yF,Act.put,yA,yB,yC]
    refine wpAnyH_done (by kernel_rfl) ?_ _;have HE:=zh (HVW.o _ HBx.o);clear HS HVW HD hHeld;go_wp2;go_ret;exact cT HN.o (HB.o.trans (HE.o.mono HB.o.size))
  .have HY:Zh (cU (aE M.ms) L M.cs M.cw M.tn M.rz M.lz):=⟨by have:=HCS.o;omega,fun i hi=>hF i (by omega)⟩;have HB2:=zh hB;clear hB hF;go_wp2;go_ret;exact pH HY.o (HB.o.trans (HB2.o.mono HB.o.size))
