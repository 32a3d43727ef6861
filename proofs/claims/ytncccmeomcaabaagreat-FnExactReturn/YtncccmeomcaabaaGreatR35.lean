import Derived.Deep.Slices
import Derived.Test.YtncccmeomcaabaaGreatR27
import Derived.Test.YtncccmeomcaabaaGreatR34
set_option linter.all false
set_option maxHeartbeats 64000000
namespace Go.Proofs.YtncccmeomcaabaaGreat
open Go.RowKit Classical
set_option maxRecDepth 100000
variable {i:Nat}
theorem aPx {xs:List SlT}(h:(xs.getD i zSl).1=false):aln xs i:=fun k _ q=>by have:=q.1;rw [h] at this;cases this
theorem aAn (M:Mn)(i:Nat)(w:qw)(h:MnD w M)(hi:i<M.ln):
 qC 147 #[.agg #[qS M.ma M.mn M.mc,qI M.cs,qI M.cw,qI M.ck,qI M.cd,qI M.pc,qS M.ka M.kn M.kc,qS M.fa M.fn M.fc,qS M.ra M.rn M.rc,qS M.oa M.on M.oc,qI M.md,qI M.bk,qS M.la M.ln M.lc,qS M.ha M.hn M.hc,qI M.tn],qI i] w (Yn (slk (aE M.ms) M.tn (M.lz.getD i zSl)/\aln M.lz i) w):=by
 have hl:=h.l.1;have hmx:=h.l.2.1;unfold maxLen at hmx;have hi':(i:Int)<(M.ln:Int):=by omega
 obtain ⟨U,hU,bU,kU⟩:=nwb w #[qS M.ma M.mn M.mc,qI M.cs,qI M.cw,qI M.ck,qI M.cd,qI M.pc,qS M.ka M.kn M.kc,qS M.fa M.fn M.fc,qS M.ra M.rn M.rc,qS M.oa M.on M.oc,qI M.md,qI M.bk,qS M.la M.ln M.lc,qS M.ha M.hn M.hc,qI M.tn] 43;have HLU:=zh (h.l.bw bU);have HMU:=zh (h.m.bw bU);have HPQ:=zh (eM h.m);have HNO0:=zh (fun (k:Nat) (hk:k<i) (q:cmn (M.lz.getD i zSl) (M.lz.getD k zSl))=>aLb hk q);have HST0:=zh (fun (k:Nat) (hF:∀ j,j<k->¬ cmn (M.lz.getD i zSl) (M.lz.getD j zSl)) (q:¬ cmn (M.lz.getD i zSl) (M.lz.getD k zSl))=>aLa hF q);have HYES:Zh ((∀ j,j<i->¬ cmn (M.lz.getD i zSl) (M.lz.getD j zSl))->aln M.lz i):=fun q=>q;have HAF:=zh (fun q=>aPx (xs:=M.lz) (i:=i) q);clear h;generalize M.la=la at *;obtain ⟨g,f,rfl,q0,q1,q2,q3⟩:=HLU.o.at i hi _ _ _ _ rfl;generalize M.lz.getD i zSl=x at *;obtain ⟨x0,x1,x2,x3⟩:=x;dsimp only at q0 q1 q2 q3;obtain ⟨V,hV,bV,kV⟩:=nwb U #[.bool x0,qI x1,qI x2,qI x3] 142;have BV:=bU.trans (bV.mono bU.size);have kU':=kU.bw bV;have y12:=kU.e12;have HTH:=zh (kH M.ma M.mn M.mc M.ms x1 x2 V (HMU.o.s.bw bV));rw [HPQ.o x1 x2] at HTH
 have HC:=zh (fun (X:qw) (hX:qY V X)=>show (X.cell? (qR w.heap.size 0)=some (qS M.ma M.mn M.mc)/\X.cell? (qR w.heap.size 12)=some (qS (some (qR g f)) M.ln M.lc)/\X.cell? (qR w.heap.size 14)=some (qI M.tn))/\X.cell? (qR U.heap.size 0)=some (.bool x0)/\X.cell? (qR U.heap.size 1)=some (qI x1)/\X.cell? (qR U.heap.size 2)=some (qI x2)/\X.cell? (qR U.heap.size 3)=some (qI x3) from
  ⟨⟨(kU'.bw hX).cell 0,(kU'.bw hX).cell 12,(kU'.bw hX).cell 14⟩,(kV.bw hX).cell 0,(kV.bw hX).cell 1,(kV.bw hX).cell 2,(kV.bw hX).cell 3⟩)
 have HLV:=zh (HLU.o.bw bV);have HBB:=zh BV;have HU:=zh hU;have HV:=zh hV;clear hU hV bU bV kU kU' kV BV HLU HMU HPQ;obtain ⟨⟨p0,p12,p14⟩,s0,s1,s2,s3⟩:=HC.o V brf;cases x0 with
 | false=>
   have HAL:=zh (HAF.o rfl);rw [aNg];clear HTH HC HNO0 HST0 HYES HAF HLV p0 p12 p14;by_cases e1:x1=0
   .by_cases e2:x2=0
    .by_cases e3:x3=0
     .subst e1 e2 e3;go_enter Tryz.func147,Tryz.ntmps147
      go_wp2_with (rw [<- HU.o])
      go_ret;exact pH ⟨rfl,HAL.o⟩ (by have:=HBB.o;rw [HV.o] at this;exact this)
     .have e3':(x3==0)=false:=by simp [e3]
      have HX:Zh (¬ (false,x1,x2,x3)=zSl):=fun q=>e3 (by unfold zSl at q;simp at q;exact q.2.2);subst e1 e2;clear e3;go_enter Tryz.func147,Tryz.ntmps147
      go_wp2_with (first|rw [<- HU.o]|rw [<- HV.o])
      go_ret;exact cT (fun q=>HX.o q.1) HBB.o
    .have e2':(x2==0)=false:=by simp [e2]
     have HX:Zh (¬ (false,x1,x2,x3)=zSl):=fun q=>e2 (by unfold zSl at q;simp at q;exact q.2.1);subst e1;clear e2;go_enter Tryz.func147,Tryz.ntmps147
     go_wp2_with (first|rw [<- HU.o]|rw [<- HV.o])
     go_ret;exact cT (fun q=>HX.o q.1) HBB.o
   .have e1':(x1==0)=false:=by simp [e1]
    have HX:Zh (¬ (false,x1,x2,x3)=zSl):=fun q=>e1 (by unfold zSl at q;simp at q;exact q.1);clear e1;go_enter Tryz.func147,Tryz.ntmps147
    go_wp2_with (first|rw [<- HU.o]|rw [<- HV.o])
    go_ret;exact cT (fun q=>HX.o q.1) HBB.o
 | true=>
   rw [aFo];clear HAF;by_cases c2:0<=pcq (aE M.ms) x1 x2
   .have HC2:=zh c2;rw [xR c2] at HTH;clear c2;go_enter Tryz.func147,Tryz.ntmps147
    go_wp2_with (first|rw [<- HU.o]|rw [<- HV.o])
    refine HTH.o.mono ?_;rintro e X1 ⟨rfl,hb1⟩;have HX1:=zh hb1;have HB1:=zh (HBB.o.trans (hb1.mono HBB.o.size));clear p0 p12 p14 s0 s1 s2 s3 q0 q1 q2 q3 y12;obtain ⟨⟨p0,p12,p14⟩,s0,s1,s2,s3⟩:=HC.o X1 hb1;clear hb1 HTH HU HV;by_cases c3:x2<0
    .go_wp2;go_ret;exact cT (fun q=>by have:=q.1.1;omega) HB1.o
    by_cases c4:x3<1
    .go_wp2;go_ret;exact cT (fun q=>by have:=q.1.2.2.1;omega) HB1.o
    by_cases c5:M.tn<x3
    .go_wp2;go_ret;exact cT (fun q=>by have:=q.1.2.2.2;omega) HB1.o
    have HSK:Zh (0<=x2/\0<=pcq (aE M.ms) x1 x2/\1<=x3/\x3<=M.tn):=⟨by omega,HC2.o,by omega,by omega⟩;go_wp2;clear p0 p12 p14 s0 s1 s2 s3;go_loopw [6] (fun j wr=>∃ k:Nat,k<=i/\j=qI k/\(∀ j,j<k->¬ cmn (true,x1,x2,x3) (M.lz.getD j zSl))/\qY V wr) (qf i)
    .exact ⟨0,xC _,rfl,fun j hj=>absurd hj (by omega),HX1.o⟩
    .obtain ⟨k,hk,rfl,hF,hB⟩:=hrel;by_cases hlt:k<i
     .have hlt':(k:Int)<(i:Int):=by omega
      have hkn:(k:Int)<(M.ln:Int):=by omega
      obtain ⟨g',f',hg',q0,q1,q2,q3⟩:=(HLV.o.bw hB).at k (by omega) _ _ _ _ rfl;simp at hg';obtain ⟨rfl,rfl⟩:=hg';obtain ⟨⟨r0,r12,r14⟩,_⟩:=HC.o wr hB;have HNO:=zh (HNO0.o k hlt);have HST:=zh (HST0.o k hF);generalize M.lz.getD k zSl=y at *;obtain ⟨o0,o1,o2,o3⟩:=y;dsimp only at q0 q1 q2 q3;obtain ⟨W,hW,bW,kW⟩:=nwb wr #[.bool o0,qI o1,qI o2,qI o3] 142;have BW:=hB.trans (bW.mono hB.size);have HBW:=zh BW;have HW:=zh hW;obtain ⟨_,t0,t1,t2,t3⟩:=HC.o W BW;obtain ⟨p0,p1,p2,p3⟩:=kW.z4;clear hW bW kW BW hB hF HNO0 HST0 HYES HLV;cases o0 with
      | false=>
        have HN:=zh (HST.o (fun q=>by have:=q.2.1;cases this));clear HNO HST;go_wp2_with (rw [<- HW.o])
        go_roundw
        .exact ⟨k+1,by omega,by go_num,HN.o,HBW.o⟩
        .simp [qf,intOf];omega
      | true=>
        by_cases c3:o3=x3
        .subst c3;have HN:=zh (HNO.o ⟨rfl,rfl,.inl rfl⟩);clear HNO HST;go_wp2_with (rw [<- HW.o])
         go_ret;exact cT (fun q=>HN.o q.2) (HBB.o.trans (HBW.o.mono HBB.o.size))
        .have c3':(o3==x3)=false:=by simp [c3]
         by_cases c1:o1=x1
         .by_cases c2:o2=x2
          .have HN:=zh (HNO.o ⟨rfl,rfl,.inr ⟨c1,c2⟩⟩);subst c1 c2;clear HNO HST c3;go_wp2_with (rw [<- HW.o])
           go_ret;exact cT (fun q=>HN.o q.2) (HBB.o.trans (HBW.o.mono HBB.o.size))
          .have c2':(o2==x2)=false:=by simp [c2]
           have HN:=zh (HST.o (fun q=>by rcases q.2.2 with e|e;exact c3 e;exact c2 e.2));subst c1;clear HNO HST c3 c2;go_wp2_with (rw [<- HW.o])
           go_roundw
           .exact ⟨k+1,by omega,by go_num,HN.o,HBW.o⟩
           .simp [qf,intOf];omega
         .have c1':(o1==x1)=false:=by simp [c1]
          have HN:=zh (HST.o (fun q=>by rcases q.2.2 with e|e;exact c3 e;exact c1 e.1));clear HNO HST c3 c1;go_wp2_with (rw [<- HW.o])
          go_roundw
          .exact ⟨k+1,by omega,by go_num,HN.o,HBW.o⟩
          .simp [qf,intOf];omega
     .have HY:=zh (HYES.o (fun j hj=>hF j (by omega)));have HB:=zh hB;clear hB hF;go_wp2;go_ret;exact pH ⟨HSK.o,HY.o⟩ (HBB.o.trans (HB.o.mono HBB.o.size))
   .have HC2:=zh c2;rw [xS c2] at HTH;clear c2;go_enter Tryz.func147,Tryz.ntmps147
    go_wp2_with (first|rw [<- HU.o]|rw [<- HV.o])
    refine HTH.o.mono ?_;rintro e X1 ⟨rfl,hb1⟩;have HB1:=zh (HBB.o.trans (hb1.mono HBB.o.size));clear hb1 HTH HC HU HV;go_wp2;go_ret;exact cT (fun q=>by have h1:=HC2.o;have h2:=q.1.2.1;omega) HB1.o
theorem aPn {a:Act}{W:qw}{G k:Nat}{d:Option Tmp}{ty:TypeId}{p:String}{af:Array _}{gd:Option _}{v0 v1 v2 v3:Value}(q0:W.cell? (qR G i)=some v0)(q1:W.cell? (qR G (i+1))=some v1)(q2:W.cell? (qR G (i+2))=some v2)(q3:W.cell? (qR G (i+3))=some v3)(h:a.tmps[k]?.getD undef=.pointer (some (qR G i))):(execOp a.eval { dst:=d,op:=Op.load 142 (Operand.tmp k),type:=ty,pos:=p,after:=af,guard:=gd }).run Tryz.prog W=.ok (.value (.agg #[v0,v1,v2,v3])) W:=by
 go_simp
theorem vI (M:Mn)(L:Lay)(a0:qO)(c0:Nat)(xs:List PB)(a2:qO)(c2:Nat)(a5:qO)(c5:Nat)(ts:List TB)(w:qw)(h:MnD w M)(hL:LyT w L a0 c0 xs a2 c2 a5 c5 ts)(eL:L=M.L)(hk:lkc (aE M.ms) M.cs M.cw M.ck M.cd=0)(hr:(M.rn:Int)=L.ram):
 qC 81 #[.agg (qA M),.agg (qJ L a0 xs c0 a2 c2 a5 ts c5)] w (Yn (cU (aE M.ms) L M.cs M.cw M.tn M.rz M.lz/\(M.cs=0\/M.bk=-1\/hld M.lz M.md M.bk≠-1)) w):=by
 obtain ⟨hsl,w0,w1⟩:=aJ8 hk;have eL':L=lkL (aE M.ms) M.cs M.cw M.ck M.cd:=eL;rw [<- eL'] at hsl;have hl:=h.l.1;have hmx:=h.l.2.1;have hmr:=h.r.2.1;have hlm:=hL.s.2.1;have hrc:=h.r.2.2.2.2;unfold maxLen at hmx hmr hlm;obtain ⟨U,hU,bU,kU⟩:=nwb w (qA M) 43;obtain ⟨V,hV,bV,kV⟩:=nwb U (qJ L a0 xs c0 a2 c2 a5 ts c5) 71;have BV:=bU.trans (bV.mono bU.size);have kU':=kU.bw bV;have HDV:=zh (h.bw BV);have HSV:=zh (hL.s.bw BV);have HU:=zh hU;have HV:=zh hV;have HB:=zh BV;have HC:=zh (fun (X:qw) (hX:qY V X)=>xA (kU'.bw hX) (kV.bw hX));have y1:=kU'.e1;have y12:=kU'.e12;have HRE:=zh (Below.refl V.heap.size V);have HEQ:=zh (xA eL' (xA hsl (xA hr hk)));clear hU hV bU bV kU kU' kV BV h hL eL eL' hsl hr hk;by_cases c0':¬ (M.ln:Int)=M.cs
 .have HN:Zh (¬ (cU (aE M.ms) L M.cs M.cw M.tn M.rz M.lz/\(M.cs=0\/M.bk=-1\/hld M.lz M.md M.bk≠-1))):=fun f=>c0' (by have:=f.1.1;omega);have c0'':((M.ln:Int) !=M.cs)=true:=by simp [c0']
  clear c0';go_enter Tryz.func81,Tryz.ntmps81
  go_wp2_with (first|rw [<- HU.o]|rw [<- HV.o])
  go_ret;exact cT HN.o HB.o
 replace c0':(M.ln:Int)=M.cs:=xZ.1 c0';have c0'':((M.ln:Int) !=M.cs)=false:=by simp [c0']
 have HCS:=zh c0';clear c0';by_cases cn:M.ln=0
 .have HY:Zh (cU (aE M.ms) L M.cs M.cw M.tn M.rz M.lz/\(M.cs=0\/M.bk=-1\/hld M.lz M.md M.bk≠-1)):=⟨⟨by have:=HCS.o;omega,fun i hi=>absurd hi (by omega)⟩,.inl (by have:=HCS.o;omega)⟩;have HCN:=zh cn;clear cn;go_enter Tryz.func81,Tryz.ntmps81
  go_wp2_with (first|rw [<- HU.o]|rw [<- HV.o])
  clear y1 y12;go_loopw [5] (fun i wr=>∃ k:Nat,i=qI k/\qY V wr) (fun i _=>0)
  .exact ⟨0,rfl,HRE.o⟩
  .obtain ⟨k,rfl,hB⟩:=hrel;have hlt:¬ ((k:Int)<(M.ln:Int)):=by have:=HCN.o;omega
   have h0:((M.ln:Int)==0)=true:=by rw [HCN.o];rfl
   have y12:=(HC.o wr hB).1.e12;have HB2:=zh hB;clear hB;go_wp2;go_ret;exact pH HY.o (HB.o.trans (HB2.o.mono HB.o.size))
 obtain ⟨g,f,hg⟩:∃ g f,M.la=some ⟨g,f,none⟩:=by
  obtain ⟨g,f,hg,_⟩:=HDV.o.l.2.2.1 cn;exact ⟨g,f,hg⟩
 obtain ⟨eL',hsl,hr,hk⟩:=HEQ.o
 obtain ⟨gs,os,hgs⟩:∃ gs os,a2=some ⟨gs,os,none⟩:=by
  obtain ⟨gs,os,hg,_⟩:=HSV.o.2.2.2.1 (by have:=HCS.o;omega);exact ⟨gs,os,hg⟩
 have HSC:=zh (fun (wr:qw) (hB:qY V wr) (k:Nat) (hk:k<L.slots.length)=>(show wr.cell? (qR gs (os+k))=some (qI (L.slots.getD k 0)) from by
  obtain ⟨g',o',he,hc⟩:=(HSV.o.bw hB).2.2.2.1 (by omega);try unfold qA at *
  try unfold qL at *
  rw [hgs] at he;simp at he;obtain ⟨rfl,rfl⟩:=he
  exact hc k hk))
 have HQ:=zh (fun (wr:qw) (hB:qY V wr) (k:Nat) (hk:k<M.ln)=>(HDV.o.l.bw hB).at k hk _ _ _ _ rfl);have HSO:=zh (fun (k:Nat) (hk:k<M.ln) (b:Bool) (hb:b=true ↔ slk (aE M.ms) M.tn (M.lz.getD k zSl)/\aln M.lz k) (X:qw) (hX:qY V X)=>(aAn M k X (HDV.o.bw hX) hk).mono (fun e w' he=>show e=.returned (.bool b)/\qY X w' from mK he b hb))
 have HSI:=zh (fun (k:Nat) (hi:k<L.slots.length)=>show 65536<=L.slots.getD k 0/\L.slots.getD k 0-65536+(slz M.cw:Int)<=(M.rn:Int)/\M.rn<=16384 from by
  have:=rK hk (show k<(lkL (aE M.ms) M.cs M.cw M.ck M.cd).slots.length by rw [<- eL'];exact hi);rw [<- eL'] at this;obtain ⟨h1,h2,h3,_⟩:=this
  exact ⟨h1,by omega,by omega⟩)
 have HBB:=zh (fun (x0:Bool) (x1 x2 x3:Int) (hp:0<=pcq (aE M.ms) x1 x2) (hb:0<=x2) (X:qw) (hX:qY V X)=>(jK M x0 x1 x2 x3 X (HDV.o.bw hX) hk (by have:=HCS.o;omega) hp hb).mono (fun e w' he=>show ∃ g,e=.returned (qS (qP g) (slz M.cw) (slz M.cw))/\BS w' (qP g) (slz M.cw) (slz M.cw) (bkb (aE M.ms) M.cw x1 x2)/\qY X w' from by
  obtain ⟨g,h1,h2,h3⟩:=he
  exact ⟨g,h1,h2.bs,h3⟩))
 have HHD:=zh (fun (X:qw) (hX:qY V X)=>pA M.la M.ln M.lc M.lz M.md M.bk X (HDV.o.l.bw hX));have HRB:=zh (fun (X:qw) (hX:qY V X)=>HDV.o.r.bw hX);have hz2:=(fH w0 w1).2.1;have hz3:1<=slz M.cw:=by have:=(fH w0 w1).2.2;omega
 try unfold qA at *
 try unfold qL at *
 rw [hg] at HC HSO HBB HHD y12 HU HQ ⊢;try unfold qA at *
 try unfold qL at *
 rw [hgs] at HC HV ⊢;have HSN:=zh (show L.slots.length=M.ln by have:=HCS.o;omega);have hn0:((M.ln:Int)==0)=false:=by simp;omega
 clear cn hg hgs HDV HSV hk eL' hsl hr HEQ;go_enter Tryz.func81,Tryz.ntmps81
 go_wp2_with (first|rw [<- HU.o]|rw [<- HV.o])
 clear y1 y12 HU HV;go_loopw [5,6,7] (fun i _ _ wr=>∃ k:Nat,k<=M.ln/\i=qI k/\(∀ i,i<k->mP (aE M.ms) L M.cw M.tn M.rz M.lz i)/\qY V wr) (fun i _ _ _=>M.ln-(intOf i).toNat)
 .exact ⟨0,xC _,rfl,fun i hi=>absurd hi (by omega),HRE.o⟩
 .obtain ⟨k,hk,rfl,hF,hB⟩:=hrel;have HBR:=zh hB;obtain ⟨m0,m1,m2,m3,m4,m5,m6,m7,m8,m9,m10,m11,m12,m13,m14⟩:=(HC.o wr hB).1.mc;by_cases hlt:k<M.ln
  .have hlt':(k:Int)<(M.ln:Int):=by omega
   have HNO:=zh (fun (q:¬ mP (aE M.ms) L M.cw M.tn M.rz M.lz k)=>aIu (cs:=M.cs) (show k<M.lz.length by omega) q);have HST:=zh (fun (q:mP (aE M.ms) L M.cw M.tn M.rz M.lz k)=>aIt hF q);have HOK:Zh (mP (aE M.ms) L M.cw M.tn M.rz M.lz k ↔ slk (aE M.ms) M.tn (M.lz.getD k zSl)/\aln M.lz k/\((M.lz.getD k zSl).1=true->slb M.rz L M.cw k=bkb (aE M.ms) M.cw (M.lz.getD k zSl).2.1 (M.lz.getD k zSl).2.2.1)):=Iff.rfl;have HQK:=zh (fun (X:qw) (hX:qY V X)=>HQ.o X hX k hlt);obtain ⟨b1,hb1⟩:=fX (slk (aE M.ms) M.tn (M.lz.getD k zSl)/\aln M.lz k);have HSO1:=zh (HSO.o k hlt b1 hb1 wr hB);obtain ⟨s1,s2,s3⟩:=HSI.o k (by rw [HSN.o];exact hlt);have s4:=HSC.o wr hB k (by rw [HSN.o];exact hlt);have HS4:=zh (fun (X:qw) (hX:qY V X)=>HSC.o X hX k (by rw [HSN.o];exact hlt));generalize M.lz.getD k zSl=x at *;obtain ⟨x0,x1,x2,x3⟩:=x;dsimp only at HOK HQK;have HNA:=zh (fun (e:b1=false)=>HNO.o (fun q=>by have:=hb1.2 ⟨(HOK.o.1 q).1,(HOK.o.1 q).2.1⟩;rw [e] at this;cases this));have HB1:=zh hb1;obtain ⟨A,hA⟩:∃ A:Nat,L.slots.getD k 0=65536+(A:Int):=⟨(L.slots.getD k 0-65536).toNat,by omega⟩;have HSBD:=zh (show slb M.rz L M.cw k=(M.rz.drop A).take (slz M.cw) from by unfold slb;rw [hA,show (65536+(A:Int)-65536).toNat=A by omega]);rw [hA] at s2 s4 HS4;clear hb1 hB hF HQ HSO HSC HSI HRE s4 s1 hA;go_wp2_with fail
   refine HSO1.o.mono ?_;rintro e X1 ⟨rfl,hb⟩;have HX1:=zh (HBR.o.trans (hb.mono HBR.o.size));clear hb HSO1 m0 m1 m2 m3 m4 m5 m6 m7 m8 m9 m10 m11 m12 m13 m14;cases b1 with
   | false=>
     have HN:Zh (¬ (cU (aE M.ms) L M.cs M.cw M.tn M.rz M.lz/\(M.cs=0\/M.bk=-1\/hld M.lz M.md M.bk≠-1))):=fun q=>HNA.o (by simp) q.1;go_wp2;go_ret;exact cT HN.o (HB.o.trans (HX1.o.mono HB.o.size))
   | true=>
     obtain ⟨g',f',hg',q0,q1,q2,q3⟩:=HQK.o X1 HX1.o;simp at hg';obtain ⟨rfl,rfl⟩:=hg';obtain ⟨m0,m1,m2,m3,m4,m5,m6,m7,m8,m9,m10,m11,m12,m13,m14⟩:=(HC.o X1 HX1.o).1.mc;cases x0 with
     | false=>
       have HN:=zh (HST.o (HOK.o.2 ⟨(HB1.o.1 rfl).1,(HB1.o.1 rfl).2,fun q=>by cases q⟩));clear HNA HNO HST HOK HB1;go_wp2
       go_roundw
       .exact ⟨k+1,by omega,by go_num,HN.o,HX1.o⟩
       .simp [intOf];omega
     | true=>
       obtain ⟨p2,pq,_⟩:=aFo.1 (HB1.o.1 rfl).1;have HBB1:=zh (HBB.o true x1 x2 x3 pq p2)
       have HS:=zh (fun (X:qw) (hX:qY V X)=>show Blk X w.heap.size (qX M M.ma M.mn M.mc M.ka M.kn M.kc M.fa M.fn M.fc M.ra M.rn M.rc M.oa M.on M.oc (some (qR g f)) M.ln M.lc M.ha M.hn M.hc) 43/\X.cell? (qR g (f+k*4))=some (.bool true)/\X.cell? (qR g (f+k*4+1))=some (qI x1)/\X.cell? (qR g (f+k*4+2))=some (qI x2)/\X.cell? (qR g (f+k*4+3))=some (qI x3) from by
        obtain ⟨g',f',hg',r0,r1,r2,r3⟩:=HQK.o X hX;simp at hg';obtain ⟨rfl,rfl⟩:=hg'
        exact ⟨(HC.o X hX).1,r0,r1,r2,r3⟩)
       have HNT:=zh (fun (e:slb M.rz L M.cw k=bkb (aE M.ms) M.cw x1 x2)=>HST.o (HOK.o.2 ⟨(HB1.o.1 rfl).1,(HB1.o.1 rfl).2,fun _=>e⟩));have HNF:=zh (fun (e:¬ slb M.rz L M.cw k=bkb (aE M.ms) M.cw x1 x2)=>show ¬ (cU (aE M.ms) L M.cs M.cw M.tn M.rz M.lz/\(M.cs=0\/M.bk=-1\/hld M.lz M.md M.bk≠-1)) from fun q=>HNO.o (fun r=>e ((HOK.o.1 r).2.2 rfl)) q.1);clear HNA HNO HST HOK HB1 HBB p2 pq HQK;go_wp2_with fail
       clear m0 m1 m2 m3 m4 m5 m6 m7 m8 m9 m10 m11 m12 m13 m14 q0 q1 q2 q3;refine wp_region_held_drew (S:=(fun X=>Blk X w.heap.size (qX M M.ma M.mn M.mc M.ka M.kn M.kc M.fa M.fn M.fc M.ra M.rn M.rc M.oa M.on M.oc (some (qR g f)) M.ln M.lc M.ha M.hn M.hc) 43/\X.cell? (qR g (f+k*4))=some (.bool true)/\X.cell? (qR g (f+k*4+1))=some (qI x1)/\X.cell? (qR g (f+k*4+2))=some (qI x2)/\X.cell? (qR g (f+k*4+3))=some (qI x3))) (by kernel_rfl) ?_ (fun hHeld=>?_)
       .exact HS.o _ HX1.o.drew
       refine tkV 0 _ rfl (fun w hSw=>sZ hSw.1 rfl) ?_;try simp only [yD,yE,yF,Act.put,yA,yB,yC]
       refine tkV 1 ?_ rfl ?_ ?_;rotate_left
       ·(intro w hSw;(try dsimp only at hSw);go_simp;try with_reducible rfl)
       try simp only [yD,yE,yF,Act.put,yA,yB,yC]
       refine tkV 2 _ rfl (fun w hSw=>aNs (hSw.1.cell 12) rfl) ?_;try simp only [yD,yE,yF,Act.put,yA,yB,yC]
       refine tkV 3 ?_ rfl ?_ ?_;rotate_left
       ·(intro w hSw;(try dsimp only at hSw);go_simp;try with_reducible rfl)
       try simp only [yD,yE,yF,Act.put,yA,yB,yC]
       refine tkV 4 ?_ rfl ?_ ?_;rotate_left
       ·(intro w hSw;(try dsimp only at hSw);go_simp;try with_reducible rfl)
       try simp only [yD,yE,yF,Act.put,yA,yB,yC]
       refine tkV 5 _ rfl (fun w hSw=>aPn hSw.2.1 hSw.2.2.1 hSw.2.2.2.1 hSw.2.2.2.2 rfl) ?_;try simp only [yD,yE,yF,Act.put,yA,yB,yC]
       refine wpAnyH_ready (rs:=[6]) (by kernel_rfl) (by simp) (AllReadyH.cons rfl (fun K hK=>?_) AllReadyH.nil);go_simp;refine (HBB1.o _ HX1.o.drew).mono ?_;rintro e X2 ⟨bg,rfl,hs,hb⟩;have HX2:=zh (HX1.o.drew.trans (hb.mono HX1.o.drew.size));have HBS:=zh hs;clear hs hb;try go_wp2_with fail
       refine hK.out _ _ ?_ (fun hHeld=>?_)
       .exact HS.o _ HX2.o
       clear hK K;try simp only [yD,yE,yF,Act.put,yA,yB,yC]
       refine tkV 7 ?_ rfl ?_ ?_;rotate_left
       ·(intro w hSw;(try dsimp only at hSw);go_simp;try with_reducible rfl)
       try simp only [yD,yE,yF,Act.put,yA,yB,yC]
       refine wpAnyH_done (by kernel_rfl) ?_ _;clear hHeld HS;have y8:=(HC.o X2 HX2.o).1.e8;have z2:=(HC.o X2 HX2.o).2.e2;have s4:=HS4.o X2 HX2.o;have hkl:(k:Int)<(L.slots.length:Int):=by rw [HSN.o];exact hlt'
       generalize slz M.cw=sz at *
       obtain ⟨rb,ro,hra⟩:∃ rb ro,M.ra=some ⟨rb,ro,none⟩:=by
        obtain ⟨rb,ro,he,_⟩:=(HRB.o X2 HX2.o).2.2.2.1 (by omega);exact ⟨rb,ro,he⟩
       obtain ⟨E,hE⟩:∃ E:Nat,E=A+sz:=⟨_,rfl⟩
       have HLB:=zh (show qC 79 #[qS (some (qR rb (ro+A))) (E-A) (M.rc-A),qS (qP bg) sz sz] X2 (fun e w'=>e=.returned (.bool (decide (slb M.rz L M.cw k=bkb (aE M.ms) M.cw x1 x2)))/\qY X2 w') from by
        have h1:=HRB.o X2 HX2.o;rw [hra] at h1;have h2:=(h1.drop A (by omega)).take sz (by omega);rw [show E-A=sz by omega,HSBD.o]
        exact pB _ _ _ _ _ _ _ _ X2 h2 HBS.o)
       have hwA:IntKind.i64.wrap (65536+(A:Int)-65536)=(A:Int):=by rw [xP,xQ _ (by omega)];omega
       have hwA2:IntKind.i64.wrap (A:Int)=(A:Int):=by rw [xP,xQ _ (by omega)]
       have hwE:IntKind.i64.wrap ((A:Int)+(sz:Int))=(E:Int):=by rw [xP,xQ _ (by omega)];omega
       have hwE2:(A:Int)+(sz:Int)=(E:Int):=by omega
       have g0:(0:Int)<=(A:Int):=by omega
       have g1:(A:Int)<=(E:Int):=by omega
       have g2:(E:Int)<=(M.rc:Int):=by omega
       have g3:(A:Int)<(M.rc:Int):=by omega
       have g4:A<=E:=by omega
       have g5:¬ (M.rc=A):=by omega
       have g6:A<M.rc:=by omega
       rw [hra] at y8;have HW2:=zh hwE2;clear hE hra HRB HSBD HBS HS4 s2 s3 hwE2;by_cases c3:slb M.rz L M.cw k=bkb (aE M.ms) M.cw x1 x2
       .rw [xR c3] at HLB;have HN:=zh (HNT.o c3);clear HNT HNF c3;go_wp2_with fail
        refine HLB.o.mono ?_;rintro e X3 ⟨rfl,hb⟩;have HX3:=zh (HX2.o.trans (hb.mono HX2.o.size));clear hb HLB;go_wp2
        go_roundw
        .exact ⟨k+1,by omega,by go_num,HN.o,HX3.o⟩
        .simp [intOf];omega
       .rw [xS c3] at HLB;have HN:=zh (HNF.o c3);clear HNT HNF c3;go_wp2_with fail
        refine HLB.o.mono ?_;rintro e X3 ⟨rfl,hb⟩;have HX3:=zh (HX2.o.trans (hb.mono HX2.o.size));clear hb HLB;go_wp2;go_ret;exact cT HN.o (HB.o.trans (HX3.o.mono HB.o.size))
  .have HY:Zh (cU (aE M.ms) L M.cs M.cw M.tn M.rz M.lz):=⟨by have:=HCS.o;omega,fun i hi=>hF i (by omega)⟩;have HH:=zh (HHD.o wr hB);have hhr:=fZ M.lz M.md M.bk;have HCZ:Zh (¬ M.cs=0):=fun e=>by have:=HCS.o;simp at hn0;omega
   clear hB hF HC HSC HSI HSO HBB HRB HHD HQ;by_cases cb:M.bk=-1
   .have cb':(M.bk == -1)=true:=by rw [cb];rfl
    have HP:Zh (cU (aE M.ms) L M.cs M.cw M.tn M.rz M.lz/\(M.cs=0\/M.bk=-1\/hld M.lz M.md M.bk≠-1)):=⟨HY.o,.inr (.inl cb)⟩;clear cb hhr HH;go_wp2;go_ret;exact pH HP.o (HB.o.trans (HBR.o.mono HB.o.size))
   .have cb':(M.bk == -1)=false:=by simp [cb]
    have HP:Zh ((cU (aE M.ms) L M.cs M.cw M.tn M.rz M.lz/\(M.cs=0\/M.bk=-1\/hld M.lz M.md M.bk≠-1)) ↔ 0<=hld M.lz M.md M.bk):=⟨fun q=>by rcases q.2 with e|e|e;exact absurd e HCZ.o;exact absurd e cb;omega,fun q=>⟨HY.o,.inr (.inr (by omega))⟩⟩;clear cb hhr;generalize hld M.lz M.md M.bk=r at *;go_wp2_with fail
    refine HH.o.mono ?_;rintro e X1 ⟨rfl,hb⟩;have HX1:=zh (HBR.o.trans (hb.mono HBR.o.size));clear hb HH;go_wp2;go_ret;exact aO9 HP.o.symm (HB.o.trans (HX1.o.mono HB.o.size))
end Go.Proofs.YtncccmeomcaabaaGreat
namespace Go.Proofs.YtncccmeomcaabaaGreat
open Go.ChangeShapes Go.WideShapes Go.ChangeAt Go.RowKit Classical
variable {base fuel:Nat}{cs:List Value}{held:Bool}{z:Int}
theorem own:ownKnob Tryz.prog.godebug=none:=by kernel_rfl
theorem aMr:laidOutB Tryz.prog=true:=by kernel_rfl
theorem aPa (h:(Lit.int .u8 z).wf=true):0<=z/\z<=255:=by
 simp [Lit.wf,IntKind.min,IntKind.max,IntKind.signed,IntKind.bits] at h;omega
theorem wf_i64 (h:(Lit.int .i64 z).wf=true):-9223372036854775808<=z/\z<=9223372036854775807:=by
 simp [Lit.wf,IntKind.min,IntKind.max,IntKind.signed,IntKind.bits] at h;omega
set_option maxRecDepth 100000 in
theorem jH {H:Type}{enc:TypeId×Value->H}{w:qw}{x:DataW H×List MemPlace}
 (h:DataW.trod enc Tryz.prog w base (fun _=>true) held fuel 28 cs=some x):∃ a n cap zs,cs=[qS a n cap]/\BS w a n cap zs:=by
 rcases open_ints Tryz.underlying28 Tryz.underlying5 (by kernel_rfl) h with ⟨hcs,_⟩|⟨x,l,c,zs,hcs,_,hl,hm,hz,_,hcell,hwz⟩
 .exact ⟨none,0,0,[],hcs,rfl,Nat.zero_le _,by simp,fun h=>absurd rfl h,aN⟩
 .simp at hz;refine ⟨some x,l,c,zs.take l,hcs,by simp;omega,by omega,fun z hz'=>aPa (hwz z (List.mem_of_mem_take hz')),fun hl0=>?_,hl⟩;obtain ⟨b,off,spot⟩:=x;have hspot:spot=none:=by simpa [Addr.add] using World.cell?_spot (hcell 0 (by omega))
  subst hspot;refine ⟨b,off,rfl,fun i hi=>?_⟩;have:=hcell i (by omega)
  have ea:(Addr.add (qR b off) i)=(qR b (off+i)):=by
   simp only [Addr.add];split
   .next h=>subst h;rfl
   .rfl
  rw [ea] at this;rw [this];simp [List.getD_eq_getElem?_getD,hi]
set_option maxRecDepth 100000 in
theorem aEn {H:Type}{enc:TypeId×Value->H}{w:qw}{x:DataW H×List MemPlace}
 (h:DataW.trod enc Tryz.prog w base (fun _=>true) held fuel 25 cs=some x):∃ a n cap zs,cs=[qS a n cap]/\IS w a n cap zs:=by
 rcases open_ints Tryz.underlying25 Tryz.underlying3 (by kernel_rfl) h with ⟨hcs,_⟩|⟨x,l,c,zs,hcs,_,hl,hm,hz,_,hcell,hwz⟩
 .exact ⟨none,0,0,[],hcs,rfl,Nat.zero_le _,by simp,fun h=>absurd rfl h,aN⟩
 .simp at hz;refine ⟨some x,l,c,zs.take l,hcs,by simp;omega,by omega,fun z hz'=>wf_i64 (hwz z (List.mem_of_mem_take hz')),fun hl0=>?_,hl⟩;obtain ⟨b,off,spot⟩:=x;have hspot:spot=none:=by simpa [Addr.add] using World.cell?_spot (hcell 0 (by omega))
  subst hspot;refine ⟨b,off,rfl,fun i hi=>?_⟩;have:=hcell i (by omega)
  have ea:(Addr.add (qR b off) i)=(qR b (off+i)):=by
   simp only [Addr.add];split
   .next h=>subst h;rfl
   .rfl
  rw [ea] at this;rw [this];simp [List.getD_eq_getElem?_getD,hi]
