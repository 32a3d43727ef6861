import Derived.Test.YtncccmeomcaabaaGreatC00
set_option linter.all false
set_option maxHeartbeats 4000000
namespace Go.Proofs.YtncccmeomcaabaaGreat
open Go.RowKit
open Go.Proofs.Tryz
set_option maxRecDepth 100000
variable {a ba da ea ia ra ta:qO}{b base bc bn cap dc dn ec en g ic im n o o' rc rn tc tn:Nat}{bl:List Bk}{bss:Int}{gs:List Nat}{nm:ByteArray}{zs:List ByteArray}
abbrev Ex:=ByteArray×Int×Int
def zE:Ex:=(zS,0,0)
def ES (w:qw)(a:qO)(n cap:Nat)(es:List Ex):Prop:=
 es.length=n/\n<=maxLen/\(∀ e∈es,e.1.size<=1048576)/\(n≠0->∃ b off,a=some (qR b off)/\∀ i,i<n->w.cell? (qR b (off+i*3))=some (.string (es.getD i zE).1)/\w.cell? (qR b (off+i*3+1))=some (qI (es.getD i zE).2.1)/\w.cell? (qR b (off+i*3+2))=some (qI (es.getD i zE).2.2))/\n<=cap
theorem ES.bw {w w':qw}{es:List Ex}(h:ES w a n cap es)(hb:qY w w'):ES w' a n cap es:=by
 obtain ⟨h1,h2,h3,h4,h5⟩:=h;refine ⟨h1,h2,h3,fun hn=>?_,h5⟩;obtain ⟨b,off,e,hc⟩:=h4 hn;have key:∀ o v,w.cell? (qR b o)=some v->w'.cell? (qR b o)=some v:=fun o v hv=>(hb.cell (xD w _ hv)).trans hv;exact ⟨b,off,e,fun i hi=>⟨key _ _ (hc i hi).1,key _ _ (hc i hi).2.1,key _ _ (hc i hi).2.2⟩⟩
theorem ES.addr {w:qw}{es:List Ex}(h:ES w a n cap es)(hn:n≠0):∃ b off,a=some (qR b off):=by
 obtain ⟨b,off,e,_⟩:=h.2.2.2.1 hn;exact ⟨b,off,e⟩
theorem ES.at {w:qw}{b off n cap:Nat}{es:List Ex}(h:ES w (some (qR b off)) n cap es)(i:Nat)(hi:i<n):w.cell? (qR b (off+i*3))=some (.string (es.getD i zE).1)/\w.cell? (qR b (off+i*3+1))=some (qI (es.getD i zE).2.1)/\w.cell? (qR b (off+i*3+2))=some (qI (es.getD i zE).2.2):=by
 obtain ⟨b',off',e,hc⟩:=h.2.2.2.1 (by omega);simp at e;obtain ⟨rfl,rfl⟩:=e;exact hc i hi
theorem ES.size {w:qw}{es:List Ex}(h:ES w a n cap es)(i:Nat):(es.getD i zE).1.size<=1048576:=by
 by_cases hi:i<es.length
 .have:=h.2.2.1 es[i] (List.getElem_mem hi);simpa [xB,hi] using this
 .rw [xB,xO (Nat.le_of_not_lt hi)];exact (by decide:(zE).1.size<=1048576)
def ex1 (tn bn:Nat)(bl:List Bk)(x:Ex):Bool:=nmo x.1&&decide (0<=x.2.2/\x.2.2<pcn tn bn bl x.2.1)
def exn (es:List Ex)(i:Nat):Bool:=(List.range i).all fun k=>!((es.getD k zE).1.toList==(es.getD i zE).1.toList)
def exo (tn bn:Nat)(bl:List Bk)(n:Nat)(es:List Ex):Bool:=decide (n<=16)&&(List.range n).all fun i=>ex1 tn bn bl (es.getD i zE)&&exn es i
theorem rB (nm:ByteArray)(ta:qO)(tn tc:Nat)(ba:qO)(bn bc:Nat)(bl:List Bk)(v3 v5 v6:Value)(bss:Int)(ea:qO)(n ec:Nat)(es:List Ex)(w:qw)(htn:tn<=maxLen)(hb:BKS w ba bn bc bl)(h:ES w ea n ec es):
 qC 206 #[.agg #[.string nm,qS ta tn tc,qS ba bn bc,v3,qI bss,v5,v6,qS ea n ec]] w (qB w (.bool (exo tn bn bl n es))):=by
 obtain ⟨W,hW,hB0,kb⟩:=nwb w #[.string nm,qS ta tn tc,qS ba bn bc,v3,qI bss,v5,v6,qS ea n ec] 138;obtain ⟨q0,q1,q2,q3,q4,q5,q6,q7⟩:=kb.eight;obtain ⟨r,hr⟩:=eqx (exo tn bn bl n es);rw [<- hr];unfold exo at hr;have hm1:=h.2.1;unfold maxLen at hm1;have HW:=zh hW;clear hW;by_cases c1:16<n
 .have HR:=zh (show r=false by rw [hr,xS (by omega)];rfl);clear hr;have c1':(16:Int)<(n:Int):=by omega
  go_enter func206,ntmps206
  go_wp2_with (rw [<- HW.o])
  go_ret;exact ⟨aA HR.o.symm,hB0⟩
 .have c1':¬ (16:Int)<(n:Int):=by omega
  have HR:=zh (show r=(List.range n).all (fun i=>ex1 tn bn bl (es.getD i zE)&&exn es i) by rw [hr,xR (by omega)];rfl);clear hr;go_enter func206,ntmps206
  go_wp2_with (rw [<- HW.o])
  clear q0 q1 q2 q3 q4 q5 q6 q7;go_loopw [3] (fun i wr=>∃ k:Nat,k<=n/\i=qI k/\Hid (∀ j,j<k->(ex1 tn bn bl (es.getD j zE)&&exn es j)=true)/\qY w wr/\Blk wr w.heap.size #[.string nm,qS ta tn tc,qS ba bn bc,v3,qI bss,v5,v6,qS ea n ec] 138) (qf n)
  .exact ⟨0,xC _,rfl,zh (fun j hj=>by omega),hB0,kb⟩
  .obtain ⟨k,hk,rfl,HJ,hB,kw⟩:=hrel;clear kb hB0;obtain ⟨q0,q1,q2,q3,q4,q5,q6,q7⟩:=kw.eight;by_cases hlt:k<n
   .have hlt':(k:Int)<(n:Int):=by omega
    obtain ⟨bb,off,rfl⟩:=h.addr (by omega);obtain ⟨y1,y2,y3⟩:=(h.bw hB).at k hlt;have HZ:=zh (fT (fun i=>ex1 tn bn bl (es.getD i zE)&&exn es i) n k hlt)
    have HG:=zh (show (ex1 tn bn bl (es.getD k zE)&&exn es k)=true->∀ j,j<k+1->(ex1 tn bn bl (es.getD j zE)&&exn es j)=true from fun h j hj=>by
     by_cases e:j=k
     .subst e;exact h
     .exact HJ.out j (by omega))
    have HN:=zh (fun w=>fV (es.getD k zE).1 w (h.size k));have HX:Zh (exn es k=(List.range k).all (fun j=>!((es.getD j zE).1.toList==(es.getD k zE).1.toList))):=rfl;generalize es.getD k zE=E at *;obtain ⟨en,eb,ei⟩:=E;dsimp only at y1 y2 y3 HN HX;have lkw:=kw.lt;have hb1:=hb.bw (hB.alloc hB.size (.cells #[.string en,qI eb,qI ei] 163));have HP:=zh (fun w h=>gS nm ta tn tc ba bn bc bl v3 v5 v6 (qS (some (qR bb off)) n ec) bss eb w htn h);have kE:=Blk.new wr #[.string en,qI eb,qI ei] 163;have hA:qY wr (wr.alloc (.cells #[.string en,qI eb,qI ei] 163)):=bal;go_wp2_with fail
    refine (HP.o _ hb1).mono ?_;rintro e w1 ⟨pa,pn,px,ok,rfl,hok,hpn,hpm,hbp⟩;have kE1:=kE.bw hbp;have kw1:=(kw.bw hA).bw hbp;have hB1:=(hB.trans (hA.mono hB.size)).trans (hbp.mono (by have:=hB.size;simp;omega));clear kE kw hA hbp hb1 HP q0 q1 q2 q3 q4 q5 q6 q7 y1 y2 y3 hB;unfold maxLen at hpm;have HOK:=zh (xA hok hpn);clear hok hpn;obtain ⟨z1,z2,z3,z4⟩:=kE1.three;have HEX:Zh (ex1 tn bn bl (en,eb,ei)=(nmo en&&decide (0<=ei/\ei<pcn tn bn bl eb))):=rfl;cases hn:nmo en
    .rw [hn] at HN;go_wp2_with (go_at_call 170;refine (HN.o _).mono ?_;rintro e w2 ⟨rfl,rfl⟩)
     go_ret;exact ⟨aA (by rw [HR.o];exact (HZ.o (by rw [HEX.o,hn];rfl)).symm),hB1⟩
    .rw [hn] at HN;cases ok
     .have hp:¬ 0<=pcn tn bn bl eb:=by have:=HOK.o.1;simpa using this.symm
      go_wp2_with (go_at_call 170;refine (HN.o _).mono ?_;rintro e w2 ⟨rfl,rfl⟩)
      go_ret;exact ⟨aA (by rw [HR.o];exact (HZ.o (by rw [HEX.o,xS (by omega)];simp)).symm),hB1⟩
     .have hp:(pn:Int)=pcn tn bn bl eb:=HOK.o.2 rfl;have HPP:=zh hp;clear hp;by_cases d1:ei<0
      .go_wp2_with (go_at_call 170;refine (HN.o _).mono ?_;rintro e w2 ⟨rfl,rfl⟩)
       go_ret;exact ⟨aA (by rw [HR.o];exact (HZ.o (by rw [HEX.o,xS (by omega)];simp)).symm),hB1⟩
      .by_cases d2:(pn:Int)<=ei
       .go_wp2_with (go_at_call 170;refine (HN.o _).mono ?_;rintro e w2 ⟨rfl,rfl⟩)
        go_ret;exact ⟨aA (by rw [HR.o];exact (HZ.o (by rw [HEX.o,<- HPP.o,xS (by omega)];simp)).symm),hB1⟩
       .have HE1:=zh (show ex1 tn bn bl (en,eb,ei)=true by rw [HEX.o,hn,<- HPP.o,xR (by omega)];rfl);go_wp2_with (go_at_call 170;refine (HN.o _).mono ?_;rintro e w2 ⟨rfl,rfl⟩)
        clear z1 z2 z3 z4;go_loopw [7] (fun i wx=>∃ m:Nat,m<=k/\i=qI m/\Hid (∀ j,j<m->(!((es.getD j zE).1.toList==en.toList))=true)/\qY w wx/\Blk wx w.heap.size #[.string nm,qS ta tn tc,qS ba bn bc,v3,qI bss,v5,v6,qS (some (qR bb off)) n ec] 138/\Blk wx wr.heap.size #[.string en,qI eb,qI ei] 163) (qf k)
        .exact ⟨0,xC _,rfl,zh (fun j hj=>by omega),hB1,kw1,kE1⟩
        .obtain ⟨m,hm,rfl,HM,hBx,kwx,kEx⟩:=hrel;clear hB1 kw1 kE1;obtain ⟨q0,q1,q2,q3,q4,q5,q6,q7⟩:=kwx.eight;obtain ⟨z1,z2,z3,z4⟩:=kEx.three;by_cases hmk:m<k
         .have hmk':(m:Int)<(k:Int):=by omega
          have hmn':(m:Int)<(n:Int):=by omega
          obtain ⟨y1,y2,y3⟩:=(h.bw hBx).at m (by omega);have HY:=zh (fT (fun j=>!((es.getD j zE).1.toList==en.toList)) k m hmk)
          have HV:=zh (show (!((es.getD m zE).1.toList==en.toList))=true->∀ j,j<m+1->(!((es.getD j zE).1.toList==en.toList))=true from fun h j hj=>by
           by_cases e:j=m
           .subst e;exact h
           .exact HM.out j (by omega))
          generalize (es.getD m zE).1=sm at *;cases hq:(sm.toList==en.toList)
          .go_wp2_with fail
           go_quiet (fail)
           go_wp2
           go_roundw
           .exact ⟨m+1,by omega,by go_num,zh (HV.o (by rw [hq];rfl)),below_drewN hBx nq,kwx.bw (below_drewN brf nq),kEx.bw (below_drewN brf nq)⟩
           .simp [qf,intOf];omega
          .go_wp2_with fail
           go_quiet (fail)
           go_wp2;go_ret;exact ⟨aA (by rw [HR.o];exact (HZ.o (by rw [HX.o,HY.o (by rw [hq];rfl)];simp)).symm),below_drewN hBx nq⟩
         .have HXX:=zh (fA (fun j=>!((es.getD j zE).1.toList==en.toList)) k (fun j hj=>HM.out j (by omega)));go_wp2
          go_roundw
          .exact ⟨k+1,by omega,by go_num,zh (HG.o (by rw [HE1.o,HX.o,HXX.o];rfl)),hBx,kwx⟩
          .simp [qf,intOf];omega
   .have HE:=zh (fA (fun i=>ex1 tn bn bl (es.getD i zE)&&exn es i) n (fun j hj=>HJ.out j (by omega)));go_wp2;go_ret;exact ⟨aA (by rw [HR.o];exact HE.o.symm),hB⟩
structure MD (w:qw)(nm:ByteArray)(ta:qO)(tn tc:Nat)(tz:qi)(ba:qO)(bn bc:Nat)(bl:List Bk)(da:qO)(dn dc:Nat)(dz:qi)(bss:Int)(ra:qO)(rn rc:Nat)(rz:qi)(ia:qO)(im ic:Nat)(ss:List ByteArray)(ea:qO)(en ec:Nat)(es:List Ex):Prop where
 n:nm.size<=1048576
 t:IS w ta tn tc tz
 b:BKS w ba bn bc bl
 d:BS w da dn dc dz
 s:wfi bss
 r:IS w ra rn rc rz
 i:SS w ia im ic ss
 e:ES w ea en ec es
theorem MD.bw {w w':qw}{tz:qi}{dz:qi}{rz:qi}{ss:List ByteArray}{es:List Ex}
 (h:MD w nm ta tn tc tz ba bn bc bl da dn dc dz bss ra rn rc rz ia im ic ss ea en ec es) (hb:qY w w'):MD w' nm ta tn tc tz ba bn bc bl da dn dc dz bss ra rn rc rz ia im ic ss ea en ec es:=
 ⟨h.n,h.t.bw hb,h.b.bw hb,h.d.bw hb,h.s,h.r.bw hb,h.i.bw hb,h.e.bw hb⟩
def mdo (nm:ByteArray)(tn:Nat)(tz:qi)(bn:Nat)(bl:List Bk)(dn:Nat)(bss:Int)(rn:Nat)(rz:qi)(im:Nat)(ss:List ByteArray)(en:Nat)(es:List Ex):Int:=
 if nmo nm=false then 1 else if cdo tn tz bn bl=false then 2 else if 512<dn\/bss<0\/512<bss then 3 else if rlo rn rz dn=false then 4 else if imo im ss=false then 5 else if exo tn bn bl en es=false then 6 else 0
theorem vW (nm:ByteArray)(ta:qO)(tn tc:Nat)(tz:qi)(ba:qO)(bn bc:Nat)(bl:List Bk)(da:qO)(dn dc:Nat)(dz:qi)(bss:Int)(ra:qO)(rn rc:Nat)(rz:qi)(ia:qO)(im ic:Nat)(ss:List ByteArray)(ea:qO)(en ec:Nat)(es:List Ex)(w:qw)
 (h:MD w nm ta tn tc tz ba bn bc bl da dn dc dz bss ra rn rc rz ia im ic ss ea en ec es):
 qC 181 #[.agg (qM nm ta tn tc ba bn bc da dn dc bss ra rn rc ia im ic ea en ec)] w (qB w (qI (mdo nm tn tz bn bl dn bss rn rz im ss en es))):=by
 obtain ⟨W,hW,hB0,kb⟩:=nwb w (qM nm ta tn tc ba bn bc da dn dc bss ra rn rc ia im ic ea en ec) 138;obtain ⟨r,hr⟩:=eqx (mdo nm tn tz bn bl dn bss rn rz im ss en es);rw [<- hr];unfold mdo at hr;have HRR:=zh hr;clear hr;have H0:=h.bw hB0;have hmd:=h.d.2.1;have hmi:=h.i.2.1;have htn:=h.t.2.1;have HN:=zh (fun w=>fV nm w h.n);have HCd:=zh (fun w ht hb=>aBf nm ta tn tc tz ba bn bc bl (qS da dn dc) (qS ra rn rc) (qS ia im ic) (qS ea en ec) bss w ht hb);have HRl:=zh (fun w h=>tZ nm (qS ta tn tc) (qS ba bn bc) da dn dc bss ra rn rc rz (qS ia im ic) (qS ea en ec) w hmd h);have HEx:=zh (fun w hb h=>rB nm ta tn tc ba bn bc bl (qS da dn dc) (qS ra rn rc) (qS ia im ic) bss ea en ec es w htn hb h);unfold maxLen at hmd hmi;have hsz:=h.i.size;have HFU:=zh (fun k w=>nQ (ss.getD k zS) w (hsz k));obtain ⟨s0,s1⟩:=h.s;clear h hsz htn;have HW:=zh hW;clear hW;generalize nmo nm=a1 at *;generalize cdo tn tz bn bl=a2 at *;generalize rlo rn rz dn=a4 at *;generalize exo tn bn bl en es=a6 at *;obtain ⟨q0,q1,q2,q3,q4,q5,q6,q7⟩:=kb.eight;go_enter func181,ntmps181
 go_wp2_with (first|(rw [<- HW.o])|(go_at_call 170;refine (HN.o _).mono ?_;rintro e w1 ⟨rfl,rfl⟩;cases a1))
 .have e:=zh (show r=1 from by rw [HRR.o];simp);go_ret;exact ⟨aI e.o.symm,hB0⟩
 .refine (HCd.o _ H0.t H0.b).mono ?_;rintro e w2 ⟨rfl,hb2⟩;have kb2:=kb.bw hb2;have H2:=H0.bw hb2;have hB2:=hB0.trans (hb2.mono hB0.size);clear hb2 kb H0 hB0 q0 q1 q2 q3 q4 q5 q6 q7;obtain ⟨q0,q1,q2,q3,q4,q5,q6,q7⟩:=kb2.eight;cases a2
  .have e:=zh (show r=2 from by rw [HRR.o];simp);go_wp2;go_ret;exact ⟨aI e.o.symm,hB2⟩
  .by_cases c1:512<dn
   .have e:=zh (show r=3 from by rw [HRR.o];simp [c1]);have c1':(512:Int)<(dn:Int):=by omega
    go_wp2;go_ret;exact ⟨aI e.o.symm,hB2⟩
   .have c1':¬ (512:Int)<(dn:Int):=by omega
    by_cases c2:bss<0
    .have e:=zh (show r=3 from by rw [HRR.o];simp [c2]);go_wp2;go_ret;exact ⟨aI e.o.symm,hB2⟩
    .by_cases c3:512<bss
     .have e:=zh (show r=3 from by rw [HRR.o];simp [c3]);go_wp2;go_ret;exact ⟨aI e.o.symm,hB2⟩
     .have HR2:=zh (show r=if a4=false then 4 else if imo im ss=false then 5 else if a6=false then 6 else 0 from by
       rw [HRR.o]
       simp only [Bool.true_eq_false,if_false,show ¬ (512<dn\/bss<0\/512<bss) by omega])
      clear HRR;go_wp2_with fail
      refine (HRl.o _ H2.r).mono ?_;rintro e w3 ⟨rfl,hb3⟩;have kb3:=kb2.bw hb3;have H3:=H2.bw hb3;have hB3:=hB2.trans (hb3.mono hB2.size);clear hb3 kb2 H2 hB2 q0 q1 q2 q3 q4 q5 q6 q7;obtain ⟨q0,q1,q2,q3,q4,q5,q6,q7⟩:=kb3.eight;cases a4
      .have e:=zh (show r=4 from by rw [HR2.o];simp);go_wp2;go_ret;exact ⟨aI e.o.symm,hB3⟩
      .by_cases d1:16<im
       .have e:=zh (show r=5 from by rw [HR2.o,show imo im ss=false by unfold imo;rw [xS (by omega)];rfl];simp);have d1':(16:Int)<(im:Int):=by omega
        go_wp2;go_ret;exact ⟨aI e.o.symm,hB3⟩
       .have d1':¬ (16:Int)<(im:Int):=by omega
        have HIM:=zh (show imo im ss=(List.range im).all (fun k=>fG (ss.getD k zS)) from by unfold imo;rw [xR (by omega)];rfl);go_wp2_with fail
        go_loop [3] (fun i=>∃ k:Nat,k<=im/\i=qI k/\Hid (∀ j,j<k->fG (ss.getD j zS)=true)) (fun i=>im-(intOf i).toNat)
        .exact ⟨0,xC _,rfl,zh (fun j hj=>by omega)⟩
        .obtain ⟨k,hk,rfl,HJ⟩:=hrel;by_cases hlt:k<im
         .have hlt':(k:Int)<(im:Int):=by omega
          obtain ⟨bb,off,rfl⟩:=H3.i.addr (by omega);have hck:=H3.i.at k hlt;have HZ:=zh (fT (fun k=>fG (ss.getD k zS)) im k hlt)
          have HG:=zh (show fG (ss.getD k zS)=true->∀ j,j<k+1->fG (ss.getD j zS)=true from fun h j hj=>by
           by_cases e:j=k
           .subst e;exact h
           .exact HJ.out j (by omega))
          have HF:=zh (HFU.o k);generalize ss.getD k zS=s at *;cases hf:fG s
          .rw [hf] at HF;have e:=zh (show r=5 from by rw [HR2.o,HIM.o,HZ.o hf];simp);go_wp2_with (go_at_call 113;refine (HF.o _).mono ?_;rintro e w4 ⟨rfl,rfl⟩)
           go_ret;exact ⟨aI e.o.symm,hB3⟩
          .rw [hf] at HF;go_wp2_with (go_at_call 113;refine (HF.o _).mono ?_;rintro e w4 ⟨rfl,rfl⟩)
           go_round
           .exact ⟨k+1,by omega,by go_num,zh (HG.o hf)⟩
           .simp [intOf];omega
         .have HI:=zh (show imo im ss=true from by rw [HIM.o];exact fA (fun k=>fG (ss.getD k zS)) im (fun j hj=>HJ.out j (by omega)));go_wp2_with fail
          refine (HEx.o _ H3.b H3.e).mono ?_;rintro e w5 ⟨rfl,hb5⟩;have hB5:=hB3.trans (hb5.mono hB3.size);cases a6
          .have e:=zh (show r=6 from by rw [HR2.o,HI.o];simp);go_wp2;go_ret;exact ⟨aI e.o.symm,hB5⟩
          .have e:=zh (show r=0 from by rw [HR2.o,HI.o];simp);go_wp2;go_ret;exact ⟨aI e.o.symm,hB5⟩
def upS (f:Nat->Nat):Nat->Nat
 | 0=>0
 | k+1=>upS f k+f k
theorem eX (f:Nat->Nat)(k:Nat):∀ m,k<=m->upS f k<=upS f m
 | 0,h=>by
    obtain rfl:k=0:=by omega
    exact aN
 | m+1,h=>by
   by_cases e:k=m+1
   .subst e;exact aN
   .have:=eX f k m (by omega);show _<=upS f m+f m;omega
def szR (l:Int)(t:Nat):Int:=if l<(t:Int) then -1 else l-t
theorem aCf (a:qO)(n cap:Nat)(bl:List Bk)(l:Int)(w:qw)(h:BKS w a n cap bl)(l0:0<=l)(l1:l<=1048576):
 qC 135 #[qS a n cap,qI l] w fun e w'=>e=.returned (qI (szR l (n+upS (fun j=>(bl.getD j zB).2.1) n)))/\w=w':=by
 have hm:=h.2.1;unfold maxLen at hm;obtain ⟨r,hr⟩:=eqx (szR l (n+upS (fun j=>(bl.getD j zB).2.1) n));rw [<- hr];unfold szR at hr;have HR:=zh hr;clear hr;by_cases c1:l<(n:Int)
 .have e:=zh (show r=-1 from by rw [HR.o,if_pos (by omega)]);go_enter func135,ntmps135
  go_wp2;go_ret;exact ⟨aI e.o.symm,rfl⟩
 .go_enter func135,ntmps135
  go_wp2_with fail
  go_loop [1,5] (fun v i=>∃ (k:Nat) (z:Int),k<=n/\i=qI k/\v=qI z/\0<=z/\z<=1048576/\Hid (z=l-n-(upS (fun j=>(bl.getD j zB).2.1) k:Nat))) (fun _ i=>n-(intOf i).toNat)
  .exact ⟨0,l-n,xC _,rfl,rfl,by omega,by omega,zh (by simp [upS])⟩
  .obtain ⟨k,z,hk,rfl,rfl,z0,z1,HZ⟩:=hrel;by_cases hlt:k<n
   .have hlt':(k:Int)<(n:Int):=by omega
    obtain ⟨b,off,rfl⟩:=h.addr (by omega);have hck:=h.at k hlt;have hik:=h.2.2.2.1 k hlt;have hmx:=hik.2.1;have HS:=zh (fun w=>gA (bl.getD k zB).1 (bl.getD k zB).2.1 (bl.getD k zB).2.2.1 z w z0 z1 hmx);have HU:Zh (upS (fun j=>(bl.getD j zB).2.1) (k+1)=upS (fun j=>(bl.getD j zB).2.1) k+(bl.getD k zB).2.1):=rfl;have HM:=zh (eX (fun j=>(bl.getD j zB).2.1) (k+1) n (by omega));clear hik;generalize (bl.getD k zB).1=xa at *;generalize hxn:(bl.getD k zB).2.1=xn at *;generalize (bl.getD k zB).2.2.1=xc at *;by_cases c2:z<(xn:Int)
    .rw [if_pos c2] at HS
     have e:=zh (show r=-1 from by
      have h1:=HZ.out;have h2:=HU.o;have h3:=HM.o
      rw [HR.o,if_pos (by omega)])
     go_wp2_with (go_at_call 72;refine (HS.o _).mono ?_;rintro e w1 ⟨rfl,rfl⟩)
     go_ret;exact ⟨aI e.o.symm,rfl⟩
    .rw [if_neg c2] at HS;have hz2:¬ z-(xn:Int)<0:=by omega
     go_wp2_with (go_at_call 72;refine (HS.o _).mono ?_;rintro e w1 ⟨rfl,rfl⟩)
     go_round
     .exact ⟨k+1,z-xn,by omega,by go_num,rfl,by omega,by omega,zh (by have h1:=HZ.out;have h2:=HU.o;omega)⟩
     .simp [intOf];omega
   .have e:=zh (show r=z from by
     have h1:=HZ.out;have hkn:k=n:=by omega
     rw [hkn] at h1;rw [HR.o,if_neg (by omega)]
     omega)
    go_wp2;go_ret;exact ⟨aI e.o.symm,rfl⟩
def TS (w:qw)(a:qO)(n cap:Nat)(ss:List ByteArray):Prop:=
 ss.length=n/\n<=maxLen/\(∀ i,(ss.getD i zS).size<=maxLen)/\(n≠0->∃ b off,a=some (qR b off)/\∀ i,i<n->w.cell? (qR b (off+i))=some (.string (ss.getD i zS)))/\n<=cap
theorem TS.bw {w w':qw}{ss:List ByteArray}(h:TS w a n cap ss)(hb:qY w w'):TS w' a n cap ss:=by
 obtain ⟨h1,h2,h3,h4,h5⟩:=h;refine ⟨h1,h2,h3,fun hn=>?_,h5⟩;obtain ⟨b,off,e,hc⟩:=h4 hn;exact ⟨b,off,e,fun i hi=>(hb.cell (xD w _ (hc i hi))).trans (hc i hi)⟩
theorem TS.at {w:qw}{ss:List ByteArray}(h:TS w a n cap ss)(i:Nat)(hi:i<n):∃ b off,a=some (qR b off)/\w.cell? (qR b (off+i))=some (.string (ss.getD i zS)):=by
 obtain ⟨b,off,e,hc⟩:=h.2.2.2.1 (by omega);exact ⟨b,off,e,hc i hi⟩
theorem TS.ss {w:qw}{a:qO}{n cap:Nat}{ss:List ByteArray}(h:TS w a n cap ss)(hs:upS (fun j=>(ss.getD j zS).size) n<=1048576):SS w a n cap ss:=by
 refine ⟨h.1,h.2.1,fun s hm=>?_,h.2.2.2.1,h.2.2.2.2⟩;obtain ⟨i,hi,rfl⟩:=List.getElem_of_mem hm;have h1:=eX (fun j=>(ss.getD j zS).size) (i+1) n (by have:=h.1;omega);have h2:upS (fun j=>(ss.getD j zS).size) (i+1)=upS (fun j=>(ss.getD j zS).size) i+(ss.getD i zS).size:=rfl;have h3:(ss.getD i zS).size=ss[i].size:=by simp [xB,hi]
 omega
theorem vP (a:qO)(n cap:Nat)(ss:List ByteArray)(l:Int)(w:qw)(h:TS w a n cap ss)(l0:0<=l)(l1:l<=1048576):
 qC 136 #[qS a n cap,qI l] w fun e w'=>e=.returned (qI (szR l (n+upS (fun j=>(ss.getD j zS).size) n)))/\w=w':=by
 have hm:=h.2.1;unfold maxLen at hm;obtain ⟨r,hr⟩:=eqx (szR l (n+upS (fun j=>(ss.getD j zS).size) n));rw [<- hr];unfold szR at hr;have HR:=zh hr;clear hr;by_cases c1:l<(n:Int)
 .have e:=zh (show r=-1 from by rw [HR.o,if_pos (by omega)]);go_enter func136,ntmps136
  go_wp2;go_ret;exact ⟨aI e.o.symm,rfl⟩
 .go_enter func136,ntmps136
  go_wp2_with fail
  go_loop [1,5] (fun v i=>∃ (k:Nat) (z:Int),k<=n/\i=qI k/\v=qI z/\0<=z/\z<=1048576/\Hid (z=l-n-(upS (fun j=>(ss.getD j zS).size) k:Nat))) (fun _ i=>n-(intOf i).toNat)
  .exact ⟨0,l-n,xC _,rfl,rfl,by omega,by omega,zh (by simp [upS])⟩
  .obtain ⟨k,z,hk,rfl,rfl,z0,z1,HZ⟩:=hrel;by_cases hlt:k<n
   .have hlt':(k:Int)<(n:Int):=by omega
    obtain ⟨b,off,rfl,hck⟩:=h.at k hlt;have hmx:=h.2.2.1 k;unfold maxLen at hmx;have HU:Zh (upS (fun j=>(ss.getD j zS).size) (k+1)=upS (fun j=>(ss.getD j zS).size) k+(ss.getD k zS).size):=rfl;have HM:=zh (eX (fun j=>(ss.getD j zS).size) (k+1) n (by omega));generalize ss.getD k zS=s at *;by_cases c2:z<(s.size:Int)
    .have c2':z-(s.size:Int)<0:=by omega
     have e:=zh (show r=-1 from by
      have h1:=HZ.out;have h2:=HU.o;have h3:=HM.o
      rw [HR.o,if_pos (by omega)])
     go_wp2;go_ret;exact ⟨aI e.o.symm,rfl⟩
    .have c2':¬ z-(s.size:Int)<0:=by omega
     go_wp2
     go_round
     .exact ⟨k+1,z-s.size,by omega,by go_num,rfl,by omega,by omega,zh (by have h1:=HZ.out;have h2:=HU.o;omega)⟩
     .simp [intOf];omega
   .have e:=zh (show r=z from by
     have h1:=HZ.out;have hkn:k=n:=by omega
     rw [hkn] at h1;rw [HR.o,if_neg (by omega)]
     omega)
    go_wp2;go_ret;exact ⟨aI e.o.symm,rfl⟩
def TE (w:qw)(a:qO)(n cap:Nat)(es:List Ex):Prop:=
 es.length=n/\n<=maxLen/\(∀ i,(es.getD i zE).1.size<=maxLen)/\(n≠0->∃ b off,a=some (qR b off)/\∀ i,i<n->w.cell? (qR b (off+i*3))=some (.string (es.getD i zE).1)/\w.cell? (qR b (off+i*3+1))=some (qI (es.getD i zE).2.1)/\w.cell? (qR b (off+i*3+2))=some (qI (es.getD i zE).2.2))/\n<=cap
theorem TE.bw {w w':qw}{es:List Ex}(h:TE w a n cap es)(hb:qY w w'):TE w' a n cap es:=by
 obtain ⟨h1,h2,h3,h4,h5⟩:=h;refine ⟨h1,h2,h3,fun hn=>?_,h5⟩;obtain ⟨b,off,e,hc⟩:=h4 hn;have key:∀ o v,w.cell? (qR b o)=some v->w'.cell? (qR b o)=some v:=fun o v hv=>(hb.cell (xD w _ hv)).trans hv;exact ⟨b,off,e,fun i hi=>⟨key _ _ (hc i hi).1,key _ _ (hc i hi).2.1,key _ _ (hc i hi).2.2⟩⟩
theorem TE.at {w:qw}{es:List Ex}(h:TE w a n cap es)(i:Nat)(hi:i<n):∃ b off,a=some (qR b off)/\w.cell? (qR b (off+i*3))=some (.string (es.getD i zE).1)/\w.cell? (qR b (off+i*3+1))=some (qI (es.getD i zE).2.1)/\w.cell? (qR b (off+i*3+2))=some (qI (es.getD i zE).2.2):=by
 obtain ⟨b,off,e,hc⟩:=h.2.2.2.1 (by omega);exact ⟨b,off,e,hc i hi⟩
theorem TE.es {w:qw}{a:qO}{n cap:Nat}{es:List Ex}(h:TE w a n cap es)(hs:upS (fun j=>(es.getD j zE).1.size) n<=1048576):ES w a n cap es:=by
 refine ⟨h.1,h.2.1,fun s hm=>?_,h.2.2.2.1,h.2.2.2.2⟩;obtain ⟨i,hi,rfl⟩:=List.getElem_of_mem hm;have h1:=eX (fun j=>(es.getD j zE).1.size) (i+1) n (by have:=h.1;omega);have h2:upS (fun j=>(es.getD j zE).1.size) (i+1)=upS (fun j=>(es.getD j zE).1.size) i+(es.getD i zE).1.size:=rfl;have h3:(es.getD i zE).1.size=es[i].1.size:=by simp [xB,hi]
 omega
theorem aAf (s:ByteArray)(b i l:Int)(w:qw)(hs:s.size<=maxLen)(l0:0<=l)(l1:l<=1048576):
 qC 179 #[.agg #[.string s,qI b,qI i],qI l] w (qB w (qI (szR l s.size))):=by
 unfold maxLen at hs;have HB:=zh ((Below.refl w.heap.size w).alloc aN (.cells #[.string s,qI b,qI i] 218));obtain ⟨r,hr⟩:=eqx (szR l s.size);rw [<- hr];unfold szR at hr;have HR:=zh hr;clear hr;by_cases c:l<(s.size:Int)
 .have e:=zh (show r=-1 by rw [HR.o,if_pos c]);have c':l-(s.size:Int)<0:=by omega
  go_enter func179,ntmps179
  go_wp2;go_ret;exact ⟨aI e.o.symm,HB.o⟩
 .have e:=zh (show r=l-s.size by rw [HR.o,if_neg c]);have c':¬ l-(s.size:Int)<0:=by omega
  go_enter func179,ntmps179
  go_wp2;go_ret;exact ⟨aI e.o.symm,HB.o⟩
theorem vS (a:qO)(n cap:Nat)(es:List Ex)(l:Int)(w:qw)(h:TE w a n cap es)(l0:0<=l)(l1:l<=1048576):
 qC 137 #[qS a n cap,qI l] w fun e w'=>e=.returned (qI (szR l (n+upS (fun j=>(es.getD j zE).1.size) n)))/\qY w w':=by
 have hm:=h.2.1;unfold maxLen at hm;obtain ⟨r,hr⟩:=eqx (szR l (n+upS (fun j=>(es.getD j zE).1.size) n));rw [<- hr];unfold szR at hr;have HR:=zh hr;clear hr;by_cases c1:l<(n:Int)
 .have e:=zh (show r=-1 from by rw [HR.o,if_pos (by omega)]);go_enter func137,ntmps137
  go_wp2;go_ret;exact ⟨aI e.o.symm,brf⟩
 .go_enter func137,ntmps137
  go_wp2_with fail
  go_loopw [1,5] (fun v i wr=>∃ (k:Nat) (z:Int),k<=n/\i=qI k/\v=qI z/\0<=z/\z<=1048576/\Hid (z=l-n-(upS (fun j=>(es.getD j zE).1.size) k:Nat))/\qY w wr) (fun _ i _=>n-(intOf i).toNat)
  .exact ⟨0,l-n,xC _,rfl,rfl,by omega,by omega,zh (by simp [upS]),brf⟩
  .obtain ⟨k,z,hk,rfl,rfl,z0,z1,HZ,hB⟩:=hrel;by_cases hlt:k<n
   .have hlt':(k:Int)<(n:Int):=by omega
    obtain ⟨b,off,rfl,y1,y2,y3⟩:=(h.bw hB).at k hlt;have HS:=zh (fun w=>aAf (es.getD k zE).1 (es.getD k zE).2.1 (es.getD k zE).2.2 z w (h.2.2.1 k) z0 z1);have HU:Zh (upS (fun j=>(es.getD j zE).1.size) (k+1)=upS (fun j=>(es.getD j zE).1.size) k+(es.getD k zE).1.size):=rfl;have HM:=zh (eX (fun j=>(es.getD j zE).1.size) (k+1) n (by omega));generalize es.getD k zE=E at *;obtain ⟨s,eb,ei⟩:=E;dsimp only at y1 y2 y3 HS HU;unfold szR at HS;by_cases c2:z<(s.size:Int)
    .rw [if_pos c2] at HS
     have e:=zh (show r=-1 from by
      have h1:=HZ.out;have h2:=HU.o;have h3:=HM.o
      rw [HR.o,if_pos (by omega)])
     go_wp2_with fail
     refine (HS.o _).mono ?_;rintro e w1 ⟨rfl,hb1⟩;go_wp2;go_ret;exact ⟨aI e.o.symm,hB.trans (hb1.mono hB.size)⟩
    .rw [if_neg c2] at HS;have hz2:¬ z-(s.size:Int)<0:=by omega
     go_wp2_with fail
     refine (HS.o _).mono ?_;rintro e w1 ⟨rfl,hb1⟩;go_wp2
     go_roundw
     .exact ⟨k+1,z-s.size,by omega,by go_num,rfl,by omega,by omega,zh (by have h1:=HZ.out;have h2:=HU.o;omega),hB.trans (hb1.mono hB.size)⟩
     .simp [intOf];omega
   .have e:=zh (show r=z from by
     have h1:=HZ.out;have hkn:k=n:=by omega
     rw [hkn] at h1;rw [HR.o,if_neg (by omega)]
     omega)
    go_wp2;go_ret;exact ⟨aI e.o.symm,hB⟩
theorem kH (a:qO)(n cap:Nat)(l:Int)(w:qw)(h0:0<=l)(h1:l<=1048576)(hn:n<=maxLen):
 qC 73 #[qS a n cap,qI l] w fun e w'=>e=.returned (qI (if l<n then -1 else l-n))/\w'=w:=by
 unfold maxLen at hn;by_cases h:l<n
 .go_enter func73,ntmps73
  go_wp2;go_ret;exact ⟨rfl,rfl⟩
 .go_enter func73,ntmps73
  go_wp2;go_ret;exact ⟨rfl,rfl⟩
theorem gL (a:qO)(n cap:Nat)(zs:qi)(w:qw)(h:BS w a n cap zs)(hn:n<=1048576:=by omega):
 qC 87 #[qS a n cap] w fun e w'=>e=.returned (qS (qP w.heap.size) n n)/\Row8 w' w.heap.size zs/\qY w w':=by
 obtain ⟨i0,hi,hz0,hz1,hz2⟩:=info_parts zC;obtain ⟨hl,hmx,hr,hc,_⟩:=h;by_cases hn0:n=0
 .subst hn0;obtain rfl:zs=[]:=xE hl;clear hc;go_enter func87,ntmps87
  go_wp2_with (at_make;refine wpList_make_full _ rfl _ _ 28 rfl w.heap.size 5 i0 (.int .u8 0) 1 underlying28 hi hz0 hz1 .i64 .i64 _ _ 0 rfl rfl rfl rfl (by omega) (by unfold maxLen;omega) aN ?_;intro w1 hown hgr)
  have hrow:=pO hown;have hbel:=aW hgr;clear hown hgr;go_loop [4] (fun i=>i=qI 0) (fun _=>0)
  .rfl
  .obtain rfl:=hrel;go_wp2;go_ret;exact ⟨rfl,hrow,hbel⟩
 .obtain ⟨b,off,rfl,hd⟩:=hc hn0;clear hc;go_enter func87,ntmps87
  go_wp2_with (at_make;refine wpList_make_full _ rfl _ _ 28 rfl w.heap.size 5 i0 (.int .u8 0) 1 underlying28 hi hz0 hz1 .i64 .i64 _ _ n rfl rfl rfl rfl (by rw [hz2];omega) (by unfold maxLen;omega) aN ?_;intro w1 hown hgr)
  have hrow:=pO hown;have hbel:=aW hgr;clear hown hgr hi hz0 hz1 hz2;go_loopw [4] (fun i wr=>∃ k:Nat,k<=n/\i=qI k/\Row8 wr w.heap.size (mid zs k)/\qY w wr) (qf n)
  .exact ⟨0,xC _,rfl,by rw [tK,hl];exact hrow,hbel⟩
  .obtain ⟨k,hk,rfl,hR,hB⟩:=hrel;clear hrow hbel;by_cases hlt:k<n
   .have hlt':(k:Int)<(n:Int):=by omega
    have hck:wr.cell? (qR b (off+k))=some (.int .u8 (zs.getD k 0)):=(hB.cell (xD w _ (hd k hlt))).trans (hd k hlt);have hgk:wr.cell? (qR w.heap.size k)=some (.int .u8 ((mid zs k).getD k 0)):=hR.cell k (by rw [aA7];omega);have hfk:wr.frozen? (qR w.heap.size k)=false:=hR.frozen k;have R':=hR.set k (zs.getD k 0);rw [aA6 zs k (by omega)] at R';have B':qY w (wr.setCell (qR w.heap.size k) (.int .u8 (zs.getD k 0))):=hB.setCell aN _;have HR:=R';have HB:=B';generalize zs.getD k 0=z at *;generalize (mid zs k).getD k 0=z0 at *;clear hd hR hB;go_wp2
    go_roundw
    .exact ⟨k+1,by omega,by go_num,HR,HB⟩
    .simp [qf,intOf];omega
   .have e:Zh (k=n):=by show k=n;omega
    go_wp2;go_ret;exact ⟨rfl,by rw [e.o,<- hl,aA8] at hR;exact hR,hB⟩
structure MT (w:qw)(nm:ByteArray)(ta:qO)(tn tc:Nat)(tz:qi)(ba:qO)(bn bc:Nat)(bl:List Bk)(da:qO)(dn dc:Nat)(dz:qi)(bss:Int)(ra:qO)(rn rc:Nat)(rz:qi)(ia:qO)(im ic:Nat)(ss:List ByteArray)(ea:qO)(en ec:Nat)(es:List Ex):Prop where
 n:nm.size<=maxLen
 t:IS w ta tn tc tz
 b:BKS w ba bn bc bl
 d:BS w da dn dc dz
 s:wfi bss
 r:IS w ra rn rc rz
 i:TS w ia im ic ss
 e:TE w ea en ec es
theorem MT.bw {w w':qw}{tz:qi}{dz:qi}{rz:qi}{ss:List ByteArray}{es:List Ex}(h:MT w nm ta tn tc tz ba bn bc bl da dn dc dz bss ra rn rc rz ia im ic ss ea en ec es)(hb:qY w w'):MT w' nm ta tn tc tz ba bn bc bl da dn dc dz bss ra rn rc rz ia im ic ss ea en ec es:=
 ⟨h.n,h.t.bw hb,h.b.bw hb,h.d.bw hb,h.s,h.r.bw hb,h.i.bw hb,h.e.bw hb⟩
def cT (nm:ByteArray)(tn bn:Nat)(bl:List Bk)(dn rn im:Nat)(ss:List ByteArray)(en:Nat)(es:List Ex):Nat:=
 nm.size+tn+(bn+upS (fun j=>(bl.getD j zB).2.1) bn)+dn+rn+(im+upS (fun j=>(ss.getD j zS).size) im)+(en+upS (fun j=>(es.getD j zE).1.size) en)
theorem aAd (nm:ByteArray)(ta:qO)(tn tc:Nat)(tz:qi)(ba:qO)(bn bc:Nat)(bl:List Bk)(da:qO)(dn dc:Nat)(dz:qi)(bss:Int)(ra:qO)(rn rc:Nat)(rz:qi)(ia:qO)(im ic:Nat)(ss:List ByteArray)(ea:qO)(en ec:Nat)(es:List Ex)(l:Int)(w:qw)(h:MT w nm ta tn tc tz ba bn bc bl da dn dc dz bss ra rn rc rz ia im ic ss ea en ec es)(l0:0<=l)(l1:l<=1048576):
 qC 71 #[.agg (qM nm ta tn tc ba bn bc da dn dc bss ra rn rc ia im ic ea en ec),qI l] w (qB w (qI (szR l (cT nm tn bn bl dn rn im ss en es)))):=by
 obtain ⟨W,hW,hB0,kb⟩:=nwb w (qM nm ta tn tc ba bn bc da dn dc bss ra rn rc ia im ic ea en ec) 118;obtain ⟨q0,q1,q2,q3,q4,q5,q6,q7⟩:=kb.eight;have HW:=zh hW;clear hW;obtain ⟨r,hr⟩:=eqx (szR l (cT nm tn bn bl dn rn im ss en es));rw [<- hr];unfold szR cT at hr;have HR:=zh hr;clear hr;have H0:=h.bw hB0;have hns:=h.n;unfold maxLen at hns;by_cases c0:l<(nm.size:Int)
 .have e:=zh (show r=-1 from by rw [HR.o,if_pos (by omega)]);have c0':l-(nm.size:Int)<0:=by omega
  go_enter func71,ntmps71
  go_wp2_with (rw [<- HW.o])
  go_ret;exact ⟨aI e.o.symm,hB0⟩
 .have c0':¬ l-(nm.size:Int)<0:=by omega
  obtain ⟨z0,hz0⟩:∃ z:Int,z=l-nm.size:=⟨_,rfl⟩;have g0:0<=z0:=by omega
  have g0':z0<=1048576:=by omega
  go_enter func71,ntmps71
  go_wp2_with (rw [<- HW.o])
  rw [<- hz0];have HZ0:=zh hz0;clear hz0;have HS0:=zh (fun w=>gA ta tn tc z0 w g0 g0' h.t.2.1);by_cases k0:z0<((tn:Nat):Int)
  .rw [if_pos k0] at HS0;have e:=zh (show r=-1 from by have h1:=HZ0.o;rw [HR.o,if_pos (by omega)]);refine (HS0.o _).mono ?_;rintro e w1 ⟨rfl,rfl⟩;go_wp2;go_ret;exact ⟨aI e.o.symm,hB0⟩
  .rw [if_neg k0] at HS0;obtain ⟨z1,hz⟩:∃ z:Int,z=z0-((tn:Nat):Int):=⟨_,rfl⟩;rw [<- hz] at HS0;have g1:0<=z1:=by omega
   have g1':z1<=1048576:=by omega
   have HZ1:Zh (z1=l-nm.size-((tn:Nat):Int)):=by have h1:=HZ0.o;show _=_;omega
   clear hz;refine (HS0.o _).mono ?_;rintro e w1 ⟨rfl,rfl⟩;have ng0:¬ z1<0:=by omega
   go_wp2_with fail
   have HS1:=zh (fun w hb=>aCf ba bn bc bl z1 w hb g1 g1');unfold szR at HS1;by_cases k1:z1<(((bn+upS (fun j=>(bl.getD j zB).2.1) bn):Nat):Int)
   .rw [if_pos k1] at HS1;have e:=zh (show r=-1 from by have h1:=HZ1.o;rw [HR.o,if_pos (by omega)]);refine (HS1.o _ H0.b).mono ?_;rintro e w1 ⟨rfl,rfl⟩;go_wp2;go_ret;exact ⟨aI e.o.symm,hB0⟩
   .rw [if_neg k1] at HS1;obtain ⟨z2,hz⟩:∃ z:Int,z=z1-(((bn+upS (fun j=>(bl.getD j zB).2.1) bn):Nat):Int):=⟨_,rfl⟩;rw [<- hz] at HS1;have g2:0<=z2:=by omega
    have g2':z2<=1048576:=by omega
    have HZ2:Zh (z2=l-nm.size-((tn:Nat):Int)-(((bn+upS (fun j=>(bl.getD j zB).2.1) bn):Nat):Int)):=by have h1:=HZ1.o;show _=_;omega
    clear hz;refine (HS1.o _ H0.b).mono ?_;rintro e w1 ⟨rfl,rfl⟩;have ng1:¬ z2<0:=by omega
    go_wp2_with fail
    have HS2:=zh (fun w=>kH da dn dc z2 w g2 g2' h.d.2.1);by_cases k2:z2<((dn:Nat):Int)
    .rw [if_pos k2] at HS2;have e:=zh (show r=-1 from by have h1:=HZ2.o;rw [HR.o,if_pos (by omega)]);refine (HS2.o _).mono ?_;rintro e w1 ⟨rfl,rfl⟩;go_wp2;go_ret;exact ⟨aI e.o.symm,hB0⟩
    .rw [if_neg k2] at HS2;obtain ⟨z3,hz⟩:∃ z:Int,z=z2-((dn:Nat):Int):=⟨_,rfl⟩;rw [<- hz] at HS2;have g3:0<=z3:=by omega
     have g3':z3<=1048576:=by omega
     have HZ3:Zh (z3=l-nm.size-((tn:Nat):Int)-(((bn+upS (fun j=>(bl.getD j zB).2.1) bn):Nat):Int)-((dn:Nat):Int)):=by have h1:=HZ2.o;show _=_;omega
     clear hz;refine (HS2.o _).mono ?_;rintro e w1 ⟨rfl,rfl⟩;have ng2:¬ z3<0:=by omega
     go_wp2_with fail
     have HS3:=zh (fun w=>gA ra rn rc z3 w g3 g3' h.r.2.1);by_cases k3:z3<((rn:Nat):Int)
     .rw [if_pos k3] at HS3;have e:=zh (show r=-1 from by have h1:=HZ3.o;rw [HR.o,if_pos (by omega)]);refine (HS3.o _).mono ?_;rintro e w1 ⟨rfl,rfl⟩;go_wp2;go_ret;exact ⟨aI e.o.symm,hB0⟩
     .rw [if_neg k3] at HS3;obtain ⟨z4,hz⟩:∃ z:Int,z=z3-((rn:Nat):Int):=⟨_,rfl⟩;rw [<- hz] at HS3;have g4:0<=z4:=by omega
      have g4':z4<=1048576:=by omega
      have HZ4:Zh (z4=l-nm.size-((tn:Nat):Int)-(((bn+upS (fun j=>(bl.getD j zB).2.1) bn):Nat):Int)-((dn:Nat):Int)-((rn:Nat):Int)):=by have h1:=HZ3.o;show _=_;omega
      clear hz;refine (HS3.o _).mono ?_;rintro e w1 ⟨rfl,rfl⟩;have ng3:¬ z4<0:=by omega
      go_wp2_with fail
      have HS4:=zh (fun w hb=>vP ia im ic ss z4 w hb g4 g4');unfold szR at HS4;by_cases k4:z4<(((im+upS (fun j=>(ss.getD j zS).size) im):Nat):Int)
      .rw [if_pos k4] at HS4;have e:=zh (show r=-1 from by have h1:=HZ4.o;rw [HR.o,if_pos (by omega)]);refine (HS4.o _ H0.i).mono ?_;rintro e w1 ⟨rfl,rfl⟩;go_wp2;go_ret;exact ⟨aI e.o.symm,hB0⟩
      .rw [if_neg k4] at HS4;obtain ⟨z5,hz⟩:∃ z:Int,z=z4-(((im+upS (fun j=>(ss.getD j zS).size) im):Nat):Int):=⟨_,rfl⟩;rw [<- hz] at HS4;have g5:0<=z5:=by omega
       have g5':z5<=1048576:=by omega
       have HZ5:Zh (z5=l-nm.size-((tn:Nat):Int)-(((bn+upS (fun j=>(bl.getD j zB).2.1) bn):Nat):Int)-((dn:Nat):Int)-((rn:Nat):Int)-(((im+upS (fun j=>(ss.getD j zS).size) im):Nat):Int)):=by have h1:=HZ4.o;show _=_;omega
       clear hz;refine (HS4.o _ H0.i).mono ?_;rintro e w1 ⟨rfl,rfl⟩;have ng4:¬ z5<0:=by omega
       go_wp2_with fail
       have HS5:=zh (fun w hb=>vS ea en ec es z5 w hb g5 g5');unfold szR at HS5;by_cases k5:z5<(((en+upS (fun j=>(es.getD j zE).1.size) en):Nat):Int)
       .rw [if_pos k5] at HS5;have e:=zh (show r=-1 from by have h1:=HZ5.o;rw [HR.o,if_pos (by omega)]);refine (HS5.o _ H0.e).mono ?_;rintro e w1 ⟨rfl,hbE⟩;go_wp2;go_ret;exact ⟨aI e.o.symm,hB0.trans (hbE.mono hB0.size)⟩
       .rw [if_neg k5] at HS5;obtain ⟨z6,hz⟩:∃ z:Int,z=z5-(((en+upS (fun j=>(es.getD j zE).1.size) en):Nat):Int):=⟨_,rfl⟩;rw [<- hz] at HS5;have g6:0<=z6:=by omega
        have g6':z6<=1048576:=by omega
        have HZ6:Zh (z6=l-nm.size-((tn:Nat):Int)-(((bn+upS (fun j=>(bl.getD j zB).2.1) bn):Nat):Int)-((dn:Nat):Int)-((rn:Nat):Int)-(((im+upS (fun j=>(ss.getD j zS).size) im):Nat):Int)-(((en+upS (fun j=>(es.getD j zE).1.size) en):Nat):Int)):=by have h1:=HZ5.o;show _=_;omega
        clear hz;refine (HS5.o _ H0.e).mono ?_;rintro e w1 ⟨rfl,hbE⟩;have ng5:¬ z6<0:=by omega
        have e:=zh (show r=z6 from by have h1:=HZ6.o;rw [HR.o,if_neg (by omega)];omega);go_wp2;go_ret;exact ⟨aI e.o.symm,hB0.trans (hbE.mono hB0.size)⟩
def RowT (w:qw)(g:Nat)(zs:List ByteArray):Prop:=w.heap[g]?=some (.cells (zs.map (Value.string)).toArray 9 (0,0))
theorem RowT.cell {w:qw}(h:RowT w g zs)(i:Nat)(hi:i<zs.length):w.cell? (qR g i)=some (.string (zs.getD i zS)):=by
 rw [cell_of_row w g i _ _ _ h];simp [xB,hi]
theorem RowT.frozen {w:qw}(h:RowT w g zs)(i:Nat):w.frozen? (qR g i)=false:=frozen_of_row w g i _ _ h
theorem RowT.set {w:qw}(h:RowT w g zs)(i:Nat)(z:ByteArray):RowT (w.setCell (qR g i) (.string z)) g (zs.set i z):=by
 unfold RowT at *;rw [heap_setCell_same w g i _ _ _ h];simp [List.map_set]
theorem RowT.lt {w:qw}(h:RowT w g zs):g<w.heap.size:=by
 unfold RowT at h;by_cases hg:g<w.heap.size
 .exact hg
 .simp [Array.getElem?_eq_none (Nat.le_of_not_lt hg)] at h
theorem aLc:(prog.info? 9).map (fun i=>(i.zero,i.size,i.bytes))=some (some (.string ⟨#[]⟩),1,16):=by kernel_rfl
theorem aQn (n:Nat):(madeCells (Value.cells (.string ⟨#[]⟩)) (n*1))=((List.replicate n zS).map (Value.string)).toArray:=by
 apply Array.ext
 .simp [size_madeCells]
 .intro i h1 h2;simp [madeCells,Value.cells,Nat.mod_one,zS]
theorem nG {w:qw}(h:w.ownsRow base 9 1 (qS (qP g) n n) n (madeCells (Value.cells (.string ⟨#[]⟩)) (n*1)).toList):RowT w g (List.replicate n zS):=by
 obtain ⟨hl,h|⟨g',cap,cur,hv,hb,hh,h1,h2,h3,h4⟩⟩:=h
 .simp at h
 .simp at hv;obtain ⟨rfl,rfl⟩:=hv;unfold RowT;rw [hh]
  have e:cur.toList=(madeCells (Value.cells (.string ⟨#[]⟩)) (n*1)).toList:=by
   rw [<- h4,xG (by simp [h3])]
  have e2:cur=madeCells (Value.cells (.string ⟨#[]⟩)) (n*1):=Array.toList_inj.1 e;rw [e2,aQn]
def mU (zs:List ByteArray)(k:Nat):List ByteArray:=(List.range zs.length).map (fun i=>if i<k then zs.getD i zS else zS)
theorem aKw (zs:List ByteArray)(k:Nat):(mU zs k).length=zs.length:=by simp [mU]
theorem aIm (zs:List ByteArray):mU zs 0=List.replicate zs.length zS:=by
 apply List.ext_getElem
 .simp [mU]
 .intro i h1 h2;simp [mU]
theorem aKx (zs:List ByteArray):mU zs zs.length=zs:=by
 apply List.ext_getElem
 .simp [mU]
 .intro i h1 h2;simp [mU,h2]
theorem aKv (zs:List ByteArray)(k:Nat)(h:k<zs.length):(mU zs k).set k (zs.getD k zS)=mU zs (k+1):=by
 apply List.ext_getElem
 .simp [mU]
 .intro i h1 h2;simp only [mU,List.getElem_set,List.getElem_map,List.getElem_range];by_cases hik:k=i
  .subst hik;simp
  .by_cases h3:i<k
   .simp [hik,h3,show i<k+1 by omega]
   .simp [hik,h3,show ¬ i<k+1 by omega]
theorem vI (a:qO)(n cap:Nat)(zs:List ByteArray)(w:qw)(h:TS w a n cap zs)(hn:n<=1048576):
 qC 151 #[qS a n cap] w fun e w'=>e=.returned (qS (qP w.heap.size) n n)/\RowT w' w.heap.size zs/\qY w w':=by
 obtain ⟨i0,hi,hz0,hz1,hz2⟩:=info_parts aLc;obtain ⟨hl,hmx,hr,hc,_⟩:=h;by_cases hn0:n=0
 .subst hn0;obtain rfl:zs=[]:=xE hl;clear hc;go_enter func151,ntmps151
  go_wp2_with (at_make;refine wpList_make_full _ rfl _ _ 115 rfl w.heap.size 9 i0 (.string ⟨#[]⟩) 1 underlying115 hi hz0 hz1 .i64 .i64 _ _ 0 rfl rfl rfl rfl (by omega) (by unfold maxLen;omega) aN ?_;intro w1 hown hgr)
  have hrow:=nG hown;have hbel:=aW hgr;clear hown hgr;go_loop [4] (fun i=>i=qI 0) (fun _=>0)
  .rfl
  .obtain rfl:=hrel;go_wp2;go_ret;exact ⟨rfl,hrow,hbel⟩
 .obtain ⟨b,off,rfl,hd⟩:=hc hn0;clear hc;go_enter func151,ntmps151
  go_wp2_with (at_make;refine wpList_make_full _ rfl _ _ 115 rfl w.heap.size 9 i0 (.string ⟨#[]⟩) 1 underlying115 hi hz0 hz1 .i64 .i64 _ _ n rfl rfl rfl rfl (by rw [hz2];omega) (by unfold maxLen;omega) aN ?_;intro w1 hown hgr)
  have hrow:=nG hown;have hbel:=aW hgr;clear hown hgr hi hz0 hz1 hz2;go_loopw [4] (fun i wr=>∃ k:Nat,k<=n/\i=qI k/\RowT wr w.heap.size (mU zs k)/\qY w wr) (qf n)
  .exact ⟨0,xC _,rfl,by rw [aIm,hl];exact hrow,hbel⟩
  .obtain ⟨k,hk,rfl,hR,hB⟩:=hrel;clear hrow hbel;by_cases hlt:k<n
   .have hlt':(k:Int)<(n:Int):=by omega
    have hck:wr.cell? (qR b (off+k))=some (.string (zs.getD k zS)):=(hB.cell (xD w _ (hd k hlt))).trans (hd k hlt);have hgk:wr.cell? (qR w.heap.size k)=some (.string ((mU zs k).getD k zS)):=hR.cell k (by rw [aKw];omega);have hfk:wr.frozen? (qR w.heap.size k)=false:=hR.frozen k;have R':=hR.set k (zs.getD k zS);rw [aKv zs k (by omega)] at R';have B':qY w (wr.setCell (qR w.heap.size k) (.string (zs.getD k zS))):=hB.setCell aN _;have HR:=R';have HB:=B';generalize zs.getD k zS=z at *;generalize (mU zs k).getD k zS=z0 at *;clear hd hR hB;go_wp2
    go_roundw
    .exact ⟨k+1,by omega,by go_num,HR,HB⟩
    .simp [qf,intOf];omega
   .have e:Zh (k=n):=by show k=n;omega
    go_wp2;go_ret;exact ⟨rfl,by rw [e.o,<- hl,aKx] at hR;exact hR,hB⟩
theorem uP (a a':qO)(n cap cap':Nat)(ss:List ByteArray)(w:qw)(h:TS w a n cap ss)(h':TS w a' n cap' ss):
 qC 168 #[qS a n cap,qS a' n cap'] w (qB w (.bool true)):=by
 have hm:=h.2.1;unfold maxLen at hm;have hnn:((n:Int) !=(n:Int))=false:=by simp
 go_enter func168,ntmps168
 go_wp2_with fail
 go_loopw [5] (fun i wr=>∃ k:Nat,k<=n/\i=qI k/\qY w wr) (qf n)
 .exact ⟨0,xC _,rfl,brf⟩
 .obtain ⟨k,hk,rfl,hB⟩:=hrel;by_cases hlt:k<n
  .have hlt':(k:Int)<(n:Int):=by omega
   obtain ⟨b,off,rfl,y1⟩:=(h.bw hB).at k hlt;obtain ⟨b',off',rfl,y2⟩:=(h'.bw hB).at k hlt;generalize ss.getD k zS=s at *;have hss:(s.toList !=s.toList)=false:=by simp
   go_wp2_with fail
   go_quiet (fail)
   go_wp2
   go_roundw
   .exact ⟨k+1,by omega,by go_num,below_drewN hB nq⟩
   .simp [qf,intOf];omega
  .go_wp2;go_ret;exact ⟨rfl,hB⟩
theorem zZ (s:ByteArray)(b i:Int)(w:qw):
 qC 184 #[.agg #[.string s,qI b,qI i]] w (qB w (.agg #[.string s,qI b,qI i])):=by
 go_enter func184,ntmps184
 go_wp2;refine bodyPost_ret (v:=.agg #[.string s,qI b,qI i]) (by simp [results,results184,go_sem]) rfl ⟨rfl,?_⟩;exact ((bal.alloc (by simp) _).alloc (by simp;omega) _)
theorem wT (s:ByteArray)(b i:Int)(w:qw):
 qC 200 #[.agg #[.string s,qI b,qI i],.agg #[.string s,qI b,qI i]] w (qB w (.bool true)):=by
 have h1:(s.toList !=s.toList)=false:=by simp
 have h2:(b !=b)=false:=by simp
 have h3:(i !=i)=false:=by simp
 have hB0:qY w ((w.alloc (.cells #[.string s,qI b,qI i] 163)).alloc (.cells #[.string s,qI b,qI i] 163)):=bal.alloc (by simp) _;have HB:=zh hB0;clear hB0;go_enter func200,ntmps200
 go_wp2;go_ret;exact ⟨rfl,by first|exact HB.o|exact below_drewN HB.o _⟩
def RowB (w:qw)(g n:Nat)(gs:List Nat)(bl:List Bk):Prop:=
 (∃ cur,Blk w g cur 25/\cur.size=n/\∀ i,i<gs.length->cur[i]?=some (.slice (some (qR (gs.getD i 0) 0)) (bl.getD i zB).2.1 (bl.getD i zB).2.1))/\(∀ i,i<gs.length->RowI w (gs.getD i 0) (bl.getD i zB).2.2.2/\g<gs.getD i 0)/\(∀ i j,i<j->j<gs.length->gs.getD i 0<gs.getD j 0)
theorem RowB.bw {w w':qw}(h:RowB w g n gs bl)(hb:qY w w'):RowB w' g n gs bl:=by
 obtain ⟨⟨cur,h1,h2,h3⟩,h4,h5⟩:=h;exact ⟨⟨cur,h1.bw hb,h2,h3⟩,fun i hi=>⟨(h4 i hi).1.bw hb,(h4 i hi).2⟩,h5⟩
theorem RowB.cell {w:qw}(h:RowB w g n gs bl)(k:Nat)(hk:k<n):∃ v,w.cell? (qR g k)=some v:=by
 obtain ⟨⟨cur,h1,h2,h3⟩,h4,h5⟩:=h;refine ⟨cur[k],?_⟩;rw [h1.cell];simp [h2,hk]
theorem RowB.frozen {w:qw}(h:RowB w g n gs bl)(k:Nat):w.frozen? (qR g k)=false:=by
 obtain ⟨⟨cur,h1,h2,h3⟩,h4,h5⟩:=h;exact h1.frozen k
theorem dZ (gs:List Nat)(x i:Nat)(h:i<gs.length:=by omega):(gs++[x]).getD i 0=gs.getD i 0:=by
 simp [xB,List.getElem?_append_left h]
theorem pC (gs:List Nat)(x:Nat):(gs++[x]).getD gs.length 0=x:=by
 simp [xB]
theorem RowB.push {w:qw}{x:Nat}(h:RowB w g n gs bl)(hk:gs.length<n)(hr:RowI w x (bl.getD gs.length zB).2.2.2)(hx:g<x)(hi:∀ i,i<gs.length->gs.getD i 0<x):
 RowB (w.setCell (qR g gs.length) (.slice (qP x) (bl.getD gs.length zB).2.1 (bl.getD gs.length zB).2.1)) g n (gs++[x]) bl:=by
 obtain ⟨⟨cur,h1,h2,h3⟩,h4,h5⟩:=h
 have key:∀ y zs,RowI w y zs->g≠y->RowI (w.setCell (qR g gs.length) (.slice (qP x) (bl.getD gs.length zB).2.1 (bl.getD gs.length zB).2.1)) y zs:=fun y zs hy hne=>by
  unfold RowI at *;rw [heap_setCell_other _ _ _ _ (by dsimp only;omega)];exact hy
 refine ⟨⟨_,h1.set gs.length _,by simp [h2],fun i hi'=>?_⟩,fun i hi'=>?_,fun i j hij hj=>?_⟩
 .simp only [xI,List.length_cons,List.length_nil] at hi';by_cases e:i=gs.length
  .subst e;rw [pC];simp [h2,hk]
  .rw [dZ _ _ _,<- h3 i (by omega)];rw [Array.getElem?_setIfInBounds_ne (by omega)]
 .simp only [xI,List.length_cons,List.length_nil] at hi';by_cases e:i=gs.length
  .subst e;rw [pC];exact ⟨key _ _ hr (by omega),hx⟩
  .rw [dZ _ _ _];exact ⟨key _ _ (h4 i (by omega)).1 (by have:=(h4 i (by omega)).2;omega),(h4 i (by omega)).2⟩
 .simp only [xI,List.length_cons,List.length_nil] at hj;by_cases e:j=gs.length
  .subst e;rw [pC,dZ _ _ _ hij];exact hi i hij
  .rw [dZ _ _ _,dZ _ _ _];exact h5 i j hij (by omega)
def reb (gs:List Nat)(bl:List Bk):List Bk:=(List.range bl.length).map fun i=>(some (qR (gs.getD i 0) 0),(bl.getD i zB).2.1,(bl.getD i zB).2.1,(bl.getD i zB).2.2.2)
theorem nH (gs:List Nat)(bl:List Bk):(reb gs bl).length=bl.length:=by simp [reb]
theorem gX (gs:List Nat)(bl:List Bk)(i:Nat)(hi:i<bl.length:=by omega):(reb gs bl).getD i zB=(some (qR (gs.getD i 0) 0),(bl.getD i zB).2.1,(bl.getD i zB).2.1,(bl.getD i zB).2.2.2):=by
 simp [reb,xB,hi]
theorem RowB.bks {w w0:qw}(h:RowB w g n gs bl)(hb:BKS w0 a n cap bl)(hg:gs.length=n):BKS w (qP g) n n (reb gs bl):=by
 obtain ⟨b1,b2,b3,b4,b5⟩:=hb;obtain ⟨⟨cur,h1,h2,h3⟩,h4,h5⟩:=h;refine ⟨by rw [nH,b1],b2,fun _=>⟨g,0,rfl,fun i hi=>?_⟩,fun i hi=>?_,aN⟩
 .rw [gX _ _ _,Nat.zero_add,h1.cell];exact h3 i (by omega)
 .rw [gX _ _ _];obtain ⟨c1,c2,c3,c4,c5⟩:=b4 i hi;have hr:=(h4 i (by omega)).1;exact ⟨c1,c2,c3,fun _=>⟨gs.getD i 0,0,rfl,fun j hj=>by rw [Nat.zero_add];exact hr.cell j (by rw [c1];exact hj)⟩,aN⟩
theorem aMy (gs:List Nat)(bl:List Bk):(reb gs bl).all bko=bl.all bko:=by
 have key:∀ i,i<bl.length->bko ((reb gs bl).getD i zB)=bko (bl.getD i zB):=fun i hi=>by rw [gX _ _ _ hi];rfl
 cases h:bl.all bko
 .obtain ⟨x,hx,hb⟩:=List.all_eq_false.1 h;obtain ⟨i,hi,rfl⟩:=List.getElem_of_mem hx;exact aB4 _ i (by rw [nH];exact hi) (by rw [key i hi];simpa [xB,hi] using hb)
 .refine vE _ fun j hj=>?_;rw [nH] at hj;rw [key j hj];have:=List.all_eq_true.1 h _ (List.getElem_mem hj);simpa [xB,hj] using this
theorem aMx (gs:List Nat)(tn:Nat)(tz:qi)(bn:Nat)(bl:List Bk):cdo tn tz bn (reb gs bl)=cdo tn tz bn bl:=by unfold cdo;rw [aMy]
theorem aMv (gs:List Nat)(tn bn:Nat)(bl:List Bk)(b:Int)(h:bl.length=bn):pcn tn bn (reb gs bl) b=pcn tn bn bl b:=by
 unfold pcn;split
 .rfl
 .split
  .rename_i h1 h2;rw [gX _ _ _]
  .rfl
theorem aMw (gs:List Nat)(tn bn:Nat)(bl:List Bk)(n:Nat)(es:List Ex)(h:bl.length=bn):exo tn bn (reb gs bl) n es=exo tn bn bl n es:=by
 unfold exo ex1;congr 2;funext i;rw [aMv _ _ _ _ _ h]
theorem aGm (gs:List Nat)(nm:ByteArray)(tn:Nat)(tz:qi)(bn:Nat)(bl:List Bk)(dn:Nat)(bss:Int)(rn:Nat)(rz:qi)(im:Nat)(ss:List ByteArray)(en:Nat)(es:List Ex)(h:bl.length=bn):
 mdo nm tn tz bn (reb gs bl) dn bss rn rz im ss en es=mdo nm tn tz bn bl dn bss rn rz im ss en es:=by
 unfold mdo;rw [aMx,aMw _ _ _ _ _ _ h]
theorem aLe:(prog.info? 25).map (fun i=>(i.zero,i.size,i.bytes))=some (some (qS none 0 0),1,24):=by kernel_rfl
theorem aAq {w:qw}(h:w.ownsRow base 25 1 (qS (qP g) n n) n (madeCells (Value.cells (qS none 0 0)) (n*1)).toList):RowB w g n [] bl:=by
 obtain ⟨hl,h|⟨g',cap,cur,hv,hb,hh,h1,h2,h3,h4⟩⟩:=h
 .simp at h
 .simp at hv;obtain ⟨rfl,rfl⟩:=hv;exact ⟨⟨cur,hh,by simpa using h3,fun i hi=>by simp at hi⟩,fun i hi=>by simp at hi,fun i j _ hj=>by simp at hj⟩
theorem aCb (a:qO)(n cap:Nat)(bl:List Bk)(w:qw)(h:BKS w a n cap bl)(hn:n<=1048576)(hs:∀ i,i<n->(bl.getD i zB).2.1<=1048576):
 qC 150 #[qS a n cap] w fun e w'=>e=.returned (qS (qP w.heap.size) n n)/\(∃ gs,gs.length=n/\RowB w' w.heap.size n gs bl)/\qY w w':=by
 obtain ⟨i0,hi,hz0,hz1,hz2⟩:=info_parts aLe;have hl:=h.1;go_enter func150,ntmps150
 go_wp2_with (at_make;refine wpList_make_full _ rfl _ _ 114 rfl w.heap.size 25 i0 (qS none 0 0) 1 underlying114 hi hz0 hz1 .i64 .i64 _ _ n rfl rfl rfl rfl (by rw [hz2];omega) (by unfold maxLen;omega) aN ?_;intro w1 hown hgr)
 have hrow:RowB w1 w.heap.size n [] bl:=aAq hown;have hbel:=aW hgr;clear hown hgr hi hz0 hz1 hz2;go_loopw [4] (fun i wr=>∃ k:Nat,k<=n/\i=qI k/\(∃ gs,gs.length=k/\RowB wr w.heap.size n gs bl)/\qY w wr) (qf n)
 .exact ⟨0,xC _,rfl,⟨[],rfl,hrow⟩,hbel⟩
 .obtain ⟨k,hk,rfl,⟨gs,hgs,hR⟩,hB⟩:=hrel;clear hrow hbel;by_cases hlt:k<n
  .have hlt':(k:Int)<(n:Int):=by omega
   obtain ⟨b,off,rfl⟩:=h.addr (by omega);have hb':=h.bw hB;have hck:=hb'.at k hlt;have hik:=hb'.2.2.2.1 k hlt;have hsk:=hs k hlt;have HT:=zh (fun w h=>iY (bl.getD k zB).1 (bl.getD k zB).2.1 (bl.getD k zB).2.2.1 (bl.getD k zB).2.2.2 w h hsk)
   have HP:=zh (fun (W:qw) (hW:qY wr W) (hr:RowI W wr.heap.size (bl.getD k zB).2.2.2)=>by
    have hp:=RowB.push (hR.bw hW) (by omega) (by rw [hgs];exact hr) (by obtain ⟨⟨cur,h1,_⟩,_⟩:=hR;exact h1.lt) (fun i hi=>(hR.2.1 i hi).1.lt);rw [hgs] at hp
    exact hp)
   have HF:=zh (fun (W:qw) (hW:qY wr W)=>xA ((hR.bw hW).cell k hlt) ((hR.bw hW).frozen k));clear hb' hsk;generalize (bl.getD k zB).1=xa at *;generalize (bl.getD k zB).2.1=xn at *;generalize (bl.getD k zB).2.2.1=xc at *;generalize (bl.getD k zB).2.2.2=xz at *;go_wp2_with fail
   refine (HT.o _ hik).mono ?_;rintro e w2 ⟨rfl,hr2,hb2⟩;obtain ⟨⟨v0,hv0⟩,hfz⟩:=HF.o _ hb2;have HS:=zh (HP.o _ hb2 hr2);have HB2:=zh ((hB.trans (hb2.mono hB.size)).setCell (p:=(qR w.heap.size k)) aN (qS (qP wr.heap.size) xn xn));clear HP HF hR hik HT hck hr2;go_wp2
   go_roundw
   .exact ⟨k+1,by omega,by go_num,⟨gs++[wr.heap.size],by simp [hgs],HS.o⟩,HB2.o⟩
   .simp [qf,intOf];omega
  .have e:Zh (k=n):=by show k=n;omega
   go_wp2;go_ret;exact ⟨rfl,⟨gs,by rw [hgs,e.o],hR⟩,hB⟩
theorem aBs (a a':qO)(n cap cap':Nat)(bl bl':List Bk)(w:qw)(h:BKS w a n cap bl)(h':BKS w a' n cap' bl')(hz:∀ i,i<n->(bl'.getD i zB).2.1=(bl.getD i zB).2.1/\(bl'.getD i zB).2.2.2=(bl.getD i zB).2.2.2):
 qC 167 #[qS a n cap,qS a' n cap'] w (qB w (.bool true)):=by
 have hmx:=h.2.1;unfold maxLen at hmx;have hne:((n:Int) !=(n:Int))=false:=by simp
 go_enter func167,ntmps167
 go_wp2;go_loopw [5] (fun i wr=>∃ k:Nat,k<=n/\i=qI k/\qY w wr) (qf n)
 .exact ⟨0,xC _,rfl,brf⟩
 .obtain ⟨k,hk,rfl,hB⟩:=hrel;by_cases hlt:k<n
  .have hlt':(k:Int)<(n:Int):=by omega
   obtain ⟨b,off,rfl⟩:=h.addr (by omega);obtain ⟨b',off',rfl⟩:=h'.addr (by omega);have q1:=(h.bw hB).at k hlt;have p1:=(h'.bw hB).at k hlt;have i1:=(h.bw hB).2.2.2.1 k hlt;have i2:=(h'.bw hB).2.2.2.1 k hlt;obtain ⟨z1,z2⟩:=hz k hlt;rw [z1,z2] at i2;rw [z1] at p1;clear z1 z2;generalize (bl.getD k zB).1=xa at *;generalize (bl.getD k zB).2.1=xn at *;generalize (bl.getD k zB).2.2.1=xc at *;generalize (bl.getD k zB).2.2.2=xz at *;generalize (bl'.getD k zB).1=ya at *;generalize (bl'.getD k zB).2.2.1=yc at *;have HE:=zh (fun w h k=>jO xa ya xn xc xn yc xz xz w h k);rw [xR rfl] at HE;go_wp2
   go_region_held3 (fun w'=>w'.cell? (qR b (off+k))=some (qS xa xn xc)/\w'.cell? (qR b' (off'+k))=some (qS ya xn yc)) (go_keep)
    (first
      | (go_at_call 17;refine (HE.o _ (by exact i1) (by exact i2)).mono ?_;rintro e w1 ⟨rfl,hb1⟩;replace hb1:=dH hb1;obtain ⟨hc1,hf1⟩:=aL7 hb1;have hlb:=xD _ _ q1;have hlb':=xD _ _ p1))
   clear hc1 hf1 q1 p1;go_wp2
   go_roundw
   .exact ⟨k+1,by omega,by go_num,hB.trans (hb1.mono hB.size)⟩
   .simp [qf,intOf];omega
  .go_wp2;go_ret;exact ⟨rfl,hB⟩
theorem aP {w:qw}{v:Value}(h:b≠g\/o'≠o:=by omega):(w.setCell (qR g o) v).cell? (qR b o')=w.cell? (qR b o'):=
 World.cell?_setCell_other _ _ _ _ (by intro e;injection e;rcases h with h|h<;>simp_all)
theorem lI {w:qw}{u v:Value}(h:w.cell? (qR g o)=some u):(w.setCell (qR g o) v).cell? (qR g o)=some v:=World.cell?_setCell_same _ _ _ h
def At3 (w:qw)(g o:Nat)(x:Ex):Prop:=w.cell? (qR g o)=some (.string x.1)/\w.cell? (qR g (o+1))=some (qI x.2.1)/\w.cell? (qR g (o+2))=some (qI x.2.2)
def aAm (w:qw)(g o:Nat)(x:Ex):World:=((w.setCell (qR g o) (.string x.1)).setCell (qR g (o+1)) (qI x.2.1)).setCell (qR g (o+2)) (qI x.2.2)
theorem mO (w:qw)(g o b o':Nat)(r:Ex)(h:b≠g\/o'<o\/o+3<=o'):(aAm w g o r).cell? (qR b o')=w.cell? (qR b o'):=by
 unfold aAm;rw [aP,aP,aP]
theorem aMp {w:qw}{q:Ex}(h:At3 w g o q)(r:Ex):At3 (aAm w g o r) g o r:=by
 obtain ⟨h1,h2,h3⟩:=h;unfold aAm;refine ⟨?_,?_,?_⟩
 .rw [aP,aP];exact lI h1
 .rw [aP];exact lI (by rw [aP];exact h2)
 .exact lI (by rw [aP,aP];exact h3)
theorem aJw {w:qw}{q:Ex}(h:At3 w b o' q)(r:Ex)(hf:b≠g\/o'+3<=o\/o+3<=o'):At3 (aAm w g o r) b o' q:=by
 unfold At3;rw [mO _ _ _ _ _ _ (by omega),mO _ _ _ _ _ _ (by omega),mO _ _ _ _ _ _ (by omega)];exact h
theorem aJx {w:qw}{cur:Array Value}{t:TypeId}(h:Blk w g cur t)(o:Nat)(r:Ex):∃ cur',Blk (aAm w g o r) g cur' t/\cur'.size=cur.size:=
 ⟨_,(((h.set o _).set (o+1) _).set (o+2) _),by simp⟩
theorem aEe {B:Nat}{a w:qw}(h:Below B a w)(hg:B<=g)(o:Nat)(r:Ex):Below B a (aAm w g o r):=
 ((h.setCell (p:=(qR g o)) hg _).setCell (p:=(qR g (o+1))) hg _).setCell (p:=(qR g (o+2))) hg _
theorem At3.bw {w w':qw}{x:Ex}(h:At3 w g o x)(hb:qY w w'):At3 w' g o x:=by
 have key:∀ o v,w.cell? (qR g o)=some v->w'.cell? (qR g o)=some v:=fun o v hv=>(hb.cell (xD w _ hv)).trans hv;exact ⟨key _ _ h.1,key _ _ h.2.1,key _ _ h.2.2⟩
def RowX (w:qw)(g:Nat)(es:List Ex):Prop:=
 (∃ cur,Blk w g cur 163/\cur.size=es.length*3)/\∀ i,i<es.length->At3 w g (i*3) (es.getD i zE)
theorem RowX.lt {w:qw}{es:List Ex}(h:RowX w g es):g<w.heap.size:=by obtain ⟨⟨cur,hb,_⟩,_⟩:=h;exact hb.lt
theorem RowX.bw {w w':qw}{es:List Ex}(h:RowX w g es)(hb:qY w w'):RowX w' g es:=by
 obtain ⟨⟨cur,hc,hs⟩,hr⟩:=h;exact ⟨⟨cur,hc.bw hb,hs⟩,fun i hi=>(hr i hi).bw hb⟩
theorem RowX.frozen {w:qw}{es:List Ex}(h:RowX w g es)(i:Nat):w.frozen? (qR g i)=false:=by obtain ⟨⟨cur,hb,_⟩,_⟩:=h;exact hb.frozen i
theorem RowX.set {w:qw}{es:List Ex}(h:RowX w g es)(i:Nat)(hi:i<es.length)(r:Ex):RowX (aAm w g (i*3) r) g (es.set i r):=by
 obtain ⟨⟨cur,hc,hs⟩,hr⟩:=h;obtain ⟨cur',hc',hs'⟩:=aJx hc (i*3) r;refine ⟨⟨cur',hc',by rw [hs',hs,List.length_set]⟩,fun j hj=>?_⟩;rw [List.length_set] at hj;by_cases e:i=j
 .subst e;have:(es.set i r).getD i zE=r:=by simp [xB,hi]
  rw [this];exact aMp (hr i hi) r
 .have:(es.set i r).getD j zE=es.getD j zE:=by simp [xB,e]
  rw [this];exact aJw (hr j hj) r (by omega)
theorem RowX.te {w w0:qw}{es:List Ex}(h:RowX w g es)(k:TE w0 a n cap es):TE w (qP g) n n es:=by
 obtain ⟨h1,h2,h3,h4,h5⟩:=k;exact ⟨h1,h2,h3,fun _=>⟨g,0,rfl,fun i hi=>by rw [Nat.zero_add];exact h.2 i (by omega)⟩,aN⟩
theorem aLa:(prog.info? 163).map (fun i=>(i.zero,i.size,i.bytes))=some (some (.agg #[.string ⟨#[]⟩,qI 0,qI 0]),3,32):=by kernel_rfl
theorem aAo {w:qw}(h:w.ownsRow base 163 3 (qS (qP g) n n) n (madeCells (Value.cells (.agg #[.string ⟨#[]⟩,qI 0,qI 0])) (n*3)).toList):RowX w g (List.replicate n zE):=by
 obtain ⟨hl,h|⟨g',cap,cur,hv,hb,hh,h1,h2,h3,h4⟩⟩:=h
 .simp at h
 .simp at hv;obtain ⟨rfl,rfl⟩:=hv
  have e:cur.toList=(madeCells (Value.cells (.agg #[.string ⟨#[]⟩,qI 0,qI 0])) (n*3)).toList:=by
   rw [<- h4,xG (by simp [h3])]
  have e2:cur=madeCells (Value.cells (.agg #[.string ⟨#[]⟩,qI 0,qI 0])) (n*3):=Array.toList_inj.1 e;have hB:Blk w g cur 163:=hh;refine ⟨⟨cur,hB,by simp [h3]⟩,fun i hi=>?_⟩;simp at hi
  have hcell:∀ j,j<3->w.cell? (qR g (i*3+j))=#[Value.string ⟨#[]⟩,qI 0,qI 0][j]?:=by
   intro j hj;rw [hB.cell,e2];have hm:(i*3+j)%3=j:=by omega
   simp [madeCells,Value.cells,show i*3+j<n*3 by omega,hm]
   match j,hj with
   | 0,_=>rfl
   | 1,_=>rfl
   | 2,_=>rfl
  have hz:(List.replicate n zE).getD i zE=zE:=by simp [xB,hi]
  rw [hz];exact ⟨hcell 0 (by omega),hcell 1 (by omega),hcell 2 (by omega)⟩
def mT (es:List Ex)(k:Nat):List Ex:=(List.range es.length).map (fun i=>if i<k then es.getD i zE else zE)
theorem aC9 (es:List Ex)(k:Nat):(mT es k).length=es.length:=by simp [mT]
theorem aIl (es:List Ex):mT es 0=List.replicate es.length zE:=by
 apply List.ext_getElem
 .simp [mT]
 .intro i h1 h2;simp [mT]
theorem aKu (es:List Ex):mT es es.length=es:=by
 apply List.ext_getElem
 .simp [mT]
 .intro i h1 h2;simp [mT,h2]
theorem aKt (es:List Ex)(k:Nat)(h:k<es.length):(mT es k).set k (es.getD k zE)=mT es (k+1):=by
 apply List.ext_getElem
 .simp [mT]
 .intro i h1 h2;simp only [mT,List.getElem_set,List.getElem_map,List.getElem_range];by_cases hik:k=i
  .subst hik;simp
  .by_cases h3:i<k
   .simp [hik,h3,show i<k+1 by omega]
   .simp [hik,h3,show ¬ i<k+1 by omega]
theorem vL (x:qO)(n cap:Nat)(es:List Ex)(w:qw)(h:TE w x n cap es)(hn:n<=1048576):
 qC 152 #[qS x n cap] w fun e w'=>e=.returned (qS (qP w.heap.size) n n)/\RowX w' w.heap.size es/\qY w w':=by
 obtain ⟨i0,hi,hz0,hz1,hz2⟩:=info_parts aLa;have hl:=h.1;go_enter func152,ntmps152
 go_wp2_with (at_make;refine wpList_make_full _ rfl _ _ 136 rfl w.heap.size 163 i0 (.agg #[.string ⟨#[]⟩,qI 0,qI 0]) 3 underlying136 hi hz0 hz1 .i64 .i64 _ _ n rfl rfl rfl rfl (by rw [hz2];omega) (by unfold maxLen;omega) aN ?_;intro w1 hown hgr)
 have hrow:=aAo hown;have hbel:=aW hgr;clear hown hgr hi hz0 hz1 hz2;go_loopw [4] (fun i wr=>∃ k:Nat,k<=n/\i=qI k/\RowX wr w.heap.size (mT es k)/\qY w wr) (qf n)
 .exact ⟨0,xC _,rfl,by rw [aIl,hl];exact hrow,hbel⟩
 .obtain ⟨k,hk,rfl,hR,hB⟩:=hrel;clear hrow hbel;by_cases hlt:k<n
  .have hlt':(k:Int)<(n:Int):=by omega
   obtain ⟨b,off,rfl,hat⟩:=(h.bw hB).at k hlt
   have hset:∀ W,qY wr W->RowX (aAm W w.heap.size (k*3) (es.getD k zE)) w.heap.size (mT es (k+1)):=by
    intro W hW;have:=(hR.bw hW).set k (by rw [aC9];omega) (es.getD k zE);rw [aKt es k (by omega)] at this;exact this
   have HSET:=zh hset;clear hset;have hg:=hR.2 k (by rw [aC9];omega);generalize es.getD k zE=r at *;generalize (mT es k).getD k zE=r0 at *;obtain ⟨g1,g2,g3⟩:=r;obtain ⟨q1,q2,q3⟩:=hat;simp only at q1 q2 q3;go_wp2_with fail
   refine (zZ g1 g2 g3 _).mono ?_;rintro e w2 ⟨rfl,hb2⟩;have hB2:=hB.trans (hb2.mono hB.size);have hg2:=hg.bw hb2;have hfz:∀ i,w2.frozen? (qR w.heap.size i)=false:=(hR.bw hb2).frozen;have HS2:=zh (HSET.o _ hb2);have HB2:=zh (aEe hB2 aN (k*3) (g1,g2,g3));clear HSET hR q1 q2 q3;obtain ⟨p1,p2,p3⟩:=hg2;go_wp2
   go_roundw
   .exact ⟨k+1,by omega,by go_num,HS2.o,HB2.o⟩
   .simp [qf,intOf];omega
  .have e:Zh (k=n):=by show k=n;omega
   go_wp2;go_ret;exact ⟨rfl,by rw [e.o,<- hl,aKu] at hR;exact hR,hB⟩
theorem uR (x x':qO)(n cap cap':Nat)(es:List Ex)(w:qw)(h:TE w x n cap es)(h':TE w x' n cap' es):
 qC 169 #[qS x n cap,qS x' n cap'] w (qB w (.bool true)):=by
 have hmx:=h.2.1;unfold maxLen at hmx;have hne:((n:Int) !=(n:Int))=false:=by simp
 go_enter func169,ntmps169
 go_wp2;go_loopw [5] (fun i wr=>∃ k:Nat,k<=n/\i=qI k/\qY w wr) (qf n)
 .exact ⟨0,xC _,rfl,brf⟩
 .obtain ⟨k,hk,rfl,hB⟩:=hrel;by_cases hlt:k<n
  .have hlt':(k:Int)<(n:Int):=by omega
   obtain ⟨b,off,rfl,q1,q2,q3⟩:=(h.bw hB).at k hlt;obtain ⟨b',off',rfl,p1,p2,p3⟩:=(h'.bw hB).at k hlt;generalize es.getD k zE=r at *;obtain ⟨g1,g2,g3⟩:=r;simp only at q1 q2 q3 p1 p2 p3;go_wp2
   go_region_held3 (fun w'=>w'.cell? (qR b (off+k*3))=some (.string g1)/\w'.cell? (qR b (off+k*3+1))=some (qI g2)/\w'.cell? (qR b (off+k*3+2))=some (qI g3) /\
    w'.cell? (qR b' (off'+k*3))=some (.string g1)/\w'.cell? (qR b' (off'+k*3+1))=some (qI g2)/\w'.cell? (qR b' (off'+k*3+2))=some (qI g3)) (go_keep)
    (first
      | (go_at_call 200;refine (wT g1 g2 g3 _).mono ?_;rintro e w1 ⟨rfl,hb1⟩;replace hb1:=dH hb1;obtain ⟨hc1,hf1⟩:=aL7 hb1;have hlb:=xD _ _ q1;have hlb':=xD _ _ p1))
   clear hc1 hf1 q1 q2 q3 p1 p2 p3;go_wp2
   go_roundw
   .exact ⟨k+1,by omega,by go_num,hB.trans (hb1.mono hB.size)⟩
   .simp [qf,intOf];omega
  .go_wp2;go_ret;exact ⟨rfl,hB⟩
