import Derived.Test.YtncccmeomcaabaaGreatR03
set_option linter.all false
set_option maxHeartbeats 4000000
namespace Go.Proofs.YtncccmeomcaabaaGreat
open Go.RowKit
open Go.Proofs.Tryz
set_option maxRecDepth 100000
variable {R S:World->Prop}{a ba da ea ia ra ta:qO}{arg cs:Array Value}{b base bc bn c cap dc dn ec en g ic im n o o' rc rn tc tn:Nat}{bl:List Bk}{bss:Int}{gs:List Nat}{nm:ByteArray}{q:Ex}{zs:List ByteArray}
theorem zQ (nm:ByteArray)(v1 v2:Value)(da:qO)(dn dc:Nat)(bss:Int)(ra:qO)(rn rc:Nat)(rz:qi)(v6 v7:Value)(w:qw)(hd:dn<=maxLen)(h:IS w ra rn rc rz):
 qC 228 #[.agg #[.string nm,v1,v2,qS da dn dc,qI bss,qS ra rn rc,v6,v7]] w (qB w (.bool (rlo rn rz dn))):=by
 obtain ⟨W,hW,hB0,kb⟩:=nwb w #[.string nm,v1,v2,qS da dn dc,qI bss,qS ra rn rc,v6,v7] 138;obtain ⟨q0,q1,q2,q3,q4,q5,q6,q7⟩:=kb.eight;obtain ⟨r,hr⟩:=eqx (rlo rn rz dn);rw [<- hr];unfold rlo at hr;have h0:=h.bw hB0;have hm1:=h.2.1;unfold maxLen at hm1 hd;have HW:=zh hW;clear hW;by_cases c1:16<rn
 .have HR:=zh (show r=false by rw [hr,xS (by omega)];rfl);clear hr;have c1':(16:Int)<(rn:Int):=by omega
  go_enter func228,ntmps228
  go_wp2_with (rw [<- HW.o])
  go_ret;exact ⟨aA HR.o.symm,hB0⟩
 .have c1':¬ (16:Int)<(rn:Int):=by omega
  have HR:=zh (show r=(List.range rn).all (rlk rz dn) by rw [hr,xR (by omega)];rfl);clear hr;go_enter func228,ntmps228
  go_wp2_with (rw [<- HW.o])
  go_loop [12] (fun i=>∃ k:Nat,k<=rn/\i=qI k/\Hid (∀ j,j<k->rlk rz dn j=true)) (fun i=>rn-(intOf i).toNat)
  .exact ⟨0,xC _,rfl,zh (fun j hj=>by omega)⟩
  .obtain ⟨k,hk,rfl,HJ⟩:=hrel;by_cases hlt:k<rn
   .have hlt':(k:Int)<(rn:Int):=by omega
    obtain ⟨bb,off,rfl⟩:=h0.addr (by omega);have hck:=h0.at k hlt;have HZ:=zh (fR (rlk rz dn) rn k hlt)
    have HG:=zh (show rlk rz dn k=true->∀ j,j<k+1->rlk rz dn j=true from fun h j hj=>by
     by_cases e:j=k
     .subst e;exact h
     .exact HJ.out j (by omega))
    have HK:Zh (∀ b:Bool,(b=true ↔ (0<=rz.getD k 0/\rz.getD k 0%4=0/\rz.getD k 0<=(dn:Int)-4/\(k=0\/rz.getD (k-1) 0<rz.getD k 0)))->rlk rz dn k=b):=fun b hb=>by unfold rlk;rw [xJ,hb];simp
    have hrg:=h0.range k;unfold wfi at hrg;obtain ⟨g0,g1⟩:=hrg;have ht4:=aNf (rz.getD k 0);have HU:=zh (fun w=>cX (rz.getD k 0) ((dn:Int)-4) w);by_cases k0:k=0
    .subst k0;simp only [Nat.add_zero] at hck;generalize rz.getD 0 0=z at *;by_cases d2:z%4≠0
     .rw [xR d2] at ht4;go_wp2;go_ret;exact ⟨aA (by rw [HR.o];exact (HZ.o (HK.o false (by simp;omega))).symm),hB0⟩
     .rw [xS d2] at ht4;by_cases d3:0<=z/\z<=(dn:Int)-4
      .rw [xR d3] at HU;go_wp2_with (go_at_call 155;refine (HU.o _).mono ?_;rintro e w1 ⟨rfl,rfl⟩)
       go_round
       .exact ⟨1,by omega,by go_num,zh (HG.o (HK.o true (by simp;omega)))⟩
       .simp [intOf];omega
      .rw [xS d3] at HU;go_wp2_with (go_at_call 155;refine (HU.o _).mono ?_;rintro e w1 ⟨rfl,rfl⟩)
       go_ret;exact ⟨aA (by rw [HR.o];exact (HZ.o (HK.o false (by simp;omega))).symm),hB0⟩
    .have hpk:=h0.at (k-1) (by omega);have hk0:(0:Int)<(k:Int):=by omega
     have hk1:(0:Int)<=(k:Int)-1:=by omega
     have hk2:(k:Int)-1<(rn:Int):=by omega
     generalize rz.getD (k-1) 0=y at *;generalize rz.getD k 0=z at *;by_cases d2:z%4≠0
     .rw [xR d2] at ht4;go_wp2;go_ret;exact ⟨aA (by rw [HR.o];exact (HZ.o (HK.o false (by simp;omega))).symm),hB0⟩
     .rw [xS d2] at ht4;by_cases d3:0<=z/\z<=(dn:Int)-4
      .rw [xR d3] at HU;by_cases d4:z<=y
       .go_wp2_with (go_at_call 155;refine (HU.o _).mono ?_;rintro e w1 ⟨rfl,rfl⟩)
        go_ret;exact ⟨aA (by rw [HR.o];exact (HZ.o (HK.o false (by simp;omega))).symm),hB0⟩
       .go_wp2_with (go_at_call 155;refine (HU.o _).mono ?_;rintro e w1 ⟨rfl,rfl⟩)
        go_round
        .exact ⟨k+1,by omega,by go_num,zh (HG.o (HK.o true (by simp;omega)))⟩
        .simp [intOf];omega
      .rw [xS d3] at HU;go_wp2_with (go_at_call 155;refine (HU.o _).mono ?_;rintro e w1 ⟨rfl,rfl⟩)
       go_ret;exact ⟨aA (by rw [HR.o];exact (HZ.o (HK.o false (by simp;omega))).symm),hB0⟩
   .have HE:=zh (eW (rlk rz dn) rn (fun j hj=>HJ.out j (by omega)));go_wp2;go_ret;exact ⟨aA (by rw [HR.o];exact HE.o.symm),hB0⟩
structure MD (w:qw)(nm:ByteArray)(ta:qO)(tn tc:Nat)(tz:qi)(ba:qO)(bn bc:Nat)(bl:List Bk)(da:qO)(dn dc:Nat)(dz:qi)(bss:Int)(ra:qO)(rn rc:Nat)(rz:qi)(ia:qO)(im ic:Nat)(ss:List ByteArray)(ea:qO)(en ec:Nat)(es:List Ex):Prop where
 n:nm.size<=1048576
 t:IS w ta tn tc tz
 b:BKS w ba bn bc bl
 d:BS w da dn dc dz
 s:wfi bss
 r:IS w ra rn rc rz
 i:SS w ia im ic ss
 e:ES w ea en ec es
theorem MD.bw {w w':qw}{tz:qi}{dz:qi}{rz:qi}{ss:List ByteArray}{es:List Ex}
 (h:MD w nm ta tn tc tz ba bn bc bl da dn dc dz bss ra rn rc rz ia im ic ss ea en ec es) (hb:qY w w'):MD w' nm ta tn tc tz ba bn bc bl da dn dc dz bss ra rn rc rz ia im ic ss ea en ec es:=
 ⟨h.n,h.t.bw hb,h.b.bw hb,h.d.bw hb,h.s,h.r.bw hb,h.i.bw hb,h.e.bw hb⟩
def mdo (nm:ByteArray)(tn:Nat)(tz:qi)(bn:Nat)(bl:List Bk)(dn:Nat)(bss:Int)(rn:Nat)(rz:qi)(im:Nat)(ss:List ByteArray)(en:Nat)(es:List Ex):Int:=
 if nmo nm=false then 1 else if cdo tn tz bn bl=false then 2 else if 512<dn\/bss<0\/512<bss then 3 else if rlo rn rz dn=false then 4 else if imo im ss=false then 5 else if exo tn bn bl en es=false then 6 else 0
theorem uY (nm:ByteArray)(ta:qO)(tn tc:Nat)(tz:qi)(ba:qO)(bn bc:Nat)(bl:List Bk)(da:qO)(dn dc:Nat)(dz:qi)(bss:Int)(ra:qO)(rn rc:Nat)(rz:qi)(ia:qO)(im ic:Nat)(ss:List ByteArray)(ea:qO)(en ec:Nat)(es:List Ex)(w:qw)
 (h:MD w nm ta tn tc tz ba bn bc bl da dn dc dz bss ra rn rc rz ia im ic ss ea en ec es):
 qC 181 #[.agg (qM nm ta tn tc ba bn bc da dn dc bss ra rn rc ia im ic ea en ec)] w (qB w (qI (mdo nm tn tz bn bl dn bss rn rz im ss en es))):=by
 obtain ⟨W,hW,hB0,kb⟩:=nwb w (qM nm ta tn tc ba bn bc da dn dc bss ra rn rc ia im ic ea en ec) 138;obtain ⟨r,hr⟩:=eqx (mdo nm tn tz bn bl dn bss rn rz im ss en es);rw [<- hr];unfold mdo at hr;have HRR:=zh hr;clear hr;have H0:=h.bw hB0;have hmd:=h.d.2.1;have hmi:=h.i.2.1;have htn:=h.t.2.1;have HN:=zh (fun w=>fV nm w h.n);have HCd:=zh (fun w ht hb=>aAp nm ta tn tc tz ba bn bc bl (qS da dn dc) (qS ra rn rc) (qS ia im ic) (qS ea en ec) bss w ht hb);have HRl:=zh (fun w h=>tG nm (qS ta tn tc) (qS ba bn bc) da dn dc bss ra rn rc rz (qS ia im ic) (qS ea en ec) w hmd h);have HEx:=zh (fun w hb h=>pR nm ta tn tc ba bn bc bl (qS da dn dc) (qS ra rn rc) (qS ia im ic) bss ea en ec es w htn hb h);unfold maxLen at hmd hmi;have hsz:=h.i.size;have HFU:=zh (fun k w=>nA (ss.getD k zS) w (hsz k));obtain ⟨s0,s1⟩:=h.s;clear h hsz htn;have HW:=zh hW;clear hW;generalize nmo nm=a1 at *;generalize cdo tn tz bn bl=a2 at *;generalize rlo rn rz dn=a4 at *;generalize exo tn bn bl en es=a6 at *;obtain ⟨q0,q1,q2,q3,q4,q5,q6,q7⟩:=kb.eight;go_enter func181,ntmps181
 go_wp2_with (first|(rw [<- HW.o])|(go_at_call 170;refine (HN.o _).mono ?_;rintro e w1 ⟨rfl,rfl⟩;cases a1))
 .have e:=zh (show r=1 from by rw [HRR.o];simp);go_ret;exact ⟨aH e.o.symm,hB0⟩
 .refine (HCd.o _ H0.t H0.b).mono ?_;rintro e w2 ⟨rfl,hb2⟩;have kb2:=kb.bw hb2;have H2:=H0.bw hb2;have hB2:=hB0.trans (hb2.mono hB0.size);clear hb2 kb H0 hB0 q0 q1 q2 q3 q4 q5 q6 q7;obtain ⟨q0,q1,q2,q3,q4,q5,q6,q7⟩:=kb2.eight;cases a2
  .have e:=zh (show r=2 from by rw [HRR.o];simp);go_wp2;go_ret;exact ⟨aH e.o.symm,hB2⟩
  .by_cases c1:512<dn
   .have e:=zh (show r=3 from by rw [HRR.o];simp [c1]);have c1':(512:Int)<(dn:Int):=by omega
    go_wp2;go_ret;exact ⟨aH e.o.symm,hB2⟩
   .have c1':¬ (512:Int)<(dn:Int):=by omega
    by_cases c2:bss<0
    .have e:=zh (show r=3 from by rw [HRR.o];simp [c2]);go_wp2;go_ret;exact ⟨aH e.o.symm,hB2⟩
    .by_cases c3:512<bss
     .have e:=zh (show r=3 from by rw [HRR.o];simp [c3]);go_wp2;go_ret;exact ⟨aH e.o.symm,hB2⟩
     .have HR2:=zh (show r=if a4=false then 4 else if imo im ss=false then 5 else if a6=false then 6 else 0 from by
       rw [HRR.o]
       simp only [Bool.true_eq_false,if_false,show ¬ (512<dn\/bss<0\/512<bss) by omega])
      clear HRR;go_wp2_with fail
      refine (HRl.o _ H2.r).mono ?_;rintro e w3 ⟨rfl,hb3⟩;have kb3:=kb2.bw hb3;have H3:=H2.bw hb3;have hB3:=hB2.trans (hb3.mono hB2.size);clear hb3 kb2 H2 hB2 q0 q1 q2 q3 q4 q5 q6 q7;obtain ⟨q0,q1,q2,q3,q4,q5,q6,q7⟩:=kb3.eight;cases a4
      .have e:=zh (show r=4 from by rw [HR2.o];simp);go_wp2;go_ret;exact ⟨aH e.o.symm,hB3⟩
      .by_cases d1:16<im
       .have e:=zh (show r=5 from by rw [HR2.o,show imo im ss=false by unfold imo;rw [xS (by omega)];rfl];simp);have d1':(16:Int)<(im:Int):=by omega
        go_wp2;go_ret;exact ⟨aH e.o.symm,hB3⟩
       .have d1':¬ (16:Int)<(im:Int):=by omega
        have HIM:=zh (show imo im ss=(List.range im).all (fun k=>fD (ss.getD k zS)) from by unfold imo;rw [xR (by omega)];rfl);go_wp2_with fail
        go_loop [3] (fun i=>∃ k:Nat,k<=im/\i=qI k/\Hid (∀ j,j<k->fD (ss.getD j zS)=true)) (fun i=>im-(intOf i).toNat)
        .exact ⟨0,xC _,rfl,zh (fun j hj=>by omega)⟩
        .obtain ⟨k,hk,rfl,HJ⟩:=hrel;by_cases hlt:k<im
         .have hlt':(k:Int)<(im:Int):=by omega
          obtain ⟨bb,off,rfl⟩:=H3.i.addr (by omega);have hck:=H3.i.at k hlt;have HZ:=zh (fR (fun k=>fD (ss.getD k zS)) im k hlt)
          have HG:=zh (show fD (ss.getD k zS)=true->∀ j,j<k+1->fD (ss.getD j zS)=true from fun h j hj=>by
           by_cases e:j=k
           .subst e;exact h
           .exact HJ.out j (by omega))
          have HF:=zh (HFU.o k);generalize ss.getD k zS=s at *;cases hf:fD s
          .rw [hf] at HF;have e:=zh (show r=5 from by rw [HR2.o,HIM.o,HZ.o hf];simp);go_wp2_with (go_at_call 113;refine (HF.o _).mono ?_;rintro e w4 ⟨rfl,rfl⟩)
           go_ret;exact ⟨aH e.o.symm,hB3⟩
          .rw [hf] at HF;go_wp2_with (go_at_call 113;refine (HF.o _).mono ?_;rintro e w4 ⟨rfl,rfl⟩)
           go_round
           .exact ⟨k+1,by omega,by go_num,zh (HG.o hf)⟩
           .simp [intOf];omega
         .have HI:=zh (show imo im ss=true from by rw [HIM.o];exact eW (fun k=>fD (ss.getD k zS)) im (fun j hj=>HJ.out j (by omega)));go_wp2_with fail
          refine (HEx.o _ H3.b H3.e).mono ?_;rintro e w5 ⟨rfl,hb5⟩;have hB5:=hB3.trans (hb5.mono hB3.size);cases a6
          .have e:=zh (show r=6 from by rw [HR2.o,HI.o];simp);go_wp2;go_ret;exact ⟨aH e.o.symm,hB5⟩
          .have e:=zh (show r=0 from by rw [HR2.o,HI.o];simp);go_wp2;go_ret;exact ⟨aH e.o.symm,hB5⟩
def upS (f:Nat->Nat):Nat->Nat
 | 0=>0
 | k+1=>upS f k+f k
theorem eU (f:Nat->Nat)(k:Nat):∀ m,k<=m->upS f k<=upS f m
 | 0,h=>by
    obtain rfl:k=0:=by omega
    exact aN
 | m+1,h=>by
   by_cases e:k=m+1
   .subst e;exact aN
   .have:=eU f k m (by omega);show _<=upS f m+f m;omega
def szR (l:Int)(t:Nat):Int:=if l<(t:Int) then -1 else l-t
theorem aBq (a:qO)(n cap:Nat)(bl:List Bk)(l:Int)(w:qw)(h:BKS w a n cap bl)(l0:0<=l)(l1:l<=1048576):
 qC 135 #[qS a n cap,qI l] w fun e w'=>e=.returned (qI (szR l (n+upS (fun j=>(bl.getD j zB).2.1) n)))/\w=w':=by
 have hm:=h.2.1;unfold maxLen at hm;obtain ⟨r,hr⟩:=eqx (szR l (n+upS (fun j=>(bl.getD j zB).2.1) n));rw [<- hr];unfold szR at hr;have HR:=zh hr;clear hr;by_cases c1:l<(n:Int)
 .have e:=zh (show r=-1 from by rw [HR.o,if_pos (by omega)]);go_enter func135,ntmps135
  go_wp2;go_ret;exact ⟨aH e.o.symm,rfl⟩
 .go_enter func135,ntmps135
  go_wp2_with fail
  go_loop [1,5] (fun v i=>∃ (k:Nat) (z:Int),k<=n/\i=qI k/\v=qI z/\0<=z/\z<=1048576/\Hid (z=l-n-(upS (fun j=>(bl.getD j zB).2.1) k:Nat))) (fun _ i=>n-(intOf i).toNat)
  .exact ⟨0,l-n,xC _,rfl,rfl,by omega,by omega,zh (by simp [upS])⟩
  .obtain ⟨k,z,hk,rfl,rfl,z0,z1,HZ⟩:=hrel;by_cases hlt:k<n
   .have hlt':(k:Int)<(n:Int):=by omega
    obtain ⟨b,off,rfl⟩:=h.addr (by omega);have hck:=h.at k hlt;have hik:=h.2.2.2.1 k hlt;have hmx:=hik.2.1;have HS:=zh (fun w=>gA (bl.getD k zB).1 (bl.getD k zB).2.1 (bl.getD k zB).2.2.1 z w z0 z1 hmx);have HU:Zh (upS (fun j=>(bl.getD j zB).2.1) (k+1)=upS (fun j=>(bl.getD j zB).2.1) k+(bl.getD k zB).2.1):=rfl;have HM:=zh (eU (fun j=>(bl.getD j zB).2.1) (k+1) n (by omega));clear hik;generalize (bl.getD k zB).1=xa at *;generalize hxn:(bl.getD k zB).2.1=xn at *;generalize (bl.getD k zB).2.2.1=xc at *;by_cases c2:z<(xn:Int)
    .rw [if_pos c2] at HS
     have e:=zh (show r=-1 from by
      have h1:=HZ.out;have h2:=HU.o;have h3:=HM.o
      rw [HR.o,if_pos (by omega)])
     go_wp2_with (go_at_call 72;refine (HS.o _).mono ?_;rintro e w1 ⟨rfl,rfl⟩)
     go_ret;exact ⟨aH e.o.symm,rfl⟩
    .rw [if_neg c2] at HS;have hz2:¬ z-(xn:Int)<0:=by omega
     go_wp2_with (go_at_call 72;refine (HS.o _).mono ?_;rintro e w1 ⟨rfl,rfl⟩)
     go_round
     .exact ⟨k+1,z-xn,by omega,by go_num,rfl,by omega,by omega,zh (by have h1:=HZ.out;have h2:=HU.o;omega)⟩
     .simp [intOf];omega
   .have e:=zh (show r=z from by
     have h1:=HZ.out;have hkn:k=n:=by omega
     rw [hkn] at h1;rw [HR.o,if_neg (by omega)]
     omega)
    go_wp2;go_ret;exact ⟨aH e.o.symm,rfl⟩
def TS (w:qw)(a:qO)(n cap:Nat)(ss:List ByteArray):Prop:=
 ss.length=n/\n<=maxLen/\(∀ i,(ss.getD i zS).size<=maxLen)/\(n≠0->∃ b off,a=some (qR b off)/\∀ i,i<n->w.cell? (qR b (off+i))=some (.string (ss.getD i zS)))/\n<=cap
theorem TS.bw {w w':qw}{ss:List ByteArray}(h:TS w a n cap ss)(hb:qY w w'):TS w' a n cap ss:=by
 obtain ⟨h1,h2,h3,h4,h5⟩:=h;refine ⟨h1,h2,h3,fun hn=>?_,h5⟩;obtain ⟨b,off,e,hc⟩:=h4 hn;exact ⟨b,off,e,fun i hi=>(hb.cell (xD w _ (hc i hi))).trans (hc i hi)⟩
theorem TS.at {w:qw}{ss:List ByteArray}(h:TS w a n cap ss)(i:Nat)(hi:i<n):∃ b off,a=some (qR b off)/\w.cell? (qR b (off+i))=some (.string (ss.getD i zS)):=by
 obtain ⟨b,off,e,hc⟩:=h.2.2.2.1 (by omega);exact ⟨b,off,e,hc i hi⟩
theorem TS.ss {w:qw}{a:qO}{n cap:Nat}{ss:List ByteArray}(h:TS w a n cap ss)(hs:upS (fun j=>(ss.getD j zS).size) n<=1048576):SS w a n cap ss:=by
 refine ⟨h.1,h.2.1,fun s hm=>?_,h.2.2.2.1,h.2.2.2.2⟩;obtain ⟨i,hi,rfl⟩:=List.getElem_of_mem hm;have h1:=eU (fun j=>(ss.getD j zS).size) (i+1) n (by have:=h.1;omega);have h2:upS (fun j=>(ss.getD j zS).size) (i+1)=upS (fun j=>(ss.getD j zS).size) i+(ss.getD i zS).size:=rfl;have h3:(ss.getD i zS).size=ss[i].size:=by simp [xB,hi]
 omega
theorem uR (a:qO)(n cap:Nat)(ss:List ByteArray)(l:Int)(w:qw)(h:TS w a n cap ss)(l0:0<=l)(l1:l<=1048576):
 qC 136 #[qS a n cap,qI l] w fun e w'=>e=.returned (qI (szR l (n+upS (fun j=>(ss.getD j zS).size) n)))/\w=w':=by
 have hm:=h.2.1;unfold maxLen at hm;obtain ⟨r,hr⟩:=eqx (szR l (n+upS (fun j=>(ss.getD j zS).size) n));rw [<- hr];unfold szR at hr;have HR:=zh hr;clear hr;by_cases c1:l<(n:Int)
 .have e:=zh (show r=-1 from by rw [HR.o,if_pos (by omega)]);go_enter func136,ntmps136
  go_wp2;go_ret;exact ⟨aH e.o.symm,rfl⟩
 .go_enter func136,ntmps136
  go_wp2_with fail
  go_loop [1,5] (fun v i=>∃ (k:Nat) (z:Int),k<=n/\i=qI k/\v=qI z/\0<=z/\z<=1048576/\Hid (z=l-n-(upS (fun j=>(ss.getD j zS).size) k:Nat))) (fun _ i=>n-(intOf i).toNat)
  .exact ⟨0,l-n,xC _,rfl,rfl,by omega,by omega,zh (by simp [upS])⟩
  .obtain ⟨k,z,hk,rfl,rfl,z0,z1,HZ⟩:=hrel;by_cases hlt:k<n
   .have hlt':(k:Int)<(n:Int):=by omega
    obtain ⟨b,off,rfl,hck⟩:=h.at k hlt;have hmx:=h.2.2.1 k;unfold maxLen at hmx;have HU:Zh (upS (fun j=>(ss.getD j zS).size) (k+1)=upS (fun j=>(ss.getD j zS).size) k+(ss.getD k zS).size):=rfl;have HM:=zh (eU (fun j=>(ss.getD j zS).size) (k+1) n (by omega));generalize ss.getD k zS=s at *;by_cases c2:z<(s.size:Int)
    .have c2':z-(s.size:Int)<0:=by omega
     have e:=zh (show r=-1 from by
      have h1:=HZ.out;have h2:=HU.o;have h3:=HM.o
      rw [HR.o,if_pos (by omega)])
     go_wp2;go_ret;exact ⟨aH e.o.symm,rfl⟩
    .have c2':¬ z-(s.size:Int)<0:=by omega
     go_wp2
     go_round
     .exact ⟨k+1,z-s.size,by omega,by go_num,rfl,by omega,by omega,zh (by have h1:=HZ.out;have h2:=HU.o;omega)⟩
     .simp [intOf];omega
   .have e:=zh (show r=z from by
     have h1:=HZ.out;have hkn:k=n:=by omega
     rw [hkn] at h1;rw [HR.o,if_neg (by omega)]
     omega)
    go_wp2;go_ret;exact ⟨aH e.o.symm,rfl⟩
def TE (w:qw)(a:qO)(n cap:Nat)(es:List Ex):Prop:=
 es.length=n/\n<=maxLen/\(∀ i,(es.getD i zE).1.size<=maxLen)/\(n≠0->∃ b off,a=some (qR b off)/\∀ i,i<n->w.cell? (qR b (off+i*3))=some (.string (es.getD i zE).1)/\w.cell? (qR b (off+i*3+1))=some (qI (es.getD i zE).2.1)/\w.cell? (qR b (off+i*3+2))=some (qI (es.getD i zE).2.2))/\n<=cap
theorem TE.bw {w w':qw}{es:List Ex}(h:TE w a n cap es)(hb:qY w w'):TE w' a n cap es:=by
 obtain ⟨h1,h2,h3,h4,h5⟩:=h;refine ⟨h1,h2,h3,fun hn=>?_,h5⟩;obtain ⟨b,off,e,hc⟩:=h4 hn;have key:∀ o v,w.cell? (qR b o)=some v->w'.cell? (qR b o)=some v:=fun o v hv=>(hb.cell (xD w _ hv)).trans hv;exact ⟨b,off,e,fun i hi=>⟨key _ _ (hc i hi).1,key _ _ (hc i hi).2.1,key _ _ (hc i hi).2.2⟩⟩
theorem TE.at {w:qw}{es:List Ex}(h:TE w a n cap es)(i:Nat)(hi:i<n):∃ b off,a=some (qR b off)/\w.cell? (qR b (off+i*3))=some (.string (es.getD i zE).1)/\w.cell? (qR b (off+i*3+1))=some (qI (es.getD i zE).2.1)/\w.cell? (qR b (off+i*3+2))=some (qI (es.getD i zE).2.2):=by
 obtain ⟨b,off,e,hc⟩:=h.2.2.2.1 (by omega);exact ⟨b,off,e,hc i hi⟩
theorem TE.es {w:qw}{a:qO}{n cap:Nat}{es:List Ex}(h:TE w a n cap es)(hs:upS (fun j=>(es.getD j zE).1.size) n<=1048576):ES w a n cap es:=by
 refine ⟨h.1,h.2.1,fun s hm=>?_,h.2.2.2.1,h.2.2.2.2⟩;obtain ⟨i,hi,rfl⟩:=List.getElem_of_mem hm;have h1:=eU (fun j=>(es.getD j zE).1.size) (i+1) n (by have:=h.1;omega);have h2:upS (fun j=>(es.getD j zE).1.size) (i+1)=upS (fun j=>(es.getD j zE).1.size) i+(es.getD i zE).1.size:=rfl;have h3:(es.getD i zE).1.size=es[i].1.size:=by simp [xB,hi]
 omega
theorem yX (s:ByteArray)(b i l:Int)(w:qw)(hs:s.size<=maxLen)(l0:0<=l)(l1:l<=1048576):
 qC 179 #[.agg #[.string s,qI b,qI i],qI l] w (qB w (qI (szR l s.size))):=by
 unfold maxLen at hs;have HB:=zh ((Below.refl w.heap.size w).alloc aN (.cells #[.string s,qI b,qI i] 218));obtain ⟨r,hr⟩:=eqx (szR l s.size);rw [<- hr];unfold szR at hr;have HR:=zh hr;clear hr;by_cases c:l<(s.size:Int)
 .have e:=zh (show r=-1 by rw [HR.o,if_pos c]);have c':l-(s.size:Int)<0:=by omega
  go_enter func179,ntmps179
  go_wp2;go_ret;exact ⟨aH e.o.symm,HB.o⟩
 .have e:=zh (show r=l-s.size by rw [HR.o,if_neg c]);have c':¬ l-(s.size:Int)<0:=by omega
  go_enter func179,ntmps179
  go_wp2;go_ret;exact ⟨aH e.o.symm,HB.o⟩
theorem uU (a:qO)(n cap:Nat)(es:List Ex)(l:Int)(w:qw)(h:TE w a n cap es)(l0:0<=l)(l1:l<=1048576):
 qC 137 #[qS a n cap,qI l] w fun e w'=>e=.returned (qI (szR l (n+upS (fun j=>(es.getD j zE).1.size) n)))/\qY w w':=by
 have hm:=h.2.1;unfold maxLen at hm;obtain ⟨r,hr⟩:=eqx (szR l (n+upS (fun j=>(es.getD j zE).1.size) n));rw [<- hr];unfold szR at hr;have HR:=zh hr;clear hr;by_cases c1:l<(n:Int)
 .have e:=zh (show r=-1 from by rw [HR.o,if_pos (by omega)]);go_enter func137,ntmps137
  go_wp2;go_ret;exact ⟨aH e.o.symm,brf⟩
 .go_enter func137,ntmps137
  go_wp2_with fail
  go_loopw [1,5] (fun v i wr=>∃ (k:Nat) (z:Int),k<=n/\i=qI k/\v=qI z/\0<=z/\z<=1048576/\Hid (z=l-n-(upS (fun j=>(es.getD j zE).1.size) k:Nat))/\qY w wr) (fun _ i _=>n-(intOf i).toNat)
  .exact ⟨0,l-n,xC _,rfl,rfl,by omega,by omega,zh (by simp [upS]),brf⟩
  .obtain ⟨k,z,hk,rfl,rfl,z0,z1,HZ,hB⟩:=hrel;by_cases hlt:k<n
   .have hlt':(k:Int)<(n:Int):=by omega
    obtain ⟨b,off,rfl,y1,y2,y3⟩:=(h.bw hB).at k hlt;have HS:=zh (fun w=>yX (es.getD k zE).1 (es.getD k zE).2.1 (es.getD k zE).2.2 z w (h.2.2.1 k) z0 z1);have HU:Zh (upS (fun j=>(es.getD j zE).1.size) (k+1)=upS (fun j=>(es.getD j zE).1.size) k+(es.getD k zE).1.size):=rfl;have HM:=zh (eU (fun j=>(es.getD j zE).1.size) (k+1) n (by omega));generalize es.getD k zE=E at *;obtain ⟨s,eb,ei⟩:=E;dsimp only at y1 y2 y3 HS HU;unfold szR at HS;by_cases c2:z<(s.size:Int)
    .rw [if_pos c2] at HS
     have e:=zh (show r=-1 from by
      have h1:=HZ.out;have h2:=HU.o;have h3:=HM.o
      rw [HR.o,if_pos (by omega)])
     go_wp2_with fail
     refine (HS.o _).mono ?_;rintro e w1 ⟨rfl,hb1⟩;go_wp2;go_ret;exact ⟨aH e.o.symm,hB.trans (hb1.mono hB.size)⟩
    .rw [if_neg c2] at HS;have hz2:¬ z-(s.size:Int)<0:=by omega
     go_wp2_with fail
     refine (HS.o _).mono ?_;rintro e w1 ⟨rfl,hb1⟩;go_wp2
     go_roundw
     .exact ⟨k+1,z-s.size,by omega,by go_num,rfl,by omega,by omega,zh (by have h1:=HZ.out;have h2:=HU.o;omega),hB.trans (hb1.mono hB.size)⟩
     .simp [intOf];omega
   .have e:=zh (show r=z from by
     have h1:=HZ.out;have hkn:k=n:=by omega
     rw [hkn] at h1;rw [HR.o,if_neg (by omega)]
     omega)
    go_wp2;go_ret;exact ⟨aH e.o.symm,hB⟩
theorem jR (a:qO)(n cap:Nat)(l:Int)(w:qw)(h0:0<=l)(h1:l<=1048576)(hn:n<=maxLen):
 qC 73 #[qS a n cap,qI l] w fun e w'=>e=.returned (qI (if l<n then -1 else l-n))/\w'=w:=by
 unfold maxLen at hn;by_cases h:l<n
 .go_enter func73,ntmps73
  go_wp2;go_ret;exact ⟨rfl,rfl⟩
 .go_enter func73,ntmps73
  go_wp2;go_ret;exact ⟨rfl,rfl⟩
theorem gM (a:qO)(n cap:Nat)(zs:qi)(w:qw)(h:BS w a n cap zs)(hn:n<=1048576:=by omega):
 qC 87 #[qS a n cap] w fun e w'=>e=.returned (qS (qP w.heap.size) n n)/\Row8 w' w.heap.size zs/\qY w w':=by
 obtain ⟨i0,hi,hz0,hz1,hz2⟩:=info_parts wU;obtain ⟨hl,hmx,hr,hc,_⟩:=h;by_cases hn0:n=0
 .subst hn0;obtain rfl:zs=[]:=xE hl;clear hc;go_enter func87,ntmps87
  go_wp2_with (at_make;refine wpList_make_full _ rfl _ _ 28 rfl w.heap.size 5 i0 (.int .u8 0) 1 underlying28 hi hz0 hz1 .i64 .i64 _ _ 0 rfl rfl rfl rfl (by omega) (by unfold maxLen;omega) aN ?_;intro w1 hown hgr)
  have hrow:=oW hown;have hbel:=aV hgr;clear hown hgr;go_loop [4] (fun i=>i=qI 0) (fun _=>0)
  .rfl
  .obtain rfl:=hrel;go_wp2;go_ret;exact ⟨rfl,hrow,hbel⟩
 .obtain ⟨b,off,rfl,hd⟩:=hc hn0;clear hc;go_enter func87,ntmps87
  go_wp2_with (at_make;refine wpList_make_full _ rfl _ _ 28 rfl w.heap.size 5 i0 (.int .u8 0) 1 underlying28 hi hz0 hz1 .i64 .i64 _ _ n rfl rfl rfl rfl (by rw [hz2];omega) (by unfold maxLen;omega) aN ?_;intro w1 hown hgr)
  have hrow:=oW hown;have hbel:=aV hgr;clear hown hgr hi hz0 hz1 hz2;go_loopw [4] (fun i wr=>∃ k:Nat,k<=n/\i=qI k/\Row8 wr w.heap.size (mid zs k)/\qY w wr) (qf n)
  .exact ⟨0,xC _,rfl,by rw [sM,hl];exact hrow,hbel⟩
  .obtain ⟨k,hk,rfl,hR,hB⟩:=hrel;clear hrow hbel;by_cases hlt:k<n
   .have hlt':(k:Int)<(n:Int):=by omega
    have hck:wr.cell? (qR b (off+k))=some (.int .u8 (zs.getD k 0)):=(hB.cell (xD w _ (hd k hlt))).trans (hd k hlt);have hgk:wr.cell? (qR w.heap.size k)=some (.int .u8 ((mid zs k).getD k 0)):=hR.cell k (by rw [aAh];omega);have hfk:wr.frozen? (qR w.heap.size k)=false:=hR.frozen k;have R':=hR.set k (zs.getD k 0);rw [aAg zs k (by omega)] at R';have B':qY w (wr.setCell (qR w.heap.size k) (.int .u8 (zs.getD k 0))):=hB.setCell aN _;have HR:=R';have HB:=B';generalize zs.getD k 0=z at *;generalize (mid zs k).getD k 0=z0 at *;clear hd hR hB;go_wp2
    go_roundw
    .exact ⟨k+1,by omega,by go_num,HR,HB⟩
    .simp [qf,intOf];omega
   .have e:Zh (k=n):=by show k=n;omega
    go_wp2;go_ret;exact ⟨rfl,by rw [e.o,<- hl,aAi] at hR;exact hR,hB⟩
structure MT (w:qw)(nm:ByteArray)(ta:qO)(tn tc:Nat)(tz:qi)(ba:qO)(bn bc:Nat)(bl:List Bk)(da:qO)(dn dc:Nat)(dz:qi)(bss:Int)(ra:qO)(rn rc:Nat)(rz:qi)(ia:qO)(im ic:Nat)(ss:List ByteArray)(ea:qO)(en ec:Nat)(es:List Ex):Prop where
 n:nm.size<=maxLen
 t:IS w ta tn tc tz
 b:BKS w ba bn bc bl
 d:BS w da dn dc dz
 s:wfi bss
 r:IS w ra rn rc rz
 i:TS w ia im ic ss
 e:TE w ea en ec es
theorem MT.bw {w w':qw}{tz:qi}{dz:qi}{rz:qi}{ss:List ByteArray}{es:List Ex}(h:MT w nm ta tn tc tz ba bn bc bl da dn dc dz bss ra rn rc rz ia im ic ss ea en ec es)(hb:qY w w'):MT w' nm ta tn tc tz ba bn bc bl da dn dc dz bss ra rn rc rz ia im ic ss ea en ec es:=
 ⟨h.n,h.t.bw hb,h.b.bw hb,h.d.bw hb,h.s,h.r.bw hb,h.i.bw hb,h.e.bw hb⟩
def cR (nm:ByteArray)(tn bn:Nat)(bl:List Bk)(dn rn im:Nat)(ss:List ByteArray)(en:Nat)(es:List Ex):Nat:=
 nm.size+tn+(bn+upS (fun j=>(bl.getD j zB).2.1) bn)+dn+rn+(im+upS (fun j=>(ss.getD j zS).size) im)+(en+upS (fun j=>(es.getD j zE).1.size) en)
theorem yV (nm:ByteArray)(ta:qO)(tn tc:Nat)(tz:qi)(ba:qO)(bn bc:Nat)(bl:List Bk)(da:qO)(dn dc:Nat)(dz:qi)(bss:Int)(ra:qO)(rn rc:Nat)(rz:qi)(ia:qO)(im ic:Nat)(ss:List ByteArray)(ea:qO)(en ec:Nat)(es:List Ex)(l:Int)(w:qw)(h:MT w nm ta tn tc tz ba bn bc bl da dn dc dz bss ra rn rc rz ia im ic ss ea en ec es)(l0:0<=l)(l1:l<=1048576):
 qC 71 #[.agg (qM nm ta tn tc ba bn bc da dn dc bss ra rn rc ia im ic ea en ec),qI l] w (qB w (qI (szR l (cR nm tn bn bl dn rn im ss en es)))):=by
 obtain ⟨W,hW,hB0,kb⟩:=nwb w (qM nm ta tn tc ba bn bc da dn dc bss ra rn rc ia im ic ea en ec) 118;obtain ⟨q0,q1,q2,q3,q4,q5,q6,q7⟩:=kb.eight;have HW:=zh hW;clear hW;obtain ⟨r,hr⟩:=eqx (szR l (cR nm tn bn bl dn rn im ss en es));rw [<- hr];unfold szR cR at hr;have HR:=zh hr;clear hr;have H0:=h.bw hB0;have hns:=h.n;unfold maxLen at hns;by_cases c0:l<(nm.size:Int)
 .have e:=zh (show r=-1 from by rw [HR.o,if_pos (by omega)]);have c0':l-(nm.size:Int)<0:=by omega
  go_enter func71,ntmps71
  go_wp2_with (rw [<- HW.o])
  go_ret;exact ⟨aH e.o.symm,hB0⟩
 .have c0':¬ l-(nm.size:Int)<0:=by omega
  obtain ⟨z0,hz0⟩:∃ z:Int,z=l-nm.size:=⟨_,rfl⟩;have g0:0<=z0:=by omega
  have g0':z0<=1048576:=by omega
  go_enter func71,ntmps71
  go_wp2_with (rw [<- HW.o])
  rw [<- hz0];have HZ0:=zh hz0;clear hz0;have HS0:=zh (fun w=>gA ta tn tc z0 w g0 g0' h.t.2.1);by_cases k0:z0<((tn:Nat):Int)
  .rw [if_pos k0] at HS0;have e:=zh (show r=-1 from by have h1:=HZ0.o;rw [HR.o,if_pos (by omega)]);refine (HS0.o _).mono ?_;rintro e w1 ⟨rfl,rfl⟩;go_wp2;go_ret;exact ⟨aH e.o.symm,hB0⟩
  .rw [if_neg k0] at HS0;obtain ⟨z1,hz⟩:∃ z:Int,z=z0-((tn:Nat):Int):=⟨_,rfl⟩;rw [<- hz] at HS0;have g1:0<=z1:=by omega
   have g1':z1<=1048576:=by omega
   have HZ1:Zh (z1=l-nm.size-((tn:Nat):Int)):=by have h1:=HZ0.o;show _=_;omega
   clear hz;refine (HS0.o _).mono ?_;rintro e w1 ⟨rfl,rfl⟩;have ng0:¬ z1<0:=by omega
   go_wp2_with fail
   have HS1:=zh (fun w hb=>aBq ba bn bc bl z1 w hb g1 g1');unfold szR at HS1;by_cases k1:z1<(((bn+upS (fun j=>(bl.getD j zB).2.1) bn):Nat):Int)
   .rw [if_pos k1] at HS1;have e:=zh (show r=-1 from by have h1:=HZ1.o;rw [HR.o,if_pos (by omega)]);refine (HS1.o _ H0.b).mono ?_;rintro e w1 ⟨rfl,rfl⟩;go_wp2;go_ret;exact ⟨aH e.o.symm,hB0⟩
   .rw [if_neg k1] at HS1;obtain ⟨z2,hz⟩:∃ z:Int,z=z1-(((bn+upS (fun j=>(bl.getD j zB).2.1) bn):Nat):Int):=⟨_,rfl⟩;rw [<- hz] at HS1;have g2:0<=z2:=by omega
    have g2':z2<=1048576:=by omega
    have HZ2:Zh (z2=l-nm.size-((tn:Nat):Int)-(((bn+upS (fun j=>(bl.getD j zB).2.1) bn):Nat):Int)):=by have h1:=HZ1.o;show _=_;omega
    clear hz;refine (HS1.o _ H0.b).mono ?_;rintro e w1 ⟨rfl,rfl⟩;have ng1:¬ z2<0:=by omega
    go_wp2_with fail
    have HS2:=zh (fun w=>jR da dn dc z2 w g2 g2' h.d.2.1);by_cases k2:z2<((dn:Nat):Int)
    .rw [if_pos k2] at HS2;have e:=zh (show r=-1 from by have h1:=HZ2.o;rw [HR.o,if_pos (by omega)]);refine (HS2.o _).mono ?_;rintro e w1 ⟨rfl,rfl⟩;go_wp2;go_ret;exact ⟨aH e.o.symm,hB0⟩
    .rw [if_neg k2] at HS2;obtain ⟨z3,hz⟩:∃ z:Int,z=z2-((dn:Nat):Int):=⟨_,rfl⟩;rw [<- hz] at HS2;have g3:0<=z3:=by omega
     have g3':z3<=1048576:=by omega
     have HZ3:Zh (z3=l-nm.size-((tn:Nat):Int)-(((bn+upS (fun j=>(bl.getD j zB).2.1) bn):Nat):Int)-((dn:Nat):Int)):=by have h1:=HZ2.o;show _=_;omega
     clear hz;refine (HS2.o _).mono ?_;rintro e w1 ⟨rfl,rfl⟩;have ng2:¬ z3<0:=by omega
     go_wp2_with fail
     have HS3:=zh (fun w=>gA ra rn rc z3 w g3 g3' h.r.2.1);by_cases k3:z3<((rn:Nat):Int)
     .rw [if_pos k3] at HS3;have e:=zh (show r=-1 from by have h1:=HZ3.o;rw [HR.o,if_pos (by omega)]);refine (HS3.o _).mono ?_;rintro e w1 ⟨rfl,rfl⟩;go_wp2;go_ret;exact ⟨aH e.o.symm,hB0⟩
     .rw [if_neg k3] at HS3;obtain ⟨z4,hz⟩:∃ z:Int,z=z3-((rn:Nat):Int):=⟨_,rfl⟩;rw [<- hz] at HS3;have g4:0<=z4:=by omega
      have g4':z4<=1048576:=by omega
      have HZ4:Zh (z4=l-nm.size-((tn:Nat):Int)-(((bn+upS (fun j=>(bl.getD j zB).2.1) bn):Nat):Int)-((dn:Nat):Int)-((rn:Nat):Int)):=by have h1:=HZ3.o;show _=_;omega
      clear hz;refine (HS3.o _).mono ?_;rintro e w1 ⟨rfl,rfl⟩;have ng3:¬ z4<0:=by omega
      go_wp2_with fail
      have HS4:=zh (fun w hb=>uR ia im ic ss z4 w hb g4 g4');unfold szR at HS4;by_cases k4:z4<(((im+upS (fun j=>(ss.getD j zS).size) im):Nat):Int)
      .rw [if_pos k4] at HS4;have e:=zh (show r=-1 from by have h1:=HZ4.o;rw [HR.o,if_pos (by omega)]);refine (HS4.o _ H0.i).mono ?_;rintro e w1 ⟨rfl,rfl⟩;go_wp2;go_ret;exact ⟨aH e.o.symm,hB0⟩
      .rw [if_neg k4] at HS4;obtain ⟨z5,hz⟩:∃ z:Int,z=z4-(((im+upS (fun j=>(ss.getD j zS).size) im):Nat):Int):=⟨_,rfl⟩;rw [<- hz] at HS4;have g5:0<=z5:=by omega
       have g5':z5<=1048576:=by omega
       have HZ5:Zh (z5=l-nm.size-((tn:Nat):Int)-(((bn+upS (fun j=>(bl.getD j zB).2.1) bn):Nat):Int)-((dn:Nat):Int)-((rn:Nat):Int)-(((im+upS (fun j=>(ss.getD j zS).size) im):Nat):Int)):=by have h1:=HZ4.o;show _=_;omega
       clear hz;refine (HS4.o _ H0.i).mono ?_;rintro e w1 ⟨rfl,rfl⟩;have ng4:¬ z5<0:=by omega
       go_wp2_with fail
       have HS5:=zh (fun w hb=>uU ea en ec es z5 w hb g5 g5');unfold szR at HS5;by_cases k5:z5<(((en+upS (fun j=>(es.getD j zE).1.size) en):Nat):Int)
       .rw [if_pos k5] at HS5;have e:=zh (show r=-1 from by have h1:=HZ5.o;rw [HR.o,if_pos (by omega)]);refine (HS5.o _ H0.e).mono ?_;rintro e w1 ⟨rfl,hbE⟩;go_wp2;go_ret;exact ⟨aH e.o.symm,hB0.trans (hbE.mono hB0.size)⟩
       .rw [if_neg k5] at HS5;obtain ⟨z6,hz⟩:∃ z:Int,z=z5-(((en+upS (fun j=>(es.getD j zE).1.size) en):Nat):Int):=⟨_,rfl⟩;rw [<- hz] at HS5;have g6:0<=z6:=by omega
        have g6':z6<=1048576:=by omega
        have HZ6:Zh (z6=l-nm.size-((tn:Nat):Int)-(((bn+upS (fun j=>(bl.getD j zB).2.1) bn):Nat):Int)-((dn:Nat):Int)-((rn:Nat):Int)-(((im+upS (fun j=>(ss.getD j zS).size) im):Nat):Int)-(((en+upS (fun j=>(es.getD j zE).1.size) en):Nat):Int)):=by have h1:=HZ5.o;show _=_;omega
        clear hz;refine (HS5.o _ H0.e).mono ?_;rintro e w1 ⟨rfl,hbE⟩;have ng5:¬ z6<0:=by omega
        have e:=zh (show r=z6 from by have h1:=HZ6.o;rw [HR.o,if_neg (by omega)];omega);go_wp2;go_ret;exact ⟨aH e.o.symm,hB0.trans (hbE.mono hB0.size)⟩
def RowT (w:qw)(g:Nat)(zs:List ByteArray):Prop:=w.heap[g]?=some (.cells (zs.map (Value.string)).toArray 9 (0,0))
theorem RowT.cell {w:qw}(h:RowT w g zs)(i:Nat)(hi:i<zs.length):w.cell? (qR g i)=some (.string (zs.getD i zS)):=by
 rw [cell_of_row w g i _ _ _ h];simp [xB,hi]
theorem RowT.frozen {w:qw}(h:RowT w g zs)(i:Nat):w.frozen? (qR g i)=false:=frozen_of_row w g i _ _ h
theorem RowT.set {w:qw}(h:RowT w g zs)(i:Nat)(z:ByteArray):RowT (w.setCell (qR g i) (.string z)) g (zs.set i z):=by
 unfold RowT at *;rw [heap_setCell_same w g i _ _ _ h];simp [List.map_set]
theorem RowT.lt {w:qw}(h:RowT w g zs):g<w.heap.size:=by
 unfold RowT at h;by_cases hg:g<w.heap.size
 .exact hg
 .simp [Array.getElem?_eq_none (Nat.le_of_not_lt hg)] at h
theorem aKg:(prog.info? 9).map (fun i=>(i.zero,i.size,i.bytes))=some (some (.string ⟨#[]⟩),1,16):=by kernel_rfl
theorem aPl (n:Nat):(madeCells (Value.cells (.string ⟨#[]⟩)) (n*1))=((List.replicate n zS).map (Value.string)).toArray:=by
 apply Array.ext
 .simp [size_madeCells]
 .intro i h1 h2;simp [madeCells,Value.cells,Nat.mod_one,zS]
theorem mQ {w:qw}(h:w.ownsRow base 9 1 (qS (qP g) n n) n (madeCells (Value.cells (.string ⟨#[]⟩)) (n*1)).toList):RowT w g (List.replicate n zS):=by
 obtain ⟨hl,h|⟨g',cap,cur,hv,hb,hh,h1,h2,h3,h4⟩⟩:=h
 .simp at h
 .simp at hv;obtain ⟨rfl,rfl⟩:=hv;unfold RowT;rw [hh]
  have e:cur.toList=(madeCells (Value.cells (.string ⟨#[]⟩)) (n*1)).toList:=by
   rw [<- h4,xG (by simp [h3])]
  have e2:cur=madeCells (Value.cells (.string ⟨#[]⟩)) (n*1):=Array.toList_inj.1 e;rw [e2,aPl]
def mE (zs:List ByteArray)(k:Nat):List ByteArray:=(List.range zs.length).map (fun i=>if i<k then zs.getD i zS else zS)
theorem aJ0 (zs:List ByteArray)(k:Nat):(mE zs k).length=zs.length:=by simp [mE]
theorem aHq (zs:List ByteArray):mE zs 0=List.replicate zs.length zS:=by
 apply List.ext_getElem
 .simp [mE]
 .intro i h1 h2;simp [mE]
theorem aJ1 (zs:List ByteArray):mE zs zs.length=zs:=by
 apply List.ext_getElem
 .simp [mE]
 .intro i h1 h2;simp [mE,h2]
theorem aJz (zs:List ByteArray)(k:Nat)(h:k<zs.length):(mE zs k).set k (zs.getD k zS)=mE zs (k+1):=by
 apply List.ext_getElem
 .simp [mE]
 .intro i h1 h2;simp only [mE,List.getElem_set,List.getElem_map,List.getElem_range];by_cases hik:k=i
  .subst hik;simp
  .by_cases h3:i<k
   .simp [hik,h3,show i<k+1 by omega]
   .simp [hik,h3,show ¬ i<k+1 by omega]
theorem uK (a:qO)(n cap:Nat)(zs:List ByteArray)(w:qw)(h:TS w a n cap zs)(hn:n<=1048576):
 qC 151 #[qS a n cap] w fun e w'=>e=.returned (qS (qP w.heap.size) n n)/\RowT w' w.heap.size zs/\qY w w':=by
 obtain ⟨i0,hi,hz0,hz1,hz2⟩:=info_parts aKg;obtain ⟨hl,hmx,hr,hc,_⟩:=h;by_cases hn0:n=0
 .subst hn0;obtain rfl:zs=[]:=xE hl;clear hc;go_enter func151,ntmps151
  go_wp2_with (at_make;refine wpList_make_full _ rfl _ _ 115 rfl w.heap.size 9 i0 (.string ⟨#[]⟩) 1 underlying115 hi hz0 hz1 .i64 .i64 _ _ 0 rfl rfl rfl rfl (by omega) (by unfold maxLen;omega) aN ?_;intro w1 hown hgr)
  have hrow:=mQ hown;have hbel:=aV hgr;clear hown hgr;go_loop [4] (fun i=>i=qI 0) (fun _=>0)
  .rfl
  .obtain rfl:=hrel;go_wp2;go_ret;exact ⟨rfl,hrow,hbel⟩
 .obtain ⟨b,off,rfl,hd⟩:=hc hn0;clear hc;go_enter func151,ntmps151
  go_wp2_with (at_make;refine wpList_make_full _ rfl _ _ 115 rfl w.heap.size 9 i0 (.string ⟨#[]⟩) 1 underlying115 hi hz0 hz1 .i64 .i64 _ _ n rfl rfl rfl rfl (by rw [hz2];omega) (by unfold maxLen;omega) aN ?_;intro w1 hown hgr)
  have hrow:=mQ hown;have hbel:=aV hgr;clear hown hgr hi hz0 hz1 hz2;go_loopw [4] (fun i wr=>∃ k:Nat,k<=n/\i=qI k/\RowT wr w.heap.size (mE zs k)/\qY w wr) (qf n)
  .exact ⟨0,xC _,rfl,by rw [aHq,hl];exact hrow,hbel⟩
  .obtain ⟨k,hk,rfl,hR,hB⟩:=hrel;clear hrow hbel;by_cases hlt:k<n
   .have hlt':(k:Int)<(n:Int):=by omega
    have hck:wr.cell? (qR b (off+k))=some (.string (zs.getD k zS)):=(hB.cell (xD w _ (hd k hlt))).trans (hd k hlt);have hgk:wr.cell? (qR w.heap.size k)=some (.string ((mE zs k).getD k zS)):=hR.cell k (by rw [aJ0];omega);have hfk:wr.frozen? (qR w.heap.size k)=false:=hR.frozen k;have R':=hR.set k (zs.getD k zS);rw [aJz zs k (by omega)] at R';have B':qY w (wr.setCell (qR w.heap.size k) (.string (zs.getD k zS))):=hB.setCell aN _;have HR:=R';have HB:=B';generalize zs.getD k zS=z at *;generalize (mE zs k).getD k zS=z0 at *;clear hd hR hB;go_wp2
    go_roundw
    .exact ⟨k+1,by omega,by go_num,HR,HB⟩
    .simp [qf,intOf];omega
   .have e:Zh (k=n):=by show k=n;omega
    go_wp2;go_ret;exact ⟨rfl,by rw [e.o,<- hl,aJ1] at hR;exact hR,hB⟩
theorem tU (a a':qO)(n cap cap':Nat)(ss:List ByteArray)(w:qw)(h:TS w a n cap ss)(h':TS w a' n cap' ss):
 qC 168 #[qS a n cap,qS a' n cap'] w (qB w (.bool true)):=by
 have hm:=h.2.1;unfold maxLen at hm;have hnn:((n:Int) !=(n:Int))=false:=by simp
 go_enter func168,ntmps168
 go_wp2_with fail
 go_loopw [5] (fun i wr=>∃ k:Nat,k<=n/\i=qI k/\qY w wr) (qf n)
 .exact ⟨0,xC _,rfl,brf⟩
 .obtain ⟨k,hk,rfl,hB⟩:=hrel;by_cases hlt:k<n
  .have hlt':(k:Int)<(n:Int):=by omega
   obtain ⟨b,off,rfl,y1⟩:=(h.bw hB).at k hlt;obtain ⟨b',off',rfl,y2⟩:=(h'.bw hB).at k hlt;generalize ss.getD k zS=s at *;have hss:(s.toList !=s.toList)=false:=by simp
   go_wp2_with fail
   go_quiet (fail)
   go_wp2
   go_roundw
   .exact ⟨k+1,by omega,by go_num,below_drewN hB nq⟩
   .simp [qf,intOf];omega
  .go_wp2;go_ret;exact ⟨rfl,hB⟩
theorem yS (s:ByteArray)(b i:Int)(w:qw):
 qC 184 #[.agg #[.string s,qI b,qI i]] w (qB w (.agg #[.string s,qI b,qI i])):=by
 go_enter func184,ntmps184
 go_wp2;refine bodyPost_ret (v:=.agg #[.string s,qI b,qI i]) (by simp [results,results184,go_sem]) rfl ⟨rfl,?_⟩;exact ((bal.alloc (by simp) _).alloc (by simp;omega) _)
theorem vV (s:ByteArray)(b i:Int)(w:qw):
 qC 200 #[.agg #[.string s,qI b,qI i],.agg #[.string s,qI b,qI i]] w (qB w (.bool true)):=by
 have h1:(s.toList !=s.toList)=false:=by simp
 have h2:(b !=b)=false:=by simp
 have h3:(i !=i)=false:=by simp
 have hB0:qY w ((w.alloc (.cells #[.string s,qI b,qI i] 163)).alloc (.cells #[.string s,qI b,qI i] 163)):=bal.alloc (by simp) _;have HB:=zh hB0;clear hB0;go_enter func200,ntmps200
 go_wp2;go_ret;exact ⟨rfl,by first|exact HB.o|exact below_drewN HB.o _⟩
def RowB (w:qw)(g n:Nat)(gs:List Nat)(bl:List Bk):Prop:=
 (∃ cur,Blk w g cur 25/\cur.size=n/\∀ i,i<gs.length->cur[i]?=some (.slice (some (qR (gs.getD i 0) 0)) (bl.getD i zB).2.1 (bl.getD i zB).2.1))/\(∀ i,i<gs.length->RowI w (gs.getD i 0) (bl.getD i zB).2.2.2/\g<gs.getD i 0)/\(∀ i j,i<j->j<gs.length->gs.getD i 0<gs.getD j 0)
theorem RowB.bw {w w':qw}(h:RowB w g n gs bl)(hb:qY w w'):RowB w' g n gs bl:=by
 obtain ⟨⟨cur,h1,h2,h3⟩,h4,h5⟩:=h;exact ⟨⟨cur,h1.bw hb,h2,h3⟩,fun i hi=>⟨(h4 i hi).1.bw hb,(h4 i hi).2⟩,h5⟩
theorem RowB.cell {w:qw}(h:RowB w g n gs bl)(k:Nat)(hk:k<n):∃ v,w.cell? (qR g k)=some v:=by
 obtain ⟨⟨cur,h1,h2,h3⟩,h4,h5⟩:=h;refine ⟨cur[k],?_⟩;rw [h1.cell];simp [h2,hk]
theorem RowB.frozen {w:qw}(h:RowB w g n gs bl)(k:Nat):w.frozen? (qR g k)=false:=by
 obtain ⟨⟨cur,h1,h2,h3⟩,h4,h5⟩:=h;exact h1.frozen k
theorem dU (gs:List Nat)(x i:Nat)(h:i<gs.length:=by omega):(gs++[x]).getD i 0=gs.getD i 0:=by
 simp [xB,List.getElem?_append_left h]
theorem oJ (gs:List Nat)(x:Nat):(gs++[x]).getD gs.length 0=x:=by
 simp [xB]
theorem RowB.push {w:qw}{x:Nat}(h:RowB w g n gs bl)(hk:gs.length<n)(hr:RowI w x (bl.getD gs.length zB).2.2.2)(hx:g<x)(hi:∀ i,i<gs.length->gs.getD i 0<x):
 RowB (w.setCell (qR g gs.length) (.slice (qP x) (bl.getD gs.length zB).2.1 (bl.getD gs.length zB).2.1)) g n (gs++[x]) bl:=by
 obtain ⟨⟨cur,h1,h2,h3⟩,h4,h5⟩:=h
 have key:∀ y zs,RowI w y zs->g≠y->RowI (w.setCell (qR g gs.length) (.slice (qP x) (bl.getD gs.length zB).2.1 (bl.getD gs.length zB).2.1)) y zs:=fun y zs hy hne=>by
  unfold RowI at *;rw [heap_setCell_other _ _ _ _ (by dsimp only;omega)];exact hy
 refine ⟨⟨_,h1.set gs.length _,by simp [h2],fun i hi'=>?_⟩,fun i hi'=>?_,fun i j hij hj=>?_⟩
 .simp only [xI,List.length_cons,List.length_nil] at hi';by_cases e:i=gs.length
  .subst e;rw [oJ];simp [h2,hk]
  .rw [dU _ _ _,<- h3 i (by omega)];rw [Array.getElem?_setIfInBounds_ne (by omega)]
 .simp only [xI,List.length_cons,List.length_nil] at hi';by_cases e:i=gs.length
  .subst e;rw [oJ];exact ⟨key _ _ hr (by omega),hx⟩
  .rw [dU _ _ _];exact ⟨key _ _ (h4 i (by omega)).1 (by have:=(h4 i (by omega)).2;omega),(h4 i (by omega)).2⟩
 .simp only [xI,List.length_cons,List.length_nil] at hj;by_cases e:j=gs.length
  .subst e;rw [oJ,dU _ _ _ hij];exact hi i hij
  .rw [dU _ _ _,dU _ _ _];exact h5 i j hij (by omega)
def reb (gs:List Nat)(bl:List Bk):List Bk:=(List.range bl.length).map fun i=>(some (qR (gs.getD i 0) 0),(bl.getD i zB).2.1,(bl.getD i zB).2.1,(bl.getD i zB).2.2.2)
theorem mR (gs:List Nat)(bl:List Bk):(reb gs bl).length=bl.length:=by simp [reb]
theorem gW (gs:List Nat)(bl:List Bk)(i:Nat)(hi:i<bl.length:=by omega):(reb gs bl).getD i zB=(some (qR (gs.getD i 0) 0),(bl.getD i zB).2.1,(bl.getD i zB).2.1,(bl.getD i zB).2.2.2):=by
 simp [reb,xB,hi]
theorem RowB.bks {w w0:qw}(h:RowB w g n gs bl)(hb:BKS w0 a n cap bl)(hg:gs.length=n):BKS w (qP g) n n (reb gs bl):=by
 obtain ⟨b1,b2,b3,b4,b5⟩:=hb;obtain ⟨⟨cur,h1,h2,h3⟩,h4,h5⟩:=h;refine ⟨by rw [mR,b1],b2,fun _=>⟨g,0,rfl,fun i hi=>?_⟩,fun i hi=>?_,aN⟩
 .rw [gW _ _ _,Nat.zero_add,h1.cell];exact h3 i (by omega)
 .rw [gW _ _ _];obtain ⟨c1,c2,c3,c4,c5⟩:=b4 i hi;have hr:=(h4 i (by omega)).1;exact ⟨c1,c2,c3,fun _=>⟨gs.getD i 0,0,rfl,fun j hj=>by rw [Nat.zero_add];exact hr.cell j (by rw [c1];exact hj)⟩,aN⟩
theorem aLz (gs:List Nat)(bl:List Bk):(reb gs bl).all bko=bl.all bko:=by
 have key:∀ i,i<bl.length->bko ((reb gs bl).getD i zB)=bko (bl.getD i zB):=fun i hi=>by rw [gW _ _ _ hi];rfl
 cases h:bl.all bko
 .obtain ⟨x,hx,hb⟩:=List.all_eq_false.1 h;obtain ⟨i,hi,rfl⟩:=List.getElem_of_mem hx;exact aBf _ i (by rw [mR];exact hi) (by rw [key i hi];simpa [xB,hi] using hb)
 .refine uH _ fun j hj=>?_;rw [mR] at hj;rw [key j hj];have:=List.all_eq_true.1 h _ (List.getElem_mem hj);simpa [xB,hj] using this
theorem aLy (gs:List Nat)(tn:Nat)(tz:qi)(bn:Nat)(bl:List Bk):cdo tn tz bn (reb gs bl)=cdo tn tz bn bl:=by unfold cdo;rw [aLz]
theorem aLw (gs:List Nat)(tn bn:Nat)(bl:List Bk)(b:Int)(h:bl.length=bn):pcn tn bn (reb gs bl) b=pcn tn bn bl b:=by
 unfold pcn;split
 .rfl
 .split
  .rename_i h1 h2;rw [gW _ _ _]
  .rfl
theorem aLx (gs:List Nat)(tn bn:Nat)(bl:List Bk)(n:Nat)(es:List Ex)(h:bl.length=bn):exo tn bn (reb gs bl) n es=exo tn bn bl n es:=by
 unfold exo ex1;congr 2;funext i;rw [aLw _ _ _ _ _ h]
theorem aFu (gs:List Nat)(nm:ByteArray)(tn:Nat)(tz:qi)(bn:Nat)(bl:List Bk)(dn:Nat)(bss:Int)(rn:Nat)(rz:qi)(im:Nat)(ss:List ByteArray)(en:Nat)(es:List Ex)(h:bl.length=bn):
 mdo nm tn tz bn (reb gs bl) dn bss rn rz im ss en es=mdo nm tn tz bn bl dn bss rn rz im ss en es:=by
 unfold mdo;rw [aLy,aLx _ _ _ _ _ _ h]
theorem aKi:(prog.info? 25).map (fun i=>(i.zero,i.size,i.bytes))=some (some (qS none 0 0),1,24):=by kernel_rfl
theorem zK {w:qw}(h:w.ownsRow base 25 1 (qS (qP g) n n) n (madeCells (Value.cells (qS none 0 0)) (n*1)).toList):RowB w g n [] bl:=by
 obtain ⟨hl,h|⟨g',cap,cur,hv,hb,hh,h1,h2,h3,h4⟩⟩:=h
 .simp at h
 .simp at hv;obtain ⟨rfl,rfl⟩:=hv;exact ⟨⟨cur,hh,by simpa using h3,fun i hi=>by simp at hi⟩,fun i hi=>by simp at hi,fun i j _ hj=>by simp at hj⟩
theorem aBm (a:qO)(n cap:Nat)(bl:List Bk)(w:qw)(h:BKS w a n cap bl)(hn:n<=1048576)(hs:∀ i,i<n->(bl.getD i zB).2.1<=1048576):
 qC 150 #[qS a n cap] w fun e w'=>e=.returned (qS (qP w.heap.size) n n)/\(∃ gs,gs.length=n/\RowB w' w.heap.size n gs bl)/\qY w w':=by
 obtain ⟨i0,hi,hz0,hz1,hz2⟩:=info_parts aKi;have hl:=h.1;go_enter func150,ntmps150
 go_wp2_with (at_make;refine wpList_make_full _ rfl _ _ 114 rfl w.heap.size 25 i0 (qS none 0 0) 1 underlying114 hi hz0 hz1 .i64 .i64 _ _ n rfl rfl rfl rfl (by rw [hz2];omega) (by unfold maxLen;omega) aN ?_;intro w1 hown hgr)
 have hrow:RowB w1 w.heap.size n [] bl:=zK hown;have hbel:=aV hgr;clear hown hgr hi hz0 hz1 hz2;go_loopw [4] (fun i wr=>∃ k:Nat,k<=n/\i=qI k/\(∃ gs,gs.length=k/\RowB wr w.heap.size n gs bl)/\qY w wr) (qf n)
 .exact ⟨0,xC _,rfl,⟨[],rfl,hrow⟩,hbel⟩
 .obtain ⟨k,hk,rfl,⟨gs,hgs,hR⟩,hB⟩:=hrel;clear hrow hbel;by_cases hlt:k<n
  .have hlt':(k:Int)<(n:Int):=by omega
   obtain ⟨b,off,rfl⟩:=h.addr (by omega);have hb':=h.bw hB;have hck:=hb'.at k hlt;have hik:=hb'.2.2.2.1 k hlt;have hsk:=hs k hlt;have HT:=zh (fun w h=>iQ (bl.getD k zB).1 (bl.getD k zB).2.1 (bl.getD k zB).2.2.1 (bl.getD k zB).2.2.2 w h hsk)
   have HP:=zh (fun (W:qw) (hW:qY wr W) (hr:RowI W wr.heap.size (bl.getD k zB).2.2.2)=>by
    have hp:=RowB.push (hR.bw hW) (by omega) (by rw [hgs];exact hr) (by obtain ⟨⟨cur,h1,_⟩,_⟩:=hR;exact h1.lt) (fun i hi=>(hR.2.1 i hi).1.lt);rw [hgs] at hp
    exact hp)
   have HF:=zh (fun (W:qw) (hW:qY wr W)=>xA ((hR.bw hW).cell k hlt) ((hR.bw hW).frozen k));clear hb' hsk;generalize (bl.getD k zB).1=xa at *;generalize (bl.getD k zB).2.1=xn at *;generalize (bl.getD k zB).2.2.1=xc at *;generalize (bl.getD k zB).2.2.2=xz at *;go_wp2_with fail
   refine (HT.o _ hik).mono ?_;rintro e w2 ⟨rfl,hr2,hb2⟩;obtain ⟨⟨v0,hv0⟩,hfz⟩:=HF.o _ hb2;have HS:=zh (HP.o _ hb2 hr2);have HB2:=zh ((hB.trans (hb2.mono hB.size)).setCell (p:=(qR w.heap.size k)) aN (qS (qP wr.heap.size) xn xn));clear HP HF hR hik HT hck hr2;go_wp2
   go_roundw
   .exact ⟨k+1,by omega,by go_num,⟨gs++[wr.heap.size],by simp [hgs],HS.o⟩,HB2.o⟩
   .simp [qf,intOf];omega
  .have e:Zh (k=n):=by show k=n;omega
   go_wp2;go_ret;exact ⟨rfl,⟨gs,by rw [hgs,e.o],hR⟩,hB⟩
theorem aA2 (a a':qO)(n cap cap':Nat)(bl bl':List Bk)(w:qw)(h:BKS w a n cap bl)(h':BKS w a' n cap' bl')(hz:∀ i,i<n->(bl'.getD i zB).2.1=(bl.getD i zB).2.1/\(bl'.getD i zB).2.2.2=(bl.getD i zB).2.2.2):
 qC 167 #[qS a n cap,qS a' n cap'] w (qB w (.bool true)):=by
 have hmx:=h.2.1;unfold maxLen at hmx;have hne:((n:Int) !=(n:Int))=false:=by simp
 go_enter func167,ntmps167
 go_wp2;go_loopw [5] (fun i wr=>∃ k:Nat,k<=n/\i=qI k/\qY w wr) (qf n)
 .exact ⟨0,xC _,rfl,brf⟩
 .obtain ⟨k,hk,rfl,hB⟩:=hrel;by_cases hlt:k<n
  .have hlt':(k:Int)<(n:Int):=by omega
   obtain ⟨b,off,rfl⟩:=h.addr (by omega);obtain ⟨b',off',rfl⟩:=h'.addr (by omega);have q1:=(h.bw hB).at k hlt;have p1:=(h'.bw hB).at k hlt;have i1:=(h.bw hB).2.2.2.1 k hlt;have i2:=(h'.bw hB).2.2.2.1 k hlt;obtain ⟨z1,z2⟩:=hz k hlt;rw [z1,z2] at i2;rw [z1] at p1;clear z1 z2;generalize (bl.getD k zB).1=xa at *;generalize (bl.getD k zB).2.1=xn at *;generalize (bl.getD k zB).2.2.1=xc at *;generalize (bl.getD k zB).2.2.2=xz at *;generalize (bl'.getD k zB).1=ya at *;generalize (bl'.getD k zB).2.2.1=yc at *;have HE:=zh (fun w h k=>jF xa ya xn xc xn yc xz xz w h k);rw [xR rfl] at HE;go_wp2
   go_region_held3 (fun w'=>w'.cell? (qR b (off+k))=some (qS xa xn xc)/\w'.cell? (qR b' (off'+k))=some (qS ya xn yc)) (go_keep)
    (first
      | (go_at_call 17;refine (HE.o _ (by exact i1) (by exact i2)).mono ?_;rintro e w1 ⟨rfl,hb1⟩;replace hb1:=dF hb1;obtain ⟨hc1,hf1⟩:=aK9 hb1;have hlb:=xD _ _ q1;have hlb':=xD _ _ p1))
   clear hc1 hf1 q1 p1;go_wp2
   go_roundw
   .exact ⟨k+1,by omega,by go_num,hB.trans (hb1.mono hB.size)⟩
   .simp [qf,intOf];omega
  .go_wp2;go_ret;exact ⟨rfl,hB⟩
theorem aP {w:qw}{v:Value}(h:b≠g\/o'≠o:=by omega):(w.setCell (qR g o) v).cell? (qR b o')=w.cell? (qR b o'):=
 World.cell?_setCell_other _ _ _ _ (by intro e;injection e;rcases h with h|h<;>simp_all)
theorem kN {w:qw}{u v:Value}(h:w.cell? (qR g o)=some u):(w.setCell (qR g o) v).cell? (qR g o)=some v:=World.cell?_setCell_same _ _ _ h
def At3 (w:qw)(g o:Nat)(x:Ex):Prop:=w.cell? (qR g o)=some (.string x.1)/\w.cell? (qR g (o+1))=some (qI x.2.1)/\w.cell? (qR g (o+2))=some (qI x.2.2)
def zG (w:qw)(g o:Nat)(x:Ex):World:=((w.setCell (qR g o) (.string x.1)).setCell (qR g (o+1)) (qI x.2.1)).setCell (qR g (o+2)) (qI x.2.2)
theorem lX (w:qw)(g o b o':Nat)(r:Ex)(h:b≠g\/o'<o\/o+3<=o'):(zG w g o r).cell? (qR b o')=w.cell? (qR b o'):=by
 unfold zG;rw [aP,aP,aP]
theorem aLq {w:qw}(h:At3 w g o q)(r:Ex):At3 (zG w g o r) g o r:=by
 obtain ⟨h1,h2,h3⟩:=h;unfold zG;refine ⟨?_,?_,?_⟩
 .rw [aP,aP];exact kN h1
 .rw [aP];exact kN (by rw [aP];exact h2)
 .exact kN (by rw [aP,aP];exact h3)
theorem aIy {w:qw}(h:At3 w b o' q)(r:Ex)(hf:b≠g\/o'+3<=o\/o+3<=o'):At3 (zG w g o r) b o' q:=by
 unfold At3;rw [lX _ _ _ _ _ _ (by omega),lX _ _ _ _ _ _ (by omega),lX _ _ _ _ _ _ (by omega)];exact h
theorem aIz {w:qw}{cur:Array Value}{t:TypeId}(h:Blk w g cur t)(o:Nat)(r:Ex):∃ cur',Blk (zG w g o r) g cur' t/\cur'.size=cur.size:=
 ⟨_,(((h.set o _).set (o+1) _).set (o+2) _),by simp⟩
theorem aDp {B:Nat}{a w:qw}(h:Below B a w)(hg:B<=g)(o:Nat)(r:Ex):Below B a (zG w g o r):=
 ((h.setCell (p:=(qR g o)) hg _).setCell (p:=(qR g (o+1))) hg _).setCell (p:=(qR g (o+2))) hg _
theorem At3.bw {w w':qw}{x:Ex}(h:At3 w g o x)(hb:qY w w'):At3 w' g o x:=by
 have key:∀ o v,w.cell? (qR g o)=some v->w'.cell? (qR g o)=some v:=fun o v hv=>(hb.cell (xD w _ hv)).trans hv;exact ⟨key _ _ h.1,key _ _ h.2.1,key _ _ h.2.2⟩
def RowX (w:qw)(g:Nat)(es:List Ex):Prop:=
 (∃ cur,Blk w g cur 163/\cur.size=es.length*3)/\∀ i,i<es.length->At3 w g (i*3) (es.getD i zE)
theorem RowX.lt {w:qw}{es:List Ex}(h:RowX w g es):g<w.heap.size:=by obtain ⟨⟨cur,hb,_⟩,_⟩:=h;exact hb.lt
theorem RowX.bw {w w':qw}{es:List Ex}(h:RowX w g es)(hb:qY w w'):RowX w' g es:=by
 obtain ⟨⟨cur,hc,hs⟩,hr⟩:=h;exact ⟨⟨cur,hc.bw hb,hs⟩,fun i hi=>(hr i hi).bw hb⟩
theorem RowX.frozen {w:qw}{es:List Ex}(h:RowX w g es)(i:Nat):w.frozen? (qR g i)=false:=by obtain ⟨⟨cur,hb,_⟩,_⟩:=h;exact hb.frozen i
theorem RowX.set {w:qw}{es:List Ex}(h:RowX w g es)(i:Nat)(hi:i<es.length)(r:Ex):RowX (zG w g (i*3) r) g (es.set i r):=by
 obtain ⟨⟨cur,hc,hs⟩,hr⟩:=h;obtain ⟨cur',hc',hs'⟩:=aIz hc (i*3) r;refine ⟨⟨cur',hc',by rw [hs',hs,List.length_set]⟩,fun j hj=>?_⟩;rw [List.length_set] at hj;by_cases e:i=j
 .subst e;have:(es.set i r).getD i zE=r:=by simp [xB,hi]
  rw [this];exact aLq (hr i hi) r
 .have:(es.set i r).getD j zE=es.getD j zE:=by simp [xB,e]
  rw [this];exact aIy (hr j hj) r (by omega)
theorem RowX.te {w w0:qw}{es:List Ex}(h:RowX w g es)(k:TE w0 a n cap es):TE w (qP g) n n es:=by
 obtain ⟨h1,h2,h3,h4,h5⟩:=k;exact ⟨h1,h2,h3,fun _=>⟨g,0,rfl,fun i hi=>by rw [Nat.zero_add];exact h.2 i (by omega)⟩,aN⟩
theorem aKe:(prog.info? 163).map (fun i=>(i.zero,i.size,i.bytes))=some (some (.agg #[.string ⟨#[]⟩,qI 0,qI 0]),3,32):=by kernel_rfl
theorem zI {w:qw}(h:w.ownsRow base 163 3 (qS (qP g) n n) n (madeCells (Value.cells (.agg #[.string ⟨#[]⟩,qI 0,qI 0])) (n*3)).toList):RowX w g (List.replicate n zE):=by
 obtain ⟨hl,h|⟨g',cap,cur,hv,hb,hh,h1,h2,h3,h4⟩⟩:=h
 .simp at h
 .simp at hv;obtain ⟨rfl,rfl⟩:=hv
  have e:cur.toList=(madeCells (Value.cells (.agg #[.string ⟨#[]⟩,qI 0,qI 0])) (n*3)).toList:=by
   rw [<- h4,xG (by simp [h3])]
  have e2:cur=madeCells (Value.cells (.agg #[.string ⟨#[]⟩,qI 0,qI 0])) (n*3):=Array.toList_inj.1 e;have hB:Blk w g cur 163:=hh;refine ⟨⟨cur,hB,by simp [h3]⟩,fun i hi=>?_⟩;simp at hi
  have hcell:∀ j,j<3->w.cell? (qR g (i*3+j))=#[Value.string ⟨#[]⟩,qI 0,qI 0][j]?:=by
   intro j hj;rw [hB.cell,e2];have hm:(i*3+j)%3=j:=by omega
   simp [madeCells,Value.cells,show i*3+j<n*3 by omega,hm]
   match j,hj with
   | 0,_=>rfl
   | 1,_=>rfl
   | 2,_=>rfl
  have hz:(List.replicate n zE).getD i zE=zE:=by simp [xB,hi]
  rw [hz];exact ⟨hcell 0 (by omega),hcell 1 (by omega),hcell 2 (by omega)⟩
def mD (es:List Ex)(k:Nat):List Ex:=(List.range es.length).map (fun i=>if i<k then es.getD i zE else zE)
theorem aCk (es:List Ex)(k:Nat):(mD es k).length=es.length:=by simp [mD]
theorem aHp (es:List Ex):mD es 0=List.replicate es.length zE:=by
 apply List.ext_getElem
 .simp [mD]
 .intro i h1 h2;simp [mD]
theorem aJy (es:List Ex):mD es es.length=es:=by
 apply List.ext_getElem
 .simp [mD]
 .intro i h1 h2;simp [mD,h2]
theorem aJx (es:List Ex)(k:Nat)(h:k<es.length):(mD es k).set k (es.getD k zE)=mD es (k+1):=by
 apply List.ext_getElem
 .simp [mD]
 .intro i h1 h2;simp only [mD,List.getElem_set,List.getElem_map,List.getElem_range];by_cases hik:k=i
  .subst hik;simp
  .by_cases h3:i<k
   .simp [hik,h3,show i<k+1 by omega]
   .simp [hik,h3,show ¬ i<k+1 by omega]
theorem uN (x:qO)(n cap:Nat)(es:List Ex)(w:qw)(h:TE w x n cap es)(hn:n<=1048576):
 qC 152 #[qS x n cap] w fun e w'=>e=.returned (qS (qP w.heap.size) n n)/\RowX w' w.heap.size es/\qY w w':=by
 obtain ⟨i0,hi,hz0,hz1,hz2⟩:=info_parts aKe;have hl:=h.1;go_enter func152,ntmps152
 go_wp2_with (at_make;refine wpList_make_full _ rfl _ _ 136 rfl w.heap.size 163 i0 (.agg #[.string ⟨#[]⟩,qI 0,qI 0]) 3 underlying136 hi hz0 hz1 .i64 .i64 _ _ n rfl rfl rfl rfl (by rw [hz2];omega) (by unfold maxLen;omega) aN ?_;intro w1 hown hgr)
 have hrow:=zI hown;have hbel:=aV hgr;clear hown hgr hi hz0 hz1 hz2;go_loopw [4] (fun i wr=>∃ k:Nat,k<=n/\i=qI k/\RowX wr w.heap.size (mD es k)/\qY w wr) (qf n)
 .exact ⟨0,xC _,rfl,by rw [aHp,hl];exact hrow,hbel⟩
 .obtain ⟨k,hk,rfl,hR,hB⟩:=hrel;clear hrow hbel;by_cases hlt:k<n
  .have hlt':(k:Int)<(n:Int):=by omega
   obtain ⟨b,off,rfl,hat⟩:=(h.bw hB).at k hlt
   have hset:∀ W,qY wr W->RowX (zG W w.heap.size (k*3) (es.getD k zE)) w.heap.size (mD es (k+1)):=by
    intro W hW;have:=(hR.bw hW).set k (by rw [aCk];omega) (es.getD k zE);rw [aJx es k (by omega)] at this;exact this
   have HSET:=zh hset;clear hset;have hg:=hR.2 k (by rw [aCk];omega);generalize es.getD k zE=r at *;generalize (mD es k).getD k zE=r0 at *;obtain ⟨g1,g2,g3⟩:=r;obtain ⟨q1,q2,q3⟩:=hat;simp only at q1 q2 q3;go_wp2_with fail
   refine (yS g1 g2 g3 _).mono ?_;rintro e w2 ⟨rfl,hb2⟩;have hB2:=hB.trans (hb2.mono hB.size);have hg2:=hg.bw hb2;have hfz:∀ i,w2.frozen? (qR w.heap.size i)=false:=(hR.bw hb2).frozen;have HS2:=zh (HSET.o _ hb2);have HB2:=zh (aDp hB2 aN (k*3) (g1,g2,g3));clear HSET hR q1 q2 q3;obtain ⟨p1,p2,p3⟩:=hg2;go_wp2
   go_roundw
   .exact ⟨k+1,by omega,by go_num,HS2.o,HB2.o⟩
   .simp [qf,intOf];omega
  .have e:Zh (k=n):=by show k=n;omega
   go_wp2;go_ret;exact ⟨rfl,by rw [e.o,<- hl,aJy] at hR;exact hR,hB⟩
theorem tW (x x':qO)(n cap cap':Nat)(es:List Ex)(w:qw)(h:TE w x n cap es)(h':TE w x' n cap' es):
 qC 169 #[qS x n cap,qS x' n cap'] w (qB w (.bool true)):=by
 have hmx:=h.2.1;unfold maxLen at hmx;have hne:((n:Int) !=(n:Int))=false:=by simp
 go_enter func169,ntmps169
 go_wp2;go_loopw [5] (fun i wr=>∃ k:Nat,k<=n/\i=qI k/\qY w wr) (qf n)
 .exact ⟨0,xC _,rfl,brf⟩
 .obtain ⟨k,hk,rfl,hB⟩:=hrel;by_cases hlt:k<n
  .have hlt':(k:Int)<(n:Int):=by omega
   obtain ⟨b,off,rfl,q1,q2,q3⟩:=(h.bw hB).at k hlt;obtain ⟨b',off',rfl,p1,p2,p3⟩:=(h'.bw hB).at k hlt;generalize es.getD k zE=r at *;obtain ⟨g1,g2,g3⟩:=r;simp only at q1 q2 q3 p1 p2 p3;go_wp2
   go_region_held3 (fun w'=>w'.cell? (qR b (off+k*3))=some (.string g1)/\w'.cell? (qR b (off+k*3+1))=some (qI g2)/\w'.cell? (qR b (off+k*3+2))=some (qI g3) /\
    w'.cell? (qR b' (off'+k*3))=some (.string g1)/\w'.cell? (qR b' (off'+k*3+1))=some (qI g2)/\w'.cell? (qR b' (off'+k*3+2))=some (qI g3)) (go_keep)
    (first
      | (go_at_call 200;refine (vV g1 g2 g3 _).mono ?_;rintro e w1 ⟨rfl,hb1⟩;replace hb1:=dF hb1;obtain ⟨hc1,hf1⟩:=aK9 hb1;have hlb:=xD _ _ q1;have hlb':=xD _ _ p1))
   clear hc1 hf1 q1 q2 q3 p1 p2 p3;go_wp2
   go_roundw
   .exact ⟨k+1,by omega,by go_num,hB.trans (hb1.mono hB.size)⟩
   .simp [qf,intOf];omega
  .go_wp2;go_ret;exact ⟨rfl,hB⟩
theorem bP (c:Nat)(w:qw)(r i:Nat)(v:Value)(h:r<=c:=by omega):Turn (fun j=>j<=c) w (w.setCell (qR r i) v):=⟨rfl,rfl,rfl,by rw [aL];exact aN,fun j hj hn=>heap_setCell_other _ _ _ _ (fun e=>hn (by dsimp only at e;omega))⟩
def Stab (c:Nat)(R:World->Prop):Prop:=∀ W W',Turn (fun j=>j<=c) W W'->R W->R W'
theorem rH {zs:qi}(h:c<g):Stab c (fun W=>RowI W g zs):=fun W W' t r=>aF t r (by show ¬ g<=c;omega)
theorem rI {zs:qi}(h:c<g):Stab c (fun W=>Row8 W g zs):=fun W W' t r=>aF t r (by show ¬ g<=c;omega)
theorem aIk (h:c<g):Stab c (fun W=>RowT W g zs):=fun W W' t r=>aF t r (by show ¬ g<=c;omega)
theorem aN7 (h:c<g):Stab c (fun W=>∃ gs,gs.length=n/\RowB W g n gs bl):=fun W W' t r=>by
 obtain ⟨gs,h1,⟨cur,h2,h3⟩,h4,h5⟩:=r;exact ⟨gs,h1,⟨cur,aF t h2 (by show ¬ g<=c;omega),h3⟩,fun i hi=>⟨aF t (h4 i hi).1 (by show ¬ gs.getD i 0<=c;have:=(h4 i hi).2;omega),(h4 i hi).2⟩,h5⟩
theorem aIj {es:List Ex}(h:c<g):Stab c (fun W=>RowX W g es):=fun W W' t r=>by
 obtain ⟨⟨cur,h2,h3⟩,h4⟩:=r;have e:W'.heap[g]?=W.heap[g]?:=t.block g h2.lt (by show ¬ g<=c;omega);have key:∀ o,W'.cell? (qR g o)=W.cell? (qR g o):=fun o=>World.cell?_of_block (w:=W) e;refine ⟨⟨cur,aF t h2 (by show ¬ g<=c;omega),h3⟩,fun i hi=>?_⟩;obtain ⟨y1,y2,y3⟩:=h4 i hi;exact ⟨(key _).trans y1,(key _).trans y2,(key _).trans y3⟩
theorem Stab.and (h:Stab c R)(k:Stab c S):Stab c (fun W=>R W/\S W):=fun W W' t r=>⟨h W W' t r.1,k W W' t r.2⟩
structure TM (w W:qw)(arg cs:Array Value)(R:World->Prop):Prop where
 kb:Blk W w.heap.size arg 118
 kr:Blk W (w.heap.size+1) #[.string ⟨#[]⟩,qS none 0 0,qS none 0 0,qS none 0 0,qI 0,qS none 0 0,qS none 0 0,qS none 0 0] 138
 ko:Blk W (w.heap.size+1+1) cs 138
 hB:qY w W
 rows:R W
 st:Stab (w.heap.size+1+1) R
theorem TM.bw {w W W':qw}(h:TM w W arg cs R)(hb:qY W W'):TM w W' arg cs R:=
 ⟨h.kb.bw hb,h.kr.bw hb,h.ko.bw hb,h.hB.trans (hb.mono h.hB.size),h.st _ _ (aJ hb) h.rows,h.st⟩
theorem TM.set {w W:qw}(h:TM w W arg cs R)(i:Nat)(v:Value):TM w (W.setCell (qR (w.heap.size+1+1) i) v) arg (cs.setIfInBounds i v) R:=
 ⟨h.kb.other _ _ (by dsimp only;omega),h.kr.other _ _ (by dsimp only;omega),h.ko.set i v,h.hB.setCell (by dsimp only;omega) _,h.st _ _ (bP _ _ _ _ _ aN) h.rows,h.st⟩
theorem TM.add {w W:qw}(h:TM w W arg cs R)(r:S W)(s:Stab (w.heap.size+1+1) S):TM w W arg cs (fun W=>R W/\S W):=
 ⟨h.kb,h.kr,h.ko,h.hB,⟨h.rows,r⟩,h.st.and s⟩
theorem yN (f:Nat->Nat)(n i:Nat)(hi:i<n):f i<=upS f n:=by
 have h1:=eU f (i+1) n (by omega);have h2:upS f (i+1)=upS f i+f i:=rfl;omega
def ToM (w:qw)(nm:ByteArray)(ta:qO)(tn tc:Nat)(tz:qi)(ba:qO)(bn bc:Nat)(bl:List Bk)(da:qO)(dn dc:Nat)(dz:qi)(bss:Int)(ra:qO)(rn rc:Nat)(rz:qi)(ia:qO)(im ic:Nat)(ss:List ByteArray)(ea:qO)(en ec:Nat)(es:List Ex)(e:Ending)(w':qw):Prop:=
 ∃ g1 g2 g3 g5 g6 g7,e=.returned (.agg (qM nm (qP g1) tn tn (qP g2) bn bn (qP g3) dn dn bss (qP g5) rn rn (qP g6) im im (qP g7) en en)) /\
  w.heap.size<=g1/\g1<g2/\g2<g3/\g3<g5/\g5<g6/\g6<g7/\RowI w' g1 tz/\(∃ gs,gs.length=bn/\RowB w' g2 bn gs bl)/\Row8 w' g3 dz/\RowI w' g5 rz/\RowT w' g6 ss/\RowX w' g7 es/\qY w w'
theorem yQ (nm:ByteArray)(ta:qO)(tn tc:Nat)(tz:qi)(ba:qO)(bn bc:Nat)(bl:List Bk)(da:qO)(dn dc:Nat)(dz:qi)(bss:Int)(ra:qO)(rn rc:Nat)(rz:qi)(ia:qO)(im ic:Nat)(ss:List ByteArray)(ea:qO)(en ec:Nat)(es:List Ex)(w:qw)(h:MT w nm ta tn tc tz ba bn bc bl da dn dc dz bss ra rn rc rz ia im ic ss ea en ec es)(hs:cR nm tn bn bl dn rn im ss en es<=1048576):
 qC 86 #[.agg (qM nm ta tn tc ba bn bc da dn dc bss ra rn rc ia im ic ea en ec)] w (ToM w nm ta tn tc tz ba bn bc bl da dn dc dz bss ra rn rc rz ia im ic ss ea en ec es):=by
 have HSB:=zh (show ∀ i,i<bn->(bl.getD i zB).2.1<=1048576 from fun i hi=>by
  have:=yN (fun j=>(bl.getD j zB).2.1) bn i hi;unfold cR at hs
  omega)
 obtain ⟨l1,l2,l3,l4,l5,l6⟩:tn<=1048576/\bn<=1048576/\dn<=1048576/\rn<=1048576/\im<=1048576/\en<=1048576:=by unfold cR at hs;omega
 have MX:=h;clear h hs
 have M0:TM w (((w.alloc (.cells (qM nm ta tn tc ba bn bc da dn dc bss ra rn rc ia im ic ea en ec) 118)).alloc (.cells #[.string ⟨#[]⟩,qS none 0 0,qS none 0 0,qS none 0 0,qI 0,qS none 0 0,qS none 0 0,qS none 0 0] 138)).alloc (.cells (qM nm none 0 0 none 0 0 none 0 0 0 none 0 0 none 0 0 none 0 0) 138)) (qM nm ta tn tc ba bn bc da dn dc bss ra rn rc ia im ic ea en ec) (qM nm none 0 0 none 0 0 none 0 0 0 none 0 0 none 0 0 none 0 0) (fun _=>True):=
  ⟨(
   (Blk.new w _ _).alloc _).alloc _,by have:=(Blk.new (w.alloc (.cells (qM nm ta tn tc ba bn bc da dn dc bss ra rn rc ia im ic ea en ec) 118)) #[.string ⟨#[]⟩,qS none 0 0,qS none 0 0,qS none 0 0,qI 0,qS none 0 0,qS none 0 0,qS none 0 0] 138).alloc (.cells (qM nm none 0 0 none 0 0 none 0 0 0 none 0 0 none 0 0 none 0 0) 138);simpa using this,by have:=Blk.new ((w.alloc (.cells (qM nm ta tn tc ba bn bc da dn dc bss ra rn rc ia im ic ea en ec) 118)).alloc (.cells #[.string ⟨#[]⟩,qS none 0 0,qS none 0 0,qS none 0 0,qI 0,qS none 0 0,qS none 0 0,qS none 0 0] 138)) (qM nm none 0 0 none 0 0 none 0 0 0 none 0 0 none 0 0 none 0 0) 138;simpa using this,
   (bal.alloc (by simp) _).alloc (by simp;omega) _,trivial,fun _ _ _ _=>trivial⟩
 go_enter func86,ntmps86
 go_wp2_with fail
 have hB:=M0.hB;refine (iQ ta tn tc tz _ (MX.t.bw hB) (by omega)).mono ?_;rintro e w1 ⟨rfl,hr,hb⟩;have M1:=(M0.bw hb).add (S:=fun W=>RowI W _ tz) hr (rH (by have:=M0.ko.lt;simp at this ⊢<;>omega));have z1:=hb.size;have y1:w.heap.size+1+1+1<w1.heap.size:=by first|(have:=hr.lt;simpa using this)|(obtain ⟨gs,_,⟨cur,hk,_⟩,_⟩:=hr;have:=hk.lt;simpa using this)
 simp only [xF,aL] at M1 z1;clear hb hr hB M0;obtain ⟨q0,q1,q2,q3,q4,q5,q6,q7⟩:=M1.kb.eight;obtain ⟨o0,o1,o2,o3,o4,o5,o6,o7⟩:=M1.ko.eight;have ofz:=M1.ko.frozen;have nlt:=M1.ko.lt;go_wp2_with fail
 clear q0 q1 q2 q3 q4 q5 q6 q7 o0 o1 o2 o3 o4 o5 o6 o7 ofz nlt;replace M1:=M1.set 1 (qS (some (qR (w.heap.size+1+1+1) 0)) tn tn);simp only [yA,yB,yC] at M1;have hB:=M1.hB;refine (aBm ba bn bc bl _ (MX.b.bw hB) (by omega) HSB.o).mono ?_;rintro e w2 ⟨rfl,hr,hb⟩;have M2:=(M1.bw hb).add (S:=fun W=>∃ gs,gs.length=bn/\RowB W _ bn gs bl) hr (aN7 (by have:=M1.ko.lt;simp only [aL] at this ⊢;omega));have z2:=hb.size;have y2:w1.heap.size<w2.heap.size:=by first|(have:=hr.lt;simpa using this)|(obtain ⟨gs,_,⟨cur,hk,_⟩,_⟩:=hr;have:=hk.lt;simpa using this)
 simp only [xF,aL] at M2 z2;clear hb hr hB M1;obtain ⟨q0,q1,q2,q3,q4,q5,q6,q7⟩:=M2.kb.eight;obtain ⟨o0,o1,o2,o3,o4,o5,o6,o7⟩:=M2.ko.eight;have ofz:=M2.ko.frozen;have nlt:=M2.ko.lt;go_wp2_with fail
 clear q0 q1 q2 q3 q4 q5 q6 q7 o0 o1 o2 o3 o4 o5 o6 o7 ofz nlt;replace M2:=M2.set 2 (qS (qP w1.heap.size) bn bn);simp only [yA,yB,yC] at M2;have hB:=M2.hB;refine (gM da dn dc dz _ (MX.d.bw hB)).mono ?_;rintro e w3 ⟨rfl,hr,hb⟩;have M3:=(M2.bw hb).add (S:=fun W=>Row8 W _ dz) hr (rI (by have:=M2.ko.lt;simp only [aL] at this ⊢;omega));have z3:=hb.size;have y3:w2.heap.size<w3.heap.size:=by first|(have:=hr.lt;simpa using this)|(obtain ⟨gs,_,⟨cur,hk,_⟩,_⟩:=hr;have:=hk.lt;simpa using this)
 simp only [xF,aL] at M3 z3;clear hb hr hB M2;obtain ⟨q0,q1,q2,q3,q4,q5,q6,q7⟩:=M3.kb.eight;obtain ⟨o0,o1,o2,o3,o4,o5,o6,o7⟩:=M3.ko.eight;have ofz:=M3.ko.frozen;have nlt:=M3.ko.lt;go_wp2_with fail
 clear q0 q1 q2 q3 q4 q5 q6 q7 o0 o1 o2 o3 o4 o5 o6 o7 ofz nlt;replace M3:=M3.set 3 (qS (qP w2.heap.size) dn dn);replace M3:=M3.set 4 (qI bss);simp only [yA,yB,yC] at M3;have hB:=M3.hB;refine (iQ ra rn rc rz _ (MX.r.bw hB) (by omega)).mono ?_;rintro e w4 ⟨rfl,hr,hb⟩;have M4:=(M3.bw hb).add (S:=fun W=>RowI W _ rz) hr (rH (by have:=M3.ko.lt;simp only [aL] at this ⊢;omega));have z4:=hb.size;have y4:w3.heap.size<w4.heap.size:=by first|(have:=hr.lt;simpa using this)|(obtain ⟨gs,_,⟨cur,hk,_⟩,_⟩:=hr;have:=hk.lt;simpa using this)
 simp only [xF,aL] at M4 z4;clear hb hr hB M3;obtain ⟨q0,q1,q2,q3,q4,q5,q6,q7⟩:=M4.kb.eight;obtain ⟨o0,o1,o2,o3,o4,o5,o6,o7⟩:=M4.ko.eight;have ofz:=M4.ko.frozen;have nlt:=M4.ko.lt;go_wp2_with fail
 clear q0 q1 q2 q3 q4 q5 q6 q7 o0 o1 o2 o3 o4 o5 o6 o7 ofz nlt;replace M4:=M4.set 5 (qS (qP w3.heap.size) rn rn);simp only [yA,yB,yC] at M4;have hB:=M4.hB;refine (uK ia im ic ss _ (MX.i.bw hB) (by omega)).mono ?_;rintro e w5 ⟨rfl,hr,hb⟩;have M5:=(M4.bw hb).add (S:=fun W=>RowT W _ ss) hr (aIk (by have:=M4.ko.lt;simp only [aL] at this ⊢;omega));have z5:=hb.size;have y5:w4.heap.size<w5.heap.size:=by first|(have:=hr.lt;simpa using this)|(obtain ⟨gs,_,⟨cur,hk,_⟩,_⟩:=hr;have:=hk.lt;simpa using this)
 simp only [xF,aL] at M5 z5;clear hb hr hB M4;obtain ⟨q0,q1,q2,q3,q4,q5,q6,q7⟩:=M5.kb.eight;obtain ⟨o0,o1,o2,o3,o4,o5,o6,o7⟩:=M5.ko.eight;have ofz:=M5.ko.frozen;have nlt:=M5.ko.lt;go_wp2_with fail
 clear q0 q1 q2 q3 q4 q5 q6 q7 o0 o1 o2 o3 o4 o5 o6 o7 ofz nlt;replace M5:=M5.set 6 (qS (qP w4.heap.size) im im);simp only [yA,yB,yC] at M5;have hB:=M5.hB;refine (uN ea en ec es _ (MX.e.bw hB) (by omega)).mono ?_;rintro e w6 ⟨rfl,hr,hb⟩;have M6:=(M5.bw hb).add (S:=fun W=>RowX W _ es) hr (aIj (by have:=M5.ko.lt;simp only [aL] at this ⊢;omega));have z6:=hb.size;have y6:w5.heap.size<w6.heap.size:=by first|(have:=hr.lt;simpa using this)|(obtain ⟨gs,_,⟨cur,hk,_⟩,_⟩:=hr;have:=hk.lt;simpa using this)
 simp only [xF,aL] at M6 z6;clear hb hr hB M5;have M7:=M6.set 7 (qS (qP w5.heap.size) en en);simp only [yA,yB,yC] at M7;obtain ⟨WF,hWF⟩:∃ X,X=(((((((((w6.setCell ⟨w.heap.size+1+1,7,none⟩ (qS (qP w5.heap.size) en en)).setCell ⟨w.heap.size+1,0,none⟩ (.string nm)).setCell ⟨w.heap.size+1,1,none⟩ (qS (some ⟨w.heap.size+1+1+1,0,none⟩) tn tn)).setCell ⟨w.heap.size+1,2,none⟩ (qS (qP w1.heap.size) bn bn)).setCell ⟨w.heap.size+1,3,none⟩ (qS (qP w2.heap.size) dn dn)).setCell ⟨w.heap.size+1,4,none⟩ (qI bss)).setCell ⟨w.heap.size+1,5,none⟩ (qS (qP w3.heap.size) rn rn)).setCell ⟨w.heap.size+1,6,none⟩ (qS (qP w4.heap.size) im im)).setCell ⟨w.heap.size+1,7,none⟩ (qS (qP w5.heap.size) en en)):=⟨_,rfl⟩
 have kF:Blk WF (w.heap.size+1) (qM nm (some (qR (w.heap.size+1+1+1) 0)) tn tn (qP w1.heap.size) bn bn (qP w2.heap.size) dn dn bss (qP w3.heap.size) rn rn (qP w4.heap.size) im im (qP w5.heap.size) en en) 138:=by
  have:=((((((((M7.kr.set 0 (.string nm)).set 1 (qS (some (qR (w.heap.size+1+1+1) 0)) tn tn)).set 2 (qS (qP w1.heap.size) bn bn)).set 3 (qS (qP w2.heap.size) dn dn)).set 4 (qI bss)).set 5 (qS (qP w3.heap.size) rn rn)).set 6 (qS (qP w4.heap.size) im im)).set 7 (qS (qP w5.heap.size) en en));simp only [yA,yB,yC] at this;rw [hWF];exact this
 have tF:Turn (fun j=>j<=w.heap.size+1+1) (w6.setCell (qR (w.heap.size+1+1) 7) (qS (qP w5.heap.size) en en)) WF:=by
  rw [hWF];exact ((((((((Turn.refl (fun j=>j<=w.heap.size+1+1) (w6.setCell (qR (w.heap.size+1+1) 7) (qS (qP w5.heap.size) en en))).trans (bP _ _ (w.heap.size+1) 0 (.string nm))).trans (bP _ _ (w.heap.size+1) 1 (qS (some (qR (w.heap.size+1+1+1) 0)) tn tn))).trans (bP _ _ (w.heap.size+1) 2 (qS (qP w1.heap.size) bn bn))).trans (bP _ _ (w.heap.size+1) 3 (qS (qP w2.heap.size) dn dn))).trans (bP _ _ (w.heap.size+1) 4 (qI bss))).trans (bP _ _ (w.heap.size+1) 5 (qS (qP w3.heap.size) rn rn))).trans (bP _ _ (w.heap.size+1) 6 (qS (qP w4.heap.size) im im))).trans (bP _ _ (w.heap.size+1) 7 (qS (qP w5.heap.size) en en))
 have rF:=M7.st _ _ tF M7.rows
 have bF:qY w WF:=by
  rw [hWF];exact ((((((((M7.hB.setCell (p:=(qR (w.heap.size+1) 0)) (by dsimp only;omega) (.string nm)).setCell (p:=(qR (w.heap.size+1) 1)) (by dsimp only;omega) (qS (some (qR (w.heap.size+1+1+1) 0)) tn tn)).setCell (p:=(qR (w.heap.size+1) 2)) (by dsimp only;omega) (qS (qP w1.heap.size) bn bn)).setCell (p:=(qR (w.heap.size+1) 3)) (by dsimp only;omega) (qS (qP w2.heap.size) dn dn)).setCell (p:=(qR (w.heap.size+1) 4)) (by dsimp only;omega) (qI bss)).setCell (p:=(qR (w.heap.size+1) 5)) (by dsimp only;omega) (qS (qP w3.heap.size) rn rn)).setCell (p:=(qR (w.heap.size+1) 6)) (by dsimp only;omega) (qS (qP w4.heap.size) im im)).setCell (p:=(qR (w.heap.size+1) 7)) (by dsimp only;omega) (qS (qP w5.heap.size) en en))
 have HF:=zh hWF;have HRF:=zh (xA rF bF);clear hWF tF rF bF M7;obtain ⟨o0,o1,o2,o3,o4,o5,o6,o7⟩:=M6.ko.eight;have ofz:=M6.ko.frozen;obtain ⟨p0,p1,p2,p3,p4,p5,p6,p7⟩:=M6.kr.eight;have pfz:=M6.kr.frozen;obtain ⟨s0,s1,s2,s3,s4,s5,s6,s7⟩:=kF.eight;have nlt:=M6.ko.lt;go_wp2_with fail
 rw [<- HF.o];clear o0 o1 o2 o3 o4 o5 o6 o7 ofz p0 p1 p2 p3 p4 p5 p6 p7 pfz;refine bodyPost_ret (v:=.agg (qM nm (some (qR (w.heap.size+1+1+1) 0)) tn tn (qP w1.heap.size) bn bn (qP w2.heap.size) dn dn bss (qP w3.heap.size) rn rn (qP w4.heap.size) im im (qP w5.heap.size) en en)) (by simp [results,results86,go_sem,s0,s1,s2,s3,s4,s5,s6,s7]) rfl ?_;obtain ⟨⟨⟨⟨⟨⟨⟨_,r1⟩,r2⟩,r3⟩,r5⟩,r6⟩,r7⟩,hB⟩:=HRF.o;exact ⟨w.heap.size+1+1+1,w1.heap.size,w2.heap.size,w3.heap.size,w4.heap.size,w5.heap.size,rfl,by omega,by omega,by omega,by omega,by omega,by omega,r1,r2,r3,r5,r6,r7,hB⟩
def Sr (f:Nat->qO×Nat×Nat)(n j:Nat):Prop:=∃ i,i<n/\(Value.slice (f i).1 (f i).2.1 (f i).2.2).ownBlock=some j
structure Rr (w:qw)(base:Nat)(a:qO)(n:Nat)(f:Nat->qO×Nat×Nat)(X:Nat->List Int):Prop where
 head:n≠0->∃ g cs,a=some (qR g 0)/\¬ Sr f n g/\Blk w g cs 25/\∀ i,i<n->cs[i]?=some (.slice (f i).1 (f i).2.1 (f i).2.2)
 rows:∀ i,i<n->OI w base (.slice (f i).1 (f i).2.1 (f i).2.2) (X i)
 apart:∀ i j,i<n->j<n->i≠j->∀ k,(Value.slice (f i).1 (f i).2.1 (f i).2.2).ownBlock=some k->(Value.slice (f j).1 (f j).2.1 (f j).2.2).ownBlock≠some k
def mrk (k:Nat)(f:Nat->qO×Nat×Nat)(i:Nat):List Int:=bE (k+bJ f i) (f i).2.1
theorem Rr.kept {w w':qw}{f:Nat->qO×Nat×Nat}{X:Nat->List Int}{S:Nat->Prop}(h:Rr w base a n f X)(t:Turn S w w')(hs:∀ i,i<n->∀ k,(Value.slice (f i).1 (f i).2.1 (f i).2.2).ownBlock=some k->¬ S k)(hh:n≠0->∀ g cs,a=some (qR g 0)->Blk w g cs 25->¬ S g):Rr w' base a n f X:=
 ⟨fun hn=>by obtain ⟨g,cs,ha,h1,h2,h3⟩:=h.head hn;exact ⟨g,cs,ha,h1,aF t h2 (hh hn g cs ha h2),h3⟩,fun i hi=>aW t (h.rows i hi) (hs i hi),h.apart⟩
theorem vF (a:qO)(n cap k base:Nat)(f:Nat->qO×Nat×Nat)(X:Nat->List Int)(w:qw)(h:Rr w base a n f X)(hn:n<=5000000)(hs:bJ f n<=5000000)(hk:k<=10000000):
 qC 104 #[qS a n cap,qI k] w fun e w'=>e=.returned (qI ((k+bJ f n:Nat):Int))/\Rr w' base a n f (mrk k f)/\Turn (Sr f n) w w':=by
 have HH:=zh h;clear h;go_enter func104,ntmps104
 go_wp2;go_loopw [1,5] (fun x i wr=>∃ m:Nat,m<=n/\i=qI m/\x=qI ((k+bJ f m:Nat):Int)/\Rr wr base a n f (fun i=>if i<m then mrk k f i else X i)/\Turn (Sr f n) w wr) (fun _ i _=>n-(intOf i).toNat)
 .exact ⟨0,xC _,rfl,rfl,HH.o,Turn.refl _ _⟩
 .obtain ⟨m,hm,rfl,rfl,R,T⟩:=hrel;by_cases hlt:m<n
  .have hlt':(m:Int)<(n:Int):=by omega
   obtain ⟨g,cs,rfl,hng,hb,hc⟩:=R.head (by omega);have c0:=(hb.cell m).trans (hc m hlt);have hle:=pY f n m hlt;have hr:=R.rows m hlt;simp only [Nat.lt_irrefl,if_false] at hr;have HMK:=zh (fT (f m).1 (f m).2.1 (f m).2.2 base (X m) (k+bJ f m) wr hr)
   have HFIN:=zh (fun (w1:qw) (O1:OI w1 base (.slice (f m).1 (f m).2.1 (f m).2.2) (bE (k+bJ f m) (f m).2.1)) (T1:Turn (fun j=>(Value.slice (f m).1 (f m).2.1 (f m).2.2).ownBlock=some j) wr w1)=>show Rr w1 base (qP g) n f (fun i=>if i<m+1 then mrk k f i else X i)/\Turn (Sr f n) w w1 from by
    refine ⟨⟨fun _=>⟨g,cs,rfl,hng,aF T1 hb (fun e=>hng ⟨m,hlt,e⟩),hc⟩,fun i hi=>?_,R.apart⟩,T.trans (T1.mono (fun j hj=>⟨m,hlt,hj⟩))⟩;by_cases e:i=m
    .subst e;simp only [show i<i+1 by omega,if_true];exact O1
    .have hi':=aW T1 (R.rows i hi) (fun q hq hq'=>R.apart i m hi hlt e q hq hq');by_cases e2:i<m
     .simp only [e2,if_true,show i<m+1 by omega] at hi' ⊢;exact hi'
     .simp only [e2,if_false,show ¬ i<m+1 by omega] at hi' ⊢
      exact hi')
   have HSU:Zh (bJ f (m+1)=bJ f m+(f m).2.1):=rfl;clear R T hb hc hr;generalize bJ f m=sm at *;generalize f m=fm at *;obtain ⟨fa,fn,fc⟩:=fm;dsimp only at *;go_wp2_with fail
   refine HMK.o.mono ?_;rintro e w1 ⟨rfl,O1,T1⟩;have HX:=zh (HFIN.o w1 O1 T1);clear O1 T1 HFIN HMK c0;go_wp2
   go_roundw
   .exact ⟨m+1,by omega,by go_num,by rw [HSU.o];go_num,HX.o.1,HX.o.2⟩
   .simp [intOf];omega
  .have e:Zh (m=n):=by show m=n;omega
   have HX:=zh (xA R T);clear R T;go_wp2;go_ret;refine ⟨aH (by rw [e.o]),?_,HX.o.2⟩;have R:=HX.o.1;refine ⟨R.head,fun i hi=>?_,R.apart⟩;have:=R.rows i hi;rw [e.o] at this;simp only [hi,if_true] at this;exact this
theorem vR (a:qO)(n cap k base:Nat)(f:Nat->qO×Nat×Nat)(w:qw)(h:Rr w base a n f (mrk k f))(hn:n<=5000000)(hs:bJ f n<=5000000)(hk:k<=10000000):
 qC 109 #[qS a n cap,qI k] w fun e w'=>e=.returned (qI ((k+bJ f n:Nat):Int))/\w=w':=by
 have HH:=zh h;clear h;go_enter func109,ntmps109
 go_wp2;go_loop [1,5] (fun x i=>∃ m:Nat,m<=n/\i=qI m/\x=qI ((k+bJ f m:Nat):Int)) (fun _ i=>n-(intOf i).toNat)
 .exact ⟨0,xC _,rfl,rfl⟩
 .obtain ⟨m,hm,rfl,rfl⟩:=hrel;by_cases hlt:m<n
  .have hlt':(m:Int)<(n:Int):=by omega
   obtain ⟨g,cs,rfl,hng,hb,hc⟩:=HH.o.head (by omega);have c0:=(hb.cell m).trans (hc m hlt);have hle:=pY f n m hlt;have hr:=(HH.o.rows m hlt).is;unfold mrk at hr;have HMK:=zh (fW (f m).1 (f m).2.1 (f m).2.2 (k+bJ f m) w hr);have HSU:Zh (bJ f (m+1)=bJ f m+(f m).2.1):=rfl;clear hb hc hr;generalize bJ f m=sm at *;generalize f m=fm at *;obtain ⟨fa,fn,fc⟩:=fm;dsimp only at *;go_wp2_with fail
   refine HMK.o.mono ?_;rintro e w1 ⟨rfl,rfl⟩;have hnn:¬ (((k+sm+fn:Nat):Int)<0):=by omega
   clear HMK;go_wp2
   go_round
   .exact ⟨m+1,by omega,by go_num,by rw [HSU.o];go_num⟩
   .simp [intOf];omega
  .have e:Zh (m=n):=by show m=n;omega
   go_wp2;go_ret;exact ⟨aH (by rw [e.o]),rfl⟩
def cH (k n:Nat):List Int:=(List.range n).map fun i=>((k+i:Nat):Int)%256
def jW (zs:qi)(k m:Nat):List Int:=(List.range zs.length).map fun i=>if i<m then ((k+i:Nat):Int)%256 else zs.getD i 0
theorem aD3 (zs:qi)(k:Nat):jW zs k 0=zs:=by
 apply List.ext_getElem
 .simp [jW]
 .intro i h1 h2;simp [jW,h2]
theorem aHo (zs:qi)(k:Nat):jW zs k zs.length=cH k zs.length:=by
 apply List.ext_getElem
 .simp [jW,cH]
 .intro i h1 h2;simp [cH] at h2;simp [jW,cH,h2]
theorem aHn (zs:qi)(k m:Nat)(h:m<zs.length):(jW zs k m).set m (((k+m:Nat):Int)%256)=jW zs k (m+1):=by
 apply List.ext_getElem
 .simp [jW]
 .intro i h1 h2;simp only [jW,List.getElem_set,List.getElem_map,List.getElem_range];by_cases hik:m=i
  .subst hik;simp
  .by_cases h3:i<m
   .simp [hik,h3,show i<m+1 by omega]
   .simp [hik,h3,show ¬ i<m+1 by omega]
theorem sV (g n cap base:Nat)(zs:qi)(k:Nat)(w:qw)(h:OB w base (qS (qP g) n cap) zs)(hn:n<=5000000)(hk:k<=20000000):
 qC 105 #[qS (qP g) n cap,qI k] w fun e w'=>e=.returned (qI ((k+n:Nat):Int))/\OB w' base (qS (qP g) n cap) (cH k n)/\Turn (fun j=>j=g) w w':=by
 have hl:=h.bs.1;go_enter func105,ntmps105
 go_wp2;go_loopw [1,5] (fun x i wr=>∃ m:Nat,m<=n/\i=qI m/\x=qI ((k+m:Nat):Int)/\OB wr base (qS (qP g) n cap) (jW zs k m)/\Turn (fun j=>j=g) w wr) (fun _ i _=>n-(intOf i).toNat)
 .exact ⟨0,xC _,rfl,rfl,by rw [aD3];exact h,Turn.refl _ _⟩
 .obtain ⟨m,hm,rfl,rfl,hO,hT⟩:=hrel;by_cases hlt:m<n
  .have hlt':(m:Int)<(n:Int):=by omega
   obtain ⟨u,hu⟩:=(mV hO).cell m hlt;have hf:=(mV hO).frozen m;have hset:=nV hO m hlt (((k+m:Nat):Int)%256) (by omega);rw [aHn zs k m (by omega)] at hset
   have hT2:Turn (fun j=>j=g) w (wr.setCell (qR g m) (.int .u8 (((k+m:Nat):Int)%256))):=
    hT.trans ⟨rfl,rfl,rfl,by rw [aL];exact aN,fun j hj hs=>heap_setCell_other _ _ _ _ hs⟩
   have HO:=zh hset;have HT:=zh hT2;clear hset hT2 hO hT;obtain ⟨K,hK⟩:∃ K:Int,K=((k+m:Nat):Int):=⟨_,rfl⟩;have hK0:0<=K:=by omega
   have hK1:K<=67108864:=by omega
   have HK:=zh (show K+1=((k+(m+1):Nat):Int) by omega);rw [<- hK] at HO HT ⊢;clear hK;go_wp2
   go_roundw
   .exact ⟨m+1,by omega,by go_num,by rw [HK.o],HO.o,HT.o⟩
   .simp [intOf];omega
  .have e:Zh (m=n):=by show m=n;omega
   go_wp2;go_ret;exact ⟨aH (by rw [e.o]),by rw [e.o,<- hl,aHo] at hO;rw [hl] at hO;exact hO,hT⟩
theorem fB (n:Int)(h0:0<=n)(h:n<=20)(w:qw):
 qC 244 #[qI n] w fun e w'=>e=.returned (qI ((2:Int)^n.toNat))/\w'=w:=by
 go_enter func244,ntmps244
 go_wp2;go_loop [3,4] (fun v i=>∃ k:Nat,(k:Int)<=n/\i=qI k/\v=qI ((2:Int)^k)) (fun _ i=>n.toNat-(intOf i).toNat)
 .exact ⟨0,by omega,rfl,rfl⟩
 .obtain ⟨k,hk,rfl,rfl⟩:=hrel;by_cases hlt:(k:Int)<n
  .have hp:=rP k;have hp0:=pow_pos k;have hs:Zh ((2:Int)^(k+1)=(2:Int)^k*2):=Int.pow_succ 2 k;generalize (2:Int)^k=P at *;go_wp2
   go_round
   .exact ⟨k+1,by omega,by go_num,by rw [hs.o]⟩
   .simp [intOf];omega
  .have e:Zh (n.toNat=k):=by show n.toNat=k;omega
   go_wp2;go_ret;exact ⟨aH (by rw [e.o]),rfl⟩
