import Derived.Maps.OwnSet
import Derived.Test.YtcimaholejajpaaGreatF01
set_option linter.all false
set_option maxHeartbeats 4000000
namespace Go.Proofs.YtcimaholejajpaaGreat
open Go.RowKit
set_option maxRecDepth 100000
variable {a ba da ea ia ra ta:qO}{bc bn cap dc dn ec en ic im n rc rn tc tn:Nat}{bl:List Bk}{bss:Int}{nm:ByteArray}{ss:List ByteArray}
def rlk (rz:qi)(dn:Nat)(k:Nat):Bool:=decide (0<=rz.getD k 0/\rz.getD k 0%4=0/\rz.getD k 0<=(dn:Int)-4/\(k=0\/rz.getD (k-1) 0<rz.getD k 0))
def rlo (rn:Nat)(rz:qi)(dn:Nat):Bool:=decide (rn<=16)&&(List.range rn).all (rlk rz dn)
theorem eW (f:Nat->Bool)(n k:Nat)(hk:k<n)(h:f k=false):(List.range n).all f=false:=by
 rw [List.all_eq_false];exact ⟨k,by simpa using hk,by simp [h]⟩
theorem eA (f:Nat->Bool)(n:Nat)(h:∀ j,j<n->f j=true):(List.range n).all f=true:=by
 rw [List.all_eq_true];exact fun k hk=>h k (by simpa using hk)
theorem aK0 (z:Int):(z.tmod 4 !=0)=decide (z%4≠0):=by
 have h:z.tmod 4=0 ↔ z%4=0:=by
  rw [<- Int.dvd_iff_tmod_eq_zero,<- Int.dvd_iff_emod_eq_zero]
 by_cases c:z%4=0
 .simp [h.2 c,c]
 .have:¬ z.tmod 4=0:=fun e=>c (h.1 e);simp [this,c]
theorem sD (nm:ByteArray)(v1 v2:Value)(da:qO)(dn dc:Nat)(bss:Int)(ra:qO)(rn rc:Nat)(rz:qi)(v6 v7:Value)(w:qw)(hd:dn<=maxLen)(h:IS w ra rn rc rz):
 qC 71 #[.agg #[.string nm,v1,v2,qS da dn dc,qI bss,qS ra rn rc,v6,v7]] w (qB w (.bool (rlo rn rz dn))):=by
 obtain ⟨W,hW,hB0,kb⟩:=nwb w #[.string nm,v1,v2,qS da dn dc,qI bss,qS ra rn rc,v6,v7] 53;obtain ⟨q0,q1,q2,q3,q4,q5,q6,q7⟩:=kb.eight;obtain ⟨r,hr⟩:=eqx (rlo rn rz dn);rw [<- hr];unfold rlo at hr;have h0:=h.bw hB0;have hm1:=h.2.1;unfold maxLen at hm1 hd;have HW:=zh hW;clear hW;by_cases c1:16<rn
 .have HR:=zh (show r=false by rw [hr,xS (by omega)];rfl);clear hr;have c1':(16:Int)<(rn:Int):=by omega
  go_enter Tryz.func71,Tryz.ntmps71
  go_wp2_with (rw [<- HW.o])
  go_ret;exact ⟨aB HR.o.symm,hB0⟩
 .have c1':¬ (16:Int)<(rn:Int):=by omega
  have HR:=zh (show r=(List.range rn).all (rlk rz dn) by rw [hr,xR (by omega)];rfl);clear hr;go_enter Tryz.func71,Tryz.ntmps71
  go_wp2_with (rw [<- HW.o])
  go_loop [3] (fun i=>∃ k:Nat,k<=rn/\i=qI k/\Hid (∀ j,j<k->rlk rz dn j=true)) (fun i=>rn-(intOf i).toNat)
  .exact ⟨0,xC _,rfl,zh (fun j hj=>by omega)⟩
  .obtain ⟨k,hk,rfl,HJ⟩:=hrel;by_cases hlt:k<rn
   .have hlt':(k:Int)<(rn:Int):=by omega
    obtain ⟨bb,off,rfl⟩:=h0.addr (by omega);have hck:=h0.at k hlt;have HZ:=zh (eW (rlk rz dn) rn k hlt)
    have HG:=zh (show rlk rz dn k=true->∀ j,j<k+1->rlk rz dn j=true from fun h j hj=>by
     by_cases e:j=k
     .subst e;exact h
     .exact HJ.out j (by omega))
    have HK:Zh (∀ b:Bool,(b=true ↔ (0<=rz.getD k 0/\rz.getD k 0%4=0/\rz.getD k 0<=(dn:Int)-4/\(k=0\/rz.getD (k-1) 0<rz.getD k 0)))->rlk rz dn k=b):=fun b hb=>by unfold rlk;rw [xJ,hb];simp
    have hrg:=h0.range k;unfold wfi at hrg;obtain ⟨g0,g1⟩:=hrg;have ht4:=aK0 (rz.getD k 0);by_cases k0:k=0
    .subst k0;simp only [Nat.add_zero] at hck;generalize rz.getD 0 0=z at *;by_cases d1:z<0
     .go_wp2;go_ret;exact ⟨aB (by rw [HR.o];exact (HZ.o (HK.o false (by simp;omega))).symm),hB0⟩
     .by_cases d2:z%4≠0
      .rw [xR d2] at ht4;go_wp2;go_ret;exact ⟨aB (by rw [HR.o];exact (HZ.o (HK.o false (by simp;omega))).symm),hB0⟩
      .rw [xS d2] at ht4;by_cases d3:(dn:Int)-4<z
       .go_wp2;go_ret;exact ⟨aB (by rw [HR.o];exact (HZ.o (HK.o false (by simp;omega))).symm),hB0⟩
       .go_wp2
        go_round
        .exact ⟨1,by omega,by go_num,zh (HG.o (HK.o true (by simp;omega)))⟩
        .simp [intOf];omega
    .have hpk:=h0.at (k-1) (by omega);have hk0:(0:Int)<(k:Int):=by omega
     have hk1:(0:Int)<=(k:Int)-1:=by omega
     have hk2:(k:Int)-1<(rn:Int):=by omega
     generalize rz.getD (k-1) 0=y at *;generalize rz.getD k 0=z at *;by_cases d1:z<0
     .go_wp2;go_ret;exact ⟨aB (by rw [HR.o];exact (HZ.o (HK.o false (by simp;omega))).symm),hB0⟩
     .by_cases d2:z%4≠0
      .rw [xR d2] at ht4;go_wp2;go_ret;exact ⟨aB (by rw [HR.o];exact (HZ.o (HK.o false (by simp;omega))).symm),hB0⟩
      .rw [xS d2] at ht4;by_cases d3:(dn:Int)-4<z
       .go_wp2;go_ret;exact ⟨aB (by rw [HR.o];exact (HZ.o (HK.o false (by simp;omega))).symm),hB0⟩
       .by_cases d4:z<=y
        .go_wp2;go_ret;exact ⟨aB (by rw [HR.o];exact (HZ.o (HK.o false (by simp;omega))).symm),hB0⟩
        .go_wp2
         go_round
         .exact ⟨k+1,by omega,by go_num,zh (HG.o (HK.o true (by simp;omega)))⟩
         .simp [intOf];omega
   .have HE:=zh (eA (rlk rz dn) rn (fun j hj=>HJ.out j (by omega)));go_wp2;go_ret;exact ⟨aB (by rw [HR.o];exact HE.o.symm),hB0⟩
theorem wB (nm:ByteArray)(v1 v2:Value)(da:qO)(dn dc:Nat)(bss:Int)(ra:qO)(rn rc:Nat)(rz:qi)(v6 v7:Value)(w:qw)(hd:dn<=maxLen)(h:IS w ra rn rc rz):
 qC 137 #[.agg #[.string nm,v1,v2,qS da dn dc,qI bss,qS ra rn rc,v6,v7]] w (qB w (.bool (rlo rn rz dn))):=by
 obtain ⟨W,hW,hB0,kb⟩:=nwb w #[.string nm,v1,v2,qS da dn dc,qI bss,qS ra rn rc,v6,v7] 53;obtain ⟨q0,q1,q2,q3,q4,q5,q6,q7⟩:=kb.eight;obtain ⟨r,hr⟩:=eqx (rlo rn rz dn);rw [<- hr];unfold rlo at hr;have h0:=h.bw hB0;have hm1:=h.2.1;unfold maxLen at hm1 hd;have HW:=zh hW;clear hW;by_cases c1:16<rn
 .have HR:=zh (show r=false by rw [hr,xS (by omega)];rfl);clear hr;have c1':(16:Int)<(rn:Int):=by omega
  go_enter Tryz.func137,Tryz.ntmps137
  go_wp2_with (rw [<- HW.o])
  go_ret;exact ⟨aB HR.o.symm,hB0⟩
 .have c1':¬ (16:Int)<(rn:Int):=by omega
  have HR:=zh (show r=(List.range rn).all (rlk rz dn) by rw [hr,xR (by omega)];rfl);clear hr;go_enter Tryz.func137,Tryz.ntmps137
  go_wp2_with (rw [<- HW.o])
  go_loop [12] (fun i=>∃ k:Nat,k<=rn/\i=qI k/\Hid (∀ j,j<k->rlk rz dn j=true)) (fun i=>rn-(intOf i).toNat)
  .exact ⟨0,xC _,rfl,zh (fun j hj=>by omega)⟩
  .obtain ⟨k,hk,rfl,HJ⟩:=hrel;by_cases hlt:k<rn
   .have hlt':(k:Int)<(rn:Int):=by omega
    obtain ⟨bb,off,rfl⟩:=h0.addr (by omega);have hck:=h0.at k hlt;have HZ:=zh (eW (rlk rz dn) rn k hlt)
    have HG:=zh (show rlk rz dn k=true->∀ j,j<k+1->rlk rz dn j=true from fun h j hj=>by
     by_cases e:j=k
     .subst e;exact h
     .exact HJ.out j (by omega))
    have HK:Zh (∀ b:Bool,(b=true ↔ (0<=rz.getD k 0/\rz.getD k 0%4=0/\rz.getD k 0<=(dn:Int)-4/\(k=0\/rz.getD (k-1) 0<rz.getD k 0)))->rlk rz dn k=b):=fun b hb=>by unfold rlk;rw [xJ,hb];simp
    have hrg:=h0.range k;unfold wfi at hrg;obtain ⟨g0,g1⟩:=hrg;have ht4:=aK0 (rz.getD k 0);have HU:=zh (fun w=>cU (rz.getD k 0) ((dn:Int)-4) w);by_cases k0:k=0
    .subst k0;simp only [Nat.add_zero] at hck;generalize rz.getD 0 0=z at *;by_cases d2:z%4≠0
     .rw [xR d2] at ht4;go_wp2;go_ret;exact ⟨aB (by rw [HR.o];exact (HZ.o (HK.o false (by simp;omega))).symm),hB0⟩
     .rw [xS d2] at ht4;by_cases d3:0<=z/\z<=(dn:Int)-4
      .rw [xR d3] at HU;go_wp2_with (go_at_call 50;refine (HU.o _).mono ?_;rintro e w1 ⟨rfl,rfl⟩)
       go_round
       .exact ⟨1,by omega,by go_num,zh (HG.o (HK.o true (by simp;omega)))⟩
       .simp [intOf];omega
      .rw [xS d3] at HU;go_wp2_with (go_at_call 50;refine (HU.o _).mono ?_;rintro e w1 ⟨rfl,rfl⟩)
       go_ret;exact ⟨aB (by rw [HR.o];exact (HZ.o (HK.o false (by simp;omega))).symm),hB0⟩
    .have hpk:=h0.at (k-1) (by omega);have hk0:(0:Int)<(k:Int):=by omega
     have hk1:(0:Int)<=(k:Int)-1:=by omega
     have hk2:(k:Int)-1<(rn:Int):=by omega
     generalize rz.getD (k-1) 0=y at *;generalize rz.getD k 0=z at *;by_cases d2:z%4≠0
     .rw [xR d2] at ht4;go_wp2;go_ret;exact ⟨aB (by rw [HR.o];exact (HZ.o (HK.o false (by simp;omega))).symm),hB0⟩
     .rw [xS d2] at ht4;by_cases d3:0<=z/\z<=(dn:Int)-4
      .rw [xR d3] at HU;by_cases d4:z<=y
       .go_wp2_with (go_at_call 50;refine (HU.o _).mono ?_;rintro e w1 ⟨rfl,rfl⟩)
        go_ret;exact ⟨aB (by rw [HR.o];exact (HZ.o (HK.o false (by simp;omega))).symm),hB0⟩
       .go_wp2_with (go_at_call 50;refine (HU.o _).mono ?_;rintro e w1 ⟨rfl,rfl⟩)
        go_round
        .exact ⟨k+1,by omega,by go_num,zh (HG.o (HK.o true (by simp;omega)))⟩
        .simp [intOf];omega
      .rw [xS d3] at HU;go_wp2_with (go_at_call 50;refine (HU.o _).mono ?_;rintro e w1 ⟨rfl,rfl⟩)
       go_ret;exact ⟨aB (by rw [HR.o];exact (HZ.o (HK.o false (by simp;omega))).symm),hB0⟩
   .have HE:=zh (eA (rlk rz dn) rn (fun j hj=>HJ.out j (by omega)));go_wp2;go_ret;exact ⟨aB (by rw [HR.o];exact HE.o.symm),hB0⟩
def zS:ByteArray:=⟨#[]⟩
def SS (w:qw)(a:qO)(n cap:Nat)(ss:List ByteArray):Prop:=
 ss.length=n/\n<=maxLen/\(∀ s∈ss,s.size<=1048576)/\(n≠0->∃ b off,a=some (qR b off)/\∀ i,i<n->w.cell? (qR b (off+i))=some (.string (ss.getD i zS)))/\n<=cap
theorem SS.bw {w w':qw}(h:SS w a n cap ss)(hb:qY w w'):SS w' a n cap ss:=by
 obtain ⟨h1,h2,h3,h4,h5⟩:=h;refine ⟨h1,h2,h3,fun hn=>?_,h5⟩;obtain ⟨b,off,e,hc⟩:=h4 hn;exact ⟨b,off,e,fun i hi=>(hb.cell (xD w _ (hc i hi))).trans (hc i hi)⟩
theorem SS.addr {w:qw}(h:SS w a n cap ss)(hn:n≠0):∃ b off,a=some (qR b off):=by
 obtain ⟨b,off,e,_⟩:=h.2.2.2.1 hn;exact ⟨b,off,e⟩
theorem SS.at {w:qw}{b off n cap:Nat}{ss:List ByteArray}(h:SS w (some (qR b off)) n cap ss)(i:Nat)(hi:i<n):w.cell? (qR b (off+i))=some (.string (ss.getD i zS)):=by
 obtain ⟨b',off',e,hc⟩:=h.2.2.2.1 (by omega);simp at e;obtain ⟨rfl,rfl⟩:=e;exact hc i hi
theorem SS.size {w:qw}(h:SS w a n cap ss)(i:Nat):(ss.getD i zS).size<=1048576:=by
 by_cases hi:i<ss.length
 .have:=h.2.2.1 ss[i] (List.getElem_mem hi);simpa [xB,hi] using this
 .rw [xB,xO (Nat.le_of_not_lt hi)];exact (by decide:(zS).size<=1048576)
def imo (n:Nat)(ss:List ByteArray):Bool:=decide (n<=16)&&(List.range n).all fun k=>eJ (ss.getD k zS)
theorem uG (nm:ByteArray)(v1 v2 v3 v5 v7:Value)(bss:Int)(ia:qO)(n ic:Nat)(ss:List ByteArray)(w:qw)(h:SS w ia n ic ss):
 qC 138 #[.agg #[.string nm,v1,v2,v3,qI bss,v5,qS ia n ic,v7]] w (qB w (.bool (imo n ss))):=by
 obtain ⟨W,hW,hB0,kb⟩:=nwb w #[.string nm,v1,v2,v3,qI bss,v5,qS ia n ic,v7] 53;obtain ⟨q0,q1,q2,q3,q4,q5,q6,q7⟩:=kb.eight;obtain ⟨r,hr⟩:=eqx (imo n ss);rw [<- hr];unfold imo at hr;have hm1:=h.2.1;unfold maxLen at hm1;have HW:=zh hW;clear hW;by_cases c1:16<n
 .have HR:=zh (show r=false by rw [hr,xS (by omega)];rfl);clear hr;have c1':(16:Int)<(n:Int):=by omega
  go_enter Tryz.func138,Tryz.ntmps138
  go_wp2_with (rw [<- HW.o])
  go_ret;exact ⟨aB HR.o.symm,hB0⟩
 .have c1':¬ (16:Int)<(n:Int):=by omega
  have HR:=zh (show r=(List.range n).all (fun k=>eJ (ss.getD k zS)) by rw [hr,xR (by omega)];rfl);clear hr;go_enter Tryz.func138,Tryz.ntmps138
  go_wp2_with (rw [<- HW.o])
  go_loopw [15] (fun i wr=>∃ k:Nat,k<=n/\i=qI k/\Hid (∀ j,j<k->eJ (ss.getD j zS)=true)/\qY w wr) (qf n)
  .exact ⟨0,xC _,rfl,zh (fun j hj=>by omega),hB0⟩
  .obtain ⟨k,hk,rfl,HJ,hB⟩:=hrel;by_cases hlt:k<n
   .have hlt':(k:Int)<(n:Int):=by omega
    obtain ⟨bb,off,rfl⟩:=h.addr (by omega);have hck:=(h.bw hB).at k hlt;have HZ:=zh (eW (fun k=>eJ (ss.getD k zS)) n k hlt)
    have HG:=zh (show eJ (ss.getD k zS)=true->∀ j,j<k+1->eJ (ss.getD j zS)=true from fun h j hj=>by
     by_cases e:j=k
     .subst e;exact h
     .exact HJ.out j (by omega))
    have HC:=zh (fun w=>kZ (ss.getD k zS) w (h.size k));generalize ss.getD k zS=s at *;cases hf:eJ s
    .rw [aCu,hf,if_neg (by simp)] at HC;go_wp2_with fail
     refine (HC.o _).mono ?_;rintro e w1 ⟨rfl,hb1⟩;go_wp2;go_ret;exact ⟨aB (by rw [HR.o];exact (HZ.o hf).symm),hB.trans (hb1.mono hB.size)⟩
    .rw [aCu,hf,if_pos rfl] at HC;go_wp2_with fail
     refine (HC.o _).mono ?_;rintro e w1 ⟨rfl,hb1⟩;go_wp2
     go_roundw
     .exact ⟨k+1,by omega,by go_num,zh (HG.o hf),hB.trans (hb1.mono hB.size)⟩
     .simp [qf,intOf];omega
   .have HE:=zh (eA (fun k=>eJ (ss.getD k zS)) n (fun j hj=>HJ.out j (by omega)));go_wp2;go_ret;exact ⟨aB (by rw [HR.o];exact HE.o.symm),hB⟩
def pcn (tn bn:Nat)(bl:List Bk)(b:Int):Int:=if b=-1 then (tn:Int) else if 0<=b/\b<(bn:Int) then ((bl.getD b.toNat zB).2.1:Int) else -1
def aIj (w:qw)(ta:qO)(tn tc bn:Nat)(bl:List Bk)(b:Int)(e:Ending)(w':qw):Prop:=
 ∃ a n c ok,e=.returned (.tuple #[qS a n c,.bool ok])/\ok=decide (0<=pcn tn bn bl b)/\(ok=true->(n:Int)=pcn tn bn bl b)/\n<=maxLen/\qY w w'
theorem oE (nm:ByteArray)(ta:qO)(tn tc:Nat)(ba:qO)(bn bc:Nat)(bl:List Bk)(v3 v5 v6 v7:Value)(bss b:Int)(w:qw)(htn:tn<=maxLen)(hb:BKS w ba bn bc bl):
 qC 81 #[.agg #[.string nm,qS ta tn tc,qS ba bn bc,v3,qI bss,v5,v6,v7],qI b] w (aIj w ta tn tc bn bl b):=by
 obtain ⟨W,hW,hB0,kb⟩:=nwb w #[.string nm,qS ta tn tc,qS ba bn bc,v3,qI bss,v5,v6,v7] 53;obtain ⟨q0,q1,q2,q3,q4,q5,q6,q7⟩:=kb.eight;have hb0:=hb.bw hB0;have hm2:=hb.2.1;unfold maxLen at hm2;have HW:=zh hW;clear hW;by_cases c1:b=-1
 .subst c1;have HP:Zh (pcn tn bn bl (-1)=(tn:Int)):=rfl;go_enter Tryz.func81,Tryz.ntmps81
  go_wp2_with (rw [<- HW.o])
  go_ret2
  exact ⟨ta,tn,tc,true,rfl,by rw [HP.o];simp,fun _=>HP.o.symm,htn,hB0⟩
 .have c1':(b == -1)=false:=by simpa using c1
  by_cases c2:b<0
  .have HP:=zh (show pcn tn bn bl b=-1 by unfold pcn;rw [if_neg c1,if_neg (by omega)]);go_enter Tryz.func81,Tryz.ntmps81
   go_wp2_with (rw [<- HW.o])
   go_ret2
   exact ⟨_,0,0,false,rfl,by rw [HP.o];rfl,(by intro h;cases h),xC _,by first|exact hB0.alloc hB0.size _|exact hB0⟩
  .by_cases c3:(bn:Int)<=b
   .have HP:=zh (show pcn tn bn bl b=-1 by unfold pcn;rw [if_neg c1,if_neg (by omega)]);go_enter Tryz.func81,Tryz.ntmps81
    go_wp2_with (rw [<- HW.o])
    go_ret2
    exact ⟨_,0,0,false,rfl,by rw [HP.o];rfl,(by intro h;cases h),xC _,by first|exact hB0.alloc hB0.size _|exact hB0⟩
   .have c3':b<(bn:Int):=by omega
    have HP:=zh (show pcn tn bn bl b=((bl.getD b.toNat zB).2.1:Int) by unfold pcn;rw [if_neg c1,if_pos (by omega)]);obtain ⟨bb,off,rfl⟩:=hb0.addr (by omega);have hck:=hb0.at b.toNat (by omega);have hik:=hb0.2.2.2.1 b.toNat (by omega);generalize bl.getD b.toNat zB=B at *;obtain ⟨xa,xn,xc,xz⟩:=B;dsimp only at hck hik HP;have HM:=zh hik.2.1;clear hik;have c2':0<=b:=by omega
    go_enter Tryz.func81,Tryz.ntmps81
    go_wp2_with (rw [<- HW.o])
    go_ret2
    exact ⟨xa,xn,xc,true,rfl,by rw [HP.o];simp,fun _=>HP.o.symm,HM.o,hB0⟩
theorem gC (nm:ByteArray)(ta:qO)(tn tc:Nat)(ba:qO)(bn bc:Nat)(bl:List Bk)(v3 v5 v6 v7:Value)(bss b:Int)(w:qw)(htn:tn<=maxLen)(hb:BKS w ba bn bc bl):
 qC 99 #[.agg #[.string nm,qS ta tn tc,qS ba bn bc,v3,qI bss,v5,v6,v7],qI b] w (aIj w ta tn tc bn bl b):=by
 obtain ⟨W,hW,hB0,kb⟩:=nwb w #[.string nm,qS ta tn tc,qS ba bn bc,v3,qI bss,v5,v6,v7] 53;obtain ⟨q0,q1,q2,q3,q4,q5,q6,q7⟩:=kb.eight;have hb0:=hb.bw hB0;have hm2:=hb.2.1;unfold maxLen at hm2;have HW:=zh hW;clear hW;by_cases c1:b=-1
 .subst c1;have HP:Zh (pcn tn bn bl (-1)=(tn:Int)):=rfl;go_enter Tryz.func99,Tryz.ntmps99
  go_wp2_with (rw [<- HW.o])
  go_ret2
  exact ⟨ta,tn,tc,true,rfl,by rw [HP.o];simp,fun _=>HP.o.symm,htn,hB0⟩
 .have c1':(b == -1)=false:=by simpa using c1
  by_cases c2:b<0
  .have HP:=zh (show pcn tn bn bl b=-1 by unfold pcn;rw [if_neg c1,if_neg (by omega)]);go_enter Tryz.func99,Tryz.ntmps99
   go_wp2_with (rw [<- HW.o])
   go_ret2
   exact ⟨_,0,0,false,rfl,by rw [HP.o];rfl,(by intro h;cases h),xC _,by first|exact hB0.alloc hB0.size _|exact hB0⟩
  .by_cases c3:(bn:Int)<=b
   .have HP:=zh (show pcn tn bn bl b=-1 by unfold pcn;rw [if_neg c1,if_neg (by omega)]);go_enter Tryz.func99,Tryz.ntmps99
    go_wp2_with (rw [<- HW.o])
    go_ret2
    exact ⟨_,0,0,false,rfl,by rw [HP.o];rfl,(by intro h;cases h),xC _,by first|exact hB0.alloc hB0.size _|exact hB0⟩
   .have c3':b<(bn:Int):=by omega
    have HP:=zh (show pcn tn bn bl b=((bl.getD b.toNat zB).2.1:Int) by unfold pcn;rw [if_neg c1,if_pos (by omega)]);obtain ⟨bb,off,rfl⟩:=hb0.addr (by omega);have hck:=hb0.at b.toNat (by omega);have hik:=hb0.2.2.2.1 b.toNat (by omega);generalize bl.getD b.toNat zB=B at *;obtain ⟨xa,xn,xc,xz⟩:=B;dsimp only at hck hik HP;have HM:=zh hik.2.1;clear hik;have c2':0<=b:=by omega
    go_enter Tryz.func99,Tryz.ntmps99
    go_wp2_with (rw [<- HW.o])
    go_ret2
    exact ⟨xa,xn,xc,true,rfl,by rw [HP.o];simp,fun _=>HP.o.symm,HM.o,hB0⟩
abbrev Ex:=ByteArray×Int×Int
def zE:Ex:=(zS,0,0)
def ES (w:qw)(a:qO)(n cap:Nat)(es:List Ex):Prop:=
 es.length=n/\n<=maxLen/\(∀ e∈es,e.1.size<=1048576)/\(n≠0->∃ b off,a=some (qR b off)/\∀ i,i<n->w.cell? (qR b (off+i*3))=some (.string (es.getD i zE).1)/\w.cell? (qR b (off+i*3+1))=some (qI (es.getD i zE).2.1)/\w.cell? (qR b (off+i*3+2))=some (qI (es.getD i zE).2.2))/\n<=cap
theorem ES.bw {w w':qw}{es:List Ex}(h:ES w a n cap es)(hb:qY w w'):ES w' a n cap es:=by
 obtain ⟨h1,h2,h3,h4,h5⟩:=h;refine ⟨h1,h2,h3,fun hn=>?_,h5⟩;obtain ⟨b,off,e,hc⟩:=h4 hn;have key:∀ o v,w.cell? (qR b o)=some v->w'.cell? (qR b o)=some v:=fun o v hv=>(hb.cell (xD w _ hv)).trans hv;exact ⟨b,off,e,fun i hi=>⟨key _ _ (hc i hi).1,key _ _ (hc i hi).2.1,key _ _ (hc i hi).2.2⟩⟩
theorem ES.addr {w:qw}{es:List Ex}(h:ES w a n cap es)(hn:n≠0):∃ b off,a=some (qR b off):=by
 obtain ⟨b,off,e,_⟩:=h.2.2.2.1 hn;exact ⟨b,off,e⟩
theorem ES.at {w:qw}{b off n cap:Nat}{es:List Ex}(h:ES w (some (qR b off)) n cap es)(i:Nat)(hi:i<n):w.cell? (qR b (off+i*3))=some (.string (es.getD i zE).1)/\w.cell? (qR b (off+i*3+1))=some (qI (es.getD i zE).2.1)/\w.cell? (qR b (off+i*3+2))=some (qI (es.getD i zE).2.2):=by
 obtain ⟨b',off',e,hc⟩:=h.2.2.2.1 (by omega);simp at e;obtain ⟨rfl,rfl⟩:=e;exact hc i hi
theorem ES.size {w:qw}{es:List Ex}(h:ES w a n cap es)(i:Nat):(es.getD i zE).1.size<=1048576:=by
 by_cases hi:i<es.length
 .have:=h.2.2.1 es[i] (List.getElem_mem hi);simpa [xB,hi] using this
 .rw [xB,xO (Nat.le_of_not_lt hi)];exact (by decide:(zE).1.size<=1048576)
def ex1 (tn bn:Nat)(bl:List Bk)(x:Ex):Bool:=nmo x.1&&decide (0<=x.2.2/\x.2.2<pcn tn bn bl x.2.1)
def exn (es:List Ex)(i:Nat):Bool:=(List.range i).all fun k=>!((es.getD k zE).1.toList==(es.getD i zE).1.toList)
def exo (tn bn:Nat)(bl:List Bk)(n:Nat)(es:List Ex):Bool:=decide (n<=16)&&(List.range n).all fun i=>ex1 tn bn bl (es.getD i zE)&&exn es i
theorem oQ (nm:ByteArray)(ta:qO)(tn tc:Nat)(ba:qO)(bn bc:Nat)(bl:List Bk)(v3 v5 v6:Value)(bss:Int)(ea:qO)(n ec:Nat)(es:List Ex)(w:qw)(htn:tn<=maxLen)(hb:BKS w ba bn bc bl)(h:ES w ea n ec es):
 qC 73 #[.agg #[.string nm,qS ta tn tc,qS ba bn bc,v3,qI bss,v5,v6,qS ea n ec]] w (qB w (.bool (exo tn bn bl n es))):=by
 obtain ⟨W,hW,hB0,kb⟩:=nwb w #[.string nm,qS ta tn tc,qS ba bn bc,v3,qI bss,v5,v6,qS ea n ec] 53;obtain ⟨q0,q1,q2,q3,q4,q5,q6,q7⟩:=kb.eight;obtain ⟨r,hr⟩:=eqx (exo tn bn bl n es);rw [<- hr];unfold exo at hr;have hm1:=h.2.1;unfold maxLen at hm1;have HW:=zh hW;clear hW;by_cases c1:16<n
 .have HR:=zh (show r=false by rw [hr,xS (by omega)];rfl);clear hr;have c1':(16:Int)<(n:Int):=by omega
  go_enter Tryz.func73,Tryz.ntmps73
  go_wp2_with (rw [<- HW.o])
  go_ret;exact ⟨aB HR.o.symm,hB0⟩
 .have c1':¬ (16:Int)<(n:Int):=by omega
  have HR:=zh (show r=(List.range n).all (fun i=>ex1 tn bn bl (es.getD i zE)&&exn es i) by rw [hr,xR (by omega)];rfl);clear hr;go_enter Tryz.func73,Tryz.ntmps73
  go_wp2_with (rw [<- HW.o])
  clear q0 q1 q2 q3 q4 q5 q6 q7;go_loopw [3] (fun i wr=>∃ k:Nat,k<=n/\i=qI k/\Hid (∀ j,j<k->(ex1 tn bn bl (es.getD j zE)&&exn es j)=true)/\qY w wr/\Blk wr w.heap.size #[.string nm,qS ta tn tc,qS ba bn bc,v3,qI bss,v5,v6,qS ea n ec] 53) (qf n)
  .exact ⟨0,xC _,rfl,zh (fun j hj=>by omega),hB0,kb⟩
  .obtain ⟨k,hk,rfl,HJ,hB,kw⟩:=hrel;clear kb hB0;obtain ⟨q0,q1,q2,q3,q4,q5,q6,q7⟩:=kw.eight;by_cases hlt:k<n
   .have hlt':(k:Int)<(n:Int):=by omega
    obtain ⟨bb,off,rfl⟩:=h.addr (by omega);obtain ⟨y1,y2,y3⟩:=(h.bw hB).at k hlt;have HZ:=zh (eW (fun i=>ex1 tn bn bl (es.getD i zE)&&exn es i) n k hlt)
    have HG:=zh (show (ex1 tn bn bl (es.getD k zE)&&exn es k)=true->∀ j,j<k+1->(ex1 tn bn bl (es.getD j zE)&&exn es j)=true from fun h j hj=>by
     by_cases e:j=k
     .subst e;exact h
     .exact HJ.out j (by omega))
    have HN:=zh (fun w=>eY (es.getD k zE).1 w (h.size k));have HX:Zh (exn es k=(List.range k).all (fun j=>!((es.getD j zE).1.toList==(es.getD k zE).1.toList))):=rfl;generalize es.getD k zE=E at *;obtain ⟨en,eb,ei⟩:=E;dsimp only at y1 y2 y3 HN HX;have lkw:=kw.lt;have hb1:=hb.bw (hB.alloc hB.size (.cells #[.string en,qI eb,qI ei] 91));have HP:=zh (fun w h=>oE nm ta tn tc ba bn bc bl v3 v5 v6 (qS (some (qR bb off)) n ec) bss eb w htn h);have kE:=Blk.new wr #[.string en,qI eb,qI ei] 91;have hA:qY wr (wr.alloc (.cells #[.string en,qI eb,qI ei] 91)):=bal;go_wp2_with fail
    refine (HP.o _ hb1).mono ?_;rintro e w1 ⟨pa,pn,px,ok,rfl,hok,hpn,hpm,hbp⟩;have kE1:=kE.bw hbp;have kw1:=(kw.bw hA).bw hbp;have hB1:=(hB.trans (hA.mono hB.size)).trans (hbp.mono (by have:=hB.size;simp;omega));clear kE kw hA hbp hb1 HP q0 q1 q2 q3 q4 q5 q6 q7 y1 y2 y3 hB;unfold maxLen at hpm;have HOK:=zh (xA hok hpn);clear hok hpn;obtain ⟨z1,z2,z3,z4⟩:=kE1.three;have HEX:Zh (ex1 tn bn bl (en,eb,ei)=(nmo en&&decide (0<=ei/\ei<pcn tn bn bl eb))):=rfl;cases hn:nmo en
    .rw [hn] at HN;go_wp2_with (go_at_call 69;refine (HN.o _).mono ?_;rintro e w2 ⟨rfl,rfl⟩)
     go_ret;exact ⟨aB (by rw [HR.o];exact (HZ.o (by rw [HEX.o,hn];rfl)).symm),hB1⟩
    .rw [hn] at HN;cases ok
     .have hp:¬ 0<=pcn tn bn bl eb:=by have:=HOK.o.1;simpa using this.symm
      go_wp2_with (go_at_call 69;refine (HN.o _).mono ?_;rintro e w2 ⟨rfl,rfl⟩)
      go_ret;exact ⟨aB (by rw [HR.o];exact (HZ.o (by rw [HEX.o,xS (by omega)];simp)).symm),hB1⟩
     .have hp:(pn:Int)=pcn tn bn bl eb:=HOK.o.2 rfl;have HPP:=zh hp;clear hp;by_cases d1:ei<0
      .go_wp2_with (go_at_call 69;refine (HN.o _).mono ?_;rintro e w2 ⟨rfl,rfl⟩)
       go_ret;exact ⟨aB (by rw [HR.o];exact (HZ.o (by rw [HEX.o,xS (by omega)];simp)).symm),hB1⟩
      .by_cases d2:(pn:Int)<=ei
       .go_wp2_with (go_at_call 69;refine (HN.o _).mono ?_;rintro e w2 ⟨rfl,rfl⟩)
        go_ret;exact ⟨aB (by rw [HR.o];exact (HZ.o (by rw [HEX.o,<- HPP.o,xS (by omega)];simp)).symm),hB1⟩
       .have HE1:=zh (show ex1 tn bn bl (en,eb,ei)=true by rw [HEX.o,hn,<- HPP.o,xR (by omega)];rfl);go_wp2_with (go_at_call 69;refine (HN.o _).mono ?_;rintro e w2 ⟨rfl,rfl⟩)
        clear z1 z2 z3 z4;go_loopw [7] (fun i wx=>∃ m:Nat,m<=k/\i=qI m/\Hid (∀ j,j<m->(!((es.getD j zE).1.toList==en.toList))=true)/\qY w wx/\Blk wx w.heap.size #[.string nm,qS ta tn tc,qS ba bn bc,v3,qI bss,v5,v6,qS (some (qR bb off)) n ec] 53/\Blk wx wr.heap.size #[.string en,qI eb,qI ei] 91) (qf k)
        .exact ⟨0,xC _,rfl,zh (fun j hj=>by omega),hB1,kw1,kE1⟩
        .obtain ⟨m,hm,rfl,HM,hBx,kwx,kEx⟩:=hrel;clear hB1 kw1 kE1;obtain ⟨q0,q1,q2,q3,q4,q5,q6,q7⟩:=kwx.eight;obtain ⟨z1,z2,z3,z4⟩:=kEx.three;by_cases hmk:m<k
         .have hmk':(m:Int)<(k:Int):=by omega
          have hmn':(m:Int)<(n:Int):=by omega
          obtain ⟨y1,y2,y3⟩:=(h.bw hBx).at m (by omega);have HY:=zh (eW (fun j=>!((es.getD j zE).1.toList==en.toList)) k m hmk)
          have HV:=zh (show (!((es.getD m zE).1.toList==en.toList))=true->∀ j,j<m+1->(!((es.getD j zE).1.toList==en.toList))=true from fun h j hj=>by
           by_cases e:j=m
           .subst e;exact h
           .exact HM.out j (by omega))
          generalize (es.getD m zE).1=sm at *;cases hq:(sm.toList==en.toList)
          .go_wp2_with fail
           go_quiet (fail)
           go_wp2
           go_roundw
           .exact ⟨m+1,by omega,by go_num,zh (HV.o (by rw [hq];rfl)),below_drewN hBx nq,kwx.bw (below_drewN brf nq),kEx.bw (below_drewN brf nq)⟩
           .simp [qf,intOf];omega
          .go_wp2_with fail
           go_quiet (fail)
           go_wp2;go_ret;exact ⟨aB (by rw [HR.o];exact (HZ.o (by rw [HX.o,HY.o (by rw [hq];rfl)];simp)).symm),below_drewN hBx nq⟩
         .have HXX:=zh (eA (fun j=>!((es.getD j zE).1.toList==en.toList)) k (fun j hj=>HM.out j (by omega)));go_wp2
          go_roundw
          .exact ⟨k+1,by omega,by go_num,zh (HG.o (by rw [HE1.o,HX.o,HXX.o];rfl)),hBx,kwx⟩
          .simp [qf,intOf];omega
   .have HE:=zh (eA (fun i=>ex1 tn bn bl (es.getD i zE)&&exn es i) n (fun j hj=>HJ.out j (by omega)));go_wp2;go_ret;exact ⟨aB (by rw [HR.o];exact HE.o.symm),hB⟩
structure MD (w:qw)(nm:ByteArray)(ta:qO)(tn tc:Nat)(tz:qi)(ba:qO)(bn bc:Nat)(bl:List Bk)(da:qO)(dn dc:Nat)(dz:qi)(bss:Int)(ra:qO)(rn rc:Nat)(rz:qi)(ia:qO)(im ic:Nat)(ss:List ByteArray)(ea:qO)(en ec:Nat)(es:List Ex):Prop where
 n:nm.size<=1048576
 t:IS w ta tn tc tz
 b:BKS w ba bn bc bl
 d:BS w da dn dc dz
 s:wfi bss
 r:IS w ra rn rc rz
 i:SS w ia im ic ss
 e:ES w ea en ec es
theorem MD.bw {w w':qw}{tz:qi}{dz:qi}{rz:qi}{es:List Ex}
 (h:MD w nm ta tn tc tz ba bn bc bl da dn dc dz bss ra rn rc rz ia im ic ss ea en ec es) (hb:qY w w'):MD w' nm ta tn tc tz ba bn bc bl da dn dc dz bss ra rn rc rz ia im ic ss ea en ec es:=
 ⟨h.n,h.t.bw hb,h.b.bw hb,h.d.bw hb,h.s,h.r.bw hb,h.i.bw hb,h.e.bw hb⟩
def mdo (nm:ByteArray)(tn:Nat)(tz:qi)(bn:Nat)(bl:List Bk)(dn:Nat)(bss:Int)(rn:Nat)(rz:qi)(im:Nat)(ss:List ByteArray)(en:Nat)(es:List Ex):Int:=
 if nmo nm=false then 1 else if cdo tn tz bn bl=false then 2 else if 512<dn\/bss<0\/512<bss then 3 else if rlo rn rz dn=false then 4 else if imo im ss=false then 5 else if exo tn bn bl en es=false then 6 else 0
theorem dX (nm:ByteArray)(ta:qO)(tn tc:Nat)(tz:qi)(ba:qO)(bn bc:Nat)(bl:List Bk)(da:qO)(dn dc:Nat)(dz:qi)(bss:Int)(ra:qO)(rn rc:Nat)(rz:qi)(ia:qO)(im ic:Nat)(ss:List ByteArray)(ea:qO)(en ec:Nat)(es:List Ex)(w:qw)
 (h:MD w nm ta tn tc tz ba bn bc bl da dn dc dz bss ra rn rc rz ia im ic ss ea en ec es):
 qC 36 #[.agg (qM nm ta tn tc ba bn bc da dn dc bss ra rn rc ia im ic ea en ec)] w (qB w (qI (mdo nm tn tz bn bl dn bss rn rz im ss en es))):=by
 obtain ⟨W,hW,hB0,kb⟩:=nwb w (qM nm ta tn tc ba bn bc da dn dc bss ra rn rc ia im ic ea en ec) 53;obtain ⟨r,hr⟩:=eqx (mdo nm tn tz bn bl dn bss rn rz im ss en es);rw [<- hr];unfold mdo at hr;have HRR:=zh hr;clear hr;have H0:=h.bw hB0;have hmd:=h.d.2.1;have hmi:=h.i.2.1;have htn:=h.t.2.1;have HN:=zh (fun w=>eY nm w h.n);have HCd:=zh (fun w ht hb=>yM nm ta tn tc tz ba bn bc bl (qS da dn dc) (qS ra rn rc) (qS ia im ic) (qS ea en ec) bss w ht hb);have HRl:=zh (fun w h=>sD nm (qS ta tn tc) (qS ba bn bc) da dn dc bss ra rn rc rz (qS ia im ic) (qS ea en ec) w hmd h);have HEx:=zh (fun w hb h=>oQ nm ta tn tc ba bn bc bl (qS da dn dc) (qS ra rn rc) (qS ia im ic) bss ea en ec es w htn hb h);unfold maxLen at hmd hmi;have hsz:=h.i.size;have HFU:=zh (fun k w=>mG (ss.getD k zS) w (hsz k));obtain ⟨s0,s1⟩:=h.s;clear h hsz htn;have HW:=zh hW;clear hW;generalize nmo nm=a1 at *;generalize cdo tn tz bn bl=a2 at *;generalize rlo rn rz dn=a4 at *;generalize exo tn bn bl en es=a6 at *;obtain ⟨q0,q1,q2,q3,q4,q5,q6,q7⟩:=kb.eight;go_enter Tryz.func36,Tryz.ntmps36
 go_wp2_with (first|(rw [<- HW.o])|(go_at_call 69;refine (HN.o _).mono ?_;rintro e w1 ⟨rfl,rfl⟩;cases a1))
 .have e:=zh (show r=1 from by rw [HRR.o];simp);go_ret;exact ⟨aQ e.o.symm,hB0⟩
 .refine (HCd.o _ H0.t H0.b).mono ?_;rintro e w2 ⟨rfl,hb2⟩;have kb2:=kb.bw hb2;have H2:=H0.bw hb2;have hB2:=hB0.trans (hb2.mono hB0.size);clear hb2 kb H0 hB0 q0 q1 q2 q3 q4 q5 q6 q7;obtain ⟨q0,q1,q2,q3,q4,q5,q6,q7⟩:=kb2.eight;cases a2
  .have e:=zh (show r=2 from by rw [HRR.o];simp);go_wp2;go_ret;exact ⟨aQ e.o.symm,hB2⟩
  .by_cases c1:512<dn
   .have e:=zh (show r=3 from by rw [HRR.o];simp [c1]);have c1':(512:Int)<(dn:Int):=by omega
    go_wp2;go_ret;exact ⟨aQ e.o.symm,hB2⟩
   .have c1':¬ (512:Int)<(dn:Int):=by omega
    by_cases c2:bss<0
    .have e:=zh (show r=3 from by rw [HRR.o];simp [c2]);go_wp2;go_ret;exact ⟨aQ e.o.symm,hB2⟩
    .by_cases c3:512<bss
     .have e:=zh (show r=3 from by rw [HRR.o];simp [c3]);go_wp2;go_ret;exact ⟨aQ e.o.symm,hB2⟩
     .have HR2:=zh (show r=if a4=false then 4 else if imo im ss=false then 5 else if a6=false then 6 else 0 from by
       rw [HRR.o]
       simp only [Bool.true_eq_false,if_false,show ¬ (512<dn\/bss<0\/512<bss) by omega])
      clear HRR;go_wp2_with fail
      refine (HRl.o _ H2.r).mono ?_;rintro e w3 ⟨rfl,hb3⟩;have kb3:=kb2.bw hb3;have H3:=H2.bw hb3;have hB3:=hB2.trans (hb3.mono hB2.size);clear hb3 kb2 H2 hB2 q0 q1 q2 q3 q4 q5 q6 q7;obtain ⟨q0,q1,q2,q3,q4,q5,q6,q7⟩:=kb3.eight;cases a4
      .have e:=zh (show r=4 from by rw [HR2.o];simp);go_wp2;go_ret;exact ⟨aQ e.o.symm,hB3⟩
      .by_cases d1:16<im
       .have e:=zh (show r=5 from by rw [HR2.o,show imo im ss=false by unfold imo;rw [xS (by omega)];rfl];simp);have d1':(16:Int)<(im:Int):=by omega
        go_wp2;go_ret;exact ⟨aQ e.o.symm,hB3⟩
       .have d1':¬ (16:Int)<(im:Int):=by omega
        have HIM:=zh (show imo im ss=(List.range im).all (fun k=>eJ (ss.getD k zS)) from by unfold imo;rw [xR (by omega)];rfl);go_wp2_with fail
        go_loop [3] (fun i=>∃ k:Nat,k<=im/\i=qI k/\Hid (∀ j,j<k->eJ (ss.getD j zS)=true)) (fun i=>im-(intOf i).toNat)
        .exact ⟨0,xC _,rfl,zh (fun j hj=>by omega)⟩
        .obtain ⟨k,hk,rfl,HJ⟩:=hrel;by_cases hlt:k<im
         .have hlt':(k:Int)<(im:Int):=by omega
          obtain ⟨bb,off,rfl⟩:=H3.i.addr (by omega);have hck:=H3.i.at k hlt;have HZ:=zh (eW (fun k=>eJ (ss.getD k zS)) im k hlt)
          have HG:=zh (show eJ (ss.getD k zS)=true->∀ j,j<k+1->eJ (ss.getD j zS)=true from fun h j hj=>by
           by_cases e:j=k
           .subst e;exact h
           .exact HJ.out j (by omega))
          have HF:=zh (HFU.o k);generalize ss.getD k zS=s at *;cases hf:eJ s
          .rw [hf] at HF;have e:=zh (show r=5 from by rw [HR2.o,HIM.o,HZ.o hf];simp);go_wp2_with (go_at_call 72;refine (HF.o _).mono ?_;rintro e w4 ⟨rfl,rfl⟩)
           go_ret;exact ⟨aQ e.o.symm,hB3⟩
          .rw [hf] at HF;go_wp2_with (go_at_call 72;refine (HF.o _).mono ?_;rintro e w4 ⟨rfl,rfl⟩)
           go_round
           .exact ⟨k+1,by omega,by go_num,zh (HG.o hf)⟩
           .simp [intOf];omega
         .have HI:=zh (show imo im ss=true from by rw [HIM.o];exact eA (fun k=>eJ (ss.getD k zS)) im (fun j hj=>HJ.out j (by omega)));go_wp2_with fail
          refine (HEx.o _ H3.b H3.e).mono ?_;rintro e w5 ⟨rfl,hb5⟩;have hB5:=hB3.trans (hb5.mono hB3.size);cases a6
          .have e:=zh (show r=6 from by rw [HR2.o,HI.o];simp);go_wp2;go_ret;exact ⟨aQ e.o.symm,hB5⟩
          .have e:=zh (show r=0 from by rw [HR2.o,HI.o];simp);go_wp2;go_ret;exact ⟨aQ e.o.symm,hB5⟩
def TS (w:qw)(a:qO)(n cap:Nat)(ss:List ByteArray):Prop:=
 ss.length=n/\n<=maxLen/\(∀ i,(ss.getD i zS).size<=maxLen)/\(n≠0->∃ b off,a=some (qR b off)/\∀ i,i<n->w.cell? (qR b (off+i))=some (.string (ss.getD i zS)))/\n<=cap
theorem TS.bw {w w':qw}(h:TS w a n cap ss)(hb:qY w w'):TS w' a n cap ss:=by
 obtain ⟨h1,h2,h3,h4,h5⟩:=h;refine ⟨h1,h2,h3,fun hn=>?_,h5⟩;obtain ⟨b,off,e,hc⟩:=h4 hn;exact ⟨b,off,e,fun i hi=>(hb.cell (xD w _ (hc i hi))).trans (hc i hi)⟩
def TE (w:qw)(a:qO)(n cap:Nat)(es:List Ex):Prop:=
 es.length=n/\n<=maxLen/\(∀ i,(es.getD i zE).1.size<=maxLen)/\(n≠0->∃ b off,a=some (qR b off)/\∀ i,i<n->w.cell? (qR b (off+i*3))=some (.string (es.getD i zE).1)/\w.cell? (qR b (off+i*3+1))=some (qI (es.getD i zE).2.1)/\w.cell? (qR b (off+i*3+2))=some (qI (es.getD i zE).2.2))/\n<=cap
theorem TE.bw {w w':qw}{es:List Ex}(h:TE w a n cap es)(hb:qY w w'):TE w' a n cap es:=by
 obtain ⟨h1,h2,h3,h4,h5⟩:=h;refine ⟨h1,h2,h3,fun hn=>?_,h5⟩;obtain ⟨b,off,e,hc⟩:=h4 hn;have key:∀ o v,w.cell? (qR b o)=some v->w'.cell? (qR b o)=some v:=fun o v hv=>(hb.cell (xD w _ hv)).trans hv;exact ⟨b,off,e,fun i hi=>⟨key _ _ (hc i hi).1,key _ _ (hc i hi).2.1,key _ _ (hc i hi).2.2⟩⟩
structure MT (w:qw)(nm:ByteArray)(ta:qO)(tn tc:Nat)(tz:qi)(ba:qO)(bn bc:Nat)(bl:List Bk)(da:qO)(dn dc:Nat)(dz:qi)(bss:Int)(ra:qO)(rn rc:Nat)(rz:qi)(ia:qO)(im ic:Nat)(ss:List ByteArray)(ea:qO)(en ec:Nat)(es:List Ex):Prop where
 n:nm.size<=maxLen
 t:IS w ta tn tc tz
 b:BKS w ba bn bc bl
 d:BS w da dn dc dz
 s:wfi bss
 r:IS w ra rn rc rz
 i:TS w ia im ic ss
 e:TE w ea en ec es
theorem MT.bw {w w':qw}{tz:qi}{dz:qi}{rz:qi}{es:List Ex}(h:MT w nm ta tn tc tz ba bn bc bl da dn dc dz bss ra rn rc rz ia im ic ss ea en ec es)(hb:qY w w'):MT w' nm ta tn tc tz ba bn bc bl da dn dc dz bss ra rn rc rz ia im ic ss ea en ec es:=
 ⟨h.n,h.t.bw hb,h.b.bw hb,h.d.bw hb,h.s,h.r.bw hb,h.i.bw hb,h.e.bw hb⟩
theorem aDw:(Tryz.prog.info? 9).map (fun i=>(i.zero,i.size,i.bytes))=some (some (.string ⟨#[]⟩),1,16):=by kernel_rfl
def reb (gs:List Nat)(bl:List Bk):List Bk:=(List.range bl.length).map fun i=>(some (qR (gs.getD i 0) 0),(bl.getD i zB).2.1,(bl.getD i zB).2.1,(bl.getD i zB).2.2.2)
theorem aDa (gs:List Nat)(bl:List Bk):(reb gs bl).length=bl.length:=by simp [reb]
theorem aGe (gs:List Nat)(bl:List Bk)(i:Nat)(hi:i<bl.length:=by omega):(reb gs bl).getD i zB=(some (qR (gs.getD i 0) 0),(bl.getD i zB).2.1,(bl.getD i zB).2.1,(bl.getD i zB).2.2.2):=by
 simp [reb,xB,hi]
theorem aI3 (gs:List Nat)(bl:List Bk):(reb gs bl).all bko=bl.all bko:=by
 have key:∀ i,i<bl.length->bko ((reb gs bl).getD i zB)=bko (bl.getD i zB):=fun i hi=>by rw [aGe _ _ _ hi];rfl
 cases h:bl.all bko
 .obtain ⟨x,hx,hb⟩:=List.all_eq_false.1 h;obtain ⟨i,hi,rfl⟩:=List.getElem_of_mem hx;exact zK _ i (by rw [aDa];exact hi) (by rw [key i hi];simpa [xB,hi] using hb)
 .refine tJ _ fun j hj=>?_;rw [aDa] at hj;rw [key j hj];have:=List.all_eq_true.1 h _ (List.getElem_mem hj);simpa [xB,hj] using this
theorem aI2 (gs:List Nat)(tn:Nat)(tz:qi)(bn:Nat)(bl:List Bk):cdo tn tz bn (reb gs bl)=cdo tn tz bn bl:=by unfold cdo;rw [aI3]
theorem aI0 (gs:List Nat)(tn bn:Nat)(bl:List Bk)(b:Int)(h:bl.length=bn):pcn tn bn (reb gs bl) b=pcn tn bn bl b:=by
 unfold pcn;split
 .rfl
 .split
  .rename_i h1 h2;rw [aGe _ _ _]
  .rfl
theorem aI1 (gs:List Nat)(tn bn:Nat)(bl:List Bk)(n:Nat)(es:List Ex)(h:bl.length=bn):exo tn bn (reb gs bl) n es=exo tn bn bl n es:=by
 unfold exo ex1;congr 2;funext i;rw [aI0 _ _ _ _ _ h]
theorem aC9 (gs:List Nat)(nm:ByteArray)(tn:Nat)(tz:qi)(bn:Nat)(bl:List Bk)(dn:Nat)(bss:Int)(rn:Nat)(rz:qi)(im:Nat)(ss:List ByteArray)(en:Nat)(es:List Ex)(h:bl.length=bn):
 mdo nm tn tz bn (reb gs bl) dn bss rn rz im ss en es=mdo nm tn tz bn bl dn bss rn rz im ss en es:=by
 unfold mdo;rw [aI2,aI1 _ _ _ _ _ _ h]
theorem aDy:(Tryz.prog.info? 29).map (fun i=>(i.zero,i.size,i.bytes))=some (some (qS none 0 0),1,24):=by kernel_rfl
theorem aN6 {w:qw}{g o o' b:Nat}{v:Value}(h:b≠g\/o'≠o:=by omega):(w.setCell (qR g o) v).cell? (qR b o')=w.cell? (qR b o'):=
 World.cell?_setCell_other _ _ _ _ (by intro e;injection e;rcases h with h|h<;>simp_all)
theorem aDv:(Tryz.prog.info? 91).map (fun i=>(i.zero,i.size,i.bytes))=some (some (.agg #[.string ⟨#[]⟩,qI 0,qI 0]),3,32):=by kernel_rfl
end Go.Proofs.YtcimaholejajpaaGreat
namespace Go.Proofs.YtcimaholejajpaaGreat
open Go Go.Maps Go.WideShapes
def fd (f:Nat->List UInt8):Nat->DataW Unit
 | 0=>.map []
 | k+1=>if has (fd f k) (.string (f k)) then fd f k else (fd f k).put (.string (f k)) (.lit (.int .i64 k))
theorem iR (f:Nat->List UInt8)(k:Nat):fd f (k+1)=if has (fd f k) (.string (f k)) then fd f k else (fd f k).put (.string (f k)) (.lit (.int .i64 k)):=rfl
theorem yN (s:List UInt8):WideAt.IsKeyLit (.string s):=by simp [WideAt.IsKeyLit]
theorem jX (f:Nat->List UInt8):∀ k,Tidy (fd f k)
 | 0=>tidy_empty
 | k+1=>by
   rw [iR];split
   .exact jX f k
   .exact (jX f k).put (yN _) _
theorem yU (f:Nat->List UInt8)(s:List UInt8):∀ k,has (fd f k) (.string s)=(List.range k).any (fun j=>f j==s)
 | 0=>rfl
 | k+1=>by
   rw [List.range_succ,List.any_append,<- yU f s k];rw [iR];by_cases e:f k=s
   .subst e;split
    .rename_i h;rw [h];rfl
    .rw [has_put_same (jX f k).isMap (yN _)];simp
   .have e':(Lit.string s)≠.string (f k):=by intro h;injection h with h;exact e h.symm
    split
    .simp [e]
    .rw [has_put_other e'];simp [e]
theorem lG (f:Nat->List UInt8):∀ k,size (fd f k)<=k
 | 0=>aL
 | k+1=>by
   have:=lG f k;rw [iR];split
   .omega
   .rename_i h;rw [size_put (jX f k),if_neg h];omega
theorem yT (f:Nat->List UInt8):∀ k,decide (size (fd f k)=k)=(List.range k).all (fun i=>(List.range i).all fun j=>!(f j==f i))
 | 0=>rfl
 | k+1=>by
   have h1:=lG f k;rw [List.range_succ,List.all_append,<- yT f k];have hh:=yU f (f k) k;have e:(List.range k).all (fun j=>!(f j==f k))=!(has (fd f k) (.string (f k))):=by rw [hh];induction List.range k with|nil=>rfl|cons a l ih=>simp [ih]
   simp only [List.all_cons,List.all_nil,Bool.and_true,e];rw [iR];cases hb:has (fd f k) (.string (f k))
   .rw [if_neg (by simp),size_put (jX f k),hb,if_neg (by simp)];simp
   .rw [if_pos rfl];simp;omega
def fst? (f:Nat->List UInt8) (s:List UInt8):Nat->Option Nat
 | 0=>none
 | k+1=>match fst? f s k with|some j=>some j|none=>if f k=s then some k else none
theorem eK (f:Nat->List UInt8)(s:List UInt8)(k:Nat):fst? f s (k+1)=match fst? f s k with|some j=>some j|none=>if f k=s then some k else none:=rfl
theorem mJ (f:Nat->List UInt8)(s:List UInt8):∀ k,(fst? f s k).isSome=has (fd f k) (.string s)
 | 0=>rfl
 | k+1=>by
   rw [yU,List.range_succ,List.any_append,<- yU,<- mJ f s k];rw [eK];cases fst? f s k with
   | some j=>simp
   | none=>by_cases e:f k=s<;>simp [e]
theorem aH4 (f:Nat->List UInt8)(s:List UInt8)(z:DataW Unit):∀ k,(fd f k).atKey (.string s) z=match fst? f s k with|some j=>.lit (.int .i64 j)|none=>z
 | 0=>rfl
 | k+1=>by
   have ih:=aH4 f s z k;have hh:=mJ f s k;rw [eK,iR];by_cases e:f k=s
   .subst e;cases hf:fst? f (f k) k with
    | some j=>rw [hf] at hh ih;simp only [Option.isSome_some] at hh;rw [if_pos hh.symm];simpa using ih
    | none=>rw [hf] at hh;simp only [Option.isSome_none] at hh;rw [if_neg (by rw [<- hh];simp),atKey_put_same (jX f k).isMap (yN _)];simp
   .have e':(Lit.string s)≠.string (f k):=by intro h;injection h with h;exact e h.symm
    split<;>(cases hf:fst? f s k with
     | some j=>rw [hf] at ih;simpa [atKey_put_other e'] using ih
     | none=>rw [hf] at ih;simpa [atKey_put_other e',e] using ih)
end Go.Proofs.YtcimaholejajpaaGreat
namespace Go.Proofs.YtcimaholejajpaaGreat
open Go.RowKit Go.Maps
set_option maxRecDepth 100000
theorem uA:Keyed Tryz.prog 9:=string_keyed Tryz.underlying9
theorem nX (w:qw):(zeroValue 3).run Tryz.prog w=.ok (qI 0) w:=by kernel_rfl
theorem sR (s:ByteArray)(b i:Int)(w:qw):
 qC 143 #[.agg #[.string s,qI b,qI i]] w (qB w (.string s)):=by
 go_enter Tryz.func143,Tryz.ntmps143
 go_wp2;go_ret;exact ⟨rfl,bal⟩
theorem gP (x:Int)(w:qw):(Instr.makeMap 148 (some (qI x))).run Tryz.prog w=.ok (.map (some w.heap.size)) (w.alloc (.map #[] 0)):=by
 simp [Instr.makeMap,asInt,asIntOf,run_underlying Tryz.underlying148,Result.andThen]
def eM (es:List Ex)(i:Nat):List UInt8:=(es.getD i zE).1.data.toList
theorem mO (ea:qO)(n ec:Nat)(es:List Ex)(w:qw)(h:ES w ea n ec es)(hn:n<=1048576):
 qC 142 #[qS ea n ec,.func (.func 143) #[] #[]] w fun e w'=>e=.returned (.map (some w.heap.size))/\w'.ownsMap Tryz.prog 9 (plainElem Tryz.prog 3) w.heap.size n (fd (eM es) n)/\qY w w':=by
 have hmm:=gP;have hm1:=h.2.1;unfold maxLen at hm1;go_enter Tryz.func142,Tryz.ntmps142
 go_wp2;go_loopw [16] (fun i wr=>∃ k:Nat,k<=n/\i=qI k/\wr.ownsMap Tryz.prog 9 (plainElem Tryz.prog 3) w.heap.size k (fd (eM es) k)/\qY w wr) (qf n)
 .exact ⟨0,xC _,rfl,World.ownsMap_made _ _ _ _,bal⟩
 .obtain ⟨k,hk,rfl,hown,hB⟩:=hrel;by_cases hlt:k<n
  .have hlt':(k:Int)<(n:Int):=by omega
   obtain ⟨bb,off,rfl⟩:=h.addr (by omega);obtain ⟨y1,y2,y3⟩:=(h.bw hB).at k hlt;have hsz:=h.size k;have HX:=zh (iR (eM es) k);have hkl:eM es k=(es.getD k zE).1.data.toList:=rfl;rw [hkl] at HX;clear hkl;generalize es.getD k zE=E at *;obtain ⟨en,eb,ei⟩:=E;dsimp only at y1 y2 y3 hsz HX;have hkey:keyOf Tryz.prog 9 (.string en)=some (.string en.data.toList):=Go.WideMaps.keyOf_string_mk Tryz.underlying9 (by unfold maxLen;omega);have HKEY:=zh hkey;clear hkey;have hA:qY wr (wr.alloc (.cells #[.string en,qI eb,qI ei] 91)):=bal;go_wp2_with fail
   refine (sR en eb ei _).mono ?_;rintro e w1 ⟨rfl,hb1⟩;have hb1':=hA.trans (hb1.mono hA.size);have hB1:=hB.trans (hb1'.mono hB.size)
   have hown1:w1.ownsMap Tryz.prog 9 (plainElem Tryz.prog 3) w.heap.size k (fd (eM es) k):=by
    obtain ⟨es',cl,hh,r⟩:=hown;refine ⟨es',cl,?_,r⟩
    have hl:w.heap.size<wr.heap.size:=by
     rcases Nat.lt_or_ge w.heap.size wr.heap.size with h'|h'
     .exact h'
     .rw [Array.getElem?_eq_none h'] at hh;cases hh
    rw [hb1'.block _ hl];exact hh
   clear hown hA hb1 hb1' y1 y2 y3;cases hh:has (fd (eM es) k) (.string en.data.toList)
   .rw [hh] at HX
    go_wp2_with (first
     | (at_lookup;refine wpList_lookup_own_ok_int _ rfl _ _ 148 rfl 9 3 .i64 uA Tryz.underlying148 Tryz.underlying3 (nX _) w.heap.size k _ rfl hown1 _ _ rfl HKEY.o ?_;intro c hat hwc;clear hat;rw [hh])
     | (at_mapUpdate;refine wpList_mapUpdate_own _ rfl _ _ _ 148 rfl 9 3 uA Tryz.underlying148 _ w.heap.size k _ rfl hown1 (by unfold maxLen;omega) _ _ _ rfl rfl HKEY.o _ [] (plainElem_int Tryz.underlying3 (WalkArith.wf_i64 (by omega))) ?_;intro w2 hown2 hgr2))
    have HO:=zh hown2;have HB2:=zh (hB1.grown hgr2 hB1.size (fun j hj=>by cases hj;exact aL));clear hown2 hgr2 hown1;go_wp2
    go_roundw
    .exact ⟨k+1,by omega,by go_num,by have:=HO.o;rw [HX.o,if_neg (by simp)];exact this,HB2.o⟩
    .simp [qf,intOf];omega
   .rw [hh] at HX
    go_wp2_with (first
     | (at_lookup;refine wpList_lookup_own_ok_int _ rfl _ _ 148 rfl 9 3 .i64 uA Tryz.underlying148 Tryz.underlying3 (nX _) w.heap.size k _ rfl hown1 _ _ rfl HKEY.o ?_;intro c hat hwc;clear hat;rw [hh]))
    have HO:=zh hown1;clear hown1;go_wp2
    go_roundw
    .exact ⟨k+1,by omega,by go_num,by have:=HO.o;rw [HX.o,if_pos trivial];exact this.mono (by omega),hB1⟩
    .simp [qf,intOf];omega
  .have e:Zh (k=n):=by show k=n;omega
   go_wp2;go_ret;exact ⟨rfl,by rw [e.o] at hown;exact hown,hB⟩
