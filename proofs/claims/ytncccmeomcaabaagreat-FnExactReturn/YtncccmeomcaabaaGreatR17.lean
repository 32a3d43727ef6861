import Derived.Test.YtncccmeomcaabaaGreatR16
import Derived.Test.YtncccmeomcaabaaGreatR13
set_option linter.all false
set_option maxHeartbeats 1000000
namespace Go.Proofs.YtncccmeomcaabaaGreat
open Go.RowKit Classical
open Go.Proofs.Tryz
set_option maxRecDepth 100000
variable {L:Lay}{b pc s:Int}{n:Nat}{ps:List PMod}
def pcq (ps:List PMod)(m b:Int):Int:=
 if 0<=m/\m<(ps.length:Int) then (if b=-1 then ((ps.getD m.toNat zP).tz.length:Int) else if 0<=b/\b<((ps.getD m.toNat zP).bl.length:Int) then (((ps.getD m.toNat zP).bl.getD b.toNat []).length:Int) else -1) else -1
theorem eM {w:qw}{a:qO}{cap:Nat}{ms:List Md}(h:MSD w a n cap ms)(m b:Int):pcm ms m b=pcq (aE ms) m b:=by
 have hn:=h.s.1;unfold pcm pcq;rw [bQ];by_cases c:0<=m/\m<(ms.length:Int)
 .rw [if_pos c,if_pos c,cG];have hd:=h.d m.toNat (by omega);generalize ms.getD m.toNat aK=M at *;have ht:M.tn=M.pm.tz.length:=hd.t.1.symm;have hb:M.bn=M.pm.bl.length:=by simp [Md.pm,hd.b.1]
  unfold pcn;rw [ht,hb];by_cases c1:b=-1
  .rw [if_pos c1,if_pos c1]
  .rw [if_neg c1,if_neg c1];by_cases c2:0<=b/\b<(M.pm.bl.length:Int)
   .rw [if_pos c2,if_pos c2];have hr:=(hd.b.2.2.2.1 b.toNat (by omega)).1;rw [<- hr];congr 1;have:b.toNat<M.bl.length:=by rw [hd.b.1,hb];omega
    simp [Md.pm,xB,this]
   .rw [if_neg c2,if_neg c2]
 .rw [if_neg c,if_neg c]
def gB (L:Lay)(p:Pl)(b s:Int):Int:=if b=-1 then p.text else if s=-1 then p.banks.getD b.toNat 0 else L.slots.getD s.toNat 0
theorem aJi (L:Lay)(P:PB)(b s:Int):gC L P b s=gB L P.1 b s:=rfl
abbrev sOk (L:Lay)(b s:Int):Prop:=if b=-1\/L.slots=[] then s=-1 else 0<=s/\s<(L.slots.length:Int)
theorem sOk.fit (h:sOk L b s):s=-1\/(b≠-1/\0<=s/\s<(L.slots.length:Int)):=by
 unfold sOk at h;split at h
 .exact .inl h
 .rename_i c;exact .inr ⟨fun e=>c (.inl e),h⟩
structure Pkn (ps:List PMod)(L:Lay)(xs:List PB)(m b s:Int):Prop where
 m0:0<=m
 m1:m<(xs.length:Int)
 m2:m<(ps.length:Int)
 p:(xs.getD m.toNat zPB).1=plc ps m.toNat
 bb:b=-1\/(0<=b/\b<((xs.getD m.toNat zPB).1.banks.length:Int))
 w:0<=pcq ps m b/\pcq ps m b<=200
 d:65536<=(plc ps m.toNat).data/\(plc ps m.toNat).data<=100000/\0<=(plc ps m.toNat).size/\(plc ps m.toNat).size<=100000
 t:65536<=L.stack/\L.stack<=100000
 e:65536<=cZ L/\cZ L<=100000
theorem aMk (h:Lok ps L):65536<=cZ L/\cZ L<=100000:=by
 have K:=jZ h;obtain ⟨h1,h2⟩:=h;have e:lay ps (L.slots.length:Int) (cfW L) (cfK L)=L:=by unfold lkL at h2;rw [if_pos h1] at h2;exact h2
 obtain ⟨hc,n1,n2,hv,hi⟩:=fY h1;unfold cfo at hc;simp at hc;have a2:=bO hv ps.length aN;have a3:(0:Int)<=((L.slots.length:Int).toNat:Int)*rnd (4*cfW L):=Int.mul_nonneg (by omega) (by have:=aR (x:=4*cfW L);omega)
 have e2:L.ram=Ra ps ps.length+cfK L+((L.slots.length:Int).toNat:Int)*rnd (4*cfW L):=by
  have:=congrArg Lay.ram e;rw [<- this];rfl
 have rr:=K.rr;unfold cZ;by_cases c:L.slots=[]
 .rw [if_pos c];have:wrap64 (65536+L.ram)=65536+L.ram:=by unfold wrap64;omega
  rw [this];omega
 .rw [if_neg c];have hl:0<L.slots.length:=List.length_pos_iff.2 c
  have e3:L.slots.getD 0 0=slt ps (cfW L) (cfK L) 0:=by
   have:=congrArg Lay.slots e
   have e4:L.slots=(List.range (L.slots.length:Int).toNat).map (slt ps (cfW L) (cfK L)):=by
    conv=>lhs;rw [<- this]
    rfl
   rw [e4];simp [xB,hl]
  rw [e3];unfold slt;simp only [Int.natCast_zero,Int.zero_mul];omega
theorem rW {w:qw}{a0:qO}{c0:Nat}{xs:List PB}{a2:qO}{c2:Nat}{a5:qO}{c5:Nat}{ts:List TB}{m:Int}
 (hL:LyT w L a0 c0 xs a2 c2 a5 c5 ts) (hk:Lok ps L) (hp:0<=pcq ps m b):Pkn ps L xs m b s:=by
 have K:=jZ hk
 have hm:0<=m/\m<(ps.length:Int):=by
  unfold pcq at hp;split at hp
  .assumption
  .exact absurd hp (by decide)
 have hx:xs.length=ps.length:=by
  have:=congrArg List.length (hL.ps.trans K.pl);simpa using this
 have hpl:(xs.getD m.toNat zPB).1=plc ps m.toNat:=by
  rw [<- K.place m.toNat (by omega),<- hL.ps];simp [xB,show m.toNat<xs.length by omega]
 have hv:=K.v m.toNat (by omega);obtain ⟨_,_,v3,v4,_,_,_,v8⟩:=bZ hv;have r1:=bO K.v m.toNat (by omega);have r2:=bO K.v ps.length aN;have r3:=iH hv;have n4:=K.n.2;have n5:(m.toNat:Int)<=4:=by omega
 refine ⟨hm.1,by rw [hx];exact hm.2,hm.2,hpl,?_,⟨hp,?_⟩,?_,?_,aMk hk⟩
 .rw [hpl];unfold pcq at hp;rw [if_pos hm] at hp;by_cases c:b=-1
  .exact .inl c
  .rw [if_neg c] at hp;right;split at hp
   .rename_i c2;simpa [plc] using c2
   .exact absurd hp (by decide)
 .unfold pcq;rw [if_pos hm];by_cases c:b=-1
  .rw [if_pos c];omega
  .rw [if_neg c];by_cases c2:0<=b/\b<((ps.getD m.toNat zP).bl.length:Int)
   .rw [if_pos c2];have:=v8 b.toNat (by omega);omega
   .rw [if_neg c2];omega
 .have:(plc ps m.toNat).data=65536+Ra ps m.toNat:=rfl;have e2:(plc ps m.toNat).size=dsz (ps.getD m.toNat zP):=rfl;rw [this,e2];omega
 .rw [K.st];have:(ps.length:Int)<=4:=by omega
  omega
def cok (pc:Int)(n:Nat)(zs:qi):Bool:=decide (0<=pc/\pc<=4294967295/\n=8)&&zs.all fun z=>decide (0<=z/\z<=4294967295)
theorem aGi {zs:qi}(k:Nat)(hk:k<zs.length)(h:¬ (0<=zs.getD k 0/\zs.getD k 0<=4294967295)):cok pc n zs=false:=by
 unfold cok;rw [Bool.and_eq_false_iff];right;rw [List.all_eq_false];refine ⟨zs.getD k 0,?_,by simpa using h⟩;rw [xB,xN hk];exact List.getElem_mem hk
theorem aC9 {zs:qi}(h0:0<=pc)(h1:pc<=4294967295)(hl:zs.length=8)(h:∀ j,j<8->0<=zs.getD j 0/\zs.getD j 0<=4294967295):cok pc 8 zs=true:=by
 unfold cok;rw [Bool.and_eq_true];refine ⟨by simp;omega,?_⟩;rw [List.all_eq_true];intro z hz;obtain ⟨j,hj,rfl⟩:=List.getElem_of_mem hz;have:=h j (by omega);rw [xB,xN hj] at this;simpa using this
theorem aAq (pc:Int)(a:qO)(n cap:Nat)(zs:qi)(w:qw)(h:IS w a n cap zs):
 qC 76 #[.agg #[qI pc,qS a n cap]] w (qB w (.bool (cok pc n zs))):=by
 have hB0:qY w (w.alloc (.cells #[qI pc,qS a n cap] 38)):=bal;have hmx:=h.2.1;unfold maxLen at hmx;have hl:=h.1;by_cases c1:pc<0
 .have HF:Zh (cok pc n zs=false):=by show _=_;unfold cok;simp;omega
  rw [HF.o];go_enter func76,ntmps76
  go_wp2;go_ret;exact ⟨rfl,hB0⟩
 .by_cases c2:4294967295<pc
  .have HF:Zh (cok pc n zs=false):=by show _=_;unfold cok;simp;omega
   rw [HF.o];go_enter func76,ntmps76
   go_wp2;go_ret;exact ⟨rfl,hB0⟩
  .by_cases c3:n=8
   .subst c3;obtain ⟨b,off,rfl⟩:=h.addr (by omega);have h':=h.bw hB0;have HB:=zh hB0;clear h hB0 hmx;have h8:(((8:Nat):Int) !=8)=false:=by simp
    go_enter func76,ntmps76
    go_wp2;go_loop [3] (fun i=>∃ k:Nat,k<=8/\i=qI k/\Hid (∀ j,j<k->0<=zs.getD j 0/\zs.getD j 0<=4294967295)) (fun i=>8-(intOf i).toNat)
    .exact ⟨0,by omega,rfl,zh (fun j hj=>by omega)⟩
    .obtain ⟨k,hk,rfl,HJ⟩:=hrel;by_cases hlt:k<8
     .have hlt':(k:Int)<8:=by omega
      have hc:=h'.at k hlt;have HZ:Zh (∀ z,z=zs.getD k 0->¬ (0<=z/\z<=4294967295)->cok pc 8 zs=false):=fun z hz hn=>aGi k (by omega) (by rw [<- hz];exact hn)
      have HG:=zh (show ∀ z,z=zs.getD k 0->(0<=z/\z<=4294967295)->∀ j,j<k+1->0<=zs.getD j 0/\zs.getD j 0<=4294967295 from fun z hz hn j hj=>by
       by_cases e:j=k
       .subst e;rw [<- hz];exact hn
       .exact HJ.out j (by omega))
      obtain ⟨z,hz⟩:=eqx (zs.getD k 0);rw [<- hz] at hc;have HZ:=zh (HZ.o z hz);have HG:=zh (HG.o z hz);clear hz;by_cases z0:z<0
      .have HX:=zh (HZ.o (by omega));go_wp2;go_ret;exact ⟨aA HX.o.symm,HB.o⟩
      .by_cases z1:4294967295<z
       .have HX:=zh (HZ.o (by omega));go_wp2;go_ret;exact ⟨aA HX.o.symm,HB.o⟩
       .go_wp2
        go_round
        .exact ⟨k+1,by omega,by go_num,zh (HG.o (by omega))⟩
        .simp [intOf];omega
     .have e:Zh (cok pc 8 zs=true):=zh (aC9 (by omega) (by omega) hl (fun j hj=>HJ.out j (by omega)));go_wp2;go_ret;exact ⟨aA e.o.symm,HB.o⟩
   .have HF:Zh (cok pc n zs=false):=by show _=_;unfold cok;simp;omega
    rw [HF.o];have h8:((n:Int) !=8)=true:=by simp;omega
    go_enter func76,ntmps76
    go_wp2;go_ret;exact ⟨rfl,hB0⟩
theorem aE3 (pc:Int)(a:qO)(n cap:Nat)(zs:qi)(w:qw)(h:IS w a n cap zs):
 qC 156 #[.agg #[qI pc,qS a n cap]] w (qB w (.bool (cok pc n zs))):=by
 have hB0:qY w (w.alloc (.cells #[qI pc,qS a n cap] 38)):=bal;have hmx:=h.2.1;unfold maxLen at hmx;have hl:=h.1;have HIW:=zh (fun v w=>cB v w);by_cases c1:pc<0
 .have HF:Zh (cok pc n zs=false):=by show _=_;unfold cok;simp;omega
  rw [HF.o];have HW:=zh (fun w=>cB pc w);rw [xS (by omega)] at HW;go_enter func156,ntmps156
  go_wp2_with (go_at_call 190;refine (HW.o _).mono ?_;rintro e w' ⟨rfl,rfl⟩)
  go_ret;exact ⟨rfl,hB0⟩
 .by_cases c2:4294967295<pc
  .have HF:Zh (cok pc n zs=false):=by show _=_;unfold cok;simp;omega
   rw [HF.o];have HW:=zh (fun w=>cB pc w);rw [xS (by omega)] at HW;go_enter func156,ntmps156
   go_wp2_with (go_at_call 190;refine (HW.o _).mono ?_;rintro e w' ⟨rfl,rfl⟩)
   go_ret;exact ⟨rfl,hB0⟩
  .by_cases c3:n=8
   .subst c3;obtain ⟨b,off,rfl⟩:=h.addr (by omega);have h':=h.bw hB0;have HB:=zh hB0;clear h hB0 hmx;have h8:(((8:Nat):Int) !=8)=false:=by simp
    have HW:=zh (fun w=>cB pc w);rw [xR (by omega)] at HW;go_enter func156,ntmps156
    go_wp2_with (go_at_call 190;refine (HW.o _).mono ?_;rintro e w' ⟨rfl,rfl⟩)
    go_loop [18] (fun i=>∃ k:Nat,k<=8/\i=qI k/\Hid (∀ j,j<k->0<=zs.getD j 0/\zs.getD j 0<=4294967295)) (fun i=>8-(intOf i).toNat)
    .exact ⟨0,by omega,rfl,zh (fun j hj=>by omega)⟩
    .obtain ⟨k,hk,rfl,HJ⟩:=hrel;by_cases hlt:k<8
     .have hlt':(k:Int)<8:=by omega
      have hc:=h'.at k hlt;have HZ:Zh (∀ z,z=zs.getD k 0->¬ (0<=z/\z<=4294967295)->cok pc 8 zs=false):=fun z hz hn=>aGi k (by omega) (by rw [<- hz];exact hn)
      have HG:=zh (show ∀ z,z=zs.getD k 0->(0<=z/\z<=4294967295)->∀ j,j<k+1->0<=zs.getD j 0/\zs.getD j 0<=4294967295 from fun z hz hn j hj=>by
       by_cases e:j=k
       .subst e;rw [<- hz];exact hn
       .exact HJ.out j (by omega))
      obtain ⟨z,hz⟩:=eqx (zs.getD k 0);rw [<- hz] at hc;have HZ:=zh (HZ.o z hz);have HG:=zh (HG.o z hz);clear hz;by_cases z0:z<0
      .have HX:=zh (HZ.o (by omega));have HV:=zh (fun w=>cB z w);rw [xS (by omega)] at HV;go_wp2_with (go_at_call 190;refine (HV.o _).mono ?_;rintro e w' ⟨rfl,rfl⟩)
       go_ret;exact ⟨aA HX.o.symm,HB.o⟩
      .by_cases z1:4294967295<z
       .have HX:=zh (HZ.o (by omega));have HV:=zh (fun w=>cB z w);rw [xS (by omega)] at HV;go_wp2_with (go_at_call 190;refine (HV.o _).mono ?_;rintro e w' ⟨rfl,rfl⟩)
        go_ret;exact ⟨aA HX.o.symm,HB.o⟩
       .have HV:=zh (fun w=>cB z w);rw [xR (by omega)] at HV;go_wp2_with (go_at_call 190;refine (HV.o _).mono ?_;rintro e w' ⟨rfl,rfl⟩)
        go_round
        .exact ⟨k+1,by omega,by go_num,zh (HG.o (by omega))⟩
        .simp [intOf];omega
     .have e:Zh (cok pc 8 zs=true):=zh (aC9 (by omega) (by omega) hl (fun j hj=>HJ.out j (by omega)));go_wp2;go_ret;exact ⟨aA e.o.symm,HB.o⟩
   .have HF:Zh (cok pc n zs=false):=by show _=_;unfold cok;simp;omega
    rw [HF.o];have h8:((n:Int) !=8)=true:=by simp;omega
    have HW:=zh (fun w=>cB pc w);rw [xR (by omega)] at HW;go_enter func156,ntmps156
    go_wp2_with (go_at_call 190;refine (HW.o _).mono ?_;rintro e w' ⟨rfl,rfl⟩)
    go_ret;exact ⟨rfl,hB0⟩
