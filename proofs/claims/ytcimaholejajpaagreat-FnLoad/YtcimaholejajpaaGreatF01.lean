import Derived.Laws.BitsLemmas
import Derived.Test.YtcimaholejajpaaGreatF00
set_option linter.all false
set_option maxHeartbeats 2000000
namespace Go.Proofs.YtcimaholejajpaaGreat
open Go.RowKit
open Go.Proofs.Tryz
set_option maxRecDepth 100000
variable {a b c d x y:Value}{cap g n:Nat}
def us (op:Int):Int:=
 if op=1\/op=25 then 0 else if op=2\/op=3\/op=21\/op=22 then 5 else if op=6\/(14<=op/\op<=19) then 7
 else if op=20\/op=23\/op=24 then 4 else if 4<=op/\op<=13 then 3 else -1
theorem aBp (op:Int)(h:op<=0\/26<=op):us op=-1:=by
 unfold us;rw [if_neg (by omega),if_neg (by omega),if_neg (by omega),if_neg (by omega),if_neg (by omega)]
theorem aNd (op:Int):us op=-1\/us op=0\/us op=3\/us op=4\/us op=5\/us op=7:=by
 unfold us;split
 .simp
 .split
  .simp
  .split
   .simp
   .split
    .simp
    .split<;>simp
theorem aAi (op:Int):op<=0\/26<=op\/op=1\/op=2\/op=3\/op=4\/op=5\/op=6\/op=7\/op=8\/op=9\/op=10\/op=11\/op=12\/op=13\/op=14\/op=15\/op=16\/op=17\/op=18\/op=19\/op=20\/op=21\/op=22\/op=23\/op=24\/op=25:=by omega
def mD (u:Int):Int:=if u%2=1 then 7 else 0
def mA (u:Int):Int:=if u/2%2=1 then 7 else 0
def mI (u:Int):Int:=if u/4=1 then 65535 else 0
def okU (u d a i:Int):Bool:=decide (0<=u/\0<=d/\d<=mD u/\0<=a/\a<=mA u/\0<=i/\i<=mI u)
def okI (op d a i:Int):Bool:=okU (us op) d a i
theorem aS (op:Int)(w:qw):
 qC 152 #[qI op] w fun e w'=>e=.returned (qI (us op))/\w=w':=by
 rcases aAi op with h|h|rfl|rfl|rfl|rfl|rfl|rfl|rfl|rfl|rfl|rfl|rfl|rfl|rfl|rfl|rfl|rfl|rfl|rfl|rfl|rfl|rfl|rfl|rfl|rfl|rfl
 .have HU:=zh (aBp op (Or.inl h));have e1:(op==1)=false:=by simp;omega
  have e25:(op==25)=false:=by simp;omega
  have e2:(op==2)=false:=by simp;omega
  have e3:(op==3)=false:=by simp;omega
  have e21:(op==21)=false:=by simp;omega
  have e22:(op==22)=false:=by simp;omega
  have e6:(op==6)=false:=by simp;omega
  have e20:(op==20)=false:=by simp;omega
  have e23:(op==23)=false:=by simp;omega
  have e24:(op==24)=false:=by simp;omega
  go_enter func152,ntmps152
  go_wp2;go_ret;exact ⟨aQ HU.o.symm,rfl⟩
 .have HU:=zh (aBp op (Or.inr h));have e1:(op==1)=false:=by simp;omega
  have e25:(op==25)=false:=by simp;omega
  have e2:(op==2)=false:=by simp;omega
  have e3:(op==3)=false:=by simp;omega
  have e21:(op==21)=false:=by simp;omega
  have e22:(op==22)=false:=by simp;omega
  have e6:(op==6)=false:=by simp;omega
  have e20:(op==20)=false:=by simp;omega
  have e23:(op==23)=false:=by simp;omega
  have e24:(op==24)=false:=by simp;omega
  go_enter func152,ntmps152
  go_wp2;go_ret;exact ⟨aQ HU.o.symm,rfl⟩
 all_goals
  go_enter func152,ntmps152
  go_wp2;go_ret;exact ⟨aQ (by decide),rfl⟩
theorem aAx (op d a i:Int)(w:qw):
 qC 121 #[.agg (qW op d a i)] w (qB w (.bool (okI op d a i))):=by
 have HU:=zh (aS op);unfold okI;have hu:=aNd op;generalize us op=u at *;rcases hu with rfl|rfl|rfl|rfl|rfl|rfl
 all_goals
  go_enter func121,ntmps121
  go_wp2_with (go_at_call 152;refine (HU.o _).mono ?_;rintro e w' ⟨rfl,rfl⟩)
  all_goals
   go_ret;refine ⟨aB ?_,bal⟩;rw [xJ];simp [okU,mD,mA,mI];try omega
theorem bC (n:Int)(h₀:0<=n)(h₁:n<2^62):IntKind.i64.wrap n=n:=by
 rw [IntKind.wrap_i64];omega
theorem cA (v:Int)(w:qw):
 qC 106 #[qI v] w fun e w'=>e=.returned (.bool (decide (0<=v/\v<=4294967295)))/\w=w':=by
 go_enter func106,ntmps106
 go_wp2
 all_goals
  go_ret;refine ⟨aB ?_,rfl⟩;rw [xJ];simp;try omega
theorem cU (v m:Int)(w:qw):
 qC 50 #[qI v,qI m] w fun e w'=>e=.returned (.bool (decide (0<=v/\v<=m)))/\w=w':=by
 go_enter func50,ntmps50
 go_wp2
 all_goals
  go_ret;refine ⟨aB ?_,rfl⟩;rw [xJ];simp;try omega
theorem Blk.four' {w:qw}{t:TypeId}(h:Blk w g #[a,b,c,d] t):
 w.cell? (qR g 0)=some a/\w.cell? (qR g 1)=some b/\w.cell? (qR g 2)=some c/\w.cell? (qR g 3)=some d/\∀ i,w.frozen? (qR g i)=false:=
 ⟨by rw [h.cell];rfl,by rw [h.cell];rfl,by rw [h.cell];rfl,by rw [h.cell];rfl,fun i=>h.frozen i⟩
theorem aDu {w2:qw}{z u:Value}(hz:Blk w2 g #[x,y,z,u] 131)(o d a i:Int):
 Blk ((((w2.setCell (qR g 0) (qI o)).setCell (qR g 1) (qI d)).setCell (qR g 2) (qI a)).setCell (qR g 3) (qI i)) g (qW o d a i) 131:=
 Blk.set (Blk.set (Blk.set (Blk.set hz 0 _) 1 _) 2 _) 3 _
def wds (zs:qi):Bool:=zs.all fun z=>decide (0<=z/\z<=4294967295)
theorem aC2 (zs:qi)(k:Nat)(hk:k<zs.length)(h:¬ (0<=zs.getD k 0/\zs.getD k 0<=4294967295)):wds zs=false:=by
 unfold wds;rw [List.all_eq_false];refine ⟨zs[k],List.getElem_mem _,?_⟩;have:zs.getD k 0=zs[k]:=by simp [xB,hk]
 rw [this] at h;simpa using h
theorem zU (zs:qi)(h:∀ j,j<zs.length->0<=zs.getD j 0/\zs.getD j 0<=4294967295):wds zs=true:=by
 unfold wds;rw [List.all_eq_true];intro z hz;obtain ⟨i,hi,rfl⟩:=List.getElem_of_mem hz;have:=h i hi;rw [show zs.getD i 0=zs[i] by simp [xB,hi]] at this;simpa using this
theorem oD (a:qO)(n cap:Nat)(zs:qi)(w:qw)(h:IS w a n cap zs):
 qC 119 #[qS a n cap] w fun e w'=>e=.returned (.bool (wds zs))/\w=w':=by
 have hl:=h.1;have hmx:=h.2.1;unfold maxLen at hmx;go_enter func119,ntmps119
 go_wp2_with fail
 go_loop [3] (fun i=>∃ k:Nat,k<=n/\i=qI k/\Hid (∀ j,j<k->0<=zs.getD j 0/\zs.getD j 0<=4294967295)) (fun i=>n-(intOf i).toNat)
 .exact ⟨0,xC _,rfl,zh (fun j hj=>by omega)⟩
 .obtain ⟨k,hk,rfl,HJ⟩:=hrel;by_cases hlt:k<n
  .have hlt':(k:Int)<(n:Int):=by omega
   obtain ⟨b,off,rfl⟩:=h.addr (by omega);have hck:=h.at k hlt;have HZ:=zh (aC2 zs k (by omega))
   have HG:=zh (show 0<=zs.getD k 0/\zs.getD k 0<=4294967295->∀ j,j<k+1->0<=zs.getD j 0/\zs.getD j 0<=4294967295 from fun h j hj=>by
    by_cases e:j=k
    .subst e;exact h
    .exact HJ.out j (by omega))
   generalize zs.getD k 0=z at *;by_cases c1:z<0
   .go_wp2;go_ret;exact ⟨aB (HZ.o (by omega)).symm,rfl⟩
   .by_cases c2:4294967295<z
    .go_wp2;go_ret;exact ⟨aB (HZ.o (by omega)).symm,rfl⟩
    .go_wp2
     go_round
     .exact ⟨k+1,by omega,by go_num,zh (HG.o (by omega))⟩
     .simp [intOf];omega
  .have HE:=zh (zU zs (fun j hj=>HJ.out j (by omega)));go_wp2;go_ret;exact ⟨aB HE.o.symm,rfl⟩
theorem mX (a:qO)(n cap:Nat)(zs:qi)(w:qw)(h:IS w a n cap zs):
 qC 155 #[qS a n cap] w fun e w'=>e=.returned (.bool (wds zs))/\w=w':=by
 have hl:=h.1;have hmx:=h.2.1;unfold maxLen at hmx;have HIW:=zh (fun v w=>cA v w);go_enter func155,ntmps155
 go_wp2_with fail
 go_loop [7] (fun i=>∃ k:Nat,k<=n/\i=qI k/\Hid (∀ j,j<k->0<=zs.getD j 0/\zs.getD j 0<=4294967295)) (fun i=>n-(intOf i).toNat)
 .exact ⟨0,xC _,rfl,zh (fun j hj=>by omega)⟩
 .obtain ⟨k,hk,rfl,HJ⟩:=hrel;by_cases hlt:k<n
  .have hlt':(k:Int)<(n:Int):=by omega
   obtain ⟨b,off,rfl⟩:=h.addr (by omega);have hck:=h.at k hlt;have HZ:=zh (aC2 zs k (by omega))
   have HG:=zh (show 0<=zs.getD k 0/\zs.getD k 0<=4294967295->∀ j,j<k+1->0<=zs.getD j 0/\zs.getD j 0<=4294967295 from fun h j hj=>by
    by_cases e:j=k
    .subst e;exact h
    .exact HJ.out j (by omega))
   generalize zs.getD k 0=z at *;have HW:=zh (HIW.o z);by_cases c1:0<=z/\z<=4294967295
   .rw [xR c1] at HW;go_wp2_with (go_at_call 106;refine (HW.o _).mono ?_;rintro e w1 ⟨rfl,rfl⟩)
    go_round
    .exact ⟨k+1,by omega,by go_num,zh (HG.o c1)⟩
    .simp [intOf];omega
   .rw [xS c1] at HW;go_wp2_with (go_at_call 106;refine (HW.o _).mono ?_;rintro e w1 ⟨rfl,rfl⟩)
    go_ret;exact ⟨aB (HZ.o c1).symm,rfl⟩
  .have HE:=zh (zU zs (fun j hj=>HJ.out j (by omega)));go_wp2;go_ret;exact ⟨aB HE.o.symm,rfl⟩
abbrev Bk:=qO×Nat×Nat×List Int
def zB:Bk:=(none,0,0,[])
def BKS (w:qw)(a:qO)(n cap:Nat)(bl:List Bk):Prop:=
 bl.length=n/\n<=maxLen/\(n≠0->∃ b off,a=some (qR b off)/\∀ i,i<n->w.cell? (qR b (off+i))=some (.slice (bl.getD i zB).1 (bl.getD i zB).2.1 (bl.getD i zB).2.2.1))/\(∀ i,i<n->IS w (bl.getD i zB).1 (bl.getD i zB).2.1 (bl.getD i zB).2.2.1 (bl.getD i zB).2.2.2)/\n<=cap
theorem BKS.bw {w w':qw}{a:qO}{bl:List Bk}(h:BKS w a n cap bl)(hb:qY w w'):BKS w' a n cap bl:=by
 obtain ⟨h1,h2,h3,h4,h5⟩:=h;refine ⟨h1,h2,fun hn=>?_,fun i hi=>(h4 i hi).bw hb,h5⟩;obtain ⟨b,off,e,hc⟩:=h3 hn;exact ⟨b,off,e,fun i hi=>(hb.cell (xD w _ (hc i hi))).trans (hc i hi)⟩
theorem BKS.addr {w:qw}{a:qO}{bl:List Bk}(h:BKS w a n cap bl)(hn:n≠0):∃ b off,a=some (qR b off):=by
 obtain ⟨b,off,e,_⟩:=h.2.2.1 hn;exact ⟨b,off,e⟩
theorem BKS.at {w:qw}{b off n cap:Nat}{bl:List Bk}(h:BKS w (some (qR b off)) n cap bl)(i:Nat)(hi:i<n):w.cell? (qR b (off+i))=some (.slice (bl.getD i zB).1 (bl.getD i zB).2.1 (bl.getD i zB).2.2.1):=by
 obtain ⟨b',off',e,hc⟩:=h.2.2.1 (by omega);simp at e;obtain ⟨rfl,rfl⟩:=e;exact hc i hi
def bko (b:Bk):Bool:=decide (1<=b.2.1/\b.2.1<=64)&&wds b.2.2.2
def cdo (tn:Nat)(tz:qi)(bn:Nat)(bl:List Bk):Bool:=decide (tn<=200/\bn<=4)&&(wds tz&&bl.all bko)
theorem zK (bl:List Bk)(k:Nat)(hk:k<bl.length)(h:bko (bl.getD k zB)=false):bl.all bko=false:=by
 rw [List.all_eq_false];exact ⟨bl[k],List.getElem_mem _,by rw [show bl.getD k zB=bl[k] by simp [xB,hk]] at h;simp [h]⟩
theorem tJ (bl:List Bk)(h:∀ j,j<bl.length->bko (bl.getD j zB)=true):bl.all bko=true:=by
 rw [List.all_eq_true];intro z hz;obtain ⟨i,hi,rfl⟩:=List.getElem_of_mem hz;have:=h i hi
 rwa [show bl.getD i zB=bl[i] by simp [xB,hi]] at this
theorem Blk.eight {w:qw}{e f:Value}{t:TypeId}(h:Blk w g #[a,b,c,d,e,f,x,y] t):
 w.cell? (qR g 0)=some a/\w.cell? (qR g 1)=some b/\w.cell? (qR g 2)=some c/\w.cell? (qR g 3)=some d/\w.cell? (qR g 4)=some e/\w.cell? (qR g 5)=some f/\w.cell? (qR g 6)=some x/\w.cell? (qR g 7)=some y:=
 ⟨by rw [h.cell];rfl,by rw [h.cell];rfl,by rw [h.cell];rfl,by rw [h.cell];rfl,by rw [h.cell];rfl,by rw [h.cell];rfl,by rw [h.cell];rfl,by rw [h.cell];rfl⟩
theorem yM (nm:ByteArray)(ta:qO)(tn tc:Nat)(tz:qi)(ba:qO)(bn bc:Nat)(bl:List Bk)(v3 v5 v6 v7:Value)(bss:Int)(w:qw)(ht:IS w ta tn tc tz)(hb:BKS w ba bn bc bl):
 qC 70 #[.agg #[.string nm,qS ta tn tc,qS ba bn bc,v3,qI bss,v5,v6,v7]] w (qB w (.bool (cdo tn tz bn bl))):=by
 obtain ⟨W,hW,hB0,kb⟩:=nwb w #[.string nm,qS ta tn tc,qS ba bn bc,v3,qI bss,v5,v6,v7] 53;obtain ⟨q0,q1,q2,q3,q4,q5,q6,q7⟩:=kb.eight;have HT:=zh (fun w h=>oD ta tn tc tz w h);obtain ⟨r,hr⟩:=eqx (cdo tn tz bn bl);rw [<- hr];unfold cdo at hr;have ht0:=ht.bw hB0;have hb0:=hb.bw hB0;have hm1:=ht.2.1;have hm2:=hb.2.1;unfold maxLen at hm1 hm2;have HW:=zh hW;clear hW;by_cases c1:200<tn
 .have HR:=zh (show r=false by rw [hr,xS (by omega)];rfl);clear hr;have c1':(200:Int)<(tn:Int):=by omega
  go_enter func70,ntmps70
  go_wp2_with (rw [<- HW.o])
  go_ret;exact ⟨aB HR.o.symm,hB0⟩
 .have c1':¬ (200:Int)<(tn:Int):=by omega
  by_cases c2:4<bn
  .have HR:=zh (show r=false by rw [hr,xS (by omega)];rfl);clear hr;have c2':(4:Int)<(bn:Int):=by omega
   go_enter func70,ntmps70
   go_wp2_with (rw [<- HW.o])
   go_ret;exact ⟨aB HR.o.symm,hB0⟩
  .have c2':¬ (4:Int)<(bn:Int):=by omega
   cases hz:wds tz
   .rw [hz] at HT;have HR:=zh (show r=false by rw [hr,hz];simp);clear hr;go_enter func70,ntmps70
    go_wp2_with (first|(rw [<- HW.o])|(go_at_call 119;refine (HT.o _ ht0).mono ?_;rintro e w1 ⟨rfl,rfl⟩))
    go_ret;exact ⟨aB HR.o.symm,hB0⟩
   .rw [hz] at HT;have hr':r=bl.all bko:=by rw [hr,hz,xR (by omega)];simp
    have HR:=zh hr';clear hr hr';have hl:=hb.1;go_enter func70,ntmps70
    go_wp2_with (first|(rw [<- HW.o])|(go_at_call 119;refine (HT.o _ ht0).mono ?_;rintro e w1 ⟨rfl,rfl⟩))
    go_loop [3] (fun i=>∃ k:Nat,k<=bn/\i=qI k/\Hid (∀ j,j<k->bko (bl.getD j zB)=true)) (fun i=>bn-(intOf i).toNat)
    .exact ⟨0,xC _,rfl,zh (fun j hj=>by omega)⟩
    .obtain ⟨k,hk,rfl,HJ⟩:=hrel;by_cases hlt:k<bn
     .have hlt':(k:Int)<(bn:Int):=by omega
      obtain ⟨bb,off,rfl⟩:=hb0.addr (by omega);have hck:=hb0.at k hlt;have hik:=hb0.2.2.2.1 k hlt;have HZ:=zh (zK bl k (by omega))
      have HG:=zh (show bko (bl.getD k zB)=true->∀ j,j<k+1->bko (bl.getD j zB)=true from fun h j hj=>by
       by_cases e:j=k
       .subst e;exact h
       .exact HJ.out j (by omega))
      generalize bl.getD k zB=B at *;obtain ⟨xa,xn,xc,xz⟩:=B;dsimp only at hck hik;have hxm:=hik.2.1;unfold maxLen at hxm;have HX:=zh (fun w h=>oD xa xn xc xz w h);by_cases d1:xn<1
      .have d1':(xn:Int)<1:=by omega
       go_wp2;go_ret;exact ⟨aB (by rw [HR.o];exact (HZ.o (by unfold bko;dsimp only;rw [decide_eq_false (by omega)];rfl)).symm),hB0⟩
      .have d1':¬ (xn:Int)<1:=by omega
       by_cases d2:64<xn
       .have d2':(64:Int)<(xn:Int):=by omega
        go_wp2;go_ret;exact ⟨aB (by rw [HR.o];exact (HZ.o (by unfold bko;dsimp only;rw [decide_eq_false (by omega)];rfl)).symm),hB0⟩
       .have d2':¬ (64:Int)<(xn:Int):=by omega
        cases hx:wds xz
        .rw [hx] at HX;go_wp2_with (go_at_call 119;refine (HX.o _ hik).mono ?_;rintro e w1 ⟨rfl,rfl⟩)
         go_ret;exact ⟨aB (by rw [HR.o];exact (HZ.o (by unfold bko;dsimp only;rw [hx];simp)).symm),hB0⟩
        .rw [hx] at HX;go_wp2_with (go_at_call 119;refine (HX.o _ hik).mono ?_;rintro e w1 ⟨rfl,rfl⟩)
         go_round
         .exact ⟨k+1,by omega,by go_num,zh (HG.o (by unfold bko;dsimp only;rw [hx,decide_eq_true (by omega)];rfl))⟩
         .simp [intOf];omega
     .have HE:=zh (tJ bl (fun j hj=>HJ.out j (by omega)));go_wp2;go_ret;exact ⟨aB (by rw [HR.o];exact HE.o.symm),hB0⟩
theorem aCw (nm:ByteArray)(ta:qO)(tn tc:Nat)(tz:qi)(ba:qO)(bn bc:Nat)(bl:List Bk)(v3 v5 v6 v7:Value)(bss:Int)(w:qw)(ht:IS w ta tn tc tz)(hb:BKS w ba bn bc bl):
 qC 136 #[.agg #[.string nm,qS ta tn tc,qS ba bn bc,v3,qI bss,v5,v6,v7]] w (qB w (.bool (cdo tn tz bn bl))):=by
 obtain ⟨W,hW,hB0,kb⟩:=nwb w #[.string nm,qS ta tn tc,qS ba bn bc,v3,qI bss,v5,v6,v7] 53;obtain ⟨q0,q1,q2,q3,q4,q5,q6,q7⟩:=kb.eight;have HT:=zh (fun w h=>mX ta tn tc tz w h);obtain ⟨r,hr⟩:=eqx (cdo tn tz bn bl);rw [<- hr];unfold cdo at hr;have ht0:=ht.bw hB0;have hb0:=hb.bw hB0;have hm1:=ht.2.1;have hm2:=hb.2.1;unfold maxLen at hm1 hm2;have HW:=zh hW;clear hW;by_cases c1:200<tn
 .have HR:=zh (show r=false by rw [hr,xS (by omega)];rfl);clear hr;have c1':(200:Int)<(tn:Int):=by omega
  go_enter func136,ntmps136
  go_wp2_with (rw [<- HW.o])
  go_ret;exact ⟨aB HR.o.symm,hB0⟩
 .have c1':¬ (200:Int)<(tn:Int):=by omega
  by_cases c2:4<bn
  .have HR:=zh (show r=false by rw [hr,xS (by omega)];rfl);clear hr;have c2':(4:Int)<(bn:Int):=by omega
   go_enter func136,ntmps136
   go_wp2_with (rw [<- HW.o])
   go_ret;exact ⟨aB HR.o.symm,hB0⟩
  .have c2':¬ (4:Int)<(bn:Int):=by omega
   cases hz:wds tz
   .rw [hz] at HT;have HR:=zh (show r=false by rw [hr,hz];simp);clear hr;go_enter func136,ntmps136
    go_wp2_with (first|(rw [<- HW.o])|(go_at_call 155;refine (HT.o _ ht0).mono ?_;rintro e w1 ⟨rfl,rfl⟩))
    go_ret;exact ⟨aB HR.o.symm,hB0⟩
   .rw [hz] at HT;have hr':r=bl.all bko:=by rw [hr,hz,xR (by omega)];simp
    have HR:=zh hr';clear hr hr';have hl:=hb.1;go_enter func136,ntmps136
    go_wp2_with (first|(rw [<- HW.o])|(go_at_call 155;refine (HT.o _ ht0).mono ?_;rintro e w1 ⟨rfl,rfl⟩))
    go_loop [24] (fun i=>∃ k:Nat,k<=bn/\i=qI k/\Hid (∀ j,j<k->bko (bl.getD j zB)=true)) (fun i=>bn-(intOf i).toNat)
    .exact ⟨0,xC _,rfl,zh (fun j hj=>by omega)⟩
    .obtain ⟨k,hk,rfl,HJ⟩:=hrel;by_cases hlt:k<bn
     .have hlt':(k:Int)<(bn:Int):=by omega
      obtain ⟨bb,off,rfl⟩:=hb0.addr (by omega);have hck:=hb0.at k hlt;have hik:=hb0.2.2.2.1 k hlt;have HZ:=zh (zK bl k (by omega))
      have HG:=zh (show bko (bl.getD k zB)=true->∀ j,j<k+1->bko (bl.getD j zB)=true from fun h j hj=>by
       by_cases e:j=k
       .subst e;exact h
       .exact HJ.out j (by omega))
      generalize bl.getD k zB=B at *;obtain ⟨xa,xn,xc,xz⟩:=B;dsimp only at hck hik;have hxm:=hik.2.1;unfold maxLen at hxm;have HX:=zh (fun w h=>mX xa xn xc xz w h);by_cases d1:xn<1
      .have d1':(xn:Int)<1:=by omega
       go_wp2;go_ret;exact ⟨aB (by rw [HR.o];exact (HZ.o (by unfold bko;dsimp only;rw [decide_eq_false (by omega)];rfl)).symm),hB0⟩
      .have d1':¬ (xn:Int)<1:=by omega
       by_cases d2:64<xn
       .have d2':(64:Int)<(xn:Int):=by omega
        go_wp2;go_ret;exact ⟨aB (by rw [HR.o];exact (HZ.o (by unfold bko;dsimp only;rw [decide_eq_false (by omega)];rfl)).symm),hB0⟩
       .have d2':¬ (64:Int)<(xn:Int):=by omega
        cases hx:wds xz
        .rw [hx] at HX;go_wp2_with (go_at_call 155;refine (HX.o _ hik).mono ?_;rintro e w1 ⟨rfl,rfl⟩)
         go_ret;exact ⟨aB (by rw [HR.o];exact (HZ.o (by unfold bko;dsimp only;rw [hx];simp)).symm),hB0⟩
        .rw [hx] at HX;go_wp2_with (go_at_call 155;refine (HX.o _ hik).mono ?_;rintro e w1 ⟨rfl,rfl⟩)
         go_round
         .exact ⟨k+1,by omega,by go_num,zh (HG.o (by unfold bko;dsimp only;rw [hx,decide_eq_true (by omega)];rfl))⟩
         .simp [intOf];omega
     .have HE:=zh (tJ bl (fun j hj=>HJ.out j (by omega)));go_wp2;go_ret;exact ⟨aB (by rw [HR.o];exact HE.o.symm),hB0⟩
