import Derived.Test.YtdjdcdnjjmjonaaGreatT01
set_option linter.all false
set_option maxHeartbeats 4000000
namespace Go.Proofs.YtdjdcdnjjmjonaaGreat
open Go.RowKit
open Go.Proofs.Tryz
set_option maxRecDepth 100000
variable {B b base bc bn cap dc dn ec en g ic im n o o' off rc rn tc tn:Nat}{a ba da ea ia ra ta:qO}{bss:Int}{c d u x y:Value}{gs:List Nat}{nm:ByteArray}{zs:List ByteArray}
def bN (n)(e:0<=n)(f:n<2^62):IntKind.i64.wrap n=n:=by
 rw[IntKind.wrap_i64];omega
def aDr (a):a &&& 983040=(a/65536%16)*65536:=by
 apply Nat.eq_of_testBit_eq;intro i;have e1:(983040:Nat)=(2^4-1)*2^16:=Ja
 have e2:(a/65536%16)*65536=(a/2^16%2^4)*2^16:=by rfl
 rw[e2,e1,Nat.testBit_and,Nat.testBit_mul_two_pow,Nat.testBit_mul_two_pow,Nat.testBit_mod_two_pow,Nat.testBit_div_two_pow,Nat.testBit_two_pow_sub_one]
 grind
def aG7 (x)(e:0<=x)(f:x<=4294967295):bits .and .i64 x 983040=(x/65536%16)*65536:=by
 obtain⟨a,rfl⟩:=xV e;have:=(bits_nat .i64 62 Ja bN a 983040 J J).1;rw[show(983040:Int)=((983040:Nat):Int)from rfl,this,aDr];simp
def aTj (x)(e:0<=x)(f:x<=4294967295):bits .and .i64 x 7=x%8:=bits_mask .i64 62 Ja bN 3 Ja x e J
def aSs (x)(e:0<=x)(f:x<=4294967295):bits .and .i64 x 65535=x%65536:=bits_mask .i64 62 Ja bN 16 Ja x e J
def cO (v w):
 qC 183 #[qI v] w λe w'=>e=.returned (.bool$ decide$ 0<=v/\v<=4294967295)/\w=w':=by
 delta qC;go_in
 go_wp2
 all_goals
  go_ret;refine⟨aA ?_,rfl⟩;rw[xJ];simp;try omega
def cP (v m w):
 qC 141 #[qI v,qI m] w λe w'=>e=.returned (.bool$ decide$ 0<=v/\v<=m)/\w=w':=by
 delta qC;go_in
 go_wp2
 all_goals
  go_ret;refine⟨aA ?_,rfl⟩;rw[xJ];simp;try omega
def Blk.four' {w:qw}{a b:Value}{t:TypeId}(h:Blk w g #[a,b,c,d] t):
 w.cell? (qR g 0)=some a/\w.cell? (qR g 1)=some b/\w.cell? (qR g 2)=some c/\w.cell? (qR g 3)=some d/\∀i,w.frozen? (qR g i)=false:=
 ⟨by rw[h.cell];rfl,by rw[h.cell];rfl,by rw[h.cell];rfl,by rw[h.cell];rfl,λi=>h.frozen i⟩
def nV {e:qw}{z:Value}(hz:Blk e g #[x,y,z,u] 186)(o d a i):
 Blk ((((e.setCell (qR g 0)$ qI o).setCell (qR g 1)$ qI d).setCell (qR g 2)$ qI a).setCell (qR g 3)$ qI i) g (qW o d a i) 186:=
 Blk.set (Blk.set (Blk.set (Blk.set hz 0 _) 1 _) 2 _) 3 _
def lC {w f:qw}(e:B<=g)(h:Below B w f)(o d a i):
 Below B w ((((f.setCell (qR g 0)$ qI o).setCell (qR g 1)$ qI d).setCell (qR g 2)$ qI a).setCell (qR g 3)$ qI i):=
 (((h.setCell e _).setCell e _).setCell e _).setCell e _
def gC (w:qw)(o d a i:Int)(b:Bool)(e:Ending)(w':qw):Prop:=e=.returned (.tuple #[.agg$ qW o d a i,.bool b])/\qY w w'
def aV (w W tmps o d a i b)(j:tmps[2]?=some (.pointer$ qP w.heap.size))(e:tmps[3]?=some (.bool b))
 (hz:Blk W w.heap.size (qW o d a i) 186) (f:qY w W):
 bodyPost prog f301 (gC w o d a i b) Exit.ret ⟨tmps,[]⟩ W:=by
 refine bodyPost_ret (v:=.tuple #[.agg$ qW o d a i,.bool b]) ?_ rfl ⟨rfl,f⟩;let⟨g,k,l,p,q⟩:=hz.four';simp[results,results301,go_sem,j,e,g,k,l,p]
def aD5 (op w)(h:op<=0\/26<=op):
 qC 301 #[qI op] w (gC w 0 0 0 0 false):=by
 have k:=zh$ Blk.new w (qW 0 0 0 0) 186;have A:=zh$ (Below.refl w.heap.size w).alloc aO$ .cells (qW 0 0 0 0) 186;have:(op==1)=false:=Jc
 have:(op==2)=false:=Jc
 have:(op==3)=false:=Jc
 have:(op==4)=false:=Jc
 have:(op==5)=false:=Jc
 have:(op==6)=false:=Jc
 have:(op==7)=false:=Jc
 have:(op==8)=false:=Jc
 have:(op==9)=false:=Jc
 have:(op==10)=false:=Jc
 have:(op==11)=false:=Jc
 have:(op==12)=false:=Jc
 have:(op==13)=false:=Jc
 have:(op==14)=false:=Jc
 have:(op==15)=false:=Jc
 have:(op==16)=false:=Jc
 have:(op==17)=false:=Jc
 have:(op==18)=false:=Jc
 have:(op==19)=false:=Jc
 have:(op==20)=false:=Jc
 have:(op==21)=false:=Jc
 have:(op==22)=false:=Jc
 have:(op==23)=false:=Jc
 have:(op==24)=false:=Jc
 have:(op==25)=false:=Jc
 clear h
 delta qC;go_in
 go_wp2;exact aV w _ _ 0 0 0 0 false rfl rfl k A
def aGk (op w)(h:1<=op)(e:op<=25):
 qC 301 #[qI op] w (gC w op (mD$ us op) (mA$ us op) (mI$ us op) true):=by
 rcases wA op with h|h|rfl|rfl|rfl|rfl|rfl|rfl|rfl|rfl|rfl|rfl|rfl|rfl|rfl|rfl|rfl|rfl|rfl|rfl|rfl|rfl|rfl|rfl|rfl|rfl|rfl
 .omega
 .omega
 .clear h e;rw[show us 1=0 from Ja,show mD 0=0 from Ja,show mA 0=0 from Ja,show mI 0=0 from Ja]
  delta qC;go_in
  go_wp2;exact aV w _ _ 1 0 0 0 true rfl rfl (Blk.new w _ _) bal
 .clear h e;rw[show us 2=5 from Ja,show mD 5=7 from Ja,show mA 5=0 from Ja,show mI 5=65535 from Ja]
  delta qC;go_in
  go_wp2;exact aV w _ _ 2 7 0 65535 true rfl rfl (Blk.new w _ _) bal
 .clear h e;rw[show us 3=5 from Ja,show mD 5=7 from Ja,show mA 5=0 from Ja,show mI 5=65535 from Ja]
  delta qC;go_in
  go_wp2;exact aV w _ _ 3 7 0 65535 true rfl rfl (Blk.new w _ _) bal
 .clear h e;rw[show us 4=3 from Ja,show mD 3=7 from Ja,show mA 3=7 from Ja,show mI 3=0 from Ja]
  delta qC;go_in
  go_wp2;exact aV w _ _ 4 7 7 0 true rfl rfl (Blk.new w _ _) bal
 .clear h e;rw[show us 5=3 from Ja,show mD 3=7 from Ja,show mA 3=7 from Ja,show mI 3=0 from Ja]
  delta qC;go_in
  go_wp2;exact aV w _ _ 5 7 7 0 true rfl rfl (Blk.new w _ _) bal
 .clear h e;rw[show us 6=7 from Ja,show mD 7=7 from Ja,show mA 7=7 from Ja,show mI 7=65535 from Ja]
  delta qC;go_in
  go_wp2;exact aV w _ _ 6 7 7 65535 true rfl rfl (Blk.new w _ _) bal
 .clear h e;rw[show us 7=3 from Ja,show mD 3=7 from Ja,show mA 3=7 from Ja,show mI 3=0 from Ja]
  delta qC;go_in
  go_wp2;exact aV w _ _ 7 7 7 0 true rfl rfl (Blk.new w _ _) bal
 .clear h e;rw[show us 8=3 from Ja,show mD 3=7 from Ja,show mA 3=7 from Ja,show mI 3=0 from Ja]
  delta qC;go_in
  go_wp2;exact aV w _ _ 8 7 7 0 true rfl rfl (Blk.new w _ _) bal
 .clear h e;rw[show us 9=3 from Ja,show mD 3=7 from Ja,show mA 3=7 from Ja,show mI 3=0 from Ja]
  delta qC;go_in
  go_wp2;exact aV w _ _ 9 7 7 0 true rfl rfl (Blk.new w _ _) bal
 .clear h e;rw[show us 10=3 from Ja,show mD 3=7 from Ja,show mA 3=7 from Ja,show mI 3=0 from Ja]
  delta qC;go_in
  go_wp2;exact aV w _ _ 10 7 7 0 true rfl rfl (Blk.new w _ _) bal
 .clear h e;rw[show us 11=3 from Ja,show mD 3=7 from Ja,show mA 3=7 from Ja,show mI 3=0 from Ja]
  delta qC;go_in
  go_wp2;exact aV w _ _ 11 7 7 0 true rfl rfl (Blk.new w _ _) bal
 .clear h e;rw[show us 12=3 from Ja,show mD 3=7 from Ja,show mA 3=7 from Ja,show mI 3=0 from Ja]
  delta qC;go_in
  go_wp2;exact aV w _ _ 12 7 7 0 true rfl rfl (Blk.new w _ _) bal
 .clear h e;rw[show us 13=3 from Ja,show mD 3=7 from Ja,show mA 3=7 from Ja,show mI 3=0 from Ja]
  delta qC;go_in
  go_wp2;exact aV w _ _ 13 7 7 0 true rfl rfl (Blk.new w _ _) bal
 .clear h e;rw[show us 14=7 from Ja,show mD 7=7 from Ja,show mA 7=7 from Ja,show mI 7=65535 from Ja]
  delta qC;go_in
  go_wp2;exact aV w _ _ 14 7 7 65535 true rfl rfl (Blk.new w _ _) bal
 .clear h e;rw[show us 15=7 from Ja,show mD 7=7 from Ja,show mA 7=7 from Ja,show mI 7=65535 from Ja]
  delta qC;go_in
  go_wp2;exact aV w _ _ 15 7 7 65535 true rfl rfl (Blk.new w _ _) bal
 .clear h e;rw[show us 16=7 from Ja,show mD 7=7 from Ja,show mA 7=7 from Ja,show mI 7=65535 from Ja]
  delta qC;go_in
  go_wp2;exact aV w _ _ 16 7 7 65535 true rfl rfl (Blk.new w _ _) bal
 .clear h e;rw[show us 17=7 from Ja,show mD 7=7 from Ja,show mA 7=7 from Ja,show mI 7=65535 from Ja]
  delta qC;go_in
  go_wp2;exact aV w _ _ 17 7 7 65535 true rfl rfl (Blk.new w _ _) bal
 .clear h e;rw[show us 18=7 from Ja,show mD 7=7 from Ja,show mA 7=7 from Ja,show mI 7=65535 from Ja]
  delta qC;go_in
  go_wp2;exact aV w _ _ 18 7 7 65535 true rfl rfl (Blk.new w _ _) bal
 .clear h e;rw[show us 19=7 from Ja,show mD 7=7 from Ja,show mA 7=7 from Ja,show mI 7=65535 from Ja]
  delta qC;go_in
  go_wp2;exact aV w _ _ 19 7 7 65535 true rfl rfl (Blk.new w _ _) bal
 .clear h e;rw[show us 20=4 from Ja,show mD 4=0 from Ja,show mA 4=0 from Ja,show mI 4=65535 from Ja]
  delta qC;go_in
  go_wp2;exact aV w _ _ 20 0 0 65535 true rfl rfl (Blk.new w _ _) bal
 .clear h e;rw[show us 21=5 from Ja,show mD 5=7 from Ja,show mA 5=0 from Ja,show mI 5=65535 from Ja]
  delta qC;go_in
  go_wp2;exact aV w _ _ 21 7 0 65535 true rfl rfl (Blk.new w _ _) bal
 .clear h e;rw[show us 22=5 from Ja,show mD 5=7 from Ja,show mA 5=0 from Ja,show mI 5=65535 from Ja]
  delta qC;go_in
  go_wp2;exact aV w _ _ 22 7 0 65535 true rfl rfl (Blk.new w _ _) bal
 .clear h e;rw[show us 23=4 from Ja,show mD 4=0 from Ja,show mA 4=0 from Ja,show mI 4=65535 from Ja]
  delta qC;go_in
  go_wp2;exact aV w _ _ 23 0 0 65535 true rfl rfl (Blk.new w _ _) bal
 .clear h e;rw[show us 24=4 from Ja,show mD 4=0 from Ja,show mA 4=0 from Ja,show mI 4=65535 from Ja]
  delta qC;go_in
  go_wp2;exact aV w _ _ 24 0 0 65535 true rfl rfl (Blk.new w _ _) bal
 .clear h e;rw[show us 25=0 from Ja,show mD 0=0 from Ja,show mA 0=0 from Ja,show mI 0=0 from Ja]
  delta qC;go_in
  go_wp2;exact aV w _ _ 25 0 0 0 true rfl rfl (Blk.new w _ _) bal
def wds (zs:qi):Bool:=zs.all λz=>decide$ 0<=z/\z<=4294967295
def aJq (a k)(e:k<a.length)(h:¬(0<=a.getD k 0/\a.getD k 0<=4294967295)):wds a=false:=by
 unfold wds;rw[List.all_eq_false];refine⟨a[k],List.getElem_mem _,?_⟩
 grind
def aEw (a)(h:∀j,j<a.length->0<=a.getD j 0/\a.getD j 0<=4294967295):wds a=true:=by
 unfold wds;rw[List.all_eq_true];intro z b;obtain⟨i,hi,rfl⟩:=List.getElem_of_mem b
 grind
def tX (a n g d w)(h:IS w a n g d):
 qC 283 #[qS a n g] w λe w'=>e=.returned (.bool$ wds d)/\w=w':=by
 have:=h.1;have l:=h.2.1;unfold maxLen at l
 delta qC;go_in
 go_wp2_with fail
 go_loop [3] (λi=>∃k:Nat,k<=n/\i=qI k/\Hid (∀j,j<k->0<=d.getD j 0/\d.getD j 0<=4294967295)) (λi=>n-(intOf i).toNat)
 .exact⟨0,xC _,rfl,zh λj q=>J⟩
 .obtain⟨k,E,rfl,s⟩:=hrel;by_cases f:k<n
  .have t:(k:Int)<(n:Int):=J
   obtain⟨b,x,rfl⟩:=h.addr J;have:=h.at k f;have p:=zh$ aJq d k J
   have D:=zh (show 0<=d.getD k 0/\d.getD k 0<=4294967295->∀j,j<k+1->0<=d.getD j 0/\d.getD j 0<=4294967295 from λh j q=>by
    by_cases e:j=k
    .subst e;exact h
    .exact s.out j J)
   generalize d.getD k 0=z at *;by_cases u:z<0
   .go_wp2;go_ret;exact⟨aA (p J).symm,rfl⟩
   .by_cases c2:4294967295<z
    .go_wp2;go_ret;exact⟨aA (p J).symm,rfl⟩
    .go_wp2
     go_round
     .exact⟨k+1,J,by go_num,zh$ D J⟩
     .simp[intOf];omega
  .have C:=zh$ aEw d λj q=>s.out j J;go_wp2;go_ret;exact⟨aA C.symm,rfl⟩
def rX (a n u d w)(h:IS w a n u d):
 qC 305 #[qS a n u] w λe w'=>e=.returned (.bool$ wds d)/\w=w':=by
 have:=h.1;have p:=h.2.1;unfold maxLen at p;have q:=zh λv w=>cO v w
 delta qC;go_in
 go_wp2_with fail
 go_loop [7] (λi=>∃k:Nat,k<=n/\i=qI k/\Hid (∀j,j<k->0<=d.getD j 0/\d.getD j 0<=4294967295)) (λi=>n-(intOf i).toNat)
 .exact⟨0,xC _,rfl,zh λj s=>J⟩
 .obtain⟨k,H,rfl,t⟩:=hrel;by_cases l:k<n
  .have A:(k:Int)<(n:Int):=J
   obtain⟨b,x,rfl⟩:=h.addr J;have:=h.at k l;have D:=zh$ aJq d k J
   have G:=zh (show 0<=d.getD k 0/\d.getD k 0<=4294967295->∀j,j<k+1->0<=d.getD j 0/\d.getD j 0<=4294967295 from λh j s=>by
    by_cases e:j=k
    .subst e;exact h
    .exact t.out j J)
   generalize d.getD k 0=z at *;have f:=zh$ q z;by_cases g:0<=z/\z<=4294967295
   .rw[xR g]at f;go_wp2_with (go_at_call 183;refine(f.o _).mono ?_;rintro e E ⟨rfl,rfl⟩)
    go_round
    .exact⟨k+1,J,by go_num,zh$ G g⟩
    .simp[intOf];omega
   .rw[xS g]at f;go_wp2_with (go_at_call 183;refine(f.o _).mono ?_;rintro e E ⟨rfl,rfl⟩)
    go_ret;exact⟨aA (D g).symm,rfl⟩
  .have F:=zh$ aEw d λj s=>t.out j J;go_wp2;go_ret;exact⟨aA F.symm,rfl⟩
abbrev Bk:=qO×Nat×Nat×List Int
def zB:Bk:=(none,0,0,[])
def BKS (w:qw)(a:qO)(n cap:Nat)(bl:List Bk):Prop:=
 bl.length=n/\n<=maxLen/\(n≠0->∃b off,a=some (qR b off)/\∀i,i<n->w.cell? (qR b$ off+i)=some (.slice (bl.getD i zB).1 (bl.getD i zB).2.1 (bl.getD i zB).2.2.1))/\(∀i,i<n->IS w (bl.getD i zB).1 (bl.getD i zB).2.1 (bl.getD i zB).2.2.1 (bl.getD i zB).2.2.2)/\n<=cap
def BKS.bw {w w':qw}{bl:List Bk}(h:BKS w a n cap bl)(f:qY w w'):BKS w' a n cap bl:=by
 obtain⟨d,g,j,k,l⟩:=h;refine⟨d,g,λp=>?_,λi hi=>(k i hi).bw f,l⟩;let⟨b,q,e,hc⟩:=j p;exact⟨b,q,e,λi hi=>(f.cell$ xD w _$ hc i hi).trans$ hc i hi⟩
def BKS.addr {w:qw}{f:List Bk}(h:BKS w a n cap f)(hn:n≠0):∃b off,a=some (qR b off):=by
 let⟨b,off,e,_⟩:=h.2.2.1 hn
 grind
def BKS.at {w:qw}{f:List Bk}(h:BKS w (some$ qR b off) n cap f)(i)(hi:i<n):w.cell? (qR b$ off+i)=some (.slice (f.getD i zB).1 (f.getD i zB).2.1 (f.getD i zB).2.2.1):=by
 let⟨a,d,e,hc⟩:=h.2.2.1 J
 grind
def bko (b:Bk):Bool:=decide (1<=b.2.1/\b.2.1<=64)&&wds b.2.2.2
def cdo (tn:Nat)(tz:qi)(bn:Nat)(bl:List Bk):Bool:=decide (tn<=200/\bn<=4)&&(wds tz&&bl.all bko)
def aEs (e:List Bk)(k)(f:k<e.length)(h:bko (e.getD k zB)=false):e.all bko=false:=by
 rw[List.all_eq_false];exact⟨e[k],List.getElem_mem _,by grind⟩
def zU (e:List Bk)(h:∀j,j<e.length->bko (e.getD j zB)=true):e.all bko=true:=by
 rw[List.all_eq_true];intro z a;obtain⟨i,hi,rfl⟩:=List.getElem_of_mem a
 grind
def Blk.eight {w:qw}{a b e f:Value}{t:TypeId}(h:Blk w g #[a,b,c,d,e,f,x,y] t):
 w.cell? (qR g 0)=some a/\w.cell? (qR g 1)=some b/\w.cell? (qR g 2)=some c/\w.cell? (qR g 3)=some d/\w.cell? (qR g 4)=some e/\w.cell? (qR g 5)=some f/\w.cell? (qR g 6)=some x/\w.cell? (qR g 7)=some y:=
 ⟨by rw[h.cell];rfl,by rw[h.cell];rfl,by rw[h.cell];rfl,by rw[h.cell];rfl,by rw[h.cell];rfl,by rw[h.cell];rfl,by rw[h.cell];rfl,by rw[h.cell];rfl⟩
def aD0 (nm y tn V u Y a bc b v3 v5 v6 v7 a0 w)(S:IS w y tn V u)(K:BKS w Y a bc b):
 qC 242 #[.agg #[.string nm,qS y tn V,qS Y a bc,v3,qI a0,v5,v6,v7]] w (qB w$ .bool$ cdo tn u a b):=by
 let⟨W,hW,g,kb⟩:=nwb w #[.string nm,qS y tn V,qS Y a bc,v3,qI a0,v5,v6,v7] 128;have:=kb.eight;have D:=zh λw h=>tX y tn V u w h;let⟨r,d⟩:=aN$ cdo tn u a b;rw[<-d];unfold cdo at d;have A:=S.bw g;have q:=K.bw g;have:=S.2.1;have:=K.2.1;have E:=zh hW;clear hW;by_cases c1:200<tn
 .have f:=zh (show r=false by rw[d,xS J];rfl);clear d;have P:(200:Int)<(tn:Int):=J
  delta qC;go_in
  go_wp2_with (rw[<-E.o])
  go_ret;exact⟨aA f.symm,g⟩
 .have P:¬(200:Int)<(tn:Int):=J
  by_cases c2:4<a
  .have f:=zh (show r=false by rw[d,xS J];rfl);clear d;have H:(4:Int)<(a:Int):=J
   delta qC;go_in
   go_wp2_with (rw[<-E.o])
   go_ret;exact⟨aA f.symm,g⟩
  .have H:¬(4:Int)<(a:Int):=J
   cases x:wds u
   .rw[x]at D;have f:=zh (show r=false by rw[d,x];simp);clear d
    delta qC;go_in
    go_wp2_with (first|(rw[<-E.o])|(go_at_call 283;refine(D.o _ A).mono ?_;rintro e M ⟨rfl,rfl⟩))
    go_ret;exact⟨aA f.symm,g⟩
   .rw[x]at D;have t:r=b.all bko:=by rw[d,x,xR J];simp
    have f:=zh t;clear d t;have:=K.1
    delta qC;go_in
    go_wp2_with (first|(rw[<-E.o])|(go_at_call 283;refine(D.o _ A).mono ?_;rintro e M ⟨rfl,rfl⟩))
    go_loop [3] (λi=>∃k:Nat,k<=a/\i=qI k/\Hid (∀j,j<k->bko (b.getD j zB)=true)) (λi=>a-(intOf i).toNat)
    .exact⟨0,xC _,rfl,zh λj Q=>J⟩
    .obtain⟨k,hk,rfl,R⟩:=hrel;by_cases s:k<a
     .have U:(k:Int)<(a:Int):=J
      obtain⟨bb,a1,rfl⟩:=q.addr J;have N:=q.at k s;have l:=q.2.2.2.1 k s;have I:=zh$ aEs b k J
      have Z:=zh (show bko (b.getD k zB)=true->∀j,j<k+1->bko (b.getD j zB)=true from λh j Q=>by
       by_cases e:j=k
       .subst e;exact h
       .exact R.out j J)
      generalize b.getD k zB=B at *;obtain⟨xa,p,xc,xz⟩:=B;dsimp only at N l;have G:=l.2.1;unfold maxLen at G;have C:=zh λw h=>tX xa p xc xz w h;by_cases d1:p<1
      .have F:(p:Int)<1:=J
       go_wp2;go_ret;exact⟨aA (by rw[f.o];exact(I.o (by unfold bko;dsimp only;rw[decide_eq_false J];rfl)).symm),g⟩
      .have F:¬(p:Int)<1:=J
       by_cases d2:64<p
       .have O:(64:Int)<(p:Int):=J
        go_wp2;go_ret;exact⟨aA (by rw[f.o];exact(I.o (by unfold bko;dsimp only;rw[decide_eq_false J];rfl)).symm),g⟩
       .have O:¬(64:Int)<(p:Int):=J
        cases hx:wds xz
        .rw[hx]at C;go_wp2_with (go_at_call 283;refine(C.o _ l).mono ?_;rintro e M ⟨rfl,rfl⟩)
         go_ret;exact⟨aA (by rw[f.o];exact(I.o (by unfold bko;dsimp only;rw[hx];simp)).symm),g⟩
        .rw[hx]at C;go_wp2_with (go_at_call 283;refine(C.o _ l).mono ?_;rintro e M ⟨rfl,rfl⟩)
         go_round
         .exact⟨k+1,J,by go_num,zh (Z.o (by unfold bko;dsimp only;rw[hx,decide_eq_true J];rfl))⟩
         .simp[intOf];omega
     .have X:=zh$ zU b λj Q=>R.out j J;go_wp2;go_ret;exact⟨aA (by rw[f.o];exact X.o.symm),g⟩
def aJa (nm y tn V u Y a bc b v3 v5 v6 v7 a0 w)(S:IS w y tn V u)(K:BKS w Y a bc b):
 qC 286 #[.agg #[.string nm,qS y tn V,qS Y a bc,v3,qI a0,v5,v6,v7]] w (qB w$ .bool$ cdo tn u a b):=by
 let⟨W,hW,g,kb⟩:=nwb w #[.string nm,qS y tn V,qS Y a bc,v3,qI a0,v5,v6,v7] 128;have:=kb.eight;have D:=zh λw h=>rX y tn V u w h;let⟨r,d⟩:=aN$ cdo tn u a b;rw[<-d];unfold cdo at d;have A:=S.bw g;have q:=K.bw g;have:=S.2.1;have:=K.2.1;have E:=zh hW;clear hW;by_cases c1:200<tn
 .have f:=zh (show r=false by rw[d,xS J];rfl);clear d;have P:(200:Int)<(tn:Int):=J
  delta qC;go_in
  go_wp2_with (rw[<-E.o])
  go_ret;exact⟨aA f.symm,g⟩
 .have P:¬(200:Int)<(tn:Int):=J
  by_cases c2:4<a
  .have f:=zh (show r=false by rw[d,xS J];rfl);clear d;have H:(4:Int)<(a:Int):=J
   delta qC;go_in
   go_wp2_with (rw[<-E.o])
   go_ret;exact⟨aA f.symm,g⟩
  .have H:¬(4:Int)<(a:Int):=J
   cases x:wds u
   .rw[x]at D;have f:=zh (show r=false by rw[d,x];simp);clear d
    delta qC;go_in
    go_wp2_with (first|(rw[<-E.o])|(go_at_call 305;refine(D.o _ A).mono ?_;rintro e M ⟨rfl,rfl⟩))
    go_ret;exact⟨aA f.symm,g⟩
   .rw[x]at D;have t:r=b.all bko:=by rw[d,x,xR J];simp
    have f:=zh t;clear d t;have:=K.1
    delta qC;go_in
    go_wp2_with (first|(rw[<-E.o])|(go_at_call 305;refine(D.o _ A).mono ?_;rintro e M ⟨rfl,rfl⟩))
    go_loop [24] (λi=>∃k:Nat,k<=a/\i=qI k/\Hid (∀j,j<k->bko (b.getD j zB)=true)) (λi=>a-(intOf i).toNat)
    .exact⟨0,xC _,rfl,zh λj Q=>J⟩
    .obtain⟨k,hk,rfl,R⟩:=hrel;by_cases s:k<a
     .have U:(k:Int)<(a:Int):=J
      obtain⟨bb,a1,rfl⟩:=q.addr J;have N:=q.at k s;have l:=q.2.2.2.1 k s;have I:=zh$ aEs b k J
      have Z:=zh (show bko (b.getD k zB)=true->∀j,j<k+1->bko (b.getD j zB)=true from λh j Q=>by
       by_cases e:j=k
       .subst e;exact h
       .exact R.out j J)
      generalize b.getD k zB=B at *;obtain⟨xa,p,xc,xz⟩:=B;dsimp only at N l;have G:=l.2.1;unfold maxLen at G;have C:=zh λw h=>rX xa p xc xz w h;by_cases d1:p<1
      .have F:(p:Int)<1:=J
       go_wp2;go_ret;exact⟨aA (by rw[f.o];exact(I.o (by unfold bko;dsimp only;rw[decide_eq_false J];rfl)).symm),g⟩
      .have F:¬(p:Int)<1:=J
       by_cases d2:64<p
       .have O:(64:Int)<(p:Int):=J
        go_wp2;go_ret;exact⟨aA (by rw[f.o];exact(I.o (by unfold bko;dsimp only;rw[decide_eq_false J];rfl)).symm),g⟩
       .have O:¬(64:Int)<(p:Int):=J
        cases hx:wds xz
        .rw[hx]at C;go_wp2_with (go_at_call 305;refine(C.o _ l).mono ?_;rintro e M ⟨rfl,rfl⟩)
         go_ret;exact⟨aA (by rw[f.o];exact(I.o (by unfold bko;dsimp only;rw[hx];simp)).symm),g⟩
        .rw[hx]at C;go_wp2_with (go_at_call 305;refine(C.o _ l).mono ?_;rintro e M ⟨rfl,rfl⟩)
         go_round
         .exact⟨k+1,J,by go_num,zh (Z.o (by unfold bko;dsimp only;rw[hx,decide_eq_true J];rfl))⟩
         .simp[intOf];omega
     .have X:=zh$ zU b λj Q=>R.out j J;go_wp2;go_ret;exact⟨aA (by rw[f.o];exact X.o.symm),g⟩
def rlk (rz:qi)(dn:Nat)(k:Nat):Bool:=decide$ 0<=rz.getD k 0/\rz.getD k 0%4=0/\rz.getD k 0<=(dn:Int)-4/\(k=0\/rz.getD (k-1) 0<rz.getD k 0)
def rlo (rn:Nat)(rz:qi)(dn:Nat):Bool:=decide (rn<=16)&&(List.range rn).all (rlk rz dn)
def jP (f:Nat->Bool)(n k)(e:k<n)(h:f k=false):(List.range n).all f=false:=by grind
def iQ (f:Nat->Bool)(n)(h:∀j,j<n->f j=true):(List.range n).all f=true:=by grind
def aSx (z:Int):(z.tmod 4 !=0)=decide (z%4≠0):=by grind
def wZ (U v1 v2 x a B u ra rn rc rz V v7 w)(hd:a<=maxLen)(h:IS w ra rn rc rz):
 qC 243 #[.agg #[.string U,v1,v2,qS x a B,qI u,qS ra rn rc,V,v7]] w (qB w$ .bool$ rlo rn rz a):=by
 obtain⟨W,O,d,kb⟩:=nwb w #[.string U,v1,v2,qS x a B,qI u,qS ra rn rc,V,v7] 128;obtain⟨q0,q1,q2,q3,q4,q5,q6,q7⟩:=kb.eight;obtain⟨r,g⟩:=aN$ rlo rn rz a;rw[<-g];unfold rlo at g;have C:=h.bw d;have D:=h.2.1;unfold maxLen at D hd;have M:=zh O;clear O;by_cases c1:16<rn
 .have f:=zh (show r=false by rw[g,xS J];rfl);clear g;have F:(16:Int)<(rn:Int):=J
  go_enter func243,ntmps243
  go_wp2_with (rw[<-M.o])
  go_ret;exact⟨aA f.o.symm,d⟩
 .have F:¬(16:Int)<(rn:Int):=J
  have f:=zh (show r=(List.range rn).all (rlk rz a)by rw[g,xR J];rfl);clear g;go_enter func243,ntmps243
  go_wp2_with (rw[<-M.o])
  go_loop [3] (λi=>∃k:Nat,k<=rn/\i=qI k/\Hid (∀j,j<k->rlk rz a j=true)) (λi=>rn-(intOf i).toNat)
  .exact⟨0,xC _,rfl,zh λj G=>J⟩
  .obtain⟨k,Z,rfl,H⟩:=hrel;by_cases s:k<rn
   .have I:(k:Int)<(rn:Int):=J
    obtain⟨bb,a0,rfl⟩:=C.addr J;have E:=C.at k s;have q:=zh$ jP (rlk rz a) rn k s
    have K:=zh (show rlk rz a k=true->∀j,j<k+1->rlk rz a j=true from λh j G=>by
     by_cases e:j=k
     .subst e;exact h
     .exact H.out j J)
    have l:Zh (∀b:Bool,(b=true ↔ (0<=rz.getD k 0/\rz.getD k 0%4=0/\rz.getD k 0<=(a:Int)-4/\(k=0\/rz.getD (k-1) 0<rz.getD k 0)))->rlk rz a k=b):=λb S=>by unfold rlk;rw[xJ,S];simp
    have A:=C.range k;unfold wfi at A;obtain⟨g0,g1⟩:=A;have p:=aSx$ rz.getD k 0;by_cases R:k=0
    .subst R;simp only[Nat.add_zero]at E;generalize rz.getD 0 0=z at *;by_cases X:z<0
     .go_wp2;go_ret;exact⟨aA (by rw[f.o];exact(q.o$ l.o false Jc).symm),d⟩
     .by_cases t:z%4≠0
      .rw[xR t]at p;go_wp2;go_ret;exact⟨aA (by rw[f.o];exact(q.o$ l.o false Jc).symm),d⟩
      .rw[xS t]at p;by_cases P:(a:Int)-4<z
       .go_wp2;go_ret;exact⟨aA (by rw[f.o];exact(q.o$ l.o false Jc).symm),d⟩
       .go_wp2
        go_round
        .exact⟨1,J,by go_num,zh$ K.o$ l.o true Jc⟩
        .simp[intOf];omega
    .have Q:=C.at (k-1) J;have:(0:Int)<(k:Int):=J
     have:(0:Int)<=(k:Int)-1:=J
     have:(k:Int)-1<(rn:Int):=J
     generalize rz.getD (k-1) 0=y at *;generalize rz.getD k 0=z at *;by_cases X:z<0
     .go_wp2;go_ret;exact⟨aA (by rw[f.o];exact(q.o$ l.o false Jc).symm),d⟩
     .by_cases t:z%4≠0
      .rw[xR t]at p;go_wp2;go_ret;exact⟨aA (by rw[f.o];exact(q.o$ l.o false Jc).symm),d⟩
      .rw[xS t]at p;by_cases P:(a:Int)-4<z
       .go_wp2;go_ret;exact⟨aA (by rw[f.o];exact(q.o$ l.o false Jc).symm),d⟩
       .by_cases Y:z<=y
        .go_wp2;go_ret;exact⟨aA (by rw[f.o];exact(q.o$ l.o false Jc).symm),d⟩
        .go_wp2
         go_round
         .exact⟨k+1,J,by go_num,zh$ K.o$ l.o true Jc⟩
         .simp[intOf];omega
   .have N:=zh$ iQ (rlk rz a) rn λj G=>H.out j J;go_wp2;go_ret;exact⟨aA (by rw[f.o];exact N.o.symm),d⟩
def aDb (X v1 v2 x a B u ra rn rc rz Y Z w)(hd:a<=maxLen)(h:IS w ra rn rc rz):
 qC 287 #[.agg #[.string X,v1,v2,qS x a B,qI u,qS ra rn rc,Y,Z]] w (qB w$ .bool$ rlo rn rz a):=by
 let⟨W,R,d,kb⟩:=nwb w #[.string X,v1,v2,qS x a B,qI u,qS ra rn rc,Y,Z] 128;have:=kb.eight;let⟨r,g⟩:=aN$ rlo rn rz a;rw[<-g];unfold rlo at g;have D:=h.bw d;have F:=h.2.1;unfold maxLen at F hd;have P:=zh R;clear R;by_cases c1:16<rn
 .have p:=zh (show r=false by rw[g,xS J];rfl);clear g;have I:(16:Int)<(rn:Int):=J
  delta qC;go_in
  go_wp2_with (rw[<-P.o])
  go_ret;exact⟨aA p.symm,d⟩
 .have I:¬(16:Int)<(rn:Int):=J
  have p:=zh (show r=(List.range rn).all (rlk rz a)by rw[g,xR J];rfl);clear g
  delta qC;go_in
  go_wp2_with (rw[<-P.o])
  go_loop [12] (λi=>∃k:Nat,k<=rn/\i=qI k/\Hid (∀j,j<k->rlk rz a j=true)) (λi=>rn-(intOf i).toNat)
  .exact⟨0,xC _,rfl,zh λj K=>J⟩
  .obtain⟨k,hk,rfl,M⟩:=hrel;by_cases t:k<rn
   .have N:(k:Int)<(rn:Int):=J
    obtain⟨bb,a0,rfl⟩:=D.addr J;have H:=D.at k t;have C:=zh$ jP (rlk rz a) rn k t
    have O:=zh (show rlk rz a k=true->∀j,j<k+1->rlk rz a j=true from λh j K=>by
     by_cases e:j=k
     .subst e;exact h
     .exact M.out j J)
    have q:Zh (∀b:Bool,(b=true ↔ (0<=rz.getD k 0/\rz.getD k 0%4=0/\rz.getD k 0<=(a:Int)-4/\(k=0\/rz.getD (k-1) 0<rz.getD k 0)))->rlk rz a k=b):=λb V=>by unfold rlk;rw[xJ,V];simp
    have G:=D.range k;obtain⟨g0,g1⟩:=G;have l:=aSx$ rz.getD k 0;have f:=zh λw=>cP (rz.getD k 0) ((a:Int)-4) w;by_cases U:k=0
    .subst U;simp only[Nat.add_zero]at H;generalize rz.getD 0 0=z at *;by_cases A:z%4≠0
     .rw[xR A]at l;go_wp2;go_ret;exact⟨aA (by rw[p.o];exact(C.o$ q.o false Jc).symm),d⟩
     .rw[xS A]at l;by_cases s:0<=z/\z<=(a:Int)-4
      .rw[xR s]at f;go_wp2_with (go_at_call 141;refine(f.o _).mono ?_;rintro e E ⟨rfl,rfl⟩)
       go_round
       .exact⟨1,J,by go_num,zh$ O.o$ q.o true Jc⟩
       .simp[intOf];omega
      .rw[xS s]at f;go_wp2_with (go_at_call 141;refine(f.o _).mono ?_;rintro e E ⟨rfl,rfl⟩)
       go_ret;exact⟨aA (by rw[p.o];exact(C.o$ q.o false Jc).symm),d⟩
    .have S:=D.at (k-1) J;have:(0:Int)<(k:Int):=J
     have:(0:Int)<=(k:Int)-1:=J
     have:(k:Int)-1<(rn:Int):=J
     generalize rz.getD (k-1) 0=y at *;generalize rz.getD k 0=z at *;by_cases A:z%4≠0
     .rw[xR A]at l;go_wp2;go_ret;exact⟨aA (by rw[p.o];exact(C.o$ q.o false Jc).symm),d⟩
     .rw[xS A]at l;by_cases s:0<=z/\z<=(a:Int)-4
      .rw[xR s]at f;by_cases d4:z<=y
       .go_wp2_with (go_at_call 141;refine(f.o _).mono ?_;rintro e E ⟨rfl,rfl⟩)
        go_ret;exact⟨aA (by rw[p.o];exact(C.o$ q.o false Jc).symm),d⟩
       .go_wp2_with (go_at_call 141;refine(f.o _).mono ?_;rintro e E ⟨rfl,rfl⟩)
        go_round
        .exact⟨k+1,J,by go_num,zh$ O.o$ q.o true Jc⟩
        .simp[intOf];omega
      .rw[xS s]at f;go_wp2_with (go_at_call 141;refine(f.o _).mono ?_;rintro e E ⟨rfl,rfl⟩)
       go_ret;exact⟨aA (by rw[p.o];exact(C.o$ q.o false Jc).symm),d⟩
   .have Q:=zh$ iQ (rlk rz a) rn λj K=>M.out j J;go_wp2;go_ret;exact⟨aA (by rw[p.o];exact Q.o.symm),d⟩
def zS:ByteArray:=⟨#[]⟩
def SS (w:qw)(a:qO)(n cap:Nat)(ss:List ByteArray):Prop:=
 ss.length=n/\n<=maxLen/\(∀s∈ss,s.size<=1048576)/\(n≠0->∃b off,a=some (qR b off)/\∀i,i<n->w.cell? (qR b$ off+i)=some (.string$ ss.getD i zS))/\n<=cap
def SS.bw {w w':qw}{ss:List ByteArray}(h:SS w a n cap ss)(f:qY w w'):SS w' a n cap ss:=by
 obtain⟨d,g,j,k,l⟩:=h;refine⟨d,g,j,λp=>?_,l⟩;let⟨b,q,e,hc⟩:=k p;exact⟨b,q,e,λi hi=>(f.cell$ xD w _$ hc i hi).trans$ hc i hi⟩
def SS.addr {w:qw}{ss:List ByteArray}(h:SS w a n cap ss)(hn:n≠0):∃b off,a=some (qR b off):=by
 let⟨b,off,e,_⟩:=h.2.2.2.1 hn
 grind
def SS.at {w:qw}{ss:List ByteArray}(h:SS w (some$ qR b off) n cap ss)(i)(hi:i<n):w.cell? (qR b$ off+i)=some (.string$ ss.getD i zS):=by
 let⟨a,d,e,hc⟩:=h.2.2.2.1 J
 grind
def SS.size {w:qw}{ss:List ByteArray}(h:SS w a n cap ss)(i):(ss.getD i zS).size<=1048576:=by
 by_cases hi:i<ss.length
 .have:=h.2.2.1 ss[i] (List.getElem_mem hi)
  grind
 .rw[xB,xO$ Nat.le_of_not_lt hi];exact(by decide:(zS).size<=1048576)
def imo (n:Nat)(ss:List ByteArray):Bool:=decide (n<=16)&&(List.range n).all λk=>gJ$ ss.getD k zS
def aA3 (y v1 v2 v3 B I g b n d ss w)(h:SS w b n d ss):
 qC 288 #[.agg #[.string y,v1,v2,v3,qI g,B,qS b n d,I]] w (qB w$ .bool$ imo n ss):=by
 let⟨W,x,u,kb⟩:=nwb w #[.string y,v1,v2,v3,qI g,B,qS b n d,I] 128;have:=kb.eight;let⟨r,a⟩:=aN$ imo n ss;rw[<-a];unfold imo at a;have:=h.2.1;have G:=zh x;clear x;by_cases P:16<n
 .have t:=zh (show r=false by rw[a,xS J];rfl);clear a;have C:(16:Int)<(n:Int):=J
  delta qC;go_in
  go_wp2_with (rw[<-G.o])
  go_ret;exact⟨aA t.symm,u⟩
 .have C:¬(16:Int)<(n:Int):=J
  have t:=zh (show r=(List.range n).all (λk=>gJ$ ss.getD k zS)by rw[a,xR J];rfl);clear a
  delta qC;go_in
  go_wp2_with (rw[<-G.o])
  go_loopw [15] (λi wr=>∃k:Nat,k<=n/\i=qI k/\Hid (∀j,j<k->gJ (ss.getD j zS)=true)/\qY w wr) (qf n)
  .exact⟨0,xC _,rfl,zh λj D=>J,u⟩
  .obtain⟨k,Q,rfl,E,q⟩:=hrel;by_cases l:k<n
   .have F:(k:Int)<(n:Int):=J
    obtain⟨N,R,rfl⟩:=h.addr J;have:=(h.bw q).at k l;have K:=zh$ jP (λk=>gJ$ ss.getD k zS) n k l
    have O:=zh (show gJ (ss.getD k zS)=true->∀j,j<k+1->gJ (ss.getD j zS)=true from λh j D=>by
     by_cases e:j=k
     .subst e;exact h
     .exact E.out j J)
    have A:=zh λw=>oS (ss.getD k zS) w$ h.size k;generalize ss.getD k zS=s at *;cases p:gJ s
    .rw[aI5,p,if_neg Jb]at A;go_wp2_with fail
     apply(A _).mono;rintro e M ⟨rfl,f⟩;go_wp2;go_ret;exact⟨aA (by rw[t.o];exact(K.o p).symm),yT q f⟩
    .rw[aI5,p,if_pos rfl]at A;go_wp2_with fail
     apply(A _).mono;rintro e M ⟨rfl,f⟩;go_wp2
     go_roundw
     .exact⟨k+1,J,by go_num,zh$ O p,yT q f⟩
     .simp[qf,intOf];omega
   .have H:=zh$ iQ (λk=>gJ$ ss.getD k zS) n λj D=>E.out j J;go_wp2;go_ret;exact⟨aA (by rw[t.o];exact H.o.symm),q⟩
def pcn (tn bn:Nat)(bl:List Bk)(b:Int):Int:=if b=-1 then (tn:Int) else if 0<=b/\b<(bn:Int) then ((bl.getD b.toNat zB).2.1:Int) else -1
def aQi (w:qw)(ta:qO)(tn tc bn:Nat)(bl:List Bk)(b:Int)(e:Ending)(w':qw):Prop:=
 ∃a n c ok,e=.returned (.tuple #[qS a n c,.bool ok])/\ok=decide (0<=pcn tn bn bl b)/\(ok=true->(n:Int)=pcn tn bn bl b)/\n<=maxLen/\qY w w'
def jT (E q tn u x a y g v3 F G H C b w)(k:tn<=maxLen)(l:BKS w x a y g):
 qC 118 #[.agg #[.string E,qS q tn u,qS x a y,v3,qI C,F,G,H],qI b] w (aQi w q tn u a g b):=by
 let⟨W,D,d,kb⟩:=nwb w #[.string E,qS q tn u,qS x a y,v3,qI C,F,G,H] 128;have:=kb.eight;have f:=l.bw d;have:=l.2.1;have j:=zh D;clear D;by_cases p:b=-1
 .subst p;have e:Zh (pcn tn a g (-1)=(tn:Int)):=rfl
  delta qC;go_in
  go_wp2_with (rw[<-j.o])
  go_ret2
  exact⟨q,tn,u,true,rfl,by rw[e.o];simp,λ_=>e.o.symm,k,d⟩
 .have A:(b == -1)=false:=by simpa using p
  by_cases c2:b<0
  .have e:=zh (show pcn tn a g b=-1 by unfold pcn;rw[if_neg p,if_neg J])
   delta qC;go_in
   go_wp2_with (rw[<-j.o])
   go_ret2
   exact⟨_,0,0,false,rfl,by rw[e.o];rfl,(by intro h;cases h),xC _,by first|exact d.alloc d.size _|exact d⟩
  .by_cases O:(a:Int)<=b
   .have e:=zh (show pcn tn a g b=-1 by unfold pcn;rw[if_neg p,if_neg J])
    delta qC;go_in
    go_wp2_with (rw[<-j.o])
    go_ret2
    exact⟨_,0,0,false,rfl,by rw[e.o];rfl,(by intro h;cases h),xC _,by first|exact d.alloc d.size _|exact d⟩
   .have t:b<(a:Int):=J
    have e:=zh (show pcn tn a g b=((g.getD b.toNat zB).2.1:Int)by unfold pcn;rw[if_neg p,if_pos J]);obtain⟨N,P,rfl⟩:=f.addr J;have:=f.at b.toNat J;have i:=f.2.2.2.1 b.toNat J;generalize g.getD b.toNat zB=B at *;obtain⟨I,M,K,Q⟩:=B;have s:=zh i.2.1;clear i
    delta qC;go_in
    go_wp2_with (rw[<-j.o])
    go_ret2
    exact⟨I,M,K,true,rfl,by rw[e.o];simp,λ_=>e.o.symm,s.o,d⟩
def jQ (E q tn u x a y g v3 F G H C b w)(k:tn<=maxLen)(l:BKS w x a y g):
 qC 195 #[.agg #[.string E,qS q tn u,qS x a y,v3,qI C,F,G,H],qI b] w (aQi w q tn u a g b):=by
 let⟨W,D,d,kb⟩:=nwb w #[.string E,qS q tn u,qS x a y,v3,qI C,F,G,H] 128;have:=kb.eight;have f:=l.bw d;have:=l.2.1;have j:=zh D;clear D;by_cases p:b=-1
 .subst p;have e:Zh (pcn tn a g (-1)=(tn:Int)):=rfl
  delta qC;go_in
  go_wp2_with (rw[<-j.o])
  go_ret2
  exact⟨q,tn,u,true,rfl,by rw[e.o];simp,λ_=>e.o.symm,k,d⟩
 .have A:(b == -1)=false:=by simpa using p
  by_cases c2:b<0
  .have e:=zh (show pcn tn a g b=-1 by unfold pcn;rw[if_neg p,if_neg J])
   delta qC;go_in
   go_wp2_with (rw[<-j.o])
   go_ret2
   exact⟨_,0,0,false,rfl,by rw[e.o];rfl,(by intro h;cases h),xC _,by first|exact d.alloc d.size _|exact d⟩
  .by_cases O:(a:Int)<=b
   .have e:=zh (show pcn tn a g b=-1 by unfold pcn;rw[if_neg p,if_neg J])
    delta qC;go_in
    go_wp2_with (rw[<-j.o])
    go_ret2
    exact⟨_,0,0,false,rfl,by rw[e.o];rfl,(by intro h;cases h),xC _,by first|exact d.alloc d.size _|exact d⟩
   .have t:b<(a:Int):=J
    have e:=zh (show pcn tn a g b=((g.getD b.toNat zB).2.1:Int)by unfold pcn;rw[if_neg p,if_pos J]);obtain⟨N,P,rfl⟩:=f.addr J;have:=f.at b.toNat J;have i:=f.2.2.2.1 b.toNat J;generalize g.getD b.toNat zB=B at *;obtain⟨I,M,K,Q⟩:=B;have s:=zh i.2.1;clear i
    delta qC;go_in
    go_wp2_with (rw[<-j.o])
    go_ret2
    exact⟨I,M,K,true,rfl,by rw[e.o];simp,λ_=>e.o.symm,s.o,d⟩
abbrev Ex:=ByteArray×Int×Int
def zE:Ex:=(zS,0,0)
def ES (w:qw)(a:qO)(n cap:Nat)(es:List Ex):Prop:=
 es.length=n/\n<=maxLen/\(∀e∈es,e.1.size<=1048576)/\(n≠0->∃b off,a=some (qR b off)/\∀i,i<n->w.cell? (qR b$ off+i*3)=some (.string (es.getD i zE).1)/\w.cell? (qR b$ off+i*3+1)=some (qI (es.getD i zE).2.1)/\w.cell? (qR b$ off+i*3+2)=some (qI (es.getD i zE).2.2))/\n<=cap
def ES.bw {w w':qw}{es:List Ex}(h:ES w a n cap es)(j:qY w w'):ES w' a n cap es:=by
 obtain⟨d,g,i,k,l⟩:=h;refine⟨d,g,i,λp=>?_,l⟩;let⟨b,q,e,hc⟩:=k p;have:∀o v,qN w b o=some v->qN w' b o=some v:=λo v f=>(j.cell$ xD w _ f).trans f
 grind
def ES.addr {w:qw}{es:List Ex}(h:ES w a n cap es)(hn:n≠0):∃b off,a=some (qR b off):=by
 let⟨b,off,e,_⟩:=h.2.2.2.1 hn
 grind
def ES.at {w:qw}{es:List Ex}(h:ES w (some$ qR b off) n cap es)(i)(hi:i<n):w.cell? (qR b$ off+i*3)=some (.string (es.getD i zE).1)/\w.cell? (qR b$ off+i*3+1)=some (qI (es.getD i zE).2.1)/\w.cell? (qR b$ off+i*3+2)=some (qI (es.getD i zE).2.2):=by
 let⟨a,d,e,hc⟩:=h.2.2.2.1 J
 grind
def ES.size {w:qw}{es:List Ex}(h:ES w a n cap es)(i):(es.getD i zE).1.size<=1048576:=by
 by_cases hi:i<es.length
 .have:=h.2.2.1 es[i] (List.getElem_mem hi)
  grind
 .rw[xB,xO$ Nat.le_of_not_lt hi];exact(by decide:(zE).1.size<=1048576)
def ex1 (tn bn:Nat)(bl:List Bk)(x:Ex):Bool:=nmo x.1&&decide (0<=x.2.2/\x.2.2<pcn tn bn bl x.2.1)
def exn (es:List Ex)(i:Nat):Bool:=(List.range i).all λk=>!((es.getD k zE).1.toList==(es.getD i zE).1.toList)
def exo (tn bn:Nat)(bl:List Bk)(n:Nat)(es:List Ex):Bool:=decide (n<=16)&&(List.range n).all λi=>ex1 tn bn bl (es.getD i zE)&&exn es i
def uM (nm ta tn tc u a x b v3 v5 v6 a0 ea n y es w)(Z:tn<=maxLen)(hb:BKS w u a x b)(h:ES w ea n y es):
 qC 245 #[.agg #[.string nm,qS ta tn tc,qS u a x,v3,qI a0,v5,v6,qS ea n y]] w (qB w$ .bool$ exo tn a b n es):=by
 let⟨W,hW,a1,kb⟩:=nwb w #[.string nm,qS ta tn tc,qS u a x,v3,qI a0,v5,v6,qS ea n y] 128;have S:=kb.eight;let⟨r,B⟩:=aN$ exo tn a b n es;rw[<-B];unfold exo at B;have a8:=h.2.1;have HW:=zh hW;clear hW;by_cases c1:16<n
 .have s:=zh (show r=false by rw[B,xS J];rfl);clear B;have a4:(16:Int)<(n:Int):=J
  delta qC;go_in
  go_wp2_with (rw[<-HW.o])
  go_ret;exact⟨aA s.symm,a1⟩
 .have a4:¬(16:Int)<(n:Int):=J
  have s:=zh (show r=(List.range n).all (λi=>ex1 tn a b (es.getD i zE)&&exn es i)by rw[B,xR J];rfl);clear B
  delta qC;go_in
  go_wp2_with (rw[<-HW.o])
  clear S;go_loopw [3] (λi wr=>∃k:Nat,k<=n/\i=qI k/\Hid (∀j,j<k->(ex1 tn a b (es.getD j zE)&&exn es j)=true)/\qY w wr/\Blk wr w.heap.size #[.string nm,qS ta tn tc,qS u a x,v3,qI a0,v5,v6,qS ea n y] 128) (qf n)
  .exact⟨0,xC _,rfl,zh λj F=>J,a1,kb⟩
  .obtain⟨k,hk,rfl,HJ,t,R⟩:=hrel;clear kb a1;have S:=R.eight;by_cases N:k<n
   .have a5:(k:Int)<(n:Int):=J
    obtain⟨bb,a2,rfl⟩:=h.addr J;let⟨y1,y2,y3⟩:=(h.bw t).at k N;have O:=zh$ jP (λi=>ex1 tn a b (es.getD i zE)&&exn es i) n k N
    have HG:=zh (show(ex1 tn a b (es.getD k zE)&&exn es k)=true->∀j,j<k+1->(ex1 tn a b (es.getD j zE)&&exn es j)=true from λh j F=>by
     by_cases e:j=k
     .subst e;exact h
     .exact HJ.out j J)
    have C:=zh λw=>gZ (es.getD k zE).1 w$ h.size k;have HX:Zh (exn es k=(List.range k).all (λj=>!((es.getD j zE).1.toList==(es.getD k zE).1.toList))):=rfl;generalize es.getD k zE=E at *;obtain⟨d,eb,g⟩:=E;have a9:=R.lt;have Q:=hb.bw$ t.alloc t.size$ .cells #[.string d,qI eb,qI g] 209;have HP:=zh λw h=>jT nm ta tn tc u a x b v3 v5 v6 (qS (qe bb a2) n y) a0 eb w Z h;have kE:=Blk.new wr #[.string d,qI eb,qI g] 209;have hA:qY wr (wr.alloc$ .cells #[.string d,qI eb,qI g] 209):=bal;go_wp2_with fail
    apply(HP _ Q).mono;rintro e w1 ⟨pa,pn,px,ok,rfl,P,G,a7,q⟩;have D:=kE.bw q;have M:=(R.bw hA).bw q;have f:=(yT t hA).trans$ q.mono (by have:=t.size;simp;omega);clear kE R hA q Q HP S y1 y2 y3 t;have I:=zh$ xA P G;clear P G;have z1:=D.three;have l:Zh (ex1 tn a b (d,eb,g)=(nmo d&&decide (0<=g/\g<pcn tn a b eb))):=rfl;cases hn:nmo d
    .rw[hn]at C;go_wp2_with (go_at_call 241;refine(C.o _).mono ?_;rintro e U ⟨rfl,rfl⟩)
     go_ret;exact⟨aA (by rw[s.o];exact(O.o (by rw[l.o,hn];rfl)).symm),f⟩
    .rw[hn]at C;cases ok
     .have X:¬0<=pcn tn a b eb:=by have:=I.o.1;simpa using this.symm
      go_wp2_with (go_at_call 241;refine(C.o _).mono ?_;rintro e U ⟨rfl,rfl⟩)
      go_ret;exact⟨aA (by rw[s.o];exact(O.o (by rw[l.o,xS J];simp)).symm),f⟩
     .have X:(pn:Int)=pcn tn a b eb:=I.2 rfl;have K:=zh X;clear X;by_cases d1:g<0
      .go_wp2_with (go_at_call 241;refine(C.o _).mono ?_;rintro e U ⟨rfl,rfl⟩)
       go_ret;exact⟨aA (by rw[s.o];exact(O.o (by rw[l.o,xS J];simp)).symm),f⟩
      .by_cases d2:(pn:Int)<=g
       .go_wp2_with (go_at_call 241;refine(C.o _).mono ?_;rintro e U ⟨rfl,rfl⟩)
        go_ret;exact⟨aA (by rw[s.o];exact(O.o (by rw[l.o,<-K.o,xS J];simp)).symm),f⟩
       .have Y:=zh (show ex1 tn a b (d,eb,g)=true by rw[l.o,hn,<-K.o,xR J];rfl);go_wp2_with (go_at_call 241;refine(C.o _).mono ?_;rintro e U ⟨rfl,rfl⟩)
        clear z1;go_loopw [7] (λi wx=>∃m:Nat,m<=k/\i=qI m/\Hid (∀j,j<m->(!((es.getD j zE).1.toList==d.toList))=true)/\qY w wx/\Blk wx w.heap.size #[.string nm,qS ta tn tc,qS u a x,v3,qI a0,v5,v6,qS (qe bb a2) n y] 128/\Blk wx wr.heap.size #[.string d,qI eb,qI g] 209) (qf k)
        .exact⟨0,xC _,rfl,zh λj F=>J,f,M,D⟩
        .obtain⟨m,hm,rfl,HM,p,A,H⟩:=hrel;clear f M D;have S:=A.eight;have z1:=H.three;by_cases V:m<k
         .have a6:(m:Int)<(k:Int):=J
          let⟨y1,y2,y3⟩:=(h.bw p).at m J;have HY:=zh$ jP (λj=>!((es.getD j zE).1.toList==d.toList)) k m V
          have HV:=zh (show(!((es.getD m zE).1.toList==d.toList))=true->∀j,j<m+1->(!((es.getD j zE).1.toList==d.toList))=true from λh j F=>by
           by_cases e:j=m
           .subst e;exact h
           .exact HM.out j J)
          generalize (es.getD m zE).1=sm at *;cases hq:(sm.toList==d.toList)
          .go_wp2_with fail
           go_quiet (fail)
           go_wp2
           go_roundw
           .exact⟨m+1,J,by go_num,zh (HV.o (by rw[hq];rfl)),below_drewN p nq,A.bw$ below_drewN brf nq,H.bw$ below_drewN brf nq⟩
           .simp[qf,intOf];omega
          .go_wp2_with fail
           go_quiet (fail)
           go_wp2;go_ret;exact⟨aA (by rw[s.o];exact(O.o (by rw[HX.o,HY.o (by rw[hq];rfl)];simp)).symm),below_drewN p nq⟩
         .have a3:=zh$ iQ (λj=>!((es.getD j zE).1.toList==d.toList)) k λj F=>HM.out j J;go_wp2
          go_roundw
          .exact⟨k+1,J,by go_num,zh (HG.o (by rw[Y.o,HX.o,a3.o];rfl)),p,A⟩
          .simp[qf,intOf];omega
   .have HE:=zh$ iQ (λi=>ex1 tn a b (es.getD i zE)&&exn es i) n λj F=>HJ.out j J;go_wp2;go_ret;exact⟨aA (by rw[s.o];exact HE.o.symm),t⟩
structure MD (w:qw)(nm:ByteArray)(ta:qO)(tn tc:Nat)(tz:qi)(ba:qO)(bn bc:Nat)(bl:List Bk)(da:qO)(dn dc:Nat)(dz:qi)(bss:Int)(ra:qO)(rn rc:Nat)(rz:qi)(ia:qO)(im ic:Nat)(ss:List ByteArray)(ea:qO)(en ec:Nat)(es:List Ex):Prop where
 n:nm.size<=1048576
 t:IS w ta tn tc tz
 b:BKS w ba bn bc bl
 d:BS w da dn dc dz
 s:wfi bss
 r:IS w ra rn rc rz
 i:SS w ia im ic ss
 e:ES w ea en ec es
def MD.bw {w w':qw}{i:qi}{f:List Bk}{j:qi}{rz:qi}{ss:List ByteArray}{es:List Ex}
 (h:MD w nm ta tn tc i ba bn bc f da dn dc j bss ra rn rc rz ia im ic ss ea en ec es) (e:qY w w'):MD w' nm ta tn tc i ba bn bc f da dn dc j bss ra rn rc rz ia im ic ss ea en ec es:=
 ⟨h.n,h.t.bw e,h.b.bw e,h.d.bw e,h.s,h.r.bw e,h.i.bw e,h.e.bw e⟩
def mdo (nm:ByteArray)(tn:Nat)(tz:qi)(bn:Nat)(bl:List Bk)(dn:Nat)(bss:Int)(rn:Nat)(rz:qi)(im:Nat)(ss:List ByteArray)(en:Nat)(es:List Ex):Int:=
 if nmo nm=false then 1 else if cdo tn tz bn bl=false then 2 else if 512<dn\/bss<0\/512<bss then 3 else if rlo rn rz dn=false then 4 else if imo im ss=false then 5 else if exo tn bn bl en es=false then 6 else 0
def aAn (u ta tn tc tz B g bc y da b dc dz d ra rn rc rz ia a ic ss ea x ec es w)
 (h:MD w u ta tn tc tz B g bc y da b dc dz d ra rn rc rz ia a ic ss ea x ec es):
 qC 163 #[.agg$ qM u ta tn tc B g bc da b dc d ra rn rc ia a ic ea x ec] w (qB w$ qI$ mdo u tn tz g y b d rn rz a ss x es):=by
 let⟨W,hW,a0,kb⟩:=nwb w (qM u ta tn tc B g bc da b dc d ra rn rc ia a ic ea x ec) 128;let⟨r,hr⟩:=aN$ mdo u tn tz g y b d rn rz a ss x es;rw[<-hr];unfold mdo at hr;have f:=zh hr;clear hr;have O:=h.bw a0;have R:=h.d.2.1;have:=h.i.2.1;have G:=h.t.2.1;have HN:=zh λw=>gZ u w h.n;have X:=zh λw ht Z=>aD0 u ta tn tc tz B g bc y (qS da b dc) (qS ra rn rc) (qS ia a ic) (qS ea x ec) d w ht Z;have a5:=zh λw h=>wZ u (qS ta tn tc) (qS B g bc) da b dc d ra rn rc rz (qS ia a ic) (qS ea x ec) w R h;have V:=zh λw Z h=>uM u ta tn tc B g bc y (qS da b dc) (qS ra rn rc) (qS ia a ic) d ea x ec es w G Z h;have D:=h.i.size;have S:=zh λk w=>rA (ss.getD k zS) w$ D k;clear h D G;have HW:=zh hW;clear hW;generalize nmo u=a2 at *;generalize cdo tn tz g y=a3 at *;generalize rlo rn rz b=a4 at *;generalize exo tn g y x es=a6 at *;have N:=kb.eight
 delta qC;go_in
 go_wp2_with (first|(rw[<-HW.o])|(go_at_call 241;refine(HN.o _).mono ?_;rintro e w1 ⟨rfl,rfl⟩;cases a2))
 .have e:=zh (show r=1 by rw[f.o];simp);go_ret;exact⟨aJ e.symm,a0⟩
 .apply(X _ O.t O.b).mono;rintro e w2 ⟨rfl,q⟩;have C:=kb.bw q;have Q:=O.bw q;have l:=yT a0 q;clear q kb O a0 N;have N:=C.eight;cases a3
  .have e:=zh (show r=2 by rw[f.o];simp);go_wp2;go_ret;exact⟨aJ e.symm,l⟩
  .by_cases c1:512<b
   .have e:=zh (show r=3 by rw[f.o];simp[c1]);have a1:(512:Int)<(b:Int):=J
    go_wp2;go_ret;exact⟨aJ e.symm,l⟩
   .have a1:¬(512:Int)<(b:Int):=J
    by_cases c2:d<0
    .have e:=zh (show r=3 by rw[f.o];simp[c2]);go_wp2;go_ret;exact⟨aJ e.symm,l⟩
    .by_cases c3:512<d
     .have e:=zh (show r=3 by rw[f.o];simp[c3]);go_wp2;go_ret;exact⟨aJ e.symm,l⟩
     .have p:=zh (show r=if a4=false then 4 else if imo a ss=false then 5 else if a6=false then 6 else 0 by
       rw[f.o]
       simp only[Bool.true_eq_false,if_false,show ¬(512<b\/d<0\/512<d)from J])
      clear f;go_wp2_with fail
      apply(a5 _ Q.r).mono;rintro e w3 ⟨rfl,A⟩;have Y:=C.bw A;have M:=Q.bw A;have t:=yT l A;clear A C Q l N;have N:=Y.eight;cases a4
      .have e:=zh (show r=4 by rw[p.o];simp);go_wp2;go_ret;exact⟨aJ e.symm,t⟩
      .by_cases d1:16<a
       .have e:=zh (show r=5 by rw[p.o,show imo a ss=false by unfold imo;rw[xS J];rfl];simp);have U:(16:Int)<(a:Int):=J
        go_wp2;go_ret;exact⟨aJ e.symm,t⟩
       .have U:¬(16:Int)<(a:Int):=J
        have H:=zh (show imo a ss=(List.range a).all (λk=>gJ$ ss.getD k zS)by unfold imo;rw[xR J];rfl);go_wp2_with fail
        go_loop [3] (λi=>∃k:Nat,k<=a/\i=qI k/\Hid (∀j,j<k->gJ (ss.getD j zS)=true)) (λi=>a-(intOf i).toNat)
        .exact⟨0,xC _,rfl,zh λj hj=>J⟩
        .obtain⟨k,hk,rfl,HJ⟩:=hrel;by_cases F:k<a
         .have a7:(k:Int)<(a:Int):=J
          obtain⟨bb,a8,rfl⟩:=M.i.addr J;have:=M.i.at k F;have HZ:=zh$ jP (λk=>gJ$ ss.getD k zS) a k F
          have HG:=zh (show gJ (ss.getD k zS)=true->∀j,j<k+1->gJ (ss.getD j zS)=true from λh j hj=>by
           by_cases e:j=k
           .subst e;exact h
           .exact HJ.out j J)
          have K:=zh$ S k;generalize ss.getD k zS=s at *;cases I:gJ s
          .rw[I]at K;have e:=zh (show r=5 by rw[p.o,H.o,HZ.o I];simp);go_wp2_with (go_at_call 244;refine(K.o _).mono ?_;rintro e w4 ⟨rfl,rfl⟩)
           go_ret;exact⟨aJ e.symm,t⟩
          .rw[I]at K;go_wp2_with (go_at_call 244;refine(K.o _).mono ?_;rintro e w4 ⟨rfl,rfl⟩)
           go_round
           .exact⟨k+1,J,by go_num,zh$ HG I⟩
           .simp[intOf];omega
         .have HI:=zh (show imo a ss=true by rw[H.o];exact iQ (λk=>gJ$ ss.getD k zS) a λj hj=>HJ.out j J);go_wp2_with fail
          apply(V _ M.b M.e).mono;rintro e w5 ⟨rfl,P⟩;have E:=yT t P;cases a6
          .have e:=zh (show r=6 by rw[p.o,HI.o];simp);go_wp2;go_ret;exact⟨aJ e.symm,E⟩
          .have e:=zh (show r=0 by rw[p.o,HI.o];simp);go_wp2;go_ret;exact⟨aJ e.symm,E⟩
def upS (f:Nat->Nat):Nat->Nat
 | 0=>0
 | k+1=>upS f k+f k
def gD (f:Nat->Nat)(k):∀m,k<=m->upS f k<=upS f m
 | 0,h=>by grind
 | m+1,h=>by
   by_cases e:k=m+1
   .grind
   .have:=gD f k m J;show _<=upS f m+f m;omega
def szR (l:Int)(t:Nat):Int:=if l<(t:Int) then -1 else l-t
def aE4 (a n u d l w)(h:BKS w a n u d)(W:0<=l)(V:l<=1048576):
 qC 106 #[qS a n u,qI l] w λe w'=>e=.returned (qI$ szR l$ n+upS (λj=>(d.getD j zB).2.1) n)/\w=w':=by
 have N:=h.2.1;unfold maxLen at N;let⟨r,g⟩:=aN$ szR l$ n+upS (λj=>(d.getD j zB).2.1) n;rw[<-g];unfold szR at g;have t:=zh g;clear g;by_cases x:l<(n:Int)
 .have e:=zh (show r=-1 by rw[t.o,if_pos J])
  delta qC;go_in
  go_wp2;go_ret;exact⟨aJ e.symm,rfl⟩
 .delta qC;go_in
  go_wp2_with fail
  go_loop [1,5] (λv i=>∃(k:Nat) (z:Int),k<=n/\i=qI k/\v=qI z/\0<=z/\z<=1048576/\Hid (z=l-n-(upS (λj=>(d.getD j zB).2.1) k:Nat))) (λ_ i=>n-(intOf i).toNat)
  .exact⟨0,l-n,xC _,rfl,rfl,J,J,zh (by simp[upS])⟩
  .obtain⟨k,z,Y,rfl,rfl,Q,P,C⟩:=hrel;by_cases f:k<n
   .have G:(k:Int)<(n:Int):=J
    obtain⟨b,y,rfl⟩:=h.addr J;have:=h.at k f;have p:=h.2.2.2.1 k f;have E:=p.2.1;have q:=zh λw=>iO (d.getD k zB).1 (d.getD k zB).2.1 (d.getD k zB).2.2.1 z w Q P E;have F:Zh (upS (λj=>(d.getD j zB).2.1) (k+1)=upS (λj=>(d.getD j zB).2.1) k+(d.getD k zB).2.1):=rfl;have H:=zh$ gD (λj=>(d.getD j zB).2.1) (k+1) n J;clear p;generalize (d.getD k zB).1=S at *;generalize I:(d.getD k zB).2.1=A at *;generalize (d.getD k zB).2.2.1=U at *;by_cases c2:z<(A:Int)
    .rw[if_pos c2]at q
     have e:=zh (show r=-1 by
      have s:=C.out;have K:=F.o;have:=H.o
      rw[t.o,if_pos J])
     go_wp2_with (go_at_call 59;refine(q.o _).mono ?_;rintro e O ⟨rfl,rfl⟩)
     go_ret;exact⟨aJ e.symm,rfl⟩
    .rw[if_neg c2]at q;have:¬z-(A:Int)<0:=J
     go_wp2_with (go_at_call 59;refine(q.o _).mono ?_;rintro e O ⟨rfl,rfl⟩)
     go_round
     .exact⟨k+1,z-A,J,by go_num,rfl,J,J,zh (by have s:=C.out;have K:=F.o;omega)⟩
     .simp[intOf];omega
   .have e:=zh (show r=z by
     have s:=C.out;have D:k=n:=J
     rw[D]at s;rw[t.o,if_neg J]
     omega)
    go_wp2;go_ret;exact⟨aJ e.symm,rfl⟩
def TS (w:qw)(a:qO)(n cap:Nat)(ss:List ByteArray):Prop:=
 ss.length=n/\n<=maxLen/\(∀i,(ss.getD i zS).size<=maxLen)/\(n≠0->∃b off,a=some (qR b off)/\∀i,i<n->w.cell? (qR b$ off+i)=some (.string$ ss.getD i zS))/\n<=cap
def TS.bw {w w':qw}{ss:List ByteArray}(h:TS w a n cap ss)(f:qY w w'):TS w' a n cap ss:=by
 obtain⟨d,g,j,k,l⟩:=h;refine⟨d,g,j,λp=>?_,l⟩;let⟨b,q,e,hc⟩:=k p;exact⟨b,q,e,λi hi=>(f.cell$ xD w _$ hc i hi).trans$ hc i hi⟩
def TS.at {w:qw}{ss:List ByteArray}(h:TS w a n cap ss)(i)(hi:i<n):∃b off,a=some (qR b off)/\w.cell? (qR b$ off+i)=some (.string$ ss.getD i zS):=by
 let⟨b,off,e,hc⟩:=h.2.2.2.1 J
 grind
def TS.ss {w:qw}{a:qO}{n b:Nat}{ss:List ByteArray}(h:TS w a n b ss)(hs:upS (λj=>(ss.getD j zS).size) n<=1048576):SS w a n b ss:=by
 refine⟨h.1,h.2.1,λs e=>?_,h.2.2.2.1,h.2.2.2.2⟩;obtain⟨i,hi,rfl⟩:=List.getElem_of_mem e;have:=gD (λj=>(ss.getD j zS).size) (i+1) n$ jK h.1;have:upS (λj=>(ss.getD j zS).size) (i+1)=upS (λj=>(ss.getD j zS).size) i+(ss.getD i zS).size:=rfl
 grind
def aAg (a n g ss l w)(h:TS w a n g ss)(M:0<=l)(K:l<=1048576):
 qC 107 #[qS a n g,qI l] w λe w'=>e=.returned (qI$ szR l$ n+upS (λj=>(ss.getD j zS).size) n)/\w=w':=by
 have I:=h.2.1;unfold maxLen at I;let⟨r,d⟩:=aN$ szR l$ n+upS (λj=>(ss.getD j zS).size) n;rw[<-d];unfold szR at d;have p:=zh d;clear d;by_cases u:l<(n:Int)
 .have e:=zh (show r=-1 by rw[p.o,if_pos J])
  delta qC;go_in
  go_wp2;go_ret;exact⟨aJ e.symm,rfl⟩
 .delta qC;go_in
  go_wp2_with fail
  go_loop [1,5] (λv i=>∃(k:Nat) (z:Int),k<=n/\i=qI k/\v=qI z/\0<=z/\z<=1048576/\Hid (z=l-n-(upS (λj=>(ss.getD j zS).size) k:Nat))) (λ_ i=>n-(intOf i).toNat)
  .exact⟨0,l-n,xC _,rfl,rfl,J,J,zh (by simp[upS])⟩
  .obtain⟨k,z,Q,rfl,rfl,P,N,A⟩:=hrel;by_cases q:k<n
   .have F:(k:Int)<(n:Int):=J
    obtain⟨b,y,rfl,x⟩:=h.at k q;have D:=h.2.2.1 k;unfold maxLen at D;have E:Zh (upS (λj=>(ss.getD j zS).size) (k+1)=upS (λj=>(ss.getD j zS).size) k+(ss.getD k zS).size):=rfl;have G:=zh$ gD (λj=>(ss.getD j zS).size) (k+1) n J;generalize ss.getD k zS=s at *;by_cases c2:z<(s.size:Int)
    .have t:z-(s.size:Int)<0:=J
     have e:=zh (show r=-1 by
      have f:=A.out;have H:=E.o;have:=G.o
      rw[p.o,if_pos J])
     go_wp2;go_ret;exact⟨aJ e.symm,rfl⟩
    .have t:¬z-(s.size:Int)<0:=J
     go_wp2
     go_round
     .exact⟨k+1,z-s.size,J,by go_num,rfl,J,J,zh (by have f:=A.out;have H:=E.o;omega)⟩
     .simp[intOf];omega
   .have e:=zh (show r=z by
     have f:=A.out;have C:k=n:=J
     rw[C]at f;rw[p.o,if_neg J]
     omega)
    go_wp2;go_ret;exact⟨aJ e.symm,rfl⟩
def TE (w:qw)(a:qO)(n cap:Nat)(es:List Ex):Prop:=
 es.length=n/\n<=maxLen/\(∀i,(es.getD i zE).1.size<=maxLen)/\(n≠0->∃b off,a=some (qR b off)/\∀i,i<n->w.cell? (qR b$ off+i*3)=some (.string (es.getD i zE).1)/\w.cell? (qR b$ off+i*3+1)=some (qI (es.getD i zE).2.1)/\w.cell? (qR b$ off+i*3+2)=some (qI (es.getD i zE).2.2))/\n<=cap
def TE.bw {w w':qw}{es:List Ex}(h:TE w a n cap es)(j:qY w w'):TE w' a n cap es:=by
 obtain⟨d,g,i,k,l⟩:=h;refine⟨d,g,i,λp=>?_,l⟩;let⟨b,q,e,hc⟩:=k p;have:∀o v,qN w b o=some v->qN w' b o=some v:=λo v f=>(j.cell$ xD w _ f).trans f
 grind
def TE.at {w:qw}{es:List Ex}(h:TE w a n cap es)(i)(hi:i<n):∃b off,a=some (qR b off)/\w.cell? (qR b$ off+i*3)=some (.string (es.getD i zE).1)/\w.cell? (qR b$ off+i*3+1)=some (qI (es.getD i zE).2.1)/\w.cell? (qR b$ off+i*3+2)=some (qI (es.getD i zE).2.2):=by
 let⟨b,off,e,hc⟩:=h.2.2.2.1 J
 grind
def TE.es {w:qw}{a:qO}{n b:Nat}{es:List Ex}(h:TE w a n b es)(hs:upS (λj=>(es.getD j zE).1.size) n<=1048576):ES w a n b es:=by
 refine⟨h.1,h.2.1,λs e=>?_,h.2.2.2.1,h.2.2.2.2⟩;obtain⟨i,hi,rfl⟩:=List.getElem_of_mem e;have:=gD (λj=>(es.getD j zE).1.size) (i+1) n$ jK h.1;have:upS (λj=>(es.getD j zE).1.size) (i+1)=upS (λj=>(es.getD j zE).1.size) i+(es.getD i zE).1.size:=rfl
 grind
def aCv (s b i l w)(hs:s.size<=maxLen)(p:0<=l)(k:l<=1048576):
 qC 161 #[.agg #[.string s,qI b,qI i],qI l] w (qB w$ qI$ szR l s.size):=by
 unfold maxLen at hs;have f:=zh$ (Below.refl w.heap.size w).alloc aO$ .cells #[.string s,qI b,qI i] 223;let⟨r,a⟩:=aN$ szR l s.size;rw[<-a];unfold szR at a;have j:=zh a;clear a;by_cases c:l<(s.size:Int)
 .have e:=zh (show r=-1 by rw[j.o,if_pos c]);have d:l-(s.size:Int)<0:=J
  delta qC;go_in
  go_wp2;go_ret;exact⟨aJ e.symm,f⟩
 .have e:=zh (show r=l-s.size by rw[j.o,if_neg c]);have d:¬l-(s.size:Int)<0:=J
  delta qC;go_in
  go_wp2;go_ret;exact⟨aJ e.symm,f⟩
def aAj (a n g es l w)(h:TE w a n g es)(R:0<=l)(Q:l<=1048576):
 qC 108 #[qS a n g,qI l] w λe w'=>e=.returned (qI$ szR l$ n+upS (λj=>(es.getD j zE).1.size) n)/\qY w w':=by
 have M:=h.2.1;unfold maxLen at M;let⟨r,d⟩:=aN$ szR l$ n+upS (λj=>(es.getD j zE).1.size) n;rw[<-d];unfold szR at d;have C:=zh d;clear d;by_cases B:l<(n:Int)
 .have e:=zh (show r=-1 by rw[C.o,if_pos J])
  delta qC;go_in
  go_wp2;go_ret;exact⟨aJ e.symm,brf⟩
 .delta qC;go_in
  go_wp2_with fail
  go_loopw [1,5] (λv i wr=>∃(k:Nat) (z:Int),k<=n/\i=qI k/\v=qI z/\0<=z/\z<=1048576/\Hid (z=l-n-(upS (λj=>(es.getD j zE).1.size) k:Nat))/\qY w wr) (λ_ i _=>n-(intOf i).toNat)
  .exact⟨0,l-n,xC _,rfl,rfl,J,J,zh (by simp[upS]),brf⟩
  .obtain⟨k,z,U,rfl,rfl,P,O,F,q⟩:=hrel;by_cases D:k<n
   .have H:(k:Int)<(n:Int):=J
    obtain⟨b,W,rfl,u,x,y⟩:=(h.bw q).at k D;have p:=zh λw=>aCv (es.getD k zE).1 (es.getD k zE).2.1 (es.getD k zE).2.2 z w (h.2.2.1 k) P O;have A:Zh (upS (λj=>(es.getD j zE).1.size) (k+1)=upS (λj=>(es.getD j zE).1.size) k+(es.getD k zE).1.size):=rfl;have I:=zh$ gD (λj=>(es.getD j zE).1.size) (k+1) n J;generalize es.getD k zE=E at *;obtain⟨s,S,V⟩:=E;dsimp only at u x y p A;unfold szR at p;by_cases c2:z<(s.size:Int)
    .rw[if_pos c2]at p
     have e:=zh (show r=-1 by
      have t:=F.out;have K:=A.o;have:=I.o
      rw[C.o,if_pos J])
     go_wp2_with fail
     apply(p _).mono;rintro e N ⟨rfl,f⟩;go_wp2;go_ret;exact⟨aJ e.symm,yT q f⟩
    .rw[if_neg c2]at p;go_wp2_with fail
     apply(p _).mono;rintro e N ⟨rfl,f⟩;go_wp2
     go_roundw
     .exact⟨k+1,z-s.size,J,by go_num,rfl,J,J,zh (by have t:=F.out;have K:=A.o;omega),yT q f⟩
     .simp[intOf];omega
   .have e:=zh (show r=z by
     have t:=F.out;have G:k=n:=J
     rw[G]at t;rw[C.o,if_neg J]
     omega)
    go_wp2;go_ret;exact⟨aJ e.symm,q⟩
structure MT (w:qw)(nm:ByteArray)(ta:qO)(tn tc:Nat)(tz:qi)(ba:qO)(bn bc:Nat)(bl:List Bk)(da:qO)(dn dc:Nat)(dz:qi)(bss:Int)(ra:qO)(rn rc:Nat)(rz:qi)(ia:qO)(im ic:Nat)(ss:List ByteArray)(ea:qO)(en ec:Nat)(es:List Ex):Prop where
 n:nm.size<=maxLen
 t:IS w ta tn tc tz
 b:BKS w ba bn bc bl
 d:BS w da dn dc dz
 s:wfi bss
 r:IS w ra rn rc rz
 i:TS w ia im ic ss
 e:TE w ea en ec es
def MT.bw {w w':qw}{i:qi}{f:List Bk}{j:qi}{rz:qi}{ss:List ByteArray}{es:List Ex}(h:MT w nm ta tn tc i ba bn bc f da dn dc j bss ra rn rc rz ia im ic ss ea en ec es)(e:qY w w'):MT w' nm ta tn tc i ba bn bc f da dn dc j bss ra rn rc rz ia im ic ss ea en ec es:=
 ⟨h.n,h.t.bw e,h.b.bw e,h.d.bw e,h.s,h.r.bw e,h.i.bw e,h.e.bw e⟩
def dL (nm:ByteArray)(tn bn:Nat)(bl:List Bk)(dn rn im:Nat)(ss:List ByteArray)(en:Nat)(es:List Ex):Nat:=
 nm.size+tn+(bn+upS (λj=>(bl.getD j zB).2.1) bn)+dn+rn+(im+upS (λj=>(ss.getD j zS).size) im)+(en+upS (λj=>(es.getD j zE).1.size) en)
def aCt (d ta tn tc tz ba a bc y da u dc dz a0 ra rn rc rz ia g ic ss ea x ec es l w)(h:MT w d ta tn tc tz ba a bc y da u dc dz a0 ra rn rc rz ia g ic ss ea x ec es)(l0:0<=l)(l1:l<=1048576):
 qC 58 #[.agg$ qM d ta tn tc ba a bc da u dc a0 ra rn rc ia g ic ea x ec,qI l] w (qB w$ qI$ szR l$ dL d tn a y u rn g ss x es):=by
 let⟨W,hW,B,kb⟩:=nwb w (qM d ta tn tc ba a bc da u dc a0 ra rn rc ia g ic ea x ec) 103;have:=kb.eight;have HW:=zh hW;clear hW;let⟨r,hr⟩:=aN$ szR l$ dL d tn a y u rn g ss x es;rw[<-hr];unfold szR dL at hr;have C:=zh hr;clear hr;have E:=h.bw B;have U:=h.n;unfold maxLen at U;by_cases c0:l<(d.size:Int)
 .have e:=zh (show r=-1 by rw[C.o,if_pos J]);have Q:l-(d.size:Int)<0:=J
  delta qC;go_in
  go_wp2_with (rw[<-HW.o])
  go_ret;exact⟨aJ e.symm,B⟩
 .have Q:¬l-(d.size:Int)<0:=J
  obtain⟨z0,a1⟩:∃z:Int,z=l-d.size:=⟨_,rfl⟩;have g0:0<=z0:=J
  have O:z0<=1048576:=J
  delta qC;go_in
  go_wp2_with (rw[<-HW.o])
  rw[<-a1];have H:=zh a1;clear a1;have q:=zh λw=>iO ta tn tc z0 w g0 O h.t.2.1;by_cases k0:z0<((tn:Nat):Int)
  .rw[if_pos k0]at q;have e:=zh (show r=-1 by have p:=H.o;rw[C.o,if_pos J]);apply(q _).mono;rintro e t ⟨rfl,rfl⟩;go_wp2;go_ret;exact⟨aJ e.symm,B⟩
  .rw[if_neg k0]at q;obtain⟨z1,b⟩:∃z:Int,z=z0-((tn:Nat):Int):=⟨_,rfl⟩;rw[<-b]at q;have g1:0<=z1:=J
   have S:z1<=1048576:=J
   have G:Zh (z1=l-d.size-((tn:Nat):Int)):=by have p:=H.o;show _=_;omega
   clear b;apply(q _).mono;rintro e t ⟨rfl,rfl⟩;go_wp2_with fail
   have f:=zh λw M=>aE4 ba a bc y z1 w M g1 S;unfold szR at f;by_cases k1:z1<(((a+upS (λj=>(y.getD j zB).2.1) a):Nat):Int)
   .rw[if_pos k1]at f;have e:=zh (show r=-1 by have p:=G.o;rw[C.o,if_pos J]);apply(f _ E.b).mono;rintro e t ⟨rfl,rfl⟩;go_wp2;go_ret;exact⟨aJ e.symm,B⟩
   .rw[if_neg k1]at f;obtain⟨z2,b⟩:∃z:Int,z=z1-(((a+upS (λj=>(y.getD j zB).2.1) a):Nat):Int):=⟨_,rfl⟩;rw[<-b]at f;have g2:0<=z2:=J
    have P:z2<=1048576:=J
    have K:Zh (z2=l-d.size-((tn:Nat):Int)-(((a+upS (λj=>(y.getD j zB).2.1) a):Nat):Int)):=by have p:=G.o;show _=_;omega
    clear b;apply(f _ E.b).mono;rintro e t ⟨rfl,rfl⟩;go_wp2_with fail
    have s:=zh λw=>mR da u dc z2 w g2 P h.d.2.1;by_cases k2:z2<((u:Nat):Int)
    .rw[if_pos k2]at s;have e:=zh (show r=-1 by have p:=K.o;rw[C.o,if_pos J]);apply(s _).mono;rintro e t ⟨rfl,rfl⟩;go_wp2;go_ret;exact⟨aJ e.symm,B⟩
    .rw[if_neg k2]at s;obtain⟨z3,b⟩:∃z:Int,z=z2-((u:Nat):Int):=⟨_,rfl⟩;rw[<-b]at s;have g3:0<=z3:=J
     have V:z3<=1048576:=J
     have I:Zh (z3=l-d.size-((tn:Nat):Int)-(((a+upS (λj=>(y.getD j zB).2.1) a):Nat):Int)-((u:Nat):Int)):=by have p:=K.o;show _=_;omega
     clear b;apply(s _).mono;rintro e t ⟨rfl,rfl⟩;go_wp2_with fail
     have A:=zh λw=>iO ra rn rc z3 w g3 V h.r.2.1;by_cases k3:z3<((rn:Nat):Int)
     .rw[if_pos k3]at A;have e:=zh (show r=-1 by have p:=I.o;rw[C.o,if_pos J]);apply(A _).mono;rintro e t ⟨rfl,rfl⟩;go_wp2;go_ret;exact⟨aJ e.symm,B⟩
     .rw[if_neg k3]at A;obtain⟨z4,b⟩:∃z:Int,z=z3-((rn:Nat):Int):=⟨_,rfl⟩;rw[<-b]at A;have g4:0<=z4:=J
      have X:z4<=1048576:=J
      have N:Zh (z4=l-d.size-((tn:Nat):Int)-(((a+upS (λj=>(y.getD j zB).2.1) a):Nat):Int)-((u:Nat):Int)-((rn:Nat):Int)):=by have p:=I.o;show _=_;omega
      clear b;apply(A _).mono;rintro e t ⟨rfl,rfl⟩;have:¬z4<0:=J
      go_wp2_with fail
      have k:=zh λw M=>aAg ia g ic ss z4 w M g4 X;unfold szR at k;by_cases Z:z4<(((g+upS (λj=>(ss.getD j zS).size) g):Nat):Int)
      .rw[if_pos Z]at k;have e:=zh (show r=-1 by have p:=N.o;rw[C.o,if_pos J]);apply(k _ E.i).mono;rintro e t ⟨rfl,rfl⟩;go_wp2;go_ret;exact⟨aJ e.symm,B⟩
      .rw[if_neg Z]at k;obtain⟨z5,b⟩:∃z:Int,z=z4-(((g+upS (λj=>(ss.getD j zS).size) g):Nat):Int):=⟨_,rfl⟩;rw[<-b]at k;have g5:0<=z5:=J
       have Y:z5<=1048576:=J
       have F:Zh (z5=l-d.size-((tn:Nat):Int)-(((a+upS (λj=>(y.getD j zB).2.1) a):Nat):Int)-((u:Nat):Int)-((rn:Nat):Int)-(((g+upS (λj=>(ss.getD j zS).size) g):Nat):Int)):=by have p:=N.o;show _=_;omega
       clear b;apply(k _ E.i).mono;rintro e t ⟨rfl,rfl⟩;have:¬z5<0:=J
       go_wp2_with fail
       have i:=zh λw M=>aAj ea x ec es z5 w M g5 Y;unfold szR at i;by_cases k5:z5<(((x+upS (λj=>(es.getD j zE).1.size) x):Nat):Int)
       .rw[if_pos k5]at i;have e:=zh (show r=-1 by have p:=F.o;rw[C.o,if_pos J]);apply(i _ E.e).mono;rintro e t ⟨rfl,D⟩;go_wp2;go_ret;exact⟨aJ e.symm,yT B D⟩
       .rw[if_neg k5]at i;obtain⟨z6,b⟩:∃z:Int,z=z5-(((x+upS (λj=>(es.getD j zE).1.size) x):Nat):Int):=⟨_,rfl⟩;rw[<-b]at i;have:0<=z6:=J
        have:z6<=1048576:=J
        have R:Zh (z6=l-d.size-((tn:Nat):Int)-(((a+upS (λj=>(y.getD j zB).2.1) a):Nat):Int)-((u:Nat):Int)-((rn:Nat):Int)-(((g+upS (λj=>(ss.getD j zS).size) g):Nat):Int)-(((x+upS (λj=>(es.getD j zE).1.size) x):Nat):Int)):=by have p:=F.o;show _=_;omega
        clear b;apply(i _ E.e).mono;rintro e t ⟨rfl,D⟩;have:¬z6<0:=J
        have e:=zh (show r=z6 by have p:=R.o;rw[C.o,if_neg J];omega);go_wp2;go_ret;exact⟨aJ e.symm,yT B D⟩
def RowT (w:qw)(g:Nat)(zs:List ByteArray):Prop:=w.heap[g]?=some (.cells (zs.map$ Value.string).toArray 9 (0,0))
def RowT.cell {w:qw}(h:RowT w g zs)(i)(hi:i<zs.length):w.cell? (qR g i)=some (.string$ zs.getD i zS):=by
 rw[cell_of_row w g i _ _ _ h];simp[xB,hi]
def RowT.frozen {w:qw}(h:RowT w g zs)(i):w.frozen? (qR g i)=false:=frozen_of_row w g i _ _ h
def RowT.set {w:qw}(h:RowT w g zs)(i z):RowT (w.setCell (qR g i)$ .string z) g (zs.set i z):=by
 unfold RowT at *;rw[heap_setCell_same w g i _ _ _ h];simp[List.map_set]
def RowT.lt {w:qw}(h:RowT w g zs):g<w.heap.size:=by
 unfold RowT at h
 grind
def aPh:(prog.info? 9).map (λi=>(i.zero,i.size,i.bytes))=some (some$ .string ⟨#[]⟩,1,16):=Je
def aVr (n):(madeCells (Value.cells$ .string ⟨#[]⟩)$ n*1)=((List.replicate n zS).map$ Value.string).toArray:=by
 apply Array.ext
 .simp[size_madeCells]
 .intro i f e;simp[madeCells,Value.cells,Nat.mod_one,zS]
def pT {w:qw}(h:w.ownsRow base 9 1 (qS (qP g) n n) n (madeCells (Value.cells$ .string ⟨#[]⟩)$ n*1).toList):RowT w g (List.replicate n zS):=by
 obtain⟨s,h|⟨i,f,a,b,q,d,j,k,l,p⟩⟩:=h
 .grind
 .simp at b;obtain⟨rfl,rfl⟩:=b;unfold RowT;rw[d]
  have e:a.toList=(madeCells (Value.cells$ .string ⟨#[]⟩)$ n*1).toList:=by
   grind
  have e2:a=madeCells (Value.cells$ .string ⟨#[]⟩) (n*1):=Array.toList_inj.1 e;rw[e2,aVr]
def pE (zs:List ByteArray)(k:Nat):List ByteArray:=(List.range zs.length).map λi=>if i<k then zs.getD i zS else zS
def aOw (a k):(pE a k).length=a.length:=by simp[pE]
def aL3 (a):pE a 0=List.replicate a.length zS:=by
 apply List.ext_getElem
 .simp[pE]
 .intro i f e;simp[pE]
def aOx (zs):pE zs zs.length=zs:=by
 apply List.ext_getElem
 .simp[pE]
 .intro i f e;simp[pE,e]
def aOv (a k)(h:k<a.length):(pE a k).set k (a.getD k zS)=pE a (k+1):=by
 apply List.ext_getElem
 .simp[pE]
 .intro i f e;simp only[pE,List.getElem_set,List.getElem_map,List.getElem_range]
  grind
def zY (a n u d w)(h:TS w a n u d)(hn:n<=1048576):
 qC 137 #[qS a n u] w λe w'=>e=.returned (qS (qP w.heap.size) n n)/\RowT w' w.heap.size d/\qY w w':=by
 let⟨B,hi,x,y,E⟩:=info_parts aPh;obtain⟨g,M,P,hc,_⟩:=h;by_cases q:n=0
 .subst q;obtain rfl:d=[]:=xE g
  delta qC;go_in
  go_wp2_with (at_make;refine wpList_make_full _ rfl _ _ 100 rfl (qs w) 9 B (.string ⟨#[]⟩) 1 underlying100 hi x y .i64 .i64 _ _ 0 rfl rfl rfl rfl J Jf aO ?_;intro I f p)
  have j:=pT f;have l:=bI p;go_loop [4] (λi=>i=qI 0) (λ_=>0)
  .rfl
  .obtain rfl:=hrel;go_wp2;go_ret;exact⟨rfl,j,l⟩
 .obtain⟨b,H,rfl,hd⟩:=hc q
  delta qC;go_in
  go_wp2_with (at_make;refine wpList_make_full _ rfl _ _ 100 rfl w.heap.size 9 B (.string ⟨#[]⟩) 1 underlying100 hi x y .i64 .i64 _ _ n rfl rfl rfl rfl (by rw[E];omega) Jf aO ?_;intro I f p)
  have j:=pT f;have l:=bI p;go_loopw [4] (λi wr=>∃k:Nat,k<=n/\i=qI k/\RowT wr (qs w) (pE d k)/\qY w wr) (qf n)
  .exact⟨0,xC _,rfl,by rw[aL3,g];exact j,l⟩
  .obtain⟨k,O,rfl,t,A⟩:=hrel;by_cases s:k<n
   .have D:(k:Int)<(n:Int):=J
    have:qN wr b (H+k)=some (.string$ d.getD k zS):=(A.cell$ xD w _$ hd k s).trans$ hd k s;have:qn wr w k=some (.string$ (pE d k).getD k zS):=t.cell k (by rw[aOw];omega);have:wr.frozen? (qh w k)=false:=t.frozen k;have C:=t.set k$ d.getD k zS;rw[aOv d k J]at C;have G:qY w (wr.setCell (qh w k)$ .string$ d.getD k zS):=A.setCell aO _;have F:=C;have K:=G;generalize d.getD k zS=z at *;generalize (pE d k).getD k zS=N at *;go_wp2
    go_roundw
    .exact⟨k+1,J,by go_num,F,K⟩
    .simp[qf,intOf];omega
   .have e:Zh (k=n):=by show k=n;omega
    go_wp2;go_ret;exact⟨rfl,by rw[e.o,<-g,aOx]at t;exact t,A⟩
def yY (a d n g t ss w)(h:TS w a n g ss)(p:TS w d n t ss):
 qC 159 #[qS a n g,qS d n t] w (qB w$ .bool true):=by
 have l:=h.2.1;unfold maxLen at l
 delta qC;go_in
 go_wp2_with fail
 go_loopw [5] (λi wr=>∃k:Nat,k<=n/\i=qI k/\qY w wr) (qf n)
 .exact⟨0,xC _,rfl,brf⟩
 .obtain⟨k,q,rfl,f⟩:=hrel;by_cases e:k<n
  .have j:(k:Int)<(n:Int):=J
   obtain⟨b,x,rfl,A⟩:=(h.bw f).at k e;obtain⟨u,y,rfl,B⟩:=(p.bw f).at k e;generalize ss.getD k zS=s at *;go_wp2_with fail
   go_quiet (fail)
   go_wp2
   go_roundw
   .exact⟨k+1,J,by go_num,below_drewN f nq⟩
   .simp[qf,intOf];omega
  .go_wp2;go_ret;exact⟨rfl,f⟩
def aCq (s b i w):
 qC 177 #[.agg #[.string s,qI b,qI i]] w (qB w$ .agg #[.string s,qI b,qI i]):=by
 delta qC;go_in
 go_wp2;refine bodyPost_ret (v:=.agg #[.string s,qI b,qI i]) (by simp[results,results177,go_sem]) rfl ⟨rfl,?_⟩;exact((bal.alloc Jb _).alloc Jc _)
def aBc (s b i w):
 qC 240 #[.agg #[.string s,qI b,qI i],.agg #[.string s,qI b,qI i]] w (qB w$ .bool true):=by
 have e:qY w ((w.alloc$ .cells #[.string s,qI b,qI i] 209).alloc$ .cells #[.string s,qI b,qI i] 209):=bal.alloc Jb _;have f:=zh e
 delta qC;go_in
 go_wp2;go_ret;exact⟨rfl,by first|exact f|exact below_drewN f _⟩
def RowB (w:qw)(g n:Nat)(gs:List Nat)(bl:List Bk):Prop:=
 (∃cur,Blk w g cur 25/\cur.size=n/\∀i,i<gs.length->cur[i]?=some (.slice (some$ qR (gs.getD i 0) 0) (bl.getD i zB).2.1 (bl.getD i zB).2.1))/\(∀i,i<gs.length->RowI w (gs.getD i 0) (bl.getD i zB).2.2.2/\g<gs.getD i 0)/\(∀i j,i<j->j<gs.length->gs.getD i 0<gs.getD j 0)
def RowB.bw {w w':qw}{bl:List Bk}(h:RowB w g n gs bl)(e:qY w w'):RowB w' g n gs bl:=by
 obtain⟨⟨b,d,f,j⟩,a,k⟩:=h;exact⟨⟨b,d.bw e,f,j⟩,λi hi=>⟨(a i hi).1.bw e,(a i hi).2⟩,k⟩
def RowB.cell {w:qw}{e:List Bk}(h:RowB w g n gs e)(k)(f:k<n):∃v,w.cell? (qR g k)=some v:=by
 obtain⟨⟨a,b,d,i⟩,j,l⟩:=h;refine⟨a[k],?_⟩;rw[b.cell]
 grind
def RowB.frozen {w:qw}{e:List Bk}(h:RowB w g n gs e)(k):w.frozen? (qR g k)=false:=by
 obtain⟨⟨b,a,d,f⟩,i,j⟩:=h;exact a.frozen k
def rI (a x i)(h:i<a.length:=by omega):(a++[x]).getD i 0=a.getD i 0:=by grind
def aB7 (a x):(a++[x]).getD a.length 0=x:=by grind
def RowB.push {w:qw}{x:Nat}{bl:List Bk}(h:RowB w g n gs bl)(A:gs.length<n)(t:RowI w x (bl.getD gs.length zB).2.2.2)(hx:g<x)(hi:∀i,i<gs.length->gs.getD i 0<x):
 RowB (w.setCell (qR g gs.length)$ .slice (qP x) (bl.getD gs.length zB).2.1 (bl.getD gs.length zB).2.1) g n (gs++[x]) bl:=by
 obtain⟨⟨u,b,a,B⟩,C,d⟩:=h
 have k:∀y zs,RowI w y zs->g≠y->RowI (w.setCell (qR g gs.length)$ .slice (qP x) (bl.getD gs.length zB).2.1 (bl.getD gs.length zB).2.1) y zs:=λy zs q p=>by
  unfold RowI at *;rw[heap_setCell_other _ _ _ _ Jd];exact q
 refine⟨⟨_,b.set gs.length _,by simp[a],λi f=>?_⟩,λi f=>?_,λi j l s=>?_⟩
 .simp only[xI,List.length_cons,List.length_nil]at f;by_cases e:i=gs.length
  .subst e;rw[aB7];simp[a,A]
  .grind
 .simp only[xI,List.length_cons,List.length_nil]at f;by_cases e:i=gs.length
  .subst e;rw[aB7];exact⟨k _ _ t J,hx⟩
  .grind
 .simp only[xI,List.length_cons,List.length_nil]at s;by_cases e:j=gs.length
  .subst e
   grind
  .rw[rI _ _ _,rI _ _ _];exact d i j l J
def reb (gs:List Nat)(bl:List Bk):List Bk:=(List.range bl.length).map λi=>(some$ qR (gs.getD i 0) 0,(bl.getD i zB).2.1,(bl.getD i zB).2.1,(bl.getD i zB).2.2.2)
def pU (b a):(reb b a).length=a.length:=by simp[reb]
def jZ (b a i)(hi:i<a.length:=by omega):(reb b a).getD i zB=(some$ qR (b.getD i 0) 0,(a.getD i zB).2.1,(a.getD i zB).2.1,(a.getD i zB).2.2.2):=by
 simp[reb,xB,hi]
def RowB.bks {w l:qw}{e:List Bk}(h:RowB w g n gs e)(f:BKS l a n cap e)(q:gs.length=n):BKS w (qP g) n n (reb gs e):=by
 obtain⟨b,d,A,s,B⟩:=f;obtain⟨⟨E,x,F,G⟩,y,H⟩:=h;refine⟨by rw[pU,b],d,λ_=>⟨g,0,rfl,λi hi=>?_⟩,λi hi=>?_,aO⟩
 .rw[jZ _ _ _,Nat.zero_add,x.cell]
  grind
 .rw[jZ _ _ _];let⟨t,c2,u,C,D⟩:=s i hi;have k:=(y i J).1;exact⟨t,c2,u,λ_=>⟨gs.getD i 0,0,rfl,λj p=>by rw[Nat.zero_add];exact k.cell j (by grind)⟩,aO⟩
def aQ4 (b a):(reb b a).all bko=a.all bko:=by
 have:∀i,i<a.length->bko ((reb b a).getD i zB)=bko (a.getD i zB):=λi hi=>by rw[jZ _ _ _ hi];rfl
 cases h:a.all bko
 .have⟨x,hx,d⟩:=List.all_eq_false.1 h;obtain⟨i,hi,rfl⟩:=List.getElem_of_mem hx;exact aEs _ i (by rw[pU];exact hi) (by grind)
 .refine zU _ λj f=>?_;rw[pU]at f
  grind
def aQ3 (d tn b a bl):cdo tn b a (reb d bl)=cdo tn b a bl:=by unfold cdo;rw[aQ4]
def aQ1 (g tn d a b)(h:a.length=d):pcn tn d (reb g a) b=pcn tn d a b:=by
 unfold pcn;split
 .rfl
 .split
  .rename_i f e;rw[jZ _ _ _]
  .rfl
def aQ2 (d tn b a n es)(h:a.length=b):exo tn b (reb d a) n es=exo tn b a n es:=by
 unfold exo ex1;congr 2;funext i;rw[aQ1 _ _ _ _ _ h]
def aJ2 (k i tn j b a e d rn rz g ss f es)(h:a.length=b):
 mdo i tn j b (reb k a) e d rn rz g ss f es=mdo i tn j b a e d rn rz g ss f es:=by
 unfold mdo;rw[aQ3,aQ2 _ _ _ _ _ _ h]
def aPj:(prog.info? 25).map (λi=>(i.zero,i.size,i.bytes))=some (some$ qS none 0 0,1,24):=Je
def aC9 {w:qw}{bl:List Bk}(h:w.ownsRow base 25 1 (qS (qP g) n n) n (madeCells (Value.cells$ qS none 0 0)$ n*1).toList):RowB w g n [] bl:=by
 obtain⟨u,h|⟨k,f,b,a,t,d,l,p,q,s⟩⟩:=h
 .grind
 .simp at a;obtain⟨rfl,rfl⟩:=a;exact⟨⟨b,d,by grind,λi hi=>by grind⟩,λi hi=>by grind,λi j _ e=>by grind⟩
def aE0 (a n d bl w)(h:BKS w a n d bl)(hn:n<=1048576)(hs:∀i,i<n->(bl.getD i zB).2.1<=1048576):
 qC 136 #[qS a n d] w λe w'=>e=.returned (qS (qP w.heap.size) n n)/\(∃gs,gs.length=n/\RowB w' w.heap.size n gs bl)/\qY w w':=by
 let⟨B,hi,u,x,y⟩:=info_parts aPj
 delta qC;go_in
 go_wp2_with (at_make;refine wpList_make_full _ rfl _ _ 99 rfl w.heap.size 25 B (qS none 0 0) 1 underlying99 hi u x .i64 .i64 _ _ n rfl rfl rfl rfl (by rw[y];omega) Jf aO ?_;intro S s K)
 have t:RowB S w.heap.size n [] bl:=aC9 s;have A:=bI K;go_loopw [4] (λi wr=>∃k:Nat,k<=n/\i=qI k/\(∃gs,gs.length=k/\RowB wr w.heap.size n gs bl)/\qY w wr) (qf n)
 .exact⟨0,xC _,rfl,⟨[],rfl,t⟩,A⟩
 .obtain⟨k,hk,rfl,⟨gs,j,q⟩,E⟩:=hrel;by_cases f:k<n
  .have O:(k:Int)<(n:Int):=J
   obtain⟨b,a2,rfl⟩:=h.addr J;have C:=h.bw E;have:=C.at k f;have H:=C.2.2.2.1 k f;have F:=hs k f;have V:=zh λw h=>lH (bl.getD k zB).1 (bl.getD k zB).2.1 (bl.getD k zB).2.2.1 (bl.getD k zB).2.2.2 w h F
   have Q:=zh (λ(W:qw)(D:qY wr W)(R:RowI W wr.heap.size (bl.getD k zB).2.2.2)=>by
    have M:=RowB.push (q.bw D) J (by rw[j];exact R) (by obtain⟨⟨U,g,_⟩,_⟩:=q;exact g.lt) λi hi=>(q.2.1 i hi).1.lt;rw[j]at M
    exact M)
   have P:=zb wr λW D=>xA ((q.bw D).cell k f)$ (q.bw D).frozen k;generalize (bl.getD k zB).1=Y at *;generalize (bl.getD k zB).2.1=N at *;generalize (bl.getD k zB).2.2.1=Z at *;generalize (bl.getD k zB).2.2.2=xz at *;go_wp2_with fail
   apply(V _ H).mono;rintro e w2 ⟨rfl,G,l⟩;let⟨⟨v0,a1⟩,a0⟩:=P _ l;have X:=zh$ Q _ l G;have I:=zh$ (yT E l).setCell (p:=(qh w k)) aO$ qS (qp wr) N N;go_wp2
   go_roundw
   .exact⟨k+1,J,by go_num,⟨gs++[wr.heap.size],by simp[j],X.o⟩,I.o⟩
   .simp[qf,intOf];omega
  .have e:Zh (k=n):=by show k=n;omega
   go_wp2;go_ret;exact⟨rfl,⟨gs,by rw[j,e.o],q⟩,E⟩
def aEd (a u n x y d g w)(h:BKS w a n x d)(s:BKS w u n y g)(hz:∀i,i<n->(g.getD i zB).2.1=(d.getD i zB).2.1/\(g.getD i zB).2.2.2=(d.getD i zB).2.2.2):
 qC 158 #[qS a n x,qS u n y] w (qB w$ .bool true):=by
 have q:=h.2.1;unfold maxLen at q
 delta qC;go_in
 go_wp2;go_loopw [5] (λi wr=>∃k:Nat,k<=n/\i=qI k/\qY w wr) (qf n)
 .exact⟨0,xC _,rfl,brf⟩
 .obtain⟨k,Q,rfl,l⟩:=hrel;by_cases f:k<n
  .have K:(k:Int)<(n:Int):=J
   obtain⟨b,R,rfl⟩:=h.addr J;obtain⟨M,S,rfl⟩:=s.addr J;have N:=(h.bw l).at k f;have t:=(s.bw l).at k f;have O:=(h.bw l).2.2.2.1 k f;have H:=(s.bw l).2.2.2.1 k f;let⟨G,U⟩:=hz k f;rw[G,U]at H;rw[G]at t;generalize (d.getD k zB).1=C at *;generalize (d.getD k zB).2.1=p at *;generalize (d.getD k zB).2.2.1=E at *;generalize (d.getD k zB).2.2.2=I at *;generalize (g.getD k zB).1=D at *;generalize (g.getD k zB).2.2.1=F at *;have A:=zh λw h k=>mC C D p E p F I I w h k;rw[xR rfl]at A;go_wp2
   go_region_held3 (λB=>qN B b (R+k)=qk C p E/\qN B M (S+k)=qk D p F) (go_keep)
    (first
      | (go_at_call 94;refine(A _ (by exact O) (by exact H)).mono ?_;rintro e P ⟨rfl,j⟩;replace j:=aW j;obtain⟨V,W⟩:=aQa j;have:=xD _ _ N;have:=xD _ _ t))
   go_wp2
   go_roundw
   .exact⟨k+1,J,by go_num,yT l j⟩
   .simp[qf,intOf];omega
  .go_wp2;go_ret;exact⟨rfl,l⟩
def aS {w:qw}{v:Value}(h:b≠g\/o'≠o:=by omega):(w.setCell (qR g o) v).cell? (qR b o')=w.cell? (qR b o'):=
 World.cell?_setCell_other _ _ _ _ (by grind)
def nF {w:qw}{v:Value}(h:w.cell? (qR g o)=some u):(w.setCell (qR g o) v).cell? (qR g o)=some v:=World.cell?_setCell_same _ _ _ h
def At3 (w:qw)(g o:Nat)(x:Ex):Prop:=w.cell? (qR g o)=some (.string x.1)/\w.cell? (qR g$ o+1)=some (qI x.2.1)/\w.cell? (qR g$ o+2)=some (qI x.2.2)
def aC3 (w:qw)(g o:Nat)(x:Ex):World:=((w.setCell (qR g o)$ .string x.1).setCell (qR g$ o+1)$ qI x.2.1).setCell (qR g$ o+2)$ qI x.2.2
def oW (w g o b a r)(h:b≠g\/a<o\/o+3<=a):(aC3 w g o r).cell? (qR b a)=w.cell? (qR b a):=by
 unfold aC3;rw[aS,aS,aS]
def aQt {w:qw}{q:Ex}(h:At3 w g o q)(r):At3 (aC3 w g o r) g o r:=by
 obtain⟨a,b,d⟩:=h;unfold aC3;refine⟨?_,?_,?_⟩
 .rw[aS,aS];exact nF a
 .rw[aS];exact nF (by rw[aS];exact b)
 .exact nF (by rw[aS,aS];exact d)
def aNp {w:qw}{q:Ex}(h:At3 w b o' q)(r)(e:b≠g\/o'+3<=o\/o+3<=o'):At3 (aC3 w g o r) b o' q:=by
 unfold At3;rw[oW _ _ _ _ _ _ J,oW _ _ _ _ _ _ J,oW _ _ _ _ _ _ J];exact h
def aNq {w:qw}{f:Array Value}{t:TypeId}(h:Blk w g f t)(o r):∃e,Blk (aC3 w g o r) g e t/\e.size=f.size:=
 ⟨_,(((h.set o _).set (o+1) _).set (o+2) _),Jb⟩
def aHi {a w:qw}(h:Below B a w)(e:B<=g)(o r):Below B a (aC3 w g o r):=
 ((h.setCell (p:=(qR g o)) e _).setCell (p:=(qR g$ o+1)) e _).setCell (p:=(qR g$ o+2)) e _
def At3.bw {w w':qw}{x:Ex}(h:At3 w g o x)(i:qY w w'):At3 w' g o x:=by
 have e:∀o v,qN w g o=some v->qN w' g o=some v:=λo v f=>(i.cell$ xD w _ f).trans f;exact⟨e _ _ h.1,e _ _ h.2.1,e _ _ h.2.2⟩
def RowX (w:qw)(g:Nat)(es:List Ex):Prop:=
 (∃cur,Blk w g cur 209/\cur.size=es.length*3)/\∀i,i<es.length->At3 w g (i*3) (es.getD i zE)
def RowX.lt {w:qw}{es:List Ex}(h:RowX w g es):g<w.heap.size:=by obtain⟨⟨b,a,_⟩,_⟩:=h;exact a.lt
def RowX.bw {w w':qw}{es:List Ex}(h:RowX w g es)(e:qY w w'):RowX w' g es:=by
 obtain⟨⟨a,hc,hs⟩,b⟩:=h;exact⟨⟨a,hc.bw e,hs⟩,λi hi=>(b i hi).bw e⟩
def RowX.frozen {w:qw}{es:List Ex}(h:RowX w g es)(i):w.frozen? (qR g i)=false:=by obtain⟨⟨b,a,_⟩,_⟩:=h;exact a.frozen i
def RowX.set {w:qw}{es:List Ex}(h:RowX w g es)(i)(hi:i<es.length)(r):RowX (aC3 w g (i*3) r) g (es.set i r):=by
 obtain⟨⟨k,hc,hs⟩,a⟩:=h;let⟨b,d,l⟩:=aNq hc (i*3) r;refine⟨⟨b,d,by grind⟩,λj f=>?_⟩;rw[List.length_set]at f;by_cases e:i=j
 .subst e;have:(es.set i r).getD i zE=r:=by grind
  rw[this];exact aQt (a i hi) r
 .have:(es.set i r).getD j zE=es.getD j zE:=by simp[xB,e]
  rw[this];exact aNp (a j f) r J
def RowX.te {w e:qw}{es:List Ex}(h:RowX w g es)(k:TE e a n cap es):TE w (qP g) n n es:=by
 obtain⟨b,d,f,j,l⟩:=k;exact⟨b,d,f,λ_=>⟨g,0,rfl,λi hi=>by rw[Nat.zero_add];exact h.2 i J⟩,aO⟩
def aPf:(prog.info? 209).map (λi=>(i.zero,i.size,i.bytes))=some (some$ .agg #[.string ⟨#[]⟩,qI 0,qI 0],3,32):=Je
def aC7 {w:qw}(h:w.ownsRow base 209 3 (qS (qP g) n n) n (madeCells (Value.cells$ .agg #[.string ⟨#[]⟩,qI 0,qI 0])$ n*3).toList):RowX w g (List.replicate n zE):=by
 obtain⟨C,h|⟨t,s,a,b,B,d,u,x,y,A⟩⟩:=h
 .grind
 .simp at b;obtain⟨rfl,rfl⟩:=b
  have e:a.toList=(madeCells (Value.cells$ .agg #[.string ⟨#[]⟩,qI 0,qI 0])$ n*3).toList:=by
   grind
  have e2:a=madeCells (Value.cells$ .agg #[.string ⟨#[]⟩,qI 0,qI 0]) (n*3):=Array.toList_inj.1 e;have k:Blk w g a 209:=d;refine⟨⟨a,k,by grind⟩,λi hi=>?_⟩;simp at hi
  have f:∀j,j<3->w.cell? (qR g$ i*3+j)=#[Value.string ⟨#[]⟩,qI 0,qI 0][j]?:=by
   intro j p;rw[k.cell,e2];have l:(i*3+j)%3=j:=J
   simp[madeCells,Value.cells,show i*3+j<n*3 from J,l]
   match j,p with
   | 0,_=>rfl
   | 1,_=>rfl
   | 2,_=>rfl
  have q:(List.replicate n zE).getD i zE=zE:=by grind
  rw[q];exact⟨f 0 J,f 1 J,f 2 J⟩
def pD (es:List Ex)(k:Nat):List Ex:=(List.range es.length).map λi=>if i<k then es.getD i zE else zE
def aF3 (es k):(pD es k).length=es.length:=by simp[pD]
def aL2 (es):pD es 0=List.replicate es.length zE:=by
 apply List.ext_getElem
 .simp[pD]
 .intro i f e;simp[pD]
def aOu (es):pD es es.length=es:=by
 apply List.ext_getElem
 .simp[pD]
 .intro i f e;simp[pD,e]
def aOt (es k)(h:k<es.length):(pD es k).set k (es.getD k zE)=pD es (k+1):=by
 apply List.ext_getElem
 .simp[pD]
 .intro i f e;simp only[pD,List.getElem_set,List.getElem_map,List.getElem_range]
  grind
def aAb (x n a es w)(h:TE w x n a es)(hn:n<=1048576):
 qC 138 #[qS x n a] w λe w'=>e=.returned (qS (qP w.heap.size) n n)/\RowX w' w.heap.size es/\qY w w':=by
 let⟨X,hi,y,B,U⟩:=info_parts aPf;have I:=h.1
 delta qC;go_in
 go_wp2_with (at_make;refine wpList_make_full _ rfl _ _ 126 rfl w.heap.size 209 X (.agg #[.string ⟨#[]⟩,qI 0,qI 0]) 3 underlying126 hi y B .i64 .i64 _ _ n rfl rfl rfl rfl (by rw[U];omega) Jf aO ?_;intro Q l A)
 have q:=aC7 l;have s:=bI A;clear l A hi y B U;go_loopw [4] (λi wr=>∃k:Nat,k<=n/\i=qI k/\RowX wr (qs w) (pD es k)/\qY w wr) (qf n)
 .exact⟨0,xC _,rfl,by rw[aL2,I];exact q,s⟩
 .obtain⟨k,S,rfl,t,C⟩:=hrel;clear q s;by_cases D:k<n
  .have K:(k:Int)<(n:Int):=J
   obtain⟨b,a0,rfl,V⟩:=(h.bw C).at k D
   have j:∀W,qY wr W->RowX (aC3 W (qs w) (k*3)$ es.getD k zE) (qs w) (pD es$ k+1):=by
    intro W P;have:=(t.bw P).set k (by rw[aF3];omega)$ es.getD k zE;rw[aOt es k J]at this;exact this
   have p:=zh j;clear j;have M:=t.2 k (by rw[aF3];omega);generalize es.getD k zE=r at *;generalize (pD es k).getD k zE=R at *;obtain⟨d,g,u⟩:=r;obtain⟨Y,Z,q3⟩:=V;go_wp2_with fail
   apply(aCq d g u _).mono;rintro e N ⟨rfl,f⟩;have H:=yT C f;have F:=M.bw f;have O:∀i,N.frozen? (qh w i)=false:=(t.bw f).frozen;have E:=zh$ p _ f;have G:=zh$ aHi H aO (k*3) (d,g,u);clear p t Y Z q3;obtain⟨p1,p2,p3⟩:=F;go_wp2
   go_roundw
   .exact⟨k+1,J,by go_num,E,G⟩
   .simp[qf,intOf];omega
  .have e:Zh (k=n):=by show k=n;omega
   go_wp2;go_ret;exact⟨rfl,by rw[e.o,<-I,aOu]at t;exact t,C⟩
def zA (x F n B E es w)(h:TE w x n B es)(A:TE w F n E es):
 qC 160 #[qS x n B,qS F n E] w (qB w$ .bool true):=by
 have p:=h.2.1;unfold maxLen at p
 delta qC;go_in
 go_wp2;go_loopw [5] (λi wr=>∃k:Nat,k<=n/\i=qI k/\qY w wr) (qf n)
 .exact⟨0,xC _,rfl,brf⟩
 .obtain⟨k,C,rfl,l⟩:=hrel;by_cases j:k<n
  .have s:(k:Int)<(n:Int):=J
   obtain⟨b,u,rfl,H,O,P⟩:=(h.bw l).at k j;obtain⟨d,y,rfl,G,M,N⟩:=(A.bw l).at k j;generalize es.getD k zE=r at *;obtain⟨g,q,t⟩:=r;go_wp2
   go_region_held3 (λa=>qN a b (u+k*3)=some (.string g)/\qN a b (u+k*3+1)=qj q/\qN a b (u+k*3+2)=qj t /\
    qN a d (y+k*3)=some (.string g)/\qN a d (y+k*3+1)=qj q/\qN a d (y+k*3+2)=qj t) (go_keep)
    (first
      | (go_at_call 240;refine(aBc g q t _).mono ?_;rintro e D ⟨rfl,f⟩;replace f:=aW f;obtain⟨I,K⟩:=aQa f;have:=xD _ _ H;have:=xD _ _ G))
   go_wp2
   go_roundw
   .exact⟨k+1,J,by go_num,yT l f⟩
   .simp[qf,intOf];omega
  .go_wp2;go_ret;exact⟨rfl,l⟩
