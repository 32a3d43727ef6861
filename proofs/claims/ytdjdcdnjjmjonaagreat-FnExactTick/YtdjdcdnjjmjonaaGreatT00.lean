import Derived.Test.YtdjdcdnjjmjonaaGreatRows
import Derived.WalkKit
import Derived.WalkLawsBesides
import Derived.WalkSpells
import Derived.BigQuiet
import Derived.Deep.QuietTactic
import Derived.Deep.RegionHeld3
import Derived.Laws.EntriesVeiled
import Derived.Deep.RegionWith
set_option linter.all false
set_option maxHeartbeats 4000000
namespace Go.Proofs.YtdjdcdnjjmjonaaGreat
open Go.RowKit
open Go.Proofs.Tryz
set_option maxRecDepth 100000
def J {P:Prop}(h:P:=by omega):P:=h
def Ja {P:Prop}(h:P:=by decide):P:=h
def Jb {P:Prop}(h:P:=by simp):P:=h
def Jc {P:Prop}(h:P:=by simp;omega):P:=h
def Jd {P:Prop}(h:P:=by dsimp only;omega):P:=h
def Je {P:Prop}(h:P:=by kernel_rfl):P:=h
def Jf {P:Prop}(h:P:=by unfold maxLen;omega):P:=h
def Jg {P:Prop}(h:P:=by unfold gkd;decide):P:=h
def Jh {P:Prop}(h:P:=by unfold wfi;omega):P:=h
def Ji {P:Prop}(h:P:=by simp only [heap_drew,xF];omega):P:=h
variable {B b base cap g n:Nat}{S:Nat->Prop}{a c d e f v v0 v1 v10 v11 v12 v13 v2 v3 v4 v5 v6 v7 v8 v9:Value}{cs:Array Value}{fd:Bool}{l:List Value}{p q:Prop}{w:World}
abbrev qO:=Option Addr
def xC (n):0<=n:=by grind
def xM {a c:Nat}(h:a<=b)(k:b<=c):a<=c:=by grind
def xA:=@And.intro
def xB:=@List.getD_eq_getElem?_getD
def xD:=@World.block_lt_of_cell?
def xE:=@List.eq_nil_of_length_eq_zero
def xF:=@World.size_alloc
def xG:=@List.take_of_length_le
def xH:=@List.length_map
def xI:=@List.length_append
def xJ:=@Bool.eq_iff_iff
def xL:=@Int.tmod_eq_emod_of_nonneg
def xN:=@List.getElem?_eq_getElem
def xO:=@List.getElem?_eq_none
def xP:=@IntWalk.i64_left
def xQ:=@IntWalk.wrap64_in
def xR:=@decide_eq_true
def xS:=@decide_eq_false
def xT:=@List.flatMap_cons
def xU:=@List.flatMap_append
def xV:=@Int.eq_ofNat_of_zero_le
def xW:=@Array.toList_setIfInBounds
def xX:=@List.flatMap_singleton
def xY:=@Int.toNat_natCast
def xZ:=@Classical.not_not
abbrev qI (x:Int):Value:=.int .i64 x
abbrev qS (a:Option Addr)(n c:Nat):Value:=.slice a n c
abbrev qP (b:Nat):Option Addr:=some ⟨b,0,none⟩
abbrev qZ:Array Value:=#[.slice none 0 0,.int .i64 0,.int .i64 0,.int .i64 0,.int .i64 0,.int .i64 0,.slice none 0 0,.slice none 0 0,.slice none 0 0,.slice none 0 0,.int .i64 0,.int .i64 0,.slice none 0 0,.slice none 0 0,.int .i64 0]
abbrev qz:Array Value:=#[.slice none 0 0,.int .i64 0,.slice none 0 0,.int .i64 0,.int .i64 0,.slice none 0 0]
abbrev qV (a:Option Addr)(b c:Nat)(d:Option Addr)(e f:Nat)(g:Option Addr)(h i:Nat):Array Value:=#[.slice a b c,.slice d e f,.slice g h i]
abbrev qW (a b c d:Int):Array Value:=#[.int .i64 a,.int .i64 b,.int .i64 c,.int .i64 d]
abbrev qT (a b c:Int):Array Value:=#[.int .i64 a,.int .i64 b,.int .i64 c]
abbrev qM (s:ByteArray)(a:Option Addr)(b c:Nat)(d:Option Addr)(e f:Nat)(g:Option Addr)(h i:Nat)(x:Int)(j:Option Addr)(k l:Nat)(m:Option Addr)(n o:Nat)(p:Option Addr)(q r:Nat):Array Value:=#[.string s,.slice a b c,.slice d e f,.slice g h i,.int .i64 x,.slice j k l,.slice m n o,.slice p q r]
abbrev qY (w w':World):Prop:=Below w.heap.size w w'
abbrev qB (w:World)(v:Value)(e:Ending)(w':World):Prop:=e=.returned v/\Below w.heap.size w w'
abbrev qN (w:World)(b i:Nat):Option Value:=w.cell? ⟨b,i,none⟩
def Zh (p:Prop):Prop:=p
def Zh.o (h:Zh p):p:=h
def zh (h:p):Zh p:=h
abbrev qw:=World
abbrev qi:=List Int
def yB {α:Type _}{l:List α}{a b:α}:(a::l).set 0 b=b::l:=rfl
def yC {α:Type _}{a b:α}{l:List α}:(a::l).set (n+1) b=a::l.set n b:=rfl
def yA:=@List.setIfInBounds_toArray
def yD:=@List.getElem_toArray
def yE:=@List.getElem_cons_succ
def yF:=@List.getElem_cons_zero
abbrev qC (f:Nat)(a:Array Value)(w:World)(Q:Ending->World->Prop):Prop:=Calls prog f a w Q
def bal {o:Obj}:Below w.heap.size w (w.alloc o):=(Below.refl _ _).alloc (Nat.le_refl _) _
abbrev qf (n:Nat)(v:Value)(_:World):Nat:=n-(intOf v).toNat
abbrev qR (b i:Nat):Addr:=⟨b,i,none⟩
def aN {α:Sort _}(t:α):∃x,x=t:=⟨_,rfl⟩
def brf:Below b w w:=Below.refl _ _
def aO:n<=n:=by grind
def yT {a b c:World}(h:qY a b)(k:qY b c):qY a c:=h.trans$ k.mono h.size
def zb (U){P:World->Prop}(h:∀X,qY U X->P X):Zh (∀X,qY U X->P X):=h
def yG:=And.intro @yD.{0} (And.intro @yE.{0} (And.intro @yF.{0} (And.intro @yA.{0} (And.intro @yB.{0} @yC.{0}))))
abbrev qj (x:Int):Option Value:=some (.int .i64 x)
abbrev qk (a:Option Addr)(n c:Nat):Option Value:=some (.slice a n c)
abbrev qe (b i:Nat):Option Addr:=some ⟨b,i,none⟩
abbrev qh (w:World)(i:Nat):Addr:=⟨w.heap.size,i,none⟩
abbrev qr (w:World)(i:Nat):Addr:=⟨w.heap.size+1,i,none⟩
abbrev qp (w:World):Option Addr:=some ⟨w.heap.size,0,none⟩
abbrev qn (w u:World)(i:Nat):Option Value:=w.cell? ⟨u.heap.size,i,none⟩
abbrev qg (w u:World)(i:Nat):Option Value:=w.cell? ⟨u.heap.size+1,i,none⟩
def jK (h:p)(k:p->q:=by omega):q:=k h
def jL {r:Prop}(h:p)(g:q)(k:p->q->r:=by omega):r:=k h g
abbrev qm (w:World)(a:Array Value)(t:TypeId):World:=w.alloc (.cells a t)
abbrev qs (w:World):Nat:=w.heap.size
def aJ {k:IntKind}{a b:Int}(h:a=b):Ending.returned (.int k a)=.returned (.int k b):=by rw[h]
def aA {a b:Bool}(h:a=b):Ending.returned (.bool a)=.returned (.bool b):=by rw[h]
def aR (h:p):Hid p:=h
def sA (h:Hid p):p:=h
def vS (n)(h:n<=20:=by omega):(2:Int)^n<=1048576:=by
 have:(2:Nat)^n<=2^20:=Nat.pow_le_pow_right J h
 grind
def pow_pos (n):0<(2:Int)^n:=by
 have:0<(2:Nat)^n:=Nat.pow_pos J
 grind
def aQa {W i:World}(j:qY W i):(∀b o,b<W.heap.size->i.cell? ⟨b,o,none⟩=W.cell? ⟨b,o,none⟩)/\(∀b o,b<W.heap.size->i.frozen? ⟨b,o,none⟩=W.frozen? ⟨b,o,none⟩):=
 ⟨λb o h=>j.cell (p:=⟨b,o,none⟩) h,λb o h=>j.frozen (p:=⟨b,o,none⟩) h⟩
def cE (n)(t:0<=n)(h:n<=20)(w):
 qC 174 #[qI n] w λe a=>e=.returned (qI$ (2:Int)^n.toNat)/\a=w:=by
 delta qC;go_in
 go_wp2;go_loop [3,4] (λv i=>∃k:Nat,(k:Int)<=n/\i=qI k/\v=qI ((2:Int)^k)) (λ_ i=>n.toNat-(intOf i).toNat)
 .exact⟨0,J,rfl,rfl⟩
 .obtain⟨k,x,rfl,rfl⟩:=hrel;by_cases j:(k:Int)<n
  .have u:=vS k;have:=pow_pos k;have hs:Zh ((2:Int)^(k+1)=(2:Int)^k*2):=Int.pow_succ 2 k;generalize (2:Int)^k=P at *;go_wp2
   go_round
   .exact⟨k+1,J,by go_num,by rw[hs.o]⟩
   .simp[intOf];omega
  .have e:Zh (n.toNat=k):=by show n.toNat=k;omega
   go_wp2;go_ret;exact⟨aJ (by rw[e.o]),rfl⟩
def rok (b l o:Int):Bool:=
 decide (5<=l/\l<=14/\0<=o/\o<=255/\(8<=l\/o=0)/\0<=b/\b<=262144-(2:Int)^l.toNat/\b%(2:Int)^l.toNat=0)
def jY (b l o r x y w)(D:(Lit.int .i64 b).wf=true):
 qC 169 #[.agg #[qI b,qI l,qI o,.bool r,.bool x,.bool y]] w (qB w$ .bool$ rok b l o):=by
 by_cases C:l<5
 .have i:Zh (rok b l o=false):=by show _=_;unfold rok;simp;omega
  delta qC;go_in
  go_wp2;go_ret;exact⟨aA i.symm,bal⟩
 .by_cases E:14<l
  .have i:Zh (rok b l o=false):=by show _=_;unfold rok;simp;omega
   delta qC;go_in
   go_wp2;go_ret;exact⟨aA i.symm,bal⟩
  .by_cases G:o<0
   .have i:Zh (rok b l o=false):=by show _=_;unfold rok;simp;omega
    delta qC;go_in
    go_wp2;go_ret;exact⟨aA i.symm,bal⟩
   .by_cases I:255<o
    .have i:Zh (rok b l o=false):=by show _=_;unfold rok;simp;omega
     delta qC;go_in
     go_wp2;go_ret;exact⟨aA i.symm,bal⟩
    .by_cases k:l<8/\o≠0
     .obtain⟨A,j⟩:=k;have i:Zh (rok b l o=false):=by show _=_;unfold rok;simp;omega
      have:(o !=0)=true:=by simpa using j
      delta qC;go_in
      go_wp2;go_ret;exact⟨aA i.symm,bal⟩
     .have H:=vS l.toNat;have:=pow_pos l.toNat
      have i:Zh (rok b l o=decide (0<=b/\b<=262144-(2:Int)^l.toNat/\b%(2:Int)^l.toNat=0)):=by
       show _=_;unfold rok;congr 1;apply propext;constructor
       .rintro⟨_,_,_,_,_,h⟩;exact h
       .intro h;exact⟨J,J,J,J,J,h⟩
      by_cases F:l<8
      .have s:o=0:=J
       subst s
       delta qC;go_in
       go_wp2_with (go_at_call 174;refine(cE _ J J _).mono ?_;rintro e a ⟨rfl,rfl⟩)
       all_goals
        go_ret;refine⟨aA ?_,bal⟩;rw[i.o,xJ];simp;try omega
      .clear k
       delta qC;go_in
       go_wp2_with (go_at_call 174;refine(cE _ J J _).mono ?_;rintro e a ⟨rfl,rfl⟩)
       all_goals
        go_ret;refine⟨aA ?_,bal⟩;rw[i.o,xJ];simp;try omega
def oQ (b l o r x y w)(H:(Lit.int .i64 b).wf=true):
 qC 298 #[.agg #[qI b,qI l,qI o,.bool r,.bool x,.bool y]] w (qB w$ .bool$ rok b l o):=by
 by_cases G:l<5
 .have i:Zh (rok b l o=false):=by show _=_;unfold rok;simp;omega
  delta qC;go_in
  go_wp2;go_ret;exact⟨aA i.symm,bal⟩
 .by_cases I:14<l
  .have i:Zh (rok b l o=false):=by show _=_;unfold rok;simp;omega
   delta qC;go_in
   go_wp2;go_ret;exact⟨aA i.symm,bal⟩
  .by_cases t:o<0
   .have i:Zh (rok b l o=false):=by show _=_;unfold rok;simp;omega
    delta qC;go_in
    go_wp2;go_ret;exact⟨aA i.symm,bal⟩
   .by_cases u:255<o
    .have i:Zh (rok b l o=false):=by show _=_;unfold rok;simp;omega
     delta qC;go_in
     go_wp2;go_ret;exact⟨aA i.symm,bal⟩
    .by_cases k:l<8/\o≠0
     .obtain⟨F,j⟩:=k;have i:Zh (rok b l o=false):=by show _=_;unfold rok;simp;omega
      have:(o !=0)=true:=by simpa using j
      clear j
      delta qC;go_in
      go_wp2;go_ret;exact⟨aA i.symm,bal⟩
     .have M:=vS l.toNat;have:=pow_pos l.toNat
      have i:Zh (rok b l o=decide (0<=b/\b<=262144-(2:Int)^l.toNat/\b%(2:Int)^l.toNat=0)):=by
       show _=_;unfold rok;congr 1;apply propext;constructor
       .rintro⟨_,_,_,_,_,h⟩;exact h
       .intro h;exact⟨J,J,J,J,J,h⟩
      by_cases K:l<8
      .have A:o=0:=J
       subst A;clear k t u
       delta qC;go_in
       go_wp2
       all_goals
        go_ret;refine⟨aA ?_,bal⟩;rw[i.o,xJ];simp[*];try omega
      .clear k;by_cases s:o=0
       .subst s;clear t u
        delta qC;go_in
        go_wp2
        all_goals
         go_ret;refine⟨aA ?_,bal⟩;rw[i.o,xJ];simp[*];try omega
       .have E:(o !=0)=true:=by simpa using s
        clear s
        delta qC;go_in
        go_wp2
        all_goals
         go_ret;refine⟨aA ?_,bal⟩;rw[i.o,xJ];simp[*];try omega
def BS (w:qw)(a:qO)(n cap:Nat)(zs:qi):Prop:=
 zs.length=n/\n<=maxLen/\(∀z∈zs,0<=z/\z<=255)/\(n≠0->∃b off,a=some ⟨b,off,none⟩/\∀i,i<n->w.cell? ⟨b,off+i,none⟩=some (.int .u8$ zs.getD i 0))/\n<=cap
def BS.bw {w w':qw}{a:qO}{zs:qi}(h:BS w a n cap zs)(j:qY w w'):BS w' a n cap zs:=by
 obtain⟨e,f,g,k,l⟩:=h;refine⟨e,f,g,λs=>?_,l⟩;let⟨b,d,q,hc⟩:=k s;refine⟨b,d,q,λi hi=>?_⟩;have:=hc i hi;rw[j.cell (p:=⟨b,d+i,none⟩)$ xD w _ this]
 grind
def BS.range {w:qw}{a:qO}{j:qi}(h:BS w a n cap j)(i):0<=j.getD i 0/\j.getD i 0<=255:=by
 by_cases hi:i<j.length
 .have:=h.2.2.1 j[i] (List.getElem_mem hi)
  grind
 .grind
def Row8 (w:qw)(g:Nat)(zs:qi):Prop:=w.heap[g]?=some (.cells (zs.map$ Value.int .u8).toArray 5 (0,0))
def Row8.cell {w:qw}{j:qi}(h:Row8 w g j)(i)(hi:i<j.length):w.cell? ⟨g,i,none⟩=some (.int .u8$ j.getD i 0):=by
 rw[cell_of_row w g i _ _ _ h];simp[xB,hi]
def Row8.frozen {w:qw}{j:qi}(h:Row8 w g j)(i):w.frozen? ⟨g,i,none⟩=false:=frozen_of_row w g i _ _ h
def Row8.set {w:qw}{j:qi}(h:Row8 w g j)(i z):Row8 (w.setCell ⟨g,i,none⟩$ .int .u8 z) g (j.set i z):=by
 unfold Row8 at *;rw[heap_setCell_same w g i _ _ _ h];simp[List.map_set]
def Row8.lt {w:qw}{i:qi}(h:Row8 w g i):g<w.heap.size:=by
 unfold Row8 at h
 grind
def Row8.bw {w w':qw}{zs:qi}(h:Row8 w g zs)(i:qY w w'):Row8 w' g zs:=by
 have:=i.block g h.lt;unfold Row8 at *
 grind
def Row8.bs {w:qw}{zs:qi}(h:Row8 w g zs)(j:zs.length<=maxLen)(hz:∀z∈zs,0<=z/\z<=255)(n cap)(hn:zs.length=n)(hc:n<=cap:=by exact aO):BS w (qP g) n cap zs:=by
 subst hn;exact⟨rfl,j,hz,λ_=>⟨g,0,rfl,λi hi=>by rw[Nat.zero_add];exact h.cell i hi⟩,hc⟩
def Blk (w:qw)(g:Nat)(cs:Array Value)(t:TypeId):Prop:=w.heap[g]?=some (.cells cs t (0,0))
def Blk.cell {w:qw}{t:TypeId}(h:Blk w g cs t)(i):w.cell? ⟨g,i,none⟩=cs[i]?:=cell_of_row w g i _ _ _ h
def Blk.frozen {w:qw}{t:TypeId}(h:Blk w g cs t)(i):w.frozen? ⟨g,i,none⟩=false:=frozen_of_row w g i _ _ h
def Blk.lt {w:qw}{t:TypeId}(h:Blk w g cs t):g<w.heap.size:=by
 unfold Blk at h
 grind
def Blk.bw {w w':qw}{t:TypeId}(h:Blk w g cs t)(i:qY w w'):Blk w' g cs t:=by
 have:=i.block g h.lt;unfold Blk at *
 grind
def Blk.new (w:qw)(cs t):Blk (w.alloc$ .cells cs t) w.heap.size cs t:=heap_alloc_new w _
def nwb (w X T):∃U,U=w.alloc (.cells X T)/\Below w.heap.size w U/\Blk U w.heap.size X T:=⟨_,rfl,(Below.refl _ _).alloc (Nat.le_refl _) _,Blk.new _ _ _⟩
def Blk.z4 {w:qw}{t:TypeId}(h:Blk w b #[v0,v1,v2,v3] t):w.cell? ⟨b,0,none⟩=some v0/\w.cell? ⟨b,1,none⟩=some v1/\w.cell? ⟨b,2,none⟩=some v2/\w.cell? ⟨b,3,none⟩=some v3:=⟨h.cell 0,h.cell 1,h.cell 2,h.cell 3⟩
def Blk.z6 {w:qw}{t:TypeId}(h:Blk w b #[v0,v1,v2,v3,v4,v5] t):w.cell? ⟨b,0,none⟩=some v0/\w.cell? ⟨b,1,none⟩=some v1/\w.cell? ⟨b,2,none⟩=some v2/\w.cell? ⟨b,3,none⟩=some v3/\w.cell? ⟨b,4,none⟩=some v4/\w.cell? ⟨b,5,none⟩=some v5:=⟨h.cell 0,h.cell 1,h.cell 2,h.cell 3,h.cell 4,h.cell 5⟩
def Blk.alloc {w:qw}{t:TypeId}(h:Blk w g cs t)(o):Blk (w.alloc o) g cs t:=by
 have i:=h.lt;unfold Blk at *;rw[Below.heap_alloc _ _ _ i];exact h
def Blk.set {w:qw}{t:TypeId}(h:Blk w g cs t)(i v):Blk (w.setCell ⟨g,i,none⟩ v) g (cs.setIfInBounds i v) t:=heap_setCell_same w g i _ _ _ h
def Blk.e0 {t:TypeId}(h:Blk w b (v0::l).toArray t):w.cell? ⟨b,0,none⟩=some v0:=by rw[h.cell];simp
def Blk.e1 {t:TypeId}(h:Blk w b (v0::v1::l).toArray t):w.cell? ⟨b,1,none⟩=some v1:=by rw[h.cell];simp
def Blk.e2 {t:TypeId}(h:Blk w b (v0::v1::v2::l).toArray t):w.cell? ⟨b,2,none⟩=some v2:=by rw[h.cell];simp
def Blk.e3 {t:TypeId}(h:Blk w b (v0::v1::v2::v3::l).toArray t):w.cell? ⟨b,3,none⟩=some v3:=by rw[h.cell];simp
def Blk.e4 {t:TypeId}(h:Blk w b (v0::v1::v2::v3::v4::l).toArray t):w.cell? ⟨b,4,none⟩=some v4:=by rw[h.cell];simp
def Blk.e5 {t:TypeId}(h:Blk w b (v0::v1::v2::v3::v4::v5::l).toArray t):w.cell? ⟨b,5,none⟩=some v5:=by rw[h.cell];simp
def Blk.e6 {t:TypeId}(h:Blk w b (v0::v1::v2::v3::v4::v5::v6::l).toArray t):w.cell? ⟨b,6,none⟩=some v6:=by rw[h.cell];simp
def Blk.e7 {t:TypeId}(h:Blk w b (v0::v1::v2::v3::v4::v5::v6::v7::l).toArray t):w.cell? ⟨b,7,none⟩=some v7:=by rw[h.cell];simp
def Blk.e8 {t:TypeId}(h:Blk w b (v0::v1::v2::v3::v4::v5::v6::v7::v8::l).toArray t):w.cell? ⟨b,8,none⟩=some v8:=by rw[h.cell];simp
def Blk.e9 {t:TypeId}(h:Blk w b (v0::v1::v2::v3::v4::v5::v6::v7::v8::v9::l).toArray t):w.cell? ⟨b,9,none⟩=some v9:=by rw[h.cell];simp
def Blk.e10 {t:TypeId}(h:Blk w b (v0::v1::v2::v3::v4::v5::v6::v7::v8::v9::v10::l).toArray t):w.cell? ⟨b,10,none⟩=some v10:=by rw[h.cell];simp
def Blk.e11 {t:TypeId}(h:Blk w b (v0::v1::v2::v3::v4::v5::v6::v7::v8::v9::v10::v11::l).toArray t):w.cell? ⟨b,11,none⟩=some v11:=by rw[h.cell];simp
def Blk.e12 {t:TypeId}(h:Blk w b (v0::v1::v2::v3::v4::v5::v6::v7::v8::v9::v10::v11::v12::l).toArray t):w.cell? ⟨b,12,none⟩=some v12:=by rw[h.cell];simp
def Blk.e13 {t:TypeId}(h:Blk w b (v0::v1::v2::v3::v4::v5::v6::v7::v8::v9::v10::v11::v12::v13::l).toArray t):w.cell? ⟨b,13,none⟩=some v13:=by rw[h.cell];simp
def Blk.e14 {t:TypeId}{v14:Value}(h:Blk w b (v0::v1::v2::v3::v4::v5::v6::v7::v8::v9::v10::v11::v12::v13::v14::l).toArray t):w.cell? ⟨b,14,none⟩=some v14:=by rw[h.cell];simp
def Blk.s0 {t:TypeId}(h:Blk w b (v0::l).toArray t)(x):Blk (w.setCell ⟨b,0,none⟩ x) b (x::l).toArray t:=by have:=h.set 0 x;simpa using this
def Blk.s1 {t:TypeId}(h:Blk w b (v0::v1::l).toArray t)(x):Blk (w.setCell ⟨b,1,none⟩ x) b (v0::x::l).toArray t:=by have:=h.set 1 x;simpa using this
def Blk.s2 {t:TypeId}(h:Blk w b (v0::v1::v2::l).toArray t)(x):Blk (w.setCell ⟨b,2,none⟩ x) b (v0::v1::x::l).toArray t:=by have:=h.set 2 x;simpa using this
def Blk.s3 {t:TypeId}(h:Blk w b (v0::v1::v2::v3::l).toArray t)(x):Blk (w.setCell ⟨b,3,none⟩ x) b (v0::v1::v2::x::l).toArray t:=by have:=h.set 3 x;simpa using this
def Blk.other {w:qw}{t:TypeId}(h:Blk w g cs t)(a v)(i:g≠a.block):Blk (w.setCell a v) g cs t:=by
 unfold Blk at *;rw[heap_setCell_other _ _ _ _ i];exact h
def Row8.other {w:qw}{zs:qi}(h:Row8 w g zs)(a v)(i:g≠a.block):Row8 (w.setCell a v) g zs:=Blk.other h a v i
def aK (w:qw)(a v):(w.setCell a v).heap.size=w.heap.size:=by simp[World.setCell]
def aW {w w':qw}(h:Below w.drew.heap.size w.drew w'):qY w w':=⟨h.os,h.tape,h.output,h.size,h.block⟩
def aP (zs:qi)(k:Nat):List Int:=(List.range zs.length).map λi=>if i<k then zs.getD i 0 else 0
def qF (a k):(aP a k).length=a.length:=by simp[aP]
def lB (a):aP a 0=List.replicate a.length 0:=by
 apply List.ext_getElem
 .simp[aP]
 .intro i k j;simp[aP]
def qG (zs):aP zs zs.length=zs:=by
 apply List.ext_getElem
 .simp[aP]
 .intro i k j;simp[aP,j]
def qE (a k)(h:k<a.length):(aP a k).set k (a.getD k 0)=aP a (k+1):=by
 apply List.ext_getElem
 .simp[aP]
 .intro i s j;simp only[aP,List.getElem_set,List.getElem_map,List.getElem_range]
  grind
def uD (x:Nat):Nat:=x%2+x/2%2+x/4%2+x/8%2+x/16%2+x/32%2+x/64%2+x/128%2
set_option maxRecDepth 100000 in
def wD (x:Nat)(w)(i:x<256):
 qC 321 #[.int .u8 x] w λe w'=>e=.returned (qI$ uD x)/\w=w':=by
 delta qC;go_in
 go_wp2;go_ret;refine⟨aJ ?_,rfl⟩
 revert x
 decide +kernel
def aMr:∀o:Fin 256,(255 ^^^ (255-o.val))=o.val:=by decide +kernel
def aPy (q:Nat)(h:q<256):bits BinOp.xor IntKind.u8 IntKind.u8.max (255-(q:Int))=(q:Int):=by
 have i:IntKind.u8.max=255:=Ja
 rw[i,u8_xor 255 (255-(q:Int)) J J J J];have:=aMr ⟨q,h⟩
 grind
def aQ7:∀q,q<256->uD q<=8:=by decide +kernel
def aGx (b l)(q:Nat)(r x y w)(h:q<256):
 qC 314 #[.agg #[qI b,qI l,qI$ 255-(q:Int),.bool r,.bool x,.bool y]] w (qB w$ .int .u8 q):=by
 have hx:=zh$ aPy q h;have:0<=255-(q:Int):=J
 have:255-(q:Int)<=255:=J
 generalize 255-(q:Int)=o at *
 delta qC;go_in
 go_wp2;go_ret;exact⟨aJ hx,bal⟩
def Blk.six' {w:qw}{b:Value}{t:TypeId}(h:Blk w g #[a,b,c,d,e,f] t):
 w.cell? (qR g 0)=some a/\w.cell? (qR g 1)=some b/\w.cell? (qR g 2)=some c/\w.cell? (qR g 3)=some d/\w.cell? (qR g 4)=some e/\w.cell? (qR g 5)=some f/\∀i,w.frozen? (qR g i)=false:=
 ⟨by rw[h.cell];rfl,by rw[h.cell];rfl,by rw[h.cell];rfl,by rw[h.cell];rfl,by rw[h.cell];rfl,by rw[h.cell];rfl,λi=>h.frozen i⟩
def rP {n:Int}(i:-9223372036854775808<=n:=by omega)(j:n<=9223372036854775807:=by omega):IntKind.i64.wrap n=n:=by
 simp only[IntKind.wrap,IntKind.bits,IntKind.signed]
 grind
def cnt (l:Int)(q:Nat):Int:=(uD q:Int)*(2:Int)^(l-3).toNat
def fW (b l)(q:Nat)(r x y w)(h:q<256)(I:5<=l)(D:l<=14):
 qC 313 #[.agg #[qI b,qI l,qI$ 255-(q:Int),.bool r,.bool x,.bool y]] w (qB w$ qI$ cnt l q):=by
 have:=aQ7 q h;have:=vS (l-3).toNat;have:=pow_pos (l-3).toNat
 have j:(uD q:Int)*(2:Int)^(l-3).toNat<=8*1048576:=by
  have:(uD q:Int)*(2:Int)^(l-3).toNat<=8*(2:Int)^(l-3).toNat:=Int.mul_le_mul_of_nonneg_right J J;omega
 have i:0<=(uD q:Int)*(2:Int)^(l-3).toNat:=Int.mul_nonneg J J;have:IntKind.i64.wrap (l-3)=l-3:=rP;have C:Zh (cnt l q=(uD q:Int)*(2:Int)^(l-3).toNat):=rfl;have kb:=Blk.new w #[qI b,qI l,qI$ 255-(q:Int),.bool r,.bool x,.bool y] 231;have s:qY w (w.alloc$ .cells #[qI b,qI l,qI$ 255-(q:Int),.bool r,.bool x,.bool y] 231):=bal;have t:=zh$ xA i j;clear j i;have E:=zh$ wD q
 delta qC;go_in
 go_wp2
 go_region_held3 (λa=>qn a w 0=qj b/\qn a w 1=qj l/\qn a w 2=qj (255-(q:Int))/\qn a w 3=some (.bool r)/\qn a w 4=some (.bool x)/\qn a w 5=some (.bool y)) (go_keep)
  (first
    | (go_at_call 314;refine(aGx b l q r x y _ h).mono ?_;rintro e K ⟨rfl,k⟩;obtain⟨d,f,g,p,u,A,B⟩:=(Blk.bw (by exact kb) k).six')
    | (go_at_call 321;refine(E _ h).mono ?_;rintro e G ⟨rfl,rfl⟩))
 go_wp2;go_ret;refine⟨aJ ?_,s.drew.trans$ k.mono Jb⟩;rw[C.o];exact rP (jK t.o)$ jK t.o
def aWs:∀(q i:Nat),q<256->i<8->(q ||| 2^i)<256:=by
 intro q i j hi;exact Nat.or_lt_two_pow (n:=8) j$ Nat.pow_lt_pow_right J hi
def aMy (q i:Nat)(w)(h:q<256)(hi:i<8):
 qC 323 #[.int .u8 q,qI i] w λe w'=>e=.returned (.int .u8 ((q ||| 2^i:Nat):Int))/\w=w':=by
 delta qC;go_in
 go_wp2;go_ret;refine⟨aJ ?_,rfl⟩;have j:(2:Nat)^i<256:=Nat.pow_lt_pow_right J hi
 have e:(2:Int)^i%256=((2^i:Nat):Int):=by
  have:((2^i:Nat):Int)=(2:Int)^i:=Jb
  have:=pow_pos i;omega
 rw[e];exact u8_or_nat q (2^i) h j
def cm (l:Int)(q:Nat)(l':Int)(q':Nat):Bool:=decide$ cnt l' q'<cnt l q\/(cnt l q=cnt l' q'/\l<l')
def zF (b l g d)(q k:Nat)(w)(h:q<256)(M:k<256)(K:5<=l)(A:l<=14)(y:5<=d)(u:d<=14):
 qC 319 #[.agg #[qI b,qI l,qI$ 255-(q:Int),.bool false,.bool false,.bool false],.agg #[qI g,qI d,qI$ 255-(k:Int),.bool false,.bool false,.bool false]] w (qB w$ .bool$ cm l q d k):=by
 have p:=(Blk.new w #[qI b,qI l,qI$ 255-(q:Int),.bool false,.bool false,.bool false] 231).alloc$ .cells #[qI g,qI d,qI$ 255-(k:Int),.bool false,.bool false,.bool false] 231;have kb:=Blk.new (w.alloc$ .cells #[qI b,qI l,qI$ 255-(q:Int),.bool false,.bool false,.bool false] 231) #[qI g,qI d,qI$ 255-(k:Int),.bool false,.bool false,.bool false] 231;simp only[xF]at kb;have x:qY w ((w.alloc$ .cells #[qI b,qI l,qI$ 255-(q:Int),.bool false,.bool false,.bool false] 231).alloc$ .cells #[qI g,qI d,qI$ 255-(k:Int),.bool false,.bool false,.bool false] 231):=bal.alloc Jb _;have H:=zh$ fW b l q false false false;have G:=zh$ fW g d k false false false;let⟨o,ho⟩:=aN$ 255-(q:Int);let⟨o',a0⟩:=aN$ 255-(k:Int);have I:Zh (cm l q d k=decide (cnt d k<cnt l q\/(cnt l q=cnt d k/\l<d))):=rfl;rw[<-ho]at H p kb x⊢;rw[<-a0]at G p kb x⊢;clear ho a0;generalize cnt l q=f at *;generalize cnt d k=c2 at *
 delta qC;go_in
 go_wp2
 go_region_held3 (λa=>qn a w 0=some (qI b)/\qn a w 1=some (qI l)/\qn a w 2=some (qI o)/\qn a w 3=some (.bool false)/\qn a w 4=some (.bool false)/\qn a w 5=some (.bool false)/\qg a w 0=some (qI g)/\qg a w 1=some (qI d)/\qg a w 2=some (qI o')/\qg a w 3=some (.bool false)/\qg a w 4=some (.bool false)/\qg a w 5=some (.bool false)) (go_keep)
  (first
    | (go_at_call_of 313 (qI l);refine(H _ h K A).mono ?_;rintro e N ⟨rfl,j⟩;replace j:=aW j;obtain⟨X,Y,Z,q4,q5,q6,q7⟩:=(p.bw j).six';obtain⟨B,Q,R,S,U,V,W⟩:=(kb.bw j).six')
    | (go_at_call_of 313 (qI d);refine(G _ M y u).mono ?_;rintro e P ⟨rfl,i⟩;replace i:=yT j i;obtain⟨X,Y,Z,q4,q5,q6,q7⟩:=(p.bw i).six';obtain⟨B,Q,R,S,U,V,W⟩:=(kb.bw i).six'))
 have s:=p.bw i;have t:=kb.bw i;have C:=yT x i;by_cases hc:f=c2
 .subst hc;have D:(f !=f)=false:=Jb
  have E:=zh$ show decide (f<f\/(f=f/\l<d))=decide (l<d)from Jb;let⟨X,Y,Z,q4,q5,q6,q7⟩:=s.six';let⟨B,Q,R,S,U,V,W⟩:=t.six';go_wp2;go_ret;exact⟨aA (by rw[I.o,E.o]),C⟩
 .have D:(f !=c2)=true:=by simpa using hc
  have E:=zh (show decide (c2<f\/(f=c2/\l<d))=decide (c2<f)by simp[hc]);let⟨X,Y,Z,q4,q5,q6,q7⟩:=s.six';let⟨B,Q,R,S,U,V,W⟩:=t.six';go_wp2
  go_region_held3 (λa=>qn a w 0=some (qI b)/\qn a w 1=some (qI l)/\qn a w 2=some (qI o)/\qn a w 3=some (.bool false)/\qn a w 4=some (.bool false)/\qn a w 5=some (.bool false)/\qg a w 0=some (qI g)/\qg a w 1=some (qI d)/\qg a w 2=some (qI o')/\qg a w 3=some (.bool false)/\qg a w 4=some (.bool false)/\qg a w 5=some (.bool false)) (go_keep)
   (first
     | (go_at_call_of 313 (qI l);refine(H _ h K A).mono ?_;rintro e O ⟨rfl,j⟩;replace j:=aW j;obtain⟨X,Y,Z,q4,q5,q6,q7⟩:=(s.bw j).six';obtain⟨B,Q,R,S,U,V,W⟩:=(t.bw j).six')
     | (go_at_call_of 313 (qI d);refine(G _ M y u).mono ?_;rintro e w4 ⟨rfl,i⟩;replace i:=yT j i;obtain⟨X,Y,Z,q4,q5,q6,q7⟩:=(s.bw i).six';obtain⟨B,Q,R,S,U,V,W⟩:=(t.bw i).six'))
  have F:=yT C i;go_wp2;go_ret;exact⟨aA (by rw[I.o,E.o]),F⟩
structure Turn (S:Nat->Prop)(w w':qw):Prop where
 os:w'.os=w.os
 tape:w'.tape=w.tape
 output:w'.output=w.output
 size:w.heap.size<=w'.heap.size
 block:∀k,k<w.heap.size->¬S k->w'.heap[k]?=w.heap[k]?
def Turn.refl (S:Nat->Prop)(w):Turn S w w:=⟨rfl,rfl,rfl,aO,λ_ _ _=>rfl⟩
def Turn.trans {a b c:qw}(h:Turn S a b)(k:Turn S b c):Turn S a c:=
 ⟨k.os.trans h.os,k.tape.trans h.tape,k.output.trans h.output,xM h.size k.size,λj i hs=>(k.block j (Nat.lt_of_lt_of_le i h.size) hs).trans$ h.block j i hs⟩
def Turn.mono {S':Nat->Prop}{w w':qw}(h:Turn S w w')(hs:∀k,S k->S' k):Turn S' w w':=⟨h.os,h.tape,h.output,h.size,λk i a=>h.block k i λe=>a$ hs k e⟩
def aI {w w':qw}(h:qY w w'):Turn S w w':=⟨h.os,h.tape,h.output,h.size,λk i _=>h.block k i⟩
def cN (w o):Turn S w (w.alloc o):=aI bal
def aG {a w w':qw}(h:Below B a w)(i:Turn S w w')(hS:∀k,S k->B<=k)(s:B<=w.heap.size):Below B a w':=
 ⟨i.os.trans h.os,i.tape.trans h.tape,i.output.trans h.output,xM h.size i.size,λk j=>(i.block k J (λe=>by grind)).trans$ h.block k j⟩
def aD {w w':qw}{k:Nat}{t:TypeId}(i:Turn S w w')(h:Blk w k cs t)(j:¬S k):Blk w' k cs t:=by
 have:=i.block k h.lt j;unfold Blk at *;rw[this];exact h
def cI (b a i):(Addr.add (qR b a) i)=(qR b$ a+i):=by
 simp only[Addr.add]
 grind
def Bst (w:qw)(B:Nat)(fd:Bool)(b l o:Int):Prop:=
 Blk w B #[.func (Fn.func 319) #[] #[],.bool fd,qI b,qI l,qI o,.bool false,.bool false,.bool false] 323
def Bst.cells {w:qw}{b l o:Int}(h:Bst w B fd b l o):
 w.cell? (qR B 0)=some (.func (Fn.func 319) #[] #[])/\w.cell? (qR B 1)=some (.bool fd)/\w.cell? (qR B 2)=some (qI b)/\w.cell? (qR B 3)=some (qI l)/\w.cell? (qR B 4)=some (qI o)/\w.cell? (qR B 5)=some (.bool false)/\w.cell? (qR B 6)=some (.bool false)/\w.cell? (qR B 7)=some (.bool false)/\∀i,w.frozen? (qR B i)=false:=
 ⟨by rw[Blk.cell h];rfl,by rw[Blk.cell h];rfl,by rw[Blk.cell h];rfl,by rw[Blk.cell h];rfl,by rw[Blk.cell h];rfl,by rw[Blk.cell h];rfl,by rw[Blk.cell h];rfl,by rw[Blk.cell h];rfl,λi=>Blk.frozen h i⟩
def aK5 {a W:qw}(h:Turn S a W)(n):Turn S a (W.drewN n):=⟨h.os,h.tape,h.output,h.size,h.block⟩
def aM6 (W:qw)(B:Nat)(b l o:Int):World:=
 ((((((W.setCell (qR B 1)$ .bool true).setCell (qR B 2)$ qI b).setCell (qR B 3)$ qI l).setCell (qR B 4)$ qI o).setCell (qR B 5)$ .bool false).setCell (qR B 6)$ .bool false).setCell (qR B 7) (.bool false)
def aBk {W:qw}{i k j:Int}(h:Bst W B fd i k j)(b l o):Bst (aM6 W B b l o) B true b l o:=by
 have:=((((((Blk.set h 1$ .bool true).set 2$ qI b).set 3$ qI l).set 4$ qI o).set 5$ .bool false).set 6$ .bool false).set 7$ .bool false;unfold Bst aM6;simpa using this
def vI (W B b l o):Turn (λj=>j=B) W (aM6 W B b l o):=by
 have T:∀(X:qw)(i:Nat)(v:Value),Turn (λj=>j=B) X$ X.setCell (qR B i) v:=λX i v=>⟨rfl,rfl,rfl,by rw[aK];exact aO,λj k a=>heap_setCell_other _ _ _ _ a⟩;exact((((((T _ _ _).trans$ T _ _ _).trans$ T _ _ _).trans$ T _ _ _).trans$ T _ _ _).trans$ T _ _ _).trans (T _ _ _)
def aLv (B b l o a d f w)(h:Bst w B false a d f):
 qC 324 #[.pointer$ qP B,.agg #[qI b,qI l,qI o,.bool false,.bool false,.bool false]] w λe w'=>e=.returned (.tuple #[])/\Bst w' B true b l o/\Turn (λj=>j=B) w w':=by
 have:=Blk.lt h;have:=h.cells;have k:Zh (Bst (w.alloc$ .cells #[qI b,qI l,qI o,.bool false,.bool false,.bool false] 231) B false a d f):=Blk.alloc h _;have s:=zh$ cN (S:=λj=>j=B) w$ .cells #[qI b,qI l,qI o,.bool false,.bool false,.bool false] 231
 delta qC;go_in
 go_wp2
 go_quiet (fail)
 go_wp2
 go_end0
 exact⟨rfl,aBk (W:=(w.alloc$ .cells #[qI b,qI l,qI o,.bool false,.bool false,.bool false] 231).drewN _) k b l o,(aK5 s _).trans$ vI _ B b l o⟩
def aV7 (w:qw)(B:Nat)(t:Bool)(b l o b' l' o':Int):Prop:=Bst w B true (if t then b else b') (if t then l else l')$ if t then o else o'
def aLw (B b l d a)(q k:Nat)(w)(h:Bst w B true d a (255-(k:Int)))(I:q<256)(C:k<256)(K:5<=l)(D:l<=14)(A:5<=a)(x:a<=14):
 qC 324 #[.pointer$ qP B,.agg #[qI b,qI l,qI$ 255-(q:Int),.bool false,.bool false,.bool false]] w λe w'=>e=.returned (.tuple #[])/\aV7 w' B (cm l q a k) b l (255-(q:Int)) d a (255-(k:Int))/\Turn (λj=>j=B) w w':=by
 have:=Blk.lt h;have y:=zh$ zF b l d a q k;have kb:=Blk.new w #[qI b,qI l,qI$ 255-(q:Int),.bool false,.bool false,.bool false] 231;have s:Bst (w.alloc$ .cells #[qI b,qI l,qI$ 255-(q:Int),.bool false,.bool false,.bool false] 231) B true d a (255-(k:Int)):=Blk.alloc h _;have G:=zh$ cN (S:=λj=>j=B) w$ .cells #[qI b,qI l,qI$ 255-(q:Int),.bool false,.bool false,.bool false] 231;let⟨o,f⟩:=aN$ 255-(q:Int);let⟨o',g⟩:=aN$ 255-(k:Int);rw[<-f]at y kb s G⊢;rw[<-g]at y s⊢;clear f g h;let⟨p,H,M,N,O,P,Q,R,U⟩:=s.cells;generalize cm l q a k=t at *
 delta qC;go_in
 go_wp2
 go_region_held3 (λw'=>qn w' w 0=qj b/\qn w' w 1=qj l/\qn w' w 2=qj o/\qn w' w 3=some (.bool false)/\qn w' w 4=some (.bool false)/\qn w' w 5=some (.bool false)/\qN w' B 0=some (.func (Fn.func 319) #[] #[])/\qN w' B 1=some (.bool true)/\qN w' B 2=qj d/\qN w' B 3=qj a/\qN w' B 4=qj o'/\qN w' B 5=some (.bool false)/\qN w' B 6=some (.bool false)/\qN w' B 7=some (.bool false)) (go_keep)
  (first
    | (go_at_call 319;refine(y _ I C K D A x).mono ?_;rintro e F ⟨rfl,i⟩;replace i:=aW i;obtain⟨V,W,X,Y,Z,p6,p7⟩:=(kb.bw i).six';obtain⟨p,H,M,N,O,P,Q,R,U⟩:=Bst.cells$ show Bst F B true d a o' from Blk.bw s i))
 have u:Bst F B true d a o':=Blk.bw s i;have E:=G.trans$ aI (S:=λj=>j=B) i;cases t
 .go_wp2
  go_end0
  exact⟨rfl,u,E⟩
 .go_wp2
  go_end0
  exact⟨rfl,aBk u b l o,E.trans$ vI _ B b l o⟩
def bS (i0 j:Nat):Nat:=2^(i0+j)-2^i0
def aBp (a):bS a 0=0:=by simp[bS]
def aLh:∀i,i<8->∀j,j<8->i+j<8->(bS i j ||| 2^(i+j))=bS i (j+1):=by decide +kernel
def nM:∀i,i<8->∀j,j<9->i+j<=8->bS i j<256:=by decide +kernel
def aNs:∀i,i<8->∀j,j<9->i+j<=8->uD (bS i j)=j:=by decide +kernel
def aLi:∀i,i<8->∀j,j<9->i+j<=8->(bS i j=255 ↔ j=8):=by decide +kernel
abbrev CSt:=Option (Int×Int×Nat)
def oX:CSt->Int
 | none=>0
 | some (b,l,q)=>cnt l q
def aUy (s:CSt)(L:Int):Prop:=∀b l q,s=some (b,l,q)->5<=l/\l<L/\q<256/\0<cnt l q
def jW (w:qw)(B:Nat):CSt->Prop
 | none=>Bst w B false 0 0 0
 | some (b,l,q)=>Bst w B true b l$ 255-(q:Int)
def keep (s:CSt)(b L:Int)(q:Nat):CSt:=if oX s<cnt L q then some (b,L,q) else s
def nZ (l P)(i:(2:Int)^(l-3).toNat=P)(a j)(k:a<8)(h:a+j<=8):cnt l (bS a j)=j*P:=by
 unfold cnt;rw[i,aNs a k j J h]
def aHy (B b l)(q:Nat)(w)(h:jW w B none):
 qC 324 #[.pointer$ qP B,.agg #[qI b,qI l,qI$ 255-(q:Int),.bool false,.bool false,.bool false]] w λe w'=>e=.returned (.tuple #[])/\jW w' B (some (b,l,q))/\Turn (λj=>j=B) w w':=
 aLv B b l (255-(q:Int)) 0 0 0 w h
def wE (B b l d a)(q i:Nat)(w)(h:jW w B (some (d,a,i)))(y:q<256)(t:i<256)(A:5<=l)(u:l<=14)(s:5<=a)(k:a<=14):
 qC 324 #[.pointer$ qP B,.agg #[qI b,qI l,qI$ 255-(q:Int),.bool false,.bool false,.bool false]] w λe w'=>e=.returned (.tuple #[])/\jW w' B (if cm l q a i then some (b,l,q) else some (d,a,i))/\Turn (λj=>j=B) w w':=
 (aLw B b l d a q i w h y t A u s k).mono λe w' x=>⟨x.1,by
   have:=x.2.1;cases hc:cm l q a i
   .rw[hc]at this;exact this
   .rw[hc]at this;exact this,x.2.2⟩
def stJ (s:CSt)(b l:Int)(i0 j:Nat):CSt:=if 8<=l\/j=8 then keep s b l (bS i0 j) else s
def aNe (s b l P)(i:(2:Int)^(l-3).toNat=P)(a)(j:a<8)(hs:0<=oX s):stJ s b l a 0=s:=by
 unfold stJ keep;rw[nZ l P i a 0 j J]
 grind
def aHx (B s b l P)(I:(2:Int)^(l-3).toNat=P)(O:0<P)(a j w)(A:a<8)(Q:a+j<8)(G:5<=l)(k:l<=14)(hs:aUy s l)(x:0<=oX s)(M:8<=l\/j+1=8)(h:jW w B (stJ s b l a j)):
 qC 324 #[.pointer$ qP B,.agg #[qI b,qI l,qI$ 255-(bS a (j+1):Int),.bool false,.bool false,.bool false]] w λe w'=>e=.returned (.tuple #[])/\jW w' B (stJ s b l a$ j+1)/\Turn (λj=>j=B) w w':=by
 have u:=nM a A (j+1) J J;have t:=nZ l P I a (j+1) A J;have F:=nZ l P I a j A J;have i:((j+1:Nat):Int)*P=(j:Int)*P+P:=by grind
 have:0<=(j:Int)*P:=Int.mul_nonneg J J;have e1:stJ s b l a (j+1)=keep s b l (bS a$ j+1):=by unfold stJ;rw[if_pos M]
 rw[e1];by_cases C:8<=l/\oX s<cnt l (bS a j)
 .have e0:stJ s b l a j=some (b,l,bS a j):=by unfold stJ keep;rw[if_pos (Or.inl C.1),if_pos C.2]
  rw[e0]at h;refine(wE B b l b l (bS a$ j+1) (bS a j) w h u (nM a A j J J) G k G k).mono λe w' H=>?_;have y:cm l (bS a$ j+1) l (bS a j)=true:=by unfold cm;rw[t,F,i];simp;omega
  have D:keep s b l (bS a$ j+1)=some (b,l,bS a$ j+1):=by unfold keep;rw[if_pos (by grind)]
  grind
 .have e0:stJ s b l a j=s:=by
   unfold stJ;by_cases E:8<=l
   .rw[if_pos (Or.inl E)];unfold keep
    grind
   .grind
  rw[e0]at h
  match s,h,hs,x,C with
  | none,h,_,_,_=>
    have D:keep none b l (bS a$ j+1)=some (b,l,bS a$ j+1):=by unfold keep;rw[if_pos (by rw[t,i];simp[oX];omega)]
    rw[D];exact aHy B b l (bS a$ j+1) w h
  | some (b',l',q'),h,hs,x,C=>
    let⟨d,g,f,p⟩:=hs b' l' q' rfl;refine(wE B b l b' l' (bS a$ j+1) q' w h u f G k d J).mono λe w' H=>?_
    have y:cm l (bS a$ j+1) l' q'=decide (cnt l' q'<cnt l (bS a$ j+1)):=by
     unfold cm
     grind
    rw[y]at H;by_cases K:cnt l' q'<cnt l (bS a$ j+1)
    .have D:keep (some (b',l',q')) b l (bS a$ j+1)=some (b,l,bS a$ j+1):=by
      show(if cnt l' q'<cnt l (bS a$ j+1) then some (b,l,bS a$ j+1) else some (b',l',q'))=_
      grind
     grind
    .have D:keep (some (b',l',q')) b l (bS a$ j+1)=some (b',l',q'):=by
      show(if cnt l' q'<cnt l (bS a$ j+1) then some (b,l,bS a$ j+1) else some (b',l',q'))=_
      grind
     grind
def yJ {w w':qw}{s:CSt}(t:Turn S w w')(h:jW w B s)(i:¬S B):jW w' B s:=by
 match s,h with
 | none,h=>exact aD t h i
 | some (b,l,q),h=>exact aD t h i
def mK (a l N:Int)(t:5<=l)(j:l<=14)(i:(2:Int)^l.toNat=N)(s:0<=a:=by omega)(k:a<262144:=by omega):0<=a-a%N/\a-a%N<=262144-N/\(a-a%N)%N=0/\0<=a%N/\a%N<N:=by
 have:l=5\/l=6\/l=7\/l=8\/l=9\/l=10\/l=11\/l=12\/l=13\/l=14:=J
 rcases this with rfl|rfl|rfl|rfl|rfl|rfl|rfl|rfl|rfl|rfl<;>(subst i;simp;omega)
def aBt (l:Int)(i:5<=l):(2:Int)^l.toNat=8*(2:Int)^(l-3).toNat:=by
 have:l.toNat=(l-3).toNat+3:=J
 grind
def aFo (l:Int)(j:5<=l)(i:l<=14):4<=(2:Int)^(l-3).toNat/\(2:Int)^(l-3).toNat<=2048:=by
 have:l=5\/l=6\/l=7\/l=8\/l=9\/l=10\/l=11\/l=12\/l=13\/l=14:=J
 rcases this with rfl|rfl|rfl|rfl|rfl|rfl|rfl|rfl|rfl|rfl<;>simp
def aRr (q:Nat)(h:q<256):bits BinOp.xor IntKind.u8 IntKind.u8.max (q:Int)=255-(q:Int):=by
 have:=aPy (255-q) J
 grind
def aK1 (s:CSt)(a en l P b:Int)(i0:Nat)(s':CSt):Prop:=
 (a%P≠0/\s'=s) \/
 (a%P=0/\∃j:Nat,i0+j<=8/\(b+((i0+j:Nat):Int)*P<=en\/j=0)/\(i0+j=8\/en<b+(((i0+j:Nat):Int)+1)*P)/\s'=stJ s b l i0 j)
def aTh {a w w':qw}(h:Turn S a w)(i:qY w w'):Turn S a w':=h.trans$ aI i
def aAt (B s a d l P N b)(u:Nat)(w)(f:5<=l)(A:l<=14)(ha:0<=a)(af:a<d)(ad:d<=262144)(hs:aUy s l)(Z:0<=oX s)(Q:(2:Int)^(l-3).toNat=P)(g:(2:Int)^l.toNat=N)(hb:a-a%N=b)(hi:(a-b)/P=(u:Int))(h:jW w B s):
 qC 320 #[.pointer$ qP B,qI a,qI d,qI l] w λe w'=>e=.returned (.tuple #[])/\(∃s',jW w' B s'/\aK1 s a d l P b u s')/\Turn (λj=>j=B) w w':=by
 let⟨p4,p5⟩:=aFo l f A;let⟨b0,b1,b2,b3,b4⟩:=mK a l N f A g ha;have y:=aBt l f;rw[Q,g]at y;have ai:0<N:=by rw[Q]at p4;omega
 rw[hb]at b0 b1 b2;rw[Q]at p4 p5;have a9:=zh Q;have ab:=zh g;have K:a-b=a%N:=J
 have x:u<8:=by
  have:(a-b)/P<8:=by
   apply Int.ediv_lt_of_lt_mul J;omega
  omega
 by_cases O:a%P=0
 .have E:a=b+(u:Int)*P:=by
   have e1:(a%N)%P=0:=by
    rw[y,Int.emod_emod_of_dvd a$ Int.dvd_mul_left 8 P];exact O
   have e2:=Int.mul_ediv_add_emod (a-b) P;rw[hi,K,e1,Int.mul_comm]at e2;omega
  have HK:=zh$ aNe s b l P Q u x Z;have HS:=zh hs;have ak:=zh y;have am:=zh E;have ac:=zh K;have HH:=zh h;have a2:=zh b2;have HM:=zh O;clear y hs E K h b2
  delta qC;go_in
  go_wp2;go_loopw [10,11] (λr i wr=>∃j:Nat,u+j<=8/\r=.int .u8 (bS u j:Nat)/\i=qI ((u+j:Nat):Int)/\(b+((u+j:Nat):Int)*P<=d\/j=0)/\jW wr B (stJ s b l u j)/\Turn (λj=>j=B) w wr) (λ_ i _=>8-(intOf i).toNat)
  .exact⟨0,J,by rw[aBp];rfl,by rw[hi];rfl,Or.inr rfl,by rw[HK.o];exact HH.o,Turn.refl _ _⟩
  .obtain⟨j,hj,rfl,rfl,G,hH,hT⟩:=hrel;obtain⟨k,hk⟩:∃k:Nat,k=u+j:=⟨_,rfl⟩;have a4:((k:Int)+1)*P=(k:Int)*P+P:=by rw[Int.add_mul];simp
   have U:0<=(k:Int)*P:=Int.mul_nonneg J J;have a6:(k:Int)*P<=8*P:=Int.mul_le_mul_of_nonneg_right J J;have ag:0<=((k:Int)+1)*P:=J
   have ah:((k:Int)+1)*P<=18432:=J
   rw[<-hk]at hj G⊢;have aj:=zh a4;have HQ:=zh G;have M:=zh hH;have p:=zh hT;have t:=zh hk;have HI:=zh hi;have ae:=zh hb;clear a4 U a6 G hH hT hk hi hb Q g b3 b4 O;by_cases h8:k<8
   .by_cases a5:b+((k:Int)+1)*P<=d
    .have D:=zh a5;have a7:=nM u x j (jK t.o)$ jK t.o;have Y:=nM u x (j+1) (jK t.o)$ jK t.o;have a1:=zh$ aLh u x j (jK t.o)$ jK t.o;rw[<-t.o]at a1;have X:=zh$ aRr (bS u$ j+1) Y
     have F:=zh (show rok b l (255-(bS u (j+1):Int))=decide (8<=l\/j+1=8)by
      have hf:=aLi u x (j+1) (jK t.o)$ jK t.o;unfold rok;rw[ab.o];have:=a2.o;rw[xJ];simp only[decide_eq_true_eq];constructor
      .rintro⟨_,_,_,_,h|h,_⟩
       .exact Or.inl h
       .exact Or.inr (hf.1 J)
      .intro h;refine⟨f,A,J,J,?_,J,J,a2⟩;rcases h with h|h
       .exact Or.inl h
       .exact Or.inr (jK$ hf.2 h))
     go_wp2_with fail
     apply(aMy (bS u j) k _ a7 h8).mono;rintro e w1 ⟨rfl,rfl⟩;rw[a1.o];let⟨q,G⟩:=aN$ bS u$ j+1;rw[<-G]at X F Y⊢;have I:=zh G;clear G;have aa:(Lit.int .i64 b).wf=true:=by simp[Lit.wf,IntKind.min,IntKind.max,IntKind.bits,IntKind.signed];omega
     go_wp2_with fail
     rw[X.o];rw[show wrap64 (255-(q:Int))=255-(q:Int)by unfold wrap64;omega];apply(oQ b l (255-(q:Int)) false false false _ aa).mono;rintro e w2 ⟨rfl,C⟩;have q1:=(Blk.bw (Blk.new wr #[qI b,qI l,qI$ 255-(q:Int),.bool false,.bool false,.bool false] 231) C).six';have a0:=zh$ aTh (aTh p$ brf.alloc aO$ .cells #[qI b,qI l,qI$ 255-(q:Int),.bool false,.bool false,.bool false] 231) C;have R:=zh$ yJ (S:=λ_=>False) (aI C) (yJ (S:=λ_=>False) (cN wr$ .cells #[qI b,qI l,qI$ 255-(q:Int),.bool false,.bool false,.bool false] 231) M id) id;rw[F.o];clear C;by_cases hc:8<=l\/j+1=8
     .simp only[hc,decide_true];have a3:=zh$ aHx B s b l P a9 J u j w2 x (jK t.o) f A HS Z hc R;rw[<-I.o]at a3;go_wp2_with fail
      apply a3.mono;rintro e w3 ⟨rfl,V,W⟩;have H:=zh V;have a8:=zh$ a0.trans W;clear V W;go_wp2_with fail
      go_roundw
      .exact⟨j+1,jK t.o,by rw[I.o],by rw[t.o];go_num,Or.inl (by have:=D.o;have e:=t.o;rw[show((u+(j+1):Nat):Int)=(k:Int)+1 from J];exact this),H.o,a8.o⟩
      .simp[intOf];omega
     .simp only[hc,decide_false]
      have H:=zh (show jW w2 B (stJ s b l u$ j+1)by
       have e1:stJ s b l u (j+1)=s:=by unfold stJ;rw[if_neg hc]
       have e2:stJ s b l u j=s:=by unfold stJ;rw[if_neg (jK t.o)]
       rw[e1,<-e2]
       exact R)
      go_wp2_with fail
      go_roundw
      .exact⟨j+1,jK t.o,by rw[I.o],by rw[t.o];go_num,Or.inl (by have:=D.o;have e:=t.o;rw[show((u+(j+1):Nat):Int)=(k:Int)+1 from J];exact this),H.o,a0.o⟩
      .simp[intOf];omega
    .have D:=zh a5;go_wp2
     go_end0
     exact⟨rfl,⟨_,M.o,Or.inr ⟨HM.o,j,jK t.o,by rw[<-t.o];exact HQ.o,by rw[<-t.o];exact Or.inr$ jK D.o,rfl⟩⟩,p.o⟩
   .go_wp2
    go_end0
    exact⟨rfl,⟨_,M.o,Or.inr ⟨HM.o,j,jK t.o,by rw[<-t.o];exact HQ.o,Or.inl$ jK t.o,rfl⟩⟩,p.o⟩
 .have an:(a%P !=0)=true:=by simpa using O
  have HN:=zh O;clear O
  delta qC;go_in
  go_wp2
  (try simp only[Exit.inBlock,Exit.then]);refine bodyPost_ret (results_none rfl _ _ _) rfl ?_
  exact⟨rfl,⟨s,h,Or.inl ⟨HN,rfl⟩⟩,Turn.refl _ _⟩
def bH (a l:Int):Int:=a-a%(2:Int)^l.toNat
def cT (a l:Int):Nat:=((a%(2:Int)^l.toNat)/(2:Int)^(l-3).toNat).toNat
def jOf (a en l:Int):Nat:=min (8-cT a l) ((en-a)/(2:Int)^(l-3).toNat).toNat
def qOf (a en l:Int):Nat:=
 if l<8 then (if a%(2:Int)^l.toNat=0/\a+(2:Int)^l.toNat<=en then 255 else 0)
 else if a%(2:Int)^(l-3).toNat=0 then bS (cT a l) (jOf a en l) else 0
def nE (l):cnt l 0=0:=by simp[cnt,uD]
def aB4 (s b l)(h:0<=oX s):keep s b l 0=s:=by
 unfold keep;rw[nE,if_neg J]
def pV (a l P N)(s:5<=l)(j:l<=14)(u:(2:Int)^(l-3).toNat=P)(k:(2:Int)^l.toNat=N)(ha:0<=a)(t:a<262144):
 N=8*P/\4<=P/\P<=2048/\(a%N)%P=a%P/\cT a l<8/\(a%P=0->a%N=(cT a l:Int)*P)/\(a-bH a l)/P=(cT a l:Int):=by
 let⟨b,d⟩:=aFo l s j;have i:=aBt l s;rw[u,k]at i;rw[u]at b d;let⟨f,g,p,e,q⟩:=mK a l N s j k ha t;have hd:(a%N)%P=a%P:=by rw[i,Int.emod_emod_of_dvd a$ Int.dvd_mul_left 8 P]
 have:0<=(a%N)/P:=Int.ediv_nonneg e J;have:(a%N)/P<8:=Int.ediv_lt_of_lt_mul J J;have:((cT a l:Nat):Int)=(a%N)/P:=by unfold cT;rw[u,k];omega
 refine⟨i,b,d,hd,J,λA=>?_,?_⟩
 .have e2:=Int.mul_ediv_add_emod (a%N) P
  grind
 .unfold bH
  grind
def aWk (a en l P N)(E:5<=l)(i:l<=14)(x:(2:Int)^(l-3).toNat=P)(t:(2:Int)^l.toNat=N)(ha:0<=a)(D:a<en)(C:en<=262144)(u:a%P=0)(j)(F:cT a l+j<=8)
 (A:bH a l+((cT a l+j:Nat):Int)*P<=en\/j=0) (y:cT a l+j=8\/en<bH a l+(((cT a l+j:Nat):Int)+1)*P):j=jOf a en l/\a+(j:Int)*P<=en:=by
 let⟨d,e,f,g,p,b,q⟩:=pV a l P N E i x t ha J;have s:bH a l=a-a%N:=by unfold bH;rw[t]
 have e1:((cT a l+j:Nat):Int)*P=(cT a l:Int)*P+(j:Int)*P:=by grind
 have e2:(((cT a l+j:Nat):Int)+1)*P=(cT a l:Int)*P+(j:Int)*P+P:=by grind
 rw[s,b u,e1]at A;rw[s,b u,e2]at y
 have k:a+(j:Int)*P<=en:=by
  grind
 have:(j:Int)<=(en-a)/P:=Int.le_ediv_of_mul_le J J;refine⟨?_,k⟩;unfold jOf;rw[x];rcases y with h|h
 .omega
 .have:(en-a)/P<(j:Int)+1:=Int.ediv_lt_of_lt_mul J (by grind);omega
def aG4 (s e a b l P N)(E:5<=l)(k:l<=14)(u:(2:Int)^(l-3).toNat=P)(t:(2:Int)^l.toNat=N)(ha:0<=a)(A:a<b)(x:b<=262144)(hs:0<=oX s)
 (h:aK1 s a b l P (bH a l) (cT a l) e):e=keep s (bH a l) l (qOf a b l):=by
 let⟨q,w,B,d,M,f,O⟩:=pV a l P N E k u t ha J;rcases h with⟨C,rfl⟩|⟨C,j,F,H,K,rfl⟩
 .have G:qOf a b l=0:=by
   unfold qOf;rw[u,t];by_cases y:l<8
   .rw[if_pos y,if_neg];rintro⟨h,_⟩;rw[h]at d;simp at d
    grind
   .grind
  rw[G,aB4 _ _ _ hs]
 .have⟨g,Q⟩:=aWk a b l P N E k u t ha A x C j F H K;have i:=f C;unfold stJ qOf;rw[u,t];by_cases y:l<8
  .rw[if_pos y];by_cases D:j=8
   .have:cT a l=0:=J
    rw[this]at i;simp at i;subst D;rw[if_pos (Or.inr rfl),if_pos ⟨i,J⟩,this];rfl
   .rw[if_neg J,if_neg,aB4 _ _ _ hs];rintro⟨p,R⟩;rw[p]at i
    have I:cT a l=0:=by
     have:(cT a l:Int)=0:=by
      rcases Int.mul_eq_zero.1 i.symm with h|h
      .exact h
      .omega
     omega
    have hd:(8:Int)<=(b-a)/P:=Int.le_ediv_of_mul_le J J;unfold jOf at g
    grind
  .grind
def bZ (a en:Int)(n:Nat):CSt:=
 if h:n=0 then none else keep (bZ a en$ n-1) (bH a$ 5+((n-1:Nat):Int)) (5+((n-1:Nat):Int)) (qOf a en$ 5+((n-1:Nat):Int))
def eV (a b):bZ a b 0=none:=by rw[bZ,dif_pos rfl]
def eU (a b n):bZ a b (n+1)=keep (bZ a b n) (bH a$ 5+n) (5+n) (qOf a b$ 5+n):=by
 rw[bZ,dif_neg J];rfl
def zJ (l q):0<=cnt l q:=by
 exact Int.mul_nonneg J$ Int.le_of_lt$ pow_pos _
def jM (s):0<=oX s:=by
 match s with
 | none=>exact Int.le_refl _
 | some (b,l,q)=>exact zJ l q
def aT6 (a b l)(k:5<=l)(j:l<=14)(ha:0<=a)(i:a<262144):qOf a b l<256:=by
 let⟨e,f,g,p,d,q,s⟩:=pV a l _ _ k j rfl rfl ha i;unfold qOf;split
 .grind
 .split
  .apply nM _ d<;>(unfold jOf;omega)
  .omega
def tI (a d)(ha:0<=a)(i:a<262144):∀n:Nat,n<=10->aUy (bZ a d n) (5+n)
 | 0,_=>λb l q h=>by rw[eV]at h;cases h
 | n+1,hn=>by
   have k:=tI a d ha i n J;intro b l q h;rw[eU]at h;unfold keep at h;split at h
   .rename_i j;simp at h;obtain⟨rfl,rfl,rfl⟩:=h;refine⟨J,J,aT6 a d _ J J ha i,?_⟩;have:=jM$ bZ a d n;omega
   .have⟨e,f,g,p⟩:=k b l q h
    grind
def aG8 (a d w)(ha:0<=a)(t:a<d)(j:d<=262144)(b l q)(H:bZ a d 10=some (b,l,q)):
 qC 312 #[qI a,qI d] w (qB w$ .agg #[qI b,qI l,qI$ 255-(q:Int),.bool false,.bool false,.bool false]):=by
 have N:=zh H;clear H
 delta qC;go_in
 go_wp2;go_loopw [6] (λx wr=>∃n:Nat,n<=10/\x=qI (5+(n:Int))/\jW wr (w.heap.size+1) (bZ a d n)/\Blk wr w.heap.size #[qI 0,qI 0,qI 0,.bool false,.bool false,.bool false] 231/\qY w wr) (qf 15)
 .refine⟨0,J,rfl,?_,?_,?_⟩
  .rw[eV];have:=Blk.new (w.alloc$ .cells #[qI 0,qI 0,qI 0,.bool false,.bool false,.bool false] 231) #[.func (Fn.func 319) #[] #[],.bool false,qI 0,qI 0,qI 0,.bool false,.bool false,.bool false] 323;simp only[xF]at this;exact this
  .exact(Blk.new w _ _).alloc _
  .exact bal.alloc Jb _
 .obtain⟨n,f,rfl,I,K,G⟩:=hrel;have E:=zh I;have F:=zh G;have D:=zh K;clear I G K;by_cases O:n<10
  .have A:=F.size;have y:=zh$ aAt (w.heap.size+1) (bZ a d n) a d (5+(n:Int)) _ _ _ (cT a$ 5+(n:Int)) wr J J ha t j (tI a d ha J n J) (jM _) rfl rfl rfl (pV a (5+(n:Int)) _ _ J J rfl rfl ha J).2.2.2.2.2.2 E;go_wp2_with fail
   apply y.mono;rintro e U ⟨rfl,⟨Y,i,u⟩,C⟩;have M:=aG4 _ _ a d (5+(n:Int)) _ _ J J rfl rfl ha t j (jM _) u;have Q:=zh (show jW U (w.heap.size+1) (bZ a d$ n+1)by rw[M]at i;rw[eU];exact i);have R:=zh$ aD C D J;have V:=zh$ aG F C (λk e=>J) A;clear M i u C y;go_wp2
   go_roundw
   .exact⟨n+1,J,by go_num,Q,R,V⟩
   .simp[qf,intOf];omega
  .have s:n=10:=J
   subst s;rw[N.o]at E;have y:=zh$ Bst.cells E;have X:=y.o;have W:=D.six';have P:=zh$ Blk.set (Blk.set (Blk.set (Blk.set (Blk.set (Blk.set D 0$ qI b) 1$ qI l) 2$ qI$ 255-(q:Int)) 3$ .bool false) 4$ .bool false) 5$ .bool false;go_wp2;refine bodyPost_ret (results_cell_row rfl _ _ (qs w) 231 #[qI b,qI l,qI$ 255-(q:Int),.bool false,.bool false,.bool false] (0,0) _ rfl (by exact P) underlying231 rfl Je) rfl ⟨rfl,?_⟩;exact(((((F.setCell aO _).setCell aO _).setCell aO _).setCell aO _).setCell aO _).setCell aO _
abbrev Rg:=Int×Int×Int×Bool×Bool×Bool
def z6:Rg:=(0,0,0,false,false,false)
def At6 (w:qw)(b o:Nat)(g:Rg):Prop:=
 w.cell? (qR b o)=some (qI g.1)/\w.cell? (qR b$ o+1)=some (qI g.2.1)/\w.cell? (qR b$ o+2)=some (qI g.2.2.1) /\
 w.cell? (qR b$ o+3)=some (.bool g.2.2.2.1)/\w.cell? (qR b$ o+4)=some (.bool g.2.2.2.2.1)/\w.cell? (qR b$ o+5)=some (.bool g.2.2.2.2.2)
def wfi (z:Int):Prop:=-9223372036854775808<=z/\z<=9223372036854775807
def RS (w:qw)(a:qO)(n cap:Nat)(rs:List Rg):Prop:=
 rs.length=n/\n<=maxLen/\(∀g∈rs,wfi g.1/\wfi g.2.1/\wfi g.2.2.1)/\(n≠0->∃b off,a=some (qR b off)/\∀i,i<n->At6 w b (off+i*6) (rs.getD i z6))/\n<=cap
def At6.bw {w w':qw}{o:Nat}{g:Rg}(h:At6 w b o g)(i:qY w w'):At6 w' b o g:=by
 obtain⟨a,d,e,f,k,l⟩:=h;have j:b<w.heap.size:=xD w _ a;unfold At6;rw[i.cell (p:=(qR b o)) j,i.cell (p:=(qR b$ o+1)) j,i.cell (p:=(qR b$ o+2)) j,i.cell (p:=(qR b$ o+3)) j,i.cell (p:=(qR b$ o+4)) j,i.cell (p:=(qR b$ o+5)) j]
 grind
def RS.bw {w w':qw}{a:qO}{rs:List Rg}(h:RS w a n cap rs)(j:qY w w'):RS w' a n cap rs:=by
 obtain⟨d,e,f,g,k⟩:=h;refine⟨d,e,f,λp=>?_,k⟩;let⟨b,q,l,hc⟩:=g p;exact⟨b,q,l,λi hi=>(hc i hi).bw j⟩
def RS.some {w:qw}{a:qO}{rs:List Rg}(h:RS w a n cap rs)(hn:n≠0):∃b i,a=Option.some (qR b i):=by
 let⟨b,i,e,_⟩:=h.2.2.2.1 hn
 grind
def RS.at {w:qw}{j:Nat}{rs:List Rg}(h:RS w (Option.some$ qR b j) n cap rs)(i)(hi:i<n):At6 w b (j+i*6) (rs.getD i z6):=by
 let⟨a,d,e,hd⟩:=h.2.2.2.1 J
 grind
def aKi:(prog.info? 231).map (λi=>(i.zero,i.size,i.bytes))=some (some$ .agg #[qI 0,qI 0,qI 0,.bool false,.bool false,.bool false],6,32):=Je
def dT (g:Rg):List Value:=[qI g.1,qI g.2.1,qI g.2.2.1,.bool g.2.2.2.1,.bool g.2.2.2.2.1,.bool g.2.2.2.2.2]
def fI (rs:List Rg):List Value:=rs.flatMap dT
def tE:∀a:List Rg,(fI a).length=a.length*6
 | []=>rfl
 | g::a=>by simp only[fI,xT,xI];have:=tE a;simp only[fI]at this;rw[this];simp[dT];omega
def tG:∀(a:List Rg)(i j:Nat),i<a.length->j<6->(fI a)[i*6+j]?=(dT$ a.getD i z6)[j]?
 | [],i,j,h,_=>absurd h Jb
 | g::a,0,j,_,hj=>by
   simp only[fI,xT];rw[List.getElem?_append_left (by simp[dT];omega)];simp
 | g::a,i+1,j,h,hj=>by
   have k:=tG a i j (by grind) hj;simp only[fI,xT]at k⊢;rw[List.getElem?_append_right (by simp[dT];omega)];have:(i+1)*6+j-(dT g).length=i*6+j:=by simp[dT];omega
   grind
def ORg (w:qw)(base:Nat)(v:Value)(rs:List Rg):Prop:=w.ownsRow base 231 6 v rs.length (fI rs)/\∀g∈rs,wfi g.1/\wfi g.2.1/\wfi g.2.2.1
def eM {w:qw}{a:qO}{rs:List Rg}(h:ORg w base (qS a n cap) rs):RS w a n cap rs:=by
 obtain⟨A,⟨b,l⟩|⟨g,s,f,e,y,q,p,t,u,x⟩⟩:=h.1
 .simp at b;obtain⟨rfl,rfl,rfl⟩:=b;exact⟨l,xC _,h.2,λd=>absurd rfl d,aO⟩
 .simp at e;obtain⟨rfl,rfl,rfl⟩:=e;refine⟨rfl,J,h.2,λd=>⟨g,0,rfl,λi hi=>?_⟩,p⟩
  have hc:∀j,j<6->w.cell? (qR g$ 0+i*6+j)=(dT$ rs.getD i z6)[j]?:=by
   intro j k;rw[Blk.cell (w:=w) q]
   have:f.toList[0+i*6+j]?=(fI rs)[i*6+j]?:=by
    grind
   rw[Array.getElem?_toList]at this;rw[this,tG rs i j hi k]
  exact⟨hc 0 J,hc 1 J,hc 2 J,hc 3 J,hc 4 J,hc 5 J⟩
def aCn {w w':qw}{rs:List Rg}(t:Turn S w w')(h:ORg w base v rs)(i:∀k,base<=k->¬S k):ORg w' base v rs:=by
 refine⟨?_,h.2⟩;obtain⟨d,g|⟨a,e,f,u,b,s,j,l,p,q⟩⟩:=h.1
 .exact⟨d,.inl g⟩
 .exact⟨d,.inr ⟨a,e,f,u,b,aD t s$ i a b,j,l,p,q⟩⟩
def vY (w:qw)(base)(i:base<=w.heap.size):ORg (w.alloc$ .cells #[] 231) base (qS (qP w.heap.size) 0 0) []:=
 ⟨⟨rfl,.inr ⟨w.heap.size,0,#[],rfl,i,heap_alloc_new w _,aO,xC _,rfl,rfl⟩⟩,λ_ h=>by cases h⟩
def pW {w:qw}{t:TypeId}{sz:Nat}{xs:List Value}(h:w.ownsRow base t sz v n xs):∃a cap,v=qS a n cap:=by
 obtain⟨_,⟨rfl,rfl⟩|⟨g,cap,b,rfl,_⟩⟩:=h
 .grind
 .grind
def aOm (w:qw)(g):∀j u,(dT g)[j]?=some u->(w.alloc$ .cells #[qI g.1,qI g.2.1,qI g.2.2.1,.bool g.2.2.2.1,.bool g.2.2.2.2.1,.bool g.2.2.2.2.2] 231).cell? (((qR w.heap.size 0):Addr).add j)=some u:=by
 intro j u i;rw[cI,Nat.zero_add,Blk.cell$ Blk.new w _ _,<-i]
 match j with
 | 0=>rfl
 | 1=>rfl
 | 2=>rfl
 | 3=>rfl
 | 4=>rfl
 | 5=>rfl
 | j+6=>rfl
def aRi (g):∀u∈dT g,u.oneCell'=true:=by
 intro u hu;simp[dT]at hu;rcases hu with rfl|rfl|rfl|rfl|rfl|rfl<;>rfl
def aDm {W i:qw}{v v':Value}{rs:List Rg}{g:Rg}(k:∀g∈rs,wfi g.1/\wfi g.2.1/\wfi g.2.2.1)(s:wfi g.1/\wfi g.2.1/\wfi g.2.2.1)(h:i.ownsRow base 231 6 v' (rs.length+1) (fI rs++dT g)):ORg i base v' (rs++[g]):=by
 refine⟨by simpa[fI]using h,λy j=>?_⟩
 grind
def lZ {W W':qw}{row:Option Nat}(h:W.grownBy W' row):Turn (λj=>row=some j) W W':=⟨h.os,h.tape,h.output,h.size,λk i a=>h.block k i λe=>a e.symm⟩
def aT7 (l:Int)(j:8<=l)(i:l<=14):(32:Int) ∣ (2:Int)^(l-3).toNat:=by
 have:l=8\/l=9\/l=10\/l=11\/l=12\/l=13\/l=14:=J
 rcases this with rfl|rfl|rfl|rfl|rfl|rfl|rfl<;>decide
def aQ6 (l:Int)(j:5<=l)(i:l<=14):(32:Int) ∣ (2:Int)^l.toNat:=by
 have:l=5\/l=6\/l=7\/l=8\/l=9\/l=10\/l=11\/l=12\/l=13\/l=14:=J
 rcases this with rfl|rfl|rfl|rfl|rfl|rfl|rfl|rfl|rfl|rfl<;>decide
def aDc (a i l)(t:5<=l)(j:l<=14)(ha:0<=a)(y:a<i)(x:i<=262144):a+cnt l (qOf a i l)<=i/\(32:Int) ∣ cnt l (qOf a i l):=by
 obtain⟨P,b⟩:∃P,(2:Int)^(l-3).toNat=P:=⟨_,rfl⟩;obtain⟨N,d⟩:∃N,(2:Int)^l.toNat=N:=⟨_,rfl⟩;let⟨f,p,q,w,g,A,B⟩:=pV a l P N t j b d ha J;have:a+cnt l 0<=i/\(32:Int) ∣ cnt l 0:=by rw[nE];exact⟨J,Int.dvd_zero _⟩
 by_cases k:l<8
 .by_cases hc:a%N=0/\a+N<=i
  .have e:qOf a i l=255:=by unfold qOf;rw[if_pos k,d,if_pos hc]
   have e2:cnt l 255=N:=by unfold cnt;rw[b,show uD 255=8 from rfl,f];rfl
   rw[e,e2];refine⟨hc.2,?_⟩;rw[<-d];exact aQ6 l t j
  .have e:qOf a i l=0:=by unfold qOf;rw[if_pos k,d,if_neg hc]
   grind
 .by_cases u:a%P=0
  .have e:qOf a i l=bS (cT a l) (jOf a i l):=by unfold qOf;rw[if_neg k,b,if_pos u]
   have s:((jOf a i l:Nat):Int)<=(i-a)/P/\cT a l+jOf a i l<=8:=by
    have:0<=(i-a)/P:=Int.ediv_nonneg J J;unfold jOf
    grind
   rw[e,nZ l P b _ _ g s.2];have:=Int.mul_le_of_le_ediv J s.1;refine⟨J,?_⟩;rw[<-b];exact Int.dvd_mul_of_dvd_right$ aT7 l J j
  .have e:qOf a i l=0:=by unfold qOf;rw[if_neg k,b,if_neg u]
   grind
def mE (a d)(ha:0<=a)(i:a<d)(j:d<=262144):∀n:Nat,n<=10->∀b l q,bZ a d n=some (b,l,q)->5<=l/\l<=14/\b=bH a l/\q=qOf a d l
 | 0,_=>λb l q h=>by rw[eV]at h;cases h
 | n+1,hn=>by
   have:=mE a d ha i j n J;intro b l q h;rw[eU]at h;unfold keep at h;split at h
   .grind
   .grind
def tY (a b)(ha:0<=a)(j:a+32<=b)(i:a%32=0):∀n:Nat,∃x,bZ a b (n+1)=some x
 | 0=>by
   have e:qOf a b 5=255:=by
    unfold qOf
    grind
   refine⟨(bH a 5,5,255),?_⟩;rw[eU,eV];show keep none (bH a 5) 5 (qOf a b 5)=_;rw[e];rfl
 | n+1=>by
   let⟨x,hx⟩:=tY a b ha j i n;rw[eU];unfold keep
   grind
def aJg (a d)(ha:0<=a)(i:a<d)(k:d<=262144)(j:a%32=0)(s:d%32=0):
 ∃b l q,bZ a d 10=some (b,l,q)/\5<=l/\l<=14/\q<256/\32<=cnt l q/\a+cnt l q<=d/\cnt l q%32=0/\b=bH a l/\q=qOf a d l:=by
 let⟨⟨b,l,q⟩,hx⟩:=tY a d ha J j 9;let⟨e,f,p,t⟩:=mE a d ha i k 10 aO b l q hx;let⟨u,w,x,y⟩:=tI a d ha J 10 aO b l q hx;let⟨g,c2⟩:=aDc a d l e f ha i k
 grind
def aI4 (s:CSt)(next:Int->List Rg)(a:Int):List Rg:=
 match s with
 | some (b,l,q)=>(b,l,255-(q:Int),false,false,false)::next (a+cnt l q)
 | none=>[]
def fT (en:Int):Nat->Int->List Rg
 | 0,_=>[]
 | n+1,a=>if a<en then aI4 (bZ a en 10) (fT en n) a else []
def pI (b n a)(h:¬a<b):fT b n a=[]:=by
 cases n with
 | zero=>rfl
 | succ n=>exact if_neg h
def nD (d n a b l q)(h:a<d)(i:bZ a d 10=some (b,l,q)):fT d (n+1) a=(b,l,255-(q:Int),false,false,false)::fT d n (a+cnt l q):=by
 have e:fT d (n+1) a=aI4 (bZ a d 10) (fT d n) a:=if_pos h;rw[e,i];rfl
def grn (x:Int):Bool:=decide$ 0<=x/\x%32=0
def gA (x w):
 qC 284 #[qI x] w λe w'=>e=.returned (.bool$ grn x)/\w=w':=by
 by_cases h:0<=x
 .have i:=zh (show grn x=decide (x%32=0)by unfold grn;simp[h])
  delta qC;go_in
  go_wp2;go_ret;refine⟨aA ?_,rfl⟩;rw[i.o];rw[xJ];simp
 .have i:=zh (show grn x=false by unfold grn;simp;omega)
  delta qC;go_in
  go_wp2;go_ret;exact⟨aA i.symm,rfl⟩
def pK (w:qw)(ok:Bool)(L:List Rg)(e:Ending)(w':qw):Prop:=
 ∃(x:qO) (m cap:Nat),e=.returned (.tuple #[qS x m cap,.bool ok])/\ORg w' w.heap.size (qS x m cap) L/\qY w w'
def uX (w base):ORg w base (qS none 0 0) []:=⟨⟨rfl,.inl ⟨rfl,rfl⟩⟩,λ_ h=>by cases h⟩
def uR (f s:Int):Bool:=grn f&&grn s&&decide (s<=262144-f)
def zD (f s:Int):List Rg:=fT (f+s) (s/32).toNat f
set_option maxRecDepth 100000 in
def aGi (f s w)(hf:0<=f)(R:f%32=0)(hs:0<=s)(ak:s%32=0)(am:s<=262144-f):
 qC 297 #[qI f,qI s] w (pK w true$ zD f s):=by
 let⟨i0,hi,ah,ai,aj⟩:=info_parts aKi;have G1:=zh$ gA f;have G2:=zh$ gA s;have e1:grn f=true:=by unfold grn;simp;omega
 have e2:grn s=true:=by unfold grn;simp;omega
 rw[e1]at G1;rw[e2]at G2;clear e1 e2;let⟨L,hL⟩:=aN$ zD f s;rw[<-hL];have HL:=zh hL;clear hL
 delta qC;go_in
 go_wp2_with fail
 apply(G1 w).mono;rintro e w1 ⟨rfl,rfl⟩;go_wp2_with fail
 apply(G2 w).mono;rintro e w1 ⟨rfl,rfl⟩;go_wp2_with fail
 go_loopw [6,8] (λr x wr=>∃(A:qO) (m d:Nat) (rs:List Rg) (n:Nat) (a:Int),r=qS A m d/\x=qI a/\f<=a/\a<=f+s/\a%32=0/\f+s-a<=32*(n:Int)/\m+n<=8192/\ORg wr w.heap.size (qS A m d) rs/\L=rs++fT (f+s) n a/\qY w wr) (λ_ x _=>(f+s-intOf x).toNat)
 .exact⟨none,0,0,[],(s/32).toNat,f,rfl,rfl,J,J,R,J,J,uX _ _,by rw[HL.o];rfl,brf⟩
 .obtain⟨A,m,d,rs,n,a,rfl,rfl,ha,an,a3,hn,ao,X,y,P⟩:=hrel;have H:=(eM X).1;by_cases C:a<f+s
  .have⟨b,l,q,hF,hl,a2,hq,ae,af,ag,hb,_⟩:=aJg a (f+s) J C J a3 J;obtain⟨n,rfl⟩:∃n',n=n'+1:=⟨n-1,J⟩;rw[nD (f+s) n a b l q C hF]at y
   have:0<=b/\b<=262144:=by
    have:=mK a l _ hl a2 rfl;have:=pow_pos l.toNat;rw[hb];unfold bH;omega
   clear hb;have HW:=zh$ aG8 a (f+s) wr J C J b l q hF;have N:=zh y;have HO:=zh X;have B:=zh P;have HC:=zh$ fW b l q false false false;have t:=zh H;have a4:=P.size;let⟨c,a0⟩:=aN$ cnt l q;rw[<-a0]at ae af ag HC N;have:=zh a0;have Y:=zh$ show wfi b/\wfi l/\wfi (255-(q:Int))from Jh;have HQ:=zh hq;clear y X P hF H a0;go_wp2_with fail
   apply HW.mono;rintro e V ⟨rfl,E⟩;have ab:=zh$ B.trans$ E.mono a4;let⟨o,ho⟩:=aN$ 255-(q:Int);rw[<-ho]at HC N Y⊢;have D:=aCn (S:=λ_=>False) (aI E) HO λ_ _=>id;have u:=D.1.alloc$ .cells #[qI b,qI l,qI o,.bool false,.bool false,.bool false] 231;have I:=zh$ u.alloc$ .cells #[qI b,qI l,qI o,.bool false,.bool false,.bool false] 231;rw[t.o]at I;have Q:Zh ((dT (b,l,o,false,false,false)).length=1*6):=rfl;have k:=zh$ aOm (V.alloc$ .cells #[qI b,qI l,qI o,.bool false,.bool false,.bool false] 231) (b,l,o,false,false,false);have Z:=zh$ aRi (b,l,o,false,false,false);have aa:=zh D.2;have a1:=zh D.1.lt;have KB:=zh$ (Blk.new V #[qI b,qI l,qI o,.bool false,.bool false,.bool false] 231).alloc$ .cells #[qI b,qI l,qI o,.bool false,.bool false,.bool false] 231;have:=E.size;have a9:=zh$ (ab.o.alloc J$ .cells #[qI b,qI l,qI o,.bool false,.bool false,.bool false] 231).alloc Jc$ .cells #[qI b,qI l,qI o,.bool false,.bool false,.bool false] 231;try unfold qY at *
   simp only[xF]at k;clear D u E ho;go_wp2_with (at_builtin;refine wpList_append_own _ rfl _ _ 118 rfl w.heap.size 231 i0 (.agg #[qI 0,qI 0,qI 0,.bool false,.bool false,.bool false]) 6 32 underlying118 hi ah ai aj rfl Ja (qS A m d) m (fI rs) rfl I.o (qr V 0) 1 1 (dT (b,l,o,false,false,false)) rfl Q.o k.o Z.o Jf J Jc ?_;intro v' w3 i F _;obtain⟨A',ad,he⟩:=pW i;subst he;have u:=aDm (W:=V) (v:=qS A m d) (g:=(b,l,o,false,false,false)) aa.o Y.o (by rw[t.o];exact i);have p:=lZ F;have K:∀j,(qS A m d).ownBlock=some j->w.heap.size<=j:=λj hj=>(a1.o j hj).1;have G:∀j,(qS A m d).ownBlock=some j->j<V.heap.size:=λj hj=>(a1.o j hj).2;have M:=aD p KB.o λe=>jK$ G _ e;have U:=p.size;simp only[xF]at U;have a5:=zh$ aG a9.o p K Jc;have a8:=zh u;have:=zh M;obtain⟨q1,q2,q3,q4,q5,q6,q7⟩:=M.six';clear u p K G i F M)
   apply(HC w3 HQ hl a2).mono;rintro e w4 ⟨rfl,O⟩;have ac:=zh$ a5.trans$ O.mono J;have a6:=zh$ aCn (S:=λ_=>False) (aI O) a8 λ_ _=>id;clear O;go_wp2_with fail
   go_roundw
   .exact⟨A',m+1,ad,rs++[(b,l,o,false,false,false)],n,a+c,rfl,by go_num,J,J,J,J,J,a6.o,by rw[N.o];simp,ac.o⟩
   .simp[intOf];omega
  .have a7:L=rs:=by rw[y,pI _ _ _ C,List.append_nil]
   subst a7;have HO:=zh X;have B:=zh P;clear y X P;go_wp2
   go_ret2
   exact⟨A,m,d,rfl,HO,B⟩
def aIt (f s w)(u:-9223372036854775808<=f/\f<=9223372036854775807)(h:uR f s=false):
 qC 297 #[qI f,qI s] w (pK w false []):=by
 have i:=zh$ gA f;have k:=zh$ gA s;have t:=zh$ uX w w.heap.size;unfold uR at h;cases e1:grn f
 .rw[e1]at i
  delta qC;go_in
  go_wp2_with fail
  apply(i w).mono;rintro e j ⟨rfl,rfl⟩;go_wp2_with fail
  go_ret2
  exact⟨none,0,0,rfl,t,brf⟩
 .rw[e1]at i h;have:0<=f:=by unfold grn at e1;simp at e1;omega
  cases e2:grn s
  .rw[e2]at k
   delta qC;go_in
   go_wp2_with fail
   apply(i w).mono;rintro e j ⟨rfl,rfl⟩;go_wp2_with fail
   apply(k w).mono;rintro e j ⟨rfl,rfl⟩;go_wp2_with fail
   go_ret2
   exact⟨none,0,0,rfl,t,brf⟩
  .rw[e2]at k h;have:262144-f<s:=by simp at h;omega
   delta qC;go_in
   go_wp2_with fail
   apply(i w).mono;rintro e j ⟨rfl,rfl⟩;go_wp2_with fail
   apply(k w).mono;rintro e j ⟨rfl,rfl⟩;go_wp2_with fail
   go_ret2
   exact⟨none,0,0,rfl,t,brf⟩
def cvL (f s:Int):List Rg:=if uR f s then zD f s else []
def aIu (f s w)(i:-9223372036854775808<=f/\f<=9223372036854775807):
 qC 297 #[qI f,qI s] w (pK w (uR f s)$ cvL f s):=by
 unfold cvL;cases e:uR f s
 .exact aIt f s w i e
 .unfold uR grn at e;simp at e;exact aGi f s w J J J J J
def ci (i0 j i:Nat):Nat:=min (i-i0) j
def aUs:∀(k:Fin 8)(j:Fin 9)(i:Fin 8),(k.val<=i.val/\i.val<k.val+j.val)->(ci k j (i.val+1)=ci k j i+1/\2^i.val-1-bS k (ci k j i)=2^(i.val+1)-1-bS k (ci k j$ i.val+1)):=by decide +kernel
def aSj:∀(k:Fin 8)(j:Fin 9)(i:Fin 8),((i.val<k.val\/k.val+j.val<=i.val)/\k.val+j.val<=8)->(ci k j (i.val+1)=ci k j i/\2^i.val-1-bS k (ci k j i)+2^i.val=2^(i.val+1)-1-bS k (ci k j$ i.val+1)):=by decide +kernel
def aV6 (a)(s:a<8)(j)(k:j<9)(i)(hi:i<8)(h:a<=i/\i<a+j):ci a j (i+1)=ci a j i+1/\2^i-1-bS a (ci a j i)=2^(i+1)-1-bS a (ci a j$ i+1):=aUs ⟨a,s⟩ ⟨j,k⟩ ⟨i,hi⟩ h
def aUr (a)(s:a<8)(j)(k:j<9)(i)(hi:i<8)(h:(i<a\/a+j<=i)/\a+j<=8):ci a j (i+1)=ci a j i/\2^i-1-bS a (ci a j i)+2^i=2^(i+1)-1-bS a (ci a j$ i+1):=aSj ⟨a,s⟩ ⟨j,k⟩ ⟨i,hi⟩ h
def aP4:∀i,i<8->∀j,j<9->i+j<=8->ci i j 8=j:=by decide +kernel
def jj (a en l:Int):Nat:=if a%(2:Int)^(l-3).toNat=0 then jOf a en l else 0
def aN2 (a b l)(h:8<=l):qOf a b l=bS (cT a l) (jj a b l):=by
 unfold qOf jj;rw[if_neg J];split
 .rfl
 .rw[aBp]
def aVz (a b l)(hi:cT a l<8):cT a l+jj a b l<=8:=by
 unfold jj;split
 .unfold jOf;omega
 .omega
def aQ9 (a d l P N)(y:5<=l)(s:l<=14)(k:(2:Int)^(l-3).toNat=P)(u:(2:Int)^l.toNat=N)(ha:0<=a)(C:a<d)(A:d<=262144)(i:Nat)(hi:i<8):
 (a<=bH a l+(i:Int)*P/\bH a l+(i:Int)*P+P<=d/\a%P=0) ↔ (cT a l<=i/\i<cT a l+jj a d l):=by
 let⟨f,g,p,q,w,e,B⟩:=pV a l P N y s k u ha J;unfold jj;rw[k];by_cases x:a%P=0
 .rw[if_pos x];have t:bH a l=a-a%N:=by unfold bH;rw[u]
  have j:=e x
  have e1:(a<=bH a l+(i:Int)*P) ↔ cT a l<=i:=by
   rw[t,j];constructor
   .intro h;have:(cT a l:Int)*P<=(i:Int)*P:=J
    have:=Int.le_of_mul_le_mul_right this J;omega
   .intro h;have:(cT a l:Int)*P<=(i:Int)*P:=Int.mul_le_mul_of_nonneg_right J J;omega
  have e2:cT a l<=i->((bH a l+(i:Int)*P+P<=d) ↔ ((i-cT a l:Nat):Int)<(d-a)/P):=by
   intro h;rw[t,j];have e3:((i-cT a l:Nat):Int)=(i:Int)-(cT a l:Int):=J
   have e4:(((i:Int)-(cT a l:Int))+1)*P=(i:Int)*P-(cT a l:Int)*P+P:=by grind
   rw[e3];constructor
   .intro h;have:=Int.le_ediv_of_mul_le (c:=P) (a:=(i:Int)-(cT a l:Int)+1) (b:=d-a) J J;omega
   .intro h;have:(i:Int)-(cT a l:Int)+1<=(d-a)/P:=J
    have:=Int.mul_le_of_le_ediv J this;omega
  have e5:jOf a d l=min (8-cT a l) ((d-a)/P).toNat:=by unfold jOf;rw[k]
  grind
 .grind
def rN (a N:Int)(j:0<=a)(i:0<N):a/N*N=a-a%N:=by
 have:=Int.mul_ediv_add_emod a N
 grind
def rC:(prog.info? 5).map (λi=>(i.zero,i.size,i.bytes))=some (some$ .int .u8 0,1,1):=Je
def aS5 (n):(madeCells (Value.cells$ .int .u8 0)$ n*1)=((List.replicate n (0:Int)).map$ Value.int .u8).toArray:=by
 apply Array.ext
 .simp[size_madeCells]
 .intro i k j;simp[madeCells,Value.cells,Nat.mod_one]
def tR {w:qw}(h:w.ownsRow base 5 1 (qS (qP g) n n) n (madeCells (Value.cells$ .int .u8 0)$ n*1).toList):Row8 w g (List.replicate n 0):=by
 obtain⟨s,h|⟨i,f,a,b,q,d,j,k,l,p⟩⟩:=h
 .grind
 .simp at b;obtain⟨rfl,rfl⟩:=b;unfold Row8;rw[d]
  have e:a.toList=(madeCells (Value.cells$ .int .u8 0)$ n*1).toList:=by
   grind
  have e2:a=madeCells (Value.cells$ .int .u8 0) (n*1):=Array.toList_inj.1 e;rw[e2,aS5]
def bI {w w':qw}(h:w.grownBy w' none):qY w w':=brf.grown h aO (λk i=>by cases i)
def mok (n1 n2 n3:Nat):Bool:=decide$ n1<=16384/\n2<=16384/\n3<=5000
def lL (a1 a2 a3 n1 c1 n2 c2 n3 c3 w):
 qC 64 #[.agg$ qV a1 n1 c1 a2 n2 c2 a3 n3 c3] w (qB w$ .bool$ mok n1 n2 n3):=by
 by_cases k:(n1:Int)<=16384
 all_goals by_cases s:(n2:Int)<=16384
 all_goals by_cases j:(n3:Int)<=5000
 all_goals
  let⟨r,a⟩:=aN$ mok n1 n2 n3;have i:Zh (r=mok n1 n2 n3):=a;rw[<-a];clear a
  delta qC;go_in
  go_wp2;go_ret;refine⟨aA ?_,bal⟩;rw[i.o];unfold mok;simp;try omega
def yI (a1 a2 a3 n1 c1 n2 c2 n3 c3 w):
 qC 185 #[.agg$ qV a1 n1 c1 a2 n2 c2 a3 n3 c3] w (qB w$ .bool$ mok n1 n2 n3):=by
 by_cases k:(n1:Int)<=16384
 all_goals by_cases s:(n2:Int)<=16384
 all_goals by_cases j:(n3:Int)<=5000
 all_goals
  let⟨r,a⟩:=aN$ mok n1 n2 n3;have i:Zh (r=mok n1 n2 n3):=a;rw[<-a];clear a
  delta qC;go_in
  go_wp2;go_ret;refine⟨aA ?_,bal⟩;rw[i.o];unfold mok;simp;try omega
def Blk.three {w:qw}{b:Value}{t:TypeId}(h:Blk w g #[a,b,c] t):
 w.cell? (qR g 0)=some a/\w.cell? (qR g 1)=some b/\w.cell? (qR g 2)=some c/\∀i,w.frozen? (qR g i)=false:=
 ⟨by rw[h.cell];rfl,by rw[h.cell];rfl,by rw[h.cell];rfl,λi=>h.frozen i⟩
def mR (a n b l w)(i:0<=l)(j:l<=1048576)(hn:n<=maxLen):
 qC 60 #[qS a n b,qI l] w λe d=>e=.returned (qI$ if l<n then -1 else l-n)/\d=w:=by
 unfold maxLen at hn;by_cases h:l<n
 .delta qC;go_in
  go_wp2;go_ret;exact⟨rfl,rfl⟩
 .delta qC;go_in
  go_wp2;go_ret;exact⟨rfl,rfl⟩
def jI (a n g d w)(h:BS w a n g d)(hn:n<=1048576:=by omega):
 qC 79 #[qS a n g] w λe w'=>e=.returned (qS (qP w.heap.size) n n)/\Row8 w' w.heap.size d/\qY w w':=by
 let⟨q,hi,l,p,B⟩:=info_parts rC;obtain⟨f,G,K,hc,_⟩:=h;by_cases x:n=0
 .subst x;obtain rfl:d=[]:=xE f;go_enter func79,ntmps79
  go_wp2_with (at_make;refine wpList_make_full _ rfl _ _ 28 rfl (qs w) 5 q (.int .u8 0) 1 underlying28 hi l p .i64 .i64 _ _ 0 rfl rfl rfl rfl J Jf aO ?_;intro M j u)
  have s:=tR j;have t:=bI u;go_loop [4] (λi=>i=qI 0) (λ_=>0)
  .rfl
  .obtain rfl:=hrel;go_wp2;go_ret;exact⟨rfl,s,t⟩
 .obtain⟨b,D,rfl,hd⟩:=hc x;go_enter func79,ntmps79
  go_wp2_with (at_make;refine wpList_make_full _ rfl _ _ 28 rfl w.heap.size 5 q (.int .u8 0) 1 underlying28 hi l p .i64 .i64 _ _ n rfl rfl rfl rfl (by rw[B];omega) Jf aO ?_;intro M j u)
  have s:=tR j;have t:=bI u;go_loopw [4] (λi wr=>∃k:Nat,k<=n/\i=qI k/\Row8 wr (qs w) (aP d k)/\qY w wr) (qf n)
  .exact⟨0,xC _,rfl,by rw[lB,f];exact s,t⟩
  .obtain⟨k,Q,rfl,A,C⟩:=hrel;by_cases y:k<n
   .have F:(k:Int)<(n:Int):=J
    have:qN wr b (D+k)=some (.int .u8$ d.getD k 0):=(C.cell$ xD w _$ hd k y).trans$ hd k y;have:qn wr w k=some (.int .u8$ (aP d k).getD k 0):=A.cell k (by rw[qF];omega);have:wr.frozen? (qh w k)=false:=A.frozen k;have E:=A.set k$ d.getD k 0;rw[qE d k J]at E;have I:qY w (wr.setCell (qh w k)$ .int .u8$ d.getD k 0):=C.setCell aO _;have H:=E;have N:=I;generalize d.getD k 0=z at *;generalize (aP d k).getD k 0=P at *;go_wp2
    go_roundw
    .exact⟨k+1,J,by go_num,H,N⟩
    .simp[qf,intOf];omega
   .have e:Zh (k=n):=by show k=n;omega
    go_wp2;go_ret;exact⟨rfl,by rw[e.o,<-f,qG]at A;exact A,C⟩
def aCs (xs i:qi)(k)(h:xs.take k=i.take k)(hx:k<xs.length)(j:k<i.length)(s:xs.getD k 0=i.getD k 0):xs.take (k+1)=i.take (k+1):=by
 rw[List.take_succ_eq_append_getElem hx,List.take_succ_eq_append_getElem j,h]
 grind
def jV (a f n g x l xs d w)(h:BS w a n g xs)(I:BS w f x l d):
 qC 55 #[qS a n g,qS f x l] w (qB w$ .bool$ decide$ xs=d):=by
 obtain⟨q,O,U,hc,_⟩:=h;obtain⟨N,P,V,F,_⟩:=I;unfold maxLen at O P;by_cases Q:n=x
 .subst Q;have C:((n:Int) !=(n:Int))=false:=Jb
  by_cases s:n=0
  .subst s;obtain rfl:xs=[]:=xE q;obtain rfl:d=[]:=xE N
   delta qC;go_in
   go_wp2;go_loop [5] (λi=>i=qI 0) (λ_=>0)
   .rfl
   .obtain rfl:=hrel;go_wp2;go_ret;exact⟨rfl,brf⟩
  .obtain⟨b,E,rfl,hd⟩:=hc s;obtain⟨B,S,rfl,p⟩:=F s
   delta qC;go_in
   go_wp2;go_loopw [5] (λi wr=>∃k:Nat,k<=n/\i=qI k/\xs.take k=d.take k/\qY w wr) (qf n)
   .exact⟨0,xC _,rfl,Jb,brf⟩
   .obtain⟨k,K,rfl,D,u⟩:=hrel;by_cases j:k<n
    .have G:(k:Int)<(n:Int):=J
     have A:qN wr b (E+k)=some (.int .u8$ xs.getD k 0):=(u.cell$ xD w _$ hd k j).trans$ hd k j;have:qN wr B (S+k)=some (.int .u8$ d.getD k 0):=(u.cell$ xD w _$ p k j).trans$ p k j;by_cases y:xs.getD k 0=d.getD k 0
     .have hS:=aCs xs d k D J J y;have H:Zh (xs.take (k+1)=d.take (k+1)):=hS;rw[y]at A;generalize d.getD k 0=z at *;have R:(z !=z)=false:=Jb
      go_wp2
      go_quiet (fail)
      go_wp2
      go_roundw
      .exact⟨k+1,J,by go_num,H,below_drewN u _⟩
      .simp[qf,intOf];omega
     .have t:Zh (decide (xs=d)=false):=by
       show _=_;simp;intro e;exact y (by rw[e])
      have R:(xs.getD k 0 !=d.getD k 0)=true:=by simpa using y
      generalize d.getD k 0=z at *;generalize xs.getD k 0=M at *;go_wp2
      go_quiet (fail)
      go_wp2;go_ret;exact⟨aA t.symm,below_drewN u _⟩
    .have t:Zh (decide (xs=d)=true):=by
      show _=_;simp;rw[xG J,xG J]at D;exact D
     go_wp2;go_ret;exact⟨aA t.symm,u⟩
 .have t:Zh (decide (xs=d)=false):=by
   show _=_;simp;intro e;rw[e]at q;omega
  have C:((n:Int) !=(x:Int))=true:=Jc
  delta qC;go_in
  go_wp2;go_ret;exact⟨aA t.symm,brf⟩
def oT (a n b)(l:Int)(w)(k:0<=l)(j:l<=1048576)(hn:n<=maxLen)(h:l<n):
 qC 60 #[qS a n b,qI l] w λe w'=>e=.returned (qI (-1))/\w=w':=
 (mR a n b l w k j hn).mono λe w' i=>⟨by rw[i.1,if_pos h],i.2.symm⟩
def fK (a n b)(l:Int)(w)(k:0<=l)(i:l<=1048576)(hn:n<=maxLen)(h:n<=l:=by omega):
 qC 60 #[qS a n b,qI l] w λe w'=>e=.returned (qI$ l-n)/\w=w':=
 (mR a n b l w k i hn).mono λe w' j=>⟨by grind,j.2.symm⟩
def aM8 (a1 a2 a3 n1 c1 n2 c2 n3 c3 l w)(s:0<=l)(t:l<=1048576)(i:n1<=maxLen)(k:n2<=maxLen)(j:n3<=maxLen)(h:(n1:Int)+n2+n3<=l):
 qC 19 #[.agg$ qV a1 n1 c1 a2 n2 c2 a3 n3 c3,qI l] w (qB w$ qI$ l-n1-n2-n3):=by
 delta qC;go_in
 go_wp2_with fail
 apply(fK a1 n1 c1 l _ J J i).mono;rintro e a ⟨rfl,rfl⟩;go_wp2_with fail
 apply(fK a2 n2 c2 _ _ J J k).mono;rintro e a ⟨rfl,rfl⟩;go_wp2_with fail
 apply(fK a3 n3 c3 _ _ J J j).mono;rintro e a ⟨rfl,rfl⟩;go_wp2;go_ret;exact⟨rfl,bal⟩
def aM7 (a1 a2 a3 n1 c1 n2 c2 n3 c3 l w)(x:0<=l)(u:l<=1048576)(i:n1<=maxLen)(j:n2<=maxLen)(k:n3<=maxLen)(h:l<(n1:Int)+n2+n3):
 qC 19 #[.agg$ qV a1 n1 c1 a2 n2 c2 a3 n3 c3,qI l] w (qB w$ qI (-1)):=by
 by_cases s:l<(n1:Int)
 .delta qC;go_in
  go_wp2_with fail
  apply(oT a1 n1 c1 l _ J J i J).mono;rintro e a ⟨rfl,rfl⟩;go_wp2;go_ret;exact⟨rfl,bal⟩
 .by_cases t:l<(n1:Int)+n2
  .delta qC;go_in
   go_wp2_with fail
   apply(fK a1 n1 c1 l _ J J i).mono;rintro e a ⟨rfl,rfl⟩;go_wp2_with fail
   apply(oT a2 n2 c2 _ _ J J j J).mono;rintro e a ⟨rfl,rfl⟩;go_wp2;go_ret;exact⟨rfl,bal⟩
  .delta qC;go_in
   go_wp2_with fail
   apply(fK a1 n1 c1 l _ J J i).mono;rintro e a ⟨rfl,rfl⟩;go_wp2_with fail
   apply(fK a2 n2 c2 _ _ J J j).mono;rintro e a ⟨rfl,rfl⟩;go_wp2_with fail
   apply(oT a3 n3 c3 _ _ J J k J).mono;rintro e a ⟨rfl,rfl⟩;go_wp2;go_ret;exact⟨rfl,bal⟩
def aK6 (a1 a2 a3 n1 c1 n2 c2 n3 c3 x1 x2 x3 w)(l:BS w a1 n1 c1 x1)(q:BS w a2 n2 c2 x2)(B:BS w a3 n3 c3 x3)(hn:n1+n2+n3<=1048576):
 qC 28 #[.agg$ qV a1 n1 c1 a2 n2 c2 a3 n3 c3] w λe w'=>∃I K V,e=.returned (.agg$ qV (qP I) n1 n1 (qP K) n2 n2 (qP V) n3 n3) /\
  w.heap.size<=I/\I<K/\K<V/\Row8 w' I x1/\Row8 w' K x2/\Row8 w' V x3/\qY w w':=by
 delta qC;go_in
 go_wp2_with fail
 have E:qY w (((w.alloc$ .cells (qV a1 n1 c1 a2 n2 c2 a3 n3 c3) 30).alloc$ .cells (qV none 0 0 none 0 0 none 0 0) 39).alloc$ .cells (qV none 0 0 none 0 0 none 0 0) 39):=
  bal.alloc Jb _ |>.alloc Jc _
 apply(jI a1 n1 c1 x1 _$ l.bw E).mono;rintro e x ⟨rfl,i,t⟩;have A:=(((Blk.new w (qV a1 n1 c1 a2 n2 c2 a3 n3 c3) 30).alloc$ .cells (qV none 0 0 none 0 0 none 0 0) 39).alloc$ .cells (qV none 0 0 none 0 0 none 0 0) 39).bw t;have H:=((Blk.new (w.alloc$ .cells (qV a1 n1 c1 a2 n2 c2 a3 n3 c3) 30) (qV none 0 0 none 0 0 none 0 0) 39).alloc$ .cells (qV none 0 0 none 0 0 none 0 0) 39).bw t;have C:=(Blk.new ((w.alloc$ .cells (qV a1 n1 c1 a2 n2 c2 a3 n3 c3) 30).alloc$ .cells (qV none 0 0 none 0 0 none 0 0) 39) (qV none 0 0 none 0 0 none 0 0) 39).bw t;have Z:=E.trans$ t.mono Jc;try unfold qY at *
 simp only[xF]at A H C i;let⟨a,b,d,f⟩:=A.three;have g:=C.three;go_wp2_with fail
 have u:=Z.setCell (p:=(qR (w.heap.size+1+1) 0)) Jc$ qS (qP$ w.heap.size+1+1+1) n1 n1;apply(jI a2 n2 c2 x2 _$ q.bw u).mono;rintro e X ⟨rfl,s,k⟩;have R:=(A.other (qR (w.heap.size+1+1) 0) (qS (qP$ w.heap.size+1+1+1) n1 n1) Jd).bw k;have Q:=(H.other (qR (w.heap.size+1+1) 0) (qS (qP$ w.heap.size+1+1+1) n1 n1) Jd).bw k;have G:=(C.set 0$ qS (qP$ w.heap.size+1+1+1) n1 n1).bw k;have U:=i;have i:=(i.other (qR (w.heap.size+1+1) 0) (qS (qP$ w.heap.size+1+1+1) n1 n1) Jd).bw k;try unfold qY at *
 rw[aK]at s k;have P:=(U.lt);have D:x.heap.size<X.heap.size:=s.lt;have W:=u.trans$ k.mono J;let⟨a,b,d,f⟩:=R.three;have g:=G.three;go_wp2_with fail
 have y:=W.setCell (p:=(qR (w.heap.size+1+1) 1)) Jc$ qS (qp x) n2 n2;apply(jI a3 n3 c3 x3 _$ B.bw y).mono;rintro e S ⟨rfl,F,j⟩;have M:=(Q.other (qR (w.heap.size+1+1) 1) (qS (qp x) n2 n2) Jd).bw j;have N:=(G.set 1$ qS (qp x) n2 n2).bw j;have i:=(i.other (qR (w.heap.size+1+1) 1) (qS (qp x) n2 n2) Jd).bw j;have s:=(s.other (qR (w.heap.size+1+1) 1) (qS (qp x) n2 n2) Jd).bw j;try unfold qY at *
 rw[aK]at F j;have O:=j.size;try unfold qY at *
 rw[aK]at O;have Y:=y.trans$ j.mono J;have g:=N.three;let⟨a,b,d,f⟩:=M.three;go_wp2
 refine bodyPost_ret (v:=.agg$ qV (qP$ w.heap.size+1+1+1) n1 n1 (qp x) n2 n2 (qp X) n3 n3)
  (by simp[results,results28,go_sem,a,b,d]) rfl ⟨w.heap.size+1+1+1,x.heap.size,X.heap.size,rfl,J,P,D,?_,?_,?_,?_⟩
 .exact(((i.other _ _ Jd).other _ _ Jd).other _ _ Jd).other _ _ Jd
 .exact(((s.other _ _ Jd).other _ _ Jd).other _ _ Jd).other _ _ Jd
 .exact(((F.other _ _ Jd).other _ _ Jd).other _ _ Jd).other _ _ Jd
 .exact(((Y.setCell Jd _).setCell Jd _).setCell Jd _).setCell Jd _
def aMq (a1 a2 a3 a b d n1 c1 n2 c2 n3 c3 p f q g B l x1 x2 x3 S U V w)(E:BS w a1 n1 c1 x1)(F:BS w a2 n2 c2 x2)(K:BS w a3 n3 c3 x3)
 (H:BS w a p f S) (M:BS w b q g U) (N:BS w d B l V):
 qC 38 #[.agg$ qV a1 n1 c1 a2 n2 c2 a3 n3 c3,.agg$ qV a p f b q g d B l] w λe w'=>e=.returned (.bool$ decide (x1=S)&&(decide (x2=U)&&decide (x3=V)))/\qY w w':=by
 have k:qY w ((w.alloc$ .cells (qV a1 n1 c1 a2 n2 c2 a3 n3 c3) 39).alloc$ .cells (qV a p f b q g d B l) 39):=
  bal.alloc Jb _
 delta qC;go_in
 go_wp2_with fail
 apply(jV a1 a n1 c1 p f x1 S _ (E.bw k)$ H.bw k).mono;rintro e P ⟨rfl,t⟩;have j:=k.trans$ t.mono Jc;have D:=((Blk.new w (qV a1 n1 c1 a2 n2 c2 a3 n3 c3) 39).alloc$ .cells (qV a p f b q g d B l) 39).bw t;have v1:=(Blk.new (w.alloc$ .cells (qV a1 n1 c1 a2 n2 c2 a3 n3 c3) 39) (qV a p f b q g d B l) 39).bw t;simp only[xF]at v1;by_cases e1:x1=S
 .simp only[xR e1];have G:=D.three;have I:=v1.three;have x:=zh e1;go_wp2_with fail
  apply(jV a2 b n2 c2 q g x2 U _ (F.bw j)$ M.bw j).mono;rintro e R ⟨rfl,s⟩;have i:=yT j s;have O:=D.bw s;have v2:=v1.bw s;by_cases e2:x2=U
  .simp only[xR e2];have G:=O.three;have I:=v2.three;have y:=zh e2;go_wp2_with fail
   apply(jV a3 d n3 c3 B l x3 V _ (K.bw i)$ N.bw i).mono;rintro e Q ⟨rfl,A⟩;have u:=yT i A;by_cases e3:x3=V
   .simp only[xR e3];have C:=zh e3;go_wp2;go_ret;exact⟨aA (by simp[sA x,sA y,sA C]),u⟩
   .simp only[xS e3];have C:=zh e3;go_wp2;go_ret;exact⟨aA (by simp[sA C]),u⟩
  .simp only[xS e2];have y:=zh e2;go_wp2;go_ret;exact⟨aA (by simp[sA y]),i⟩
 .simp only[xS e1];have x:=zh e1;go_wp2;go_ret;exact⟨aA (by simp[sA x]),j⟩
def aI2 (a1 a2 a3 a b d n1 c1 n2 c2 n3 c3 p f q g x l x1 x2 x3 w)(k:BS w a1 n1 c1 x1)(t:BS w a2 n2 c2 x2)(u:BS w a3 n3 c3 x3)
 (i:BS w a p f x1) (j:BS w b q g x2) (s:BS w d x l x3):
 qC 38 #[.agg$ qV a1 n1 c1 a2 n2 c2 a3 n3 c3,.agg$ qV a p f b q g d x l] w λe w'=>e=.returned (.bool true)/\qY w w':=
 (aMq a1 a2 a3 a b d n1 c1 n2 c2 n3 c3 p f q g x l x1 x2 x3 x1 x2 x3 w k t u i j s).mono λe w' h=>⟨by rw[h.1];simp,h.2⟩
def hs (b l o a:Int):Bool:=decide$ b<=a/\a<b+(2:Int)^l.toNat/\(o/(2:Int)^((a-b)/((2:Int)^l.toNat/8)).toNat)%2=0
def aBs {b l o:Int}(h:rok b l o=true):5<=l/\l<=14/\0<=o/\o<=255/\(8<=l\/o=0)/\0<=b/\b<=262144-(2:Int)^l.toNat:=by
 simp[rok]at h;omega
def aVi (l:Int)(h:3<=l):(2:Int)^l.toNat=8*(2:Int)^(l-3).toNat:=by
 let⟨k,a⟩:=xV$ show 0<=l-3 from J;have:l.toNat=k+3:=J
 grind
def aGw (d q:Int)(i:0<q)(j:0<=d)(h:d<8*q):0<=d/q/\d/q<=7:=by
 refine⟨Int.ediv_nonneg j J,?_⟩;have:=Int.ediv_lt_of_lt_mul i h;omega
def aMi (b l o a r x y w)(h:rok b l o=true):
 qC 250 #[.agg #[qI b,qI l,qI o,.bool r,.bool x,.bool y],qI a] w (qB w$ .bool$ hs b l o a):=by
 let⟨p,q,g,t,d,u,A⟩:=aBs h;have:=pow_pos l.toNat;have i:=aVi l J;have k:=pow_pos (l-3).toNat;have s:(2:Int)^l.toNat/8=(2:Int)^(l-3).toNat:=J
 by_cases F:a<b
 .have j:Zh (hs b l o a=false):=by show _=_;unfold hs;simp;omega
  clear h d i s
  delta qC;go_in
  go_wp2_with (go_at_call 174;refine(cE _ J J _).mono ?_;rintro e f ⟨rfl,rfl⟩)
  go_ret;exact⟨aA j.symm,bal⟩
 .by_cases kb:b+(2:Int)^l.toNat<=a
  .have j:Zh (hs b l o a=false):=by show _=_;unfold hs;simp;omega
   clear h d i s
   delta qC;go_in
   go_wp2_with (go_at_call 174;refine(cE _ J J _).mono ?_;rintro e f ⟨rfl,rfl⟩)
   go_ret;exact⟨aA j.symm,bal⟩
  .by_cases E:l<8
   .have j:Zh (hs b l o a=true):=by
     have C:o=0:=J
     subst C;show _=_;unfold hs;simp;omega
    clear h d i s
    delta qC;go_in
    go_wp2_with (go_at_call 174;refine(cE _ J J _).mono ?_;rintro e f ⟨rfl,rfl⟩)
    go_ret;exact⟨aA j.symm,bal⟩
   .have hd:=aGw (a-b) ((2:Int)^(l-3).toNat) k J J
    have j:Zh (hs b l o a=((o/(2:Int)^((a-b)/((2:Int)^l.toNat/8)).toNat)%2==0)):=by
     show _=_;unfold hs;rw[xJ];simp;omega
    rw[<-s]at hd;have:0<(2:Int)^l.toNat/8:=J
    have:=pow_pos ((a-b)/((2:Int)^l.toNat/8)).toNat;have:=vS ((a-b)/((2:Int)^l.toNat/8)).toNat;clear h d i s k;obtain⟨B,D⟩:=hd
    delta qC;go_in
    go_wp2_with (go_at_call 174;refine(cE _ J J _).mono ?_;rintro e f ⟨rfl,rfl⟩)
    go_quiet ((go_at_call 174;exact Calls.quiet_of_same$ cE _ J J _))
    go_wp2;go_ret;rw[xL$ Int.ediv_nonneg g J];exact⟨aA j.symm,below_drewN bal _⟩
def aTp:∀o:Fin 256,(255 ^^^ o.val)=255-o.val:=by decide +kernel
def aTo (o)(j:0<=o)(k:o<=255):bits BinOp.xor IntKind.u8 IntKind.u8.max o=255-o:=by
 have i:IntKind.u8.max=255:=Ja
 rw[i,u8_xor 255 o J J j J];have:=aTp ⟨o.toNat,J⟩
 grind
def aSt (t)(i:0<=t)(j:t<=255):bits BinOp.and IntKind.u8 t 1=t%2:=by
 rw[u8_and t 1 i J J J]
 grind
def aFp (b l o r x y w)(i:0<=o)(j:o<=255):
 qC 314 #[.agg #[qI b,qI l,qI o,.bool r,.bool x,.bool y]] w (qB w$ .int .u8$ 255-o):=by
 have hx:=zh$ aTo o i j
 delta qC;go_in
 go_wp2;go_ret;exact⟨aJ hx,bal⟩
def aSa (s i w)(j:0<=s)(t:s<=255)(u:0<=i)(x:i<=7):
 qC 315 #[.int .u8 s,qI i] w λe w'=>e=.returned (.bool$ (s/(2:Int)^i.toNat)%2==1)/\w=w':=by
 have k:0<=s/(2:Int)^i.toNat/\s/(2:Int)^i.toNat<=255:=by
  have:=pow_pos i.toNat;exact⟨Int.ediv_nonneg j J,Int.le_trans (Int.ediv_le_self _ j) t⟩
 have hx:=zh$ aSt (s/(2:Int)^i.toNat) k.1 k.2
 delta qC;go_in
 go_wp2;go_ret;exact⟨aA (by rw[hx.o]),rfl⟩
def aP9:∀(o:Fin 256)(i:Fin 8),((255-o.val)/2^i.val%2==1)=(o.val/2^i.val%2==0):=by decide +kernel
def aPq (o i:Int)(s:0<=o)(u:o<=255)(j:0<=i)(t:i<=7):((255-o)/(2:Int)^i.toNat%2==1)=(o/(2:Int)^i.toNat%2==0):=by
 obtain⟨a,rfl⟩:=xV s;obtain⟨k,rfl⟩:=xV j;have:=aP9 ⟨a,J⟩ ⟨k,J⟩;have:(255-(a:Int))=((255-a:Nat):Int):=J
 have:(2:Int)^((k:Int).toNat)=((2^k:Nat):Int):=Jb
 grind
def Blk.six {w:qw}{b:Value}{t:TypeId}(h:Blk w g #[a,b,c,d,e,f] t):
 w.cell? (qR g 0)=some a/\w.cell? (qR g 1)=some b/\w.cell? (qR g 2)=some c/\w.cell? (qR g 3)=some d/\w.cell? (qR g 4)=some e/\w.cell? (qR g 5)=some f/\∀i,w.frozen? (qR g i)=false:=
 ⟨by rw[h.cell];rfl,by rw[h.cell];rfl,by rw[h.cell];rfl,by rw[h.cell];rfl,by rw[h.cell];rfl,by rw[h.cell];rfl,λi=>h.frozen i⟩
def wrap_i64 {n:Int}(i:-9223372036854775808<=n)(j:n<=9223372036854775807):IntKind.i64.wrap n=n:=by
 simp only[IntKind.wrap,IntKind.bits,IntKind.signed]
 grind
def aAr (b l o a r x y w)(h:rok b l o=true)(ha:-9223372036854775808<=a/\a<=9223372036854775807):
 qC 299 #[.agg #[qI b,qI l,qI o,.bool r,.bool x,.bool y],qI a] w (qB w$ .bool$ hs b l o a):=by
 let⟨B,C,g,p,f,D,E⟩:=aBs h;have:=pow_pos l.toNat;have i:=aVi l J;have u:=pow_pos (l-3).toNat;have t:(2:Int)^l.toNat/8=(2:Int)^(l-3).toNat:=J
 by_cases q:a<b
 .have k:Zh (hs b l o a=false):=by show _=_;unfold hs;simp;omega
  clear h f i t;have hd:decide (a<b)=true:=by simpa using q
  delta qC;go_in
  go_wp2
  go_quiet (fail)
  go_wp2;go_ret;exact⟨aA k.symm,below_drewN bal _⟩
 .have hd:decide (a<b)=false:=by simpa using q
  by_cases kb:(2:Int)^l.toNat<=a-b
  .have k:Zh (hs b l o a=false):=by show _=_;unfold hs;simp;omega
   clear h f i t
   delta qC;go_in
   go_wp2
   go_quiet (fail)
   go_wp2;go_ret;exact⟨aA k.symm,below_drewN bal _⟩
  .have j:=aGw (a-b) ((2:Int)^(l-3).toNat) u J J
   have k:Zh (hs b l o a=(((255-o)/(2:Int)^((a-b)/((2:Int)^(l-3).toNat)).toNat)%2==1)):=by
    show _=_;rw[aPq o _ g p j.1 j.2,<-t];unfold hs;rw[xJ];simp;omega
   clear h f i t;obtain⟨F,I⟩:=j
   delta qC;go_in
   go_wp2
   go_quiet (fail)
   go_wp2_with fail
   have kb:=Blk.new w #[qI b,qI l,qI o,.bool r,.bool x,.bool y] 231;have A:qY w (w.alloc$ .cells #[qI b,qI l,qI o,.bool r,.bool x,.bool y] 231):=bal;have:IntKind.i64.wrap (a-b)=a-b:=wrap_i64 J J;have:IntKind.i64.wrap (l-3)=l-3:=wrap_i64 J J
   have:Op.shift .shr .i64 (a-b) .i64 (l-3)=pure (qI$ (a-b)/(2:Int)^(l-3).toNat):=by
    rw[shift_shr_any _ _ _ _ J,Nat.min_eq_left (by simp[IntKind.bits];omega)]
   go_region_held3 (λd=>qn d w 0=qj b/\qn d w 1=qj l/\qn d w 2=qj o/\qn d w 3=some (.bool r)/\qn d w 4=some (.bool x)/\qn d w 5=some (.bool y)) (go_keep)
    (first
      | (go_at_call 314;refine(aFp b l o r x y _ g p).mono ?_;rintro e H ⟨rfl,s⟩;obtain⟨K,M,N,O,P,Q,R⟩:=(Blk.bw (by exact kb) s).six)
      | (go_at_call 315;refine(aSa _ _ _ ?_ ?_ ?_ ?_).mono ?_;omega;omega;omega;omega;rintro e G ⟨rfl,rfl⟩))
   go_wp2;go_ret;exact⟨aA k.o.symm,(below_drewN A _).trans$ s.mono Jb⟩
def aL9 (r x y:Bool)(k:Int):Bool:=if k=1 then r else if k=2 then x else if k=3 then y else false
def aIk (b l o k r x y w)(i:k=1\/k=2\/k=3):
 qC 251 #[.agg #[qI b,qI l,qI o,.bool r,.bool x,.bool y],qI k] w (qB w$ .bool$ aL9 r x y k):=by
 rcases i with rfl|rfl|rfl
 all_goals
  delta qC;go_in
  go_wp2;go_ret;exact⟨rfl,bal⟩
def sE (b l o k r x y w):
 qC 300 #[.agg #[qI b,qI l,qI o,.bool r,.bool x,.bool y],qI k] w (qB w$ .bool$ aL9 r x y k):=by
 by_cases i:k=1
 .subst i
  delta qC;go_in
  go_wp2;go_ret;exact⟨rfl,bal⟩
 .by_cases j:k=2
  .subst j
   delta qC;go_in
   go_wp2;go_ret;exact⟨rfl,bal⟩
  .by_cases s:k=3
   .subst s
    delta qC;go_in
    go_wp2;go_ret;exact⟨rfl,bal⟩
   .have t:Zh (aL9 r x y k=false):=by show _=_;simp[aL9,i,j,s]
    have:(k==1)=false:=by simpa using i
    have:(k==2)=false:=by simpa using j
    have:(k==3)=false:=by simpa using s
    clear i j s
    delta qC;go_in
    go_wp2;go_ret;exact⟨aA t.symm,bal⟩
