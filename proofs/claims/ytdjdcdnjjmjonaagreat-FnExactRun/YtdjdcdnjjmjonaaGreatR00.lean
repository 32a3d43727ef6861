import Derived.Test.YtdjdcdnjjmjonaaGreatRows
import Derived.WalkKit
import Derived.WalkLawsBesides
import Derived.WalkSpells
import Derived.BigQuiet
import Derived.Deep.QuietTactic
import Derived.Deep.RegionHeld3
import Derived.Laws.EntriesVeiled
set_option linter.all false
set_option maxHeartbeats 4000000
namespace Go.Proofs.YtdjdcdnjjmjonaaGreat
open Go.RowKit
set_option maxRecDepth 100000
def J {P:Prop}(h:P:=by omega):P:=h
def Ja {P:Prop}(h:P:=by decide):P:=h
def Jb {P:Prop}(h:P:=by simp):P:=h
def Jc {P:Prop}(h:P:=by simp;omega):P:=h
def Jd {P:Prop}(h:P:=by dsimp only;omega):P:=h
def Je {P:Prop}(h:P:=by kernel_rfl):P:=h
def Jf {P:Prop}(h:P:=by unfold maxLen;omega):P:=h
def Jg {P:Prop}(h:P:=by unfold gkd;decide):P:=h
def Jh {P:Prop}(h:P:=by unfold wfi;omega):P:=h
variable {B b base cap g n:Nat}{S:Nat->Prop}{cs:Array Value}{fd:Bool}{l:List Value}{p q:Prop}{v v0 v1 v10 v11 v12 v13 v2 v3 v4 v5 v6 v7 v8 v9:Value}{w:World}
abbrev qO:=Option Addr
theorem xC (n):0<=n:=by grind
theorem xM {a c:Nat}(h:a<=b)(k:b<=c):a<=c:=by grind
def xA:=@And.intro
def xB:=@List.getD_eq_getElem?_getD
def xD:=@World.block_lt_of_cell?
def xE:=@List.eq_nil_of_length_eq_zero
def xF:=@World.size_alloc
def xG:=@List.take_of_length_le
def xH:=@List.length_map
def xI:=@List.length_append
def xJ:=@Bool.eq_iff_iff
def xL:=@Int.tmod_eq_emod_of_nonneg
def xN:=@List.getElem?_eq_getElem
def xO:=@List.getElem?_eq_none
def xP:=@IntWalk.i64_left
def xQ:=@IntWalk.wrap64_in
def xR:=@decide_eq_true
def xS:=@decide_eq_false
def xT:=@List.flatMap_cons
def xU:=@List.flatMap_append
def xV:=@Int.eq_ofNat_of_zero_le
def xW:=@Array.toList_setIfInBounds
def xX:=@List.flatMap_singleton
def xY:=@Int.toNat_natCast
def xZ:=@Classical.not_not
abbrev qI (x:Int):Value:=.int .i64 x
abbrev qS (a:Option Addr)(n c:Nat):Value:=.slice a n c
abbrev qP (b:Nat):Option Addr:=some ⟨b,0,none⟩
abbrev qZ:Array Value:=#[.slice none 0 0,.int .i64 0,.int .i64 0,.int .i64 0,.int .i64 0,.int .i64 0,.slice none 0 0,.slice none 0 0,.slice none 0 0,.slice none 0 0,.int .i64 0,.int .i64 0,.slice none 0 0,.slice none 0 0,.int .i64 0]
abbrev qz:Array Value:=#[.slice none 0 0,.int .i64 0,.slice none 0 0,.int .i64 0,.int .i64 0,.slice none 0 0]
abbrev qV (a:Option Addr)(b c:Nat)(d:Option Addr)(e f:Nat)(g:Option Addr)(h i:Nat):Array Value:=#[.slice a b c,.slice d e f,.slice g h i]
abbrev qW (a b c d:Int):Array Value:=#[.int .i64 a,.int .i64 b,.int .i64 c,.int .i64 d]
abbrev qT (a b c:Int):Array Value:=#[.int .i64 a,.int .i64 b,.int .i64 c]
abbrev qM (s:ByteArray)(a:Option Addr)(b c:Nat)(d:Option Addr)(e f:Nat)(g:Option Addr)(h i:Nat)(x:Int)(j:Option Addr)(k l:Nat)(m:Option Addr)(n o:Nat)(p:Option Addr)(q r:Nat):Array Value:=#[.string s,.slice a b c,.slice d e f,.slice g h i,.int .i64 x,.slice j k l,.slice m n o,.slice p q r]
abbrev qY (w w':World):Prop:=Below w.heap.size w w'
abbrev qB (w:World)(v:Value)(e:Ending)(w':World):Prop:=e=.returned v/\Below w.heap.size w w'
abbrev qN (w:World)(b i:Nat):Option Value:=w.cell? ⟨b,i,none⟩
def Zh (p:Prop):Prop:=p
def Zh.o (h:Zh p):p:=h
def zh (h:p):Zh p:=h
abbrev qw:=World
abbrev qi:=List Int
def yB {α:Type _}{l:List α}{a b:α}:(a::l).set 0 b=b::l:=rfl
def yC {α:Type _}{a b:α}{l:List α}:(a::l).set (n+1) b=a::l.set n b:=rfl
def yA:=@List.setIfInBounds_toArray
def yD:=@List.getElem_toArray
def yE:=@List.getElem_cons_succ
def yF:=@List.getElem_cons_zero
abbrev qC (f:Nat)(a:Array Value)(w:World)(Q:Ending->World->Prop):Prop:=Calls Tryz.prog f a w Q
def bal {o:Obj}:Below w.heap.size w (w.alloc o):=(Below.refl _ _).alloc (Nat.le_refl _) _
abbrev qf (n:Nat)(v:Value)(_:World):Nat:=n-(intOf v).toNat
abbrev qR (b i:Nat):Addr:=⟨b,i,none⟩
def aO {α:Sort _}(t:α):∃x,x=t:=⟨_,rfl⟩
def brf:Below b w w:=Below.refl _ _
theorem aQ:n<=n:=by grind
def yT {a b c:World}(h:qY a b)(k:qY b c):qY a c:=h.trans$ k.mono h.size
def zb (U){P:World->Prop}(h:∀X,qY U X->P X):Zh (∀X,qY U X->P X):=h
def yG:=And.intro @yD.{0} (And.intro @yE.{0} (And.intro @yF.{0} (And.intro @yA.{0} (And.intro @yB.{0} @yC.{0}))))
abbrev qj (x:Int):Option Value:=some (.int .i64 x)
abbrev qk (a:Option Addr)(n c:Nat):Option Value:=some (.slice a n c)
abbrev qe (b i:Nat):Option Addr:=some ⟨b,i,none⟩
abbrev qh (w:World)(i:Nat):Addr:=⟨w.heap.size,i,none⟩
abbrev qr (w:World)(i:Nat):Addr:=⟨w.heap.size+1,i,none⟩
abbrev qp (w:World):Option Addr:=some ⟨w.heap.size,0,none⟩
abbrev qn (w u:World)(i:Nat):Option Value:=w.cell? ⟨u.heap.size,i,none⟩
abbrev qg (w u:World)(i:Nat):Option Value:=w.cell? ⟨u.heap.size+1,i,none⟩
def jK (h:p)(k:p->q:=by omega):q:=k h
def jL {r:Prop}(h:p)(g:q)(k:p->q->r:=by omega):r:=k h g
abbrev qm (w:World)(a:Array Value)(t:TypeId):World:=w.alloc (.cells a t)
abbrev qs (w:World):Nat:=w.heap.size
def aJ {k:IntKind}{a b:Int}(h:a=b):Ending.returned (.int k a)=.returned (.int k b):=by rw[h]
def aA {a b:Bool}(h:a=b):Ending.returned (.bool a)=.returned (.bool b):=by rw[h]
def bK (h:p):Hid p:=h
def sF (h:Hid p):p:=h
theorem wJ (n)(h:n<=20:=by omega):(2:Int)^n<=1048576:=by
 have:(2:Nat)^n<=2^20:=Nat.pow_le_pow_right J h
 grind
theorem pow_pos (n):0<(2:Int)^n:=by
 have:0<(2:Nat)^n:=Nat.pow_pos J
 grind
def aQ5 {W a:World}(d:qY W a):(∀b o,b<W.heap.size->a.cell? ⟨b,o,none⟩=W.cell? ⟨b,o,none⟩)/\(∀b o,b<W.heap.size->a.frozen? ⟨b,o,none⟩=W.frozen? ⟨b,o,none⟩):=
 ⟨λb o h=>d.cell (p:=⟨b,o,none⟩) h,λb o h=>d.frozen (p:=⟨b,o,none⟩) h⟩
def cD (n)(j:0<=n)(h:n<=20)(w):
 qC 174 #[qI n] w λe a=>e=.returned (qI$ (2:Int)^n.toNat)/\a=w:=by
 delta qC;go_in
 go_wp2;go_loop [3,4] (λv i=>∃k:Nat,(k:Int)<=n/\i=qI k/\v=qI ((2:Int)^k)) (λ_ i=>n.toNat-(intOf i).toNat)
 .exact⟨0,J,rfl,rfl⟩
 .obtain⟨k,s,rfl,rfl⟩:=hrel;by_cases d:(k:Int)<n
  .have f:=wJ k;have:=pow_pos k;have hs:Zh ((2:Int)^(k+1)=(2:Int)^k*2):=Int.pow_succ 2 k;generalize (2:Int)^k=P at *;go_wp2
   go_round
   .exact⟨k+1,J,by go_num,by rw[hs.o]⟩
   .simp[intOf];omega
  .have e:Zh (n.toNat=k):=by show n.toNat=k;omega
   go_wp2;go_ret;exact⟨aJ (by rw[e.o]),rfl⟩
def rok (b l o:Int):Bool:=
 decide (5<=l/\l<=14/\0<=o/\o<=255/\(8<=l\/o=0)/\0<=b/\b<=262144-(2:Int)^l.toNat/\b%(2:Int)^l.toNat=0)
def jT (b l o r x y w)(u:(Lit.int .i64 b).wf=true):
 qC 169 #[.agg #[qI b,qI l,qI o,.bool r,.bool x,.bool y]] w (qB w$ .bool$ rok b l o):=by
 by_cases C:l<5
 .have a:Zh (rok b l o=false):=by show _=_;unfold rok;simp;omega
  delta qC;go_in
  go_wp2;go_ret;exact⟨aA a.symm,bal⟩
 .by_cases A:14<l
  .have a:Zh (rok b l o=false):=by show _=_;unfold rok;simp;omega
   delta qC;go_in
   go_wp2;go_ret;exact⟨aA a.symm,bal⟩
  .by_cases D:o<0
   .have a:Zh (rok b l o=false):=by show _=_;unfold rok;simp;omega
    delta qC;go_in
    go_wp2;go_ret;exact⟨aA a.symm,bal⟩
   .by_cases G:255<o
    .have a:Zh (rok b l o=false):=by show _=_;unfold rok;simp;omega
     delta qC;go_in
     go_wp2;go_ret;exact⟨aA a.symm,bal⟩
    .by_cases f:l<8/\o≠0
     .obtain⟨j,d⟩:=f;have a:Zh (rok b l o=false):=by show _=_;unfold rok;simp;omega
      have:(o !=0)=true:=by simpa using d
      delta qC;go_in
      go_wp2;go_ret;exact⟨aA a.symm,bal⟩
     .have t:=wJ l.toNat;have:=pow_pos l.toNat
      have a:Zh (rok b l o=decide (0<=b/\b<=262144-(2:Int)^l.toNat/\b%(2:Int)^l.toNat=0)):=by
       show _=_;unfold rok;congr 1;apply propext;constructor
       .rintro⟨_,_,_,_,_,h⟩;exact h
       .intro h;exact⟨J,J,J,J,J,h⟩
      by_cases E:l<8
      .have k:o=0:=J
       subst k
       delta qC;go_in
       go_wp2_with (go_at_call 174;refine(cD _ J J _).mono ?_;rintro e g ⟨rfl,rfl⟩)
       all_goals
        go_ret;refine⟨aA ?_,bal⟩;rw[a.o,xJ];simp;try omega
      .clear f
       delta qC;go_in
       go_wp2_with (go_at_call 174;refine(cD _ J J _).mono ?_;rintro e g ⟨rfl,rfl⟩)
       all_goals
        go_ret;refine⟨aA ?_,bal⟩;rw[a.o,xJ];simp;try omega
def oU (b l o r x y w)(D:(Lit.int .i64 b).wf=true):
 qC 298 #[.agg #[qI b,qI l,qI o,.bool r,.bool x,.bool y]] w (qB w$ .bool$ rok b l o):=by
 by_cases G:l<5
 .have a:Zh (rok b l o=false):=by show _=_;unfold rok;simp;omega
  delta qC;go_in
  go_wp2;go_ret;exact⟨aA a.symm,bal⟩
 .by_cases E:14<l
  .have a:Zh (rok b l o=false):=by show _=_;unfold rok;simp;omega
   delta qC;go_in
   go_wp2;go_ret;exact⟨aA a.symm,bal⟩
  .by_cases i:o<0
   .have a:Zh (rok b l o=false):=by show _=_;unfold rok;simp;omega
    delta qC;go_in
    go_wp2;go_ret;exact⟨aA a.symm,bal⟩
   .by_cases j:255<o
    .have a:Zh (rok b l o=false):=by show _=_;unfold rok;simp;omega
     delta qC;go_in
     go_wp2;go_ret;exact⟨aA a.symm,bal⟩
    .by_cases f:l<8/\o≠0
     .obtain⟨t,d⟩:=f;have a:Zh (rok b l o=false):=by show _=_;unfold rok;simp;omega
      have:(o !=0)=true:=by simpa using d
      clear d
      delta qC;go_in
      go_wp2;go_ret;exact⟨aA a.symm,bal⟩
     .have C:=wJ l.toNat;have:=pow_pos l.toNat
      have a:Zh (rok b l o=decide (0<=b/\b<=262144-(2:Int)^l.toNat/\b%(2:Int)^l.toNat=0)):=by
       show _=_;unfold rok;congr 1;apply propext;constructor
       .rintro⟨_,_,_,_,_,h⟩;exact h
       .intro h;exact⟨J,J,J,J,J,h⟩
      by_cases H:l<8
      .have u:o=0:=J
       subst u;clear f i j
       delta qC;go_in
       go_wp2
       all_goals
        go_ret;refine⟨aA ?_,bal⟩;rw[a.o,xJ];simp[*];try omega
      .clear f;by_cases e:o=0
       .subst e;clear i j
        delta qC;go_in
        go_wp2
        all_goals
         go_ret;refine⟨aA ?_,bal⟩;rw[a.o,xJ];simp[*];try omega
       .have s:(o !=0)=true:=by simpa using e
        clear e
        delta qC;go_in
        go_wp2
        all_goals
         go_ret;refine⟨aA ?_,bal⟩;rw[a.o,xJ];simp[*];try omega
def BS (w:qw)(a:qO)(n cap:Nat)(zs:qi):Prop:=
 zs.length=n/\n<=maxLen/\(∀z∈zs,0<=z/\z<=255)/\(n≠0->∃b off,a=some ⟨b,off,none⟩/\∀i,i<n->w.cell? ⟨b,off+i,none⟩=some (.int .u8$ zs.getD i 0))/\n<=cap
theorem BS.bw {w w':qw}{a:qO}{zs:qi}(h:BS w a n cap zs)(d:qY w w'):BS w' a n cap zs:=by
 obtain⟨e,f,g,j,k⟩:=h;refine⟨e,f,g,λq=>?_,k⟩;let⟨b,off,l,hc⟩:=j q;refine⟨b,off,l,λi hi=>?_⟩;have:=hc i hi;rw[d.cell (p:=⟨b,off+i,none⟩)$ xD w _ this]
 grind
theorem BS.range {w:qw}{a:qO}{d:qi}(h:BS w a n cap d)(i):0<=d.getD i 0/\d.getD i 0<=255:=by
 by_cases hi:i<d.length
 .have:=h.2.2.1 d[i] (List.getElem_mem hi)
  grind
 .grind
def Row8 (w:qw)(g:Nat)(zs:qi):Prop:=w.heap[g]?=some (.cells (zs.map$ Value.int .u8).toArray 5 (0,0))
def Row8.cell {w:qw}{a:qi}(h:Row8 w g a)(i)(hi:i<a.length):w.cell? ⟨g,i,none⟩=some (.int .u8$ a.getD i 0):=by
 rw[cell_of_row w g i _ _ _ h];simp[xB,hi]
def Row8.frozen {w:qw}{a:qi}(h:Row8 w g a)(i):w.frozen? ⟨g,i,none⟩=false:=frozen_of_row w g i _ _ h
def Row8.set {w:qw}{a:qi}(h:Row8 w g a)(i z):Row8 (w.setCell ⟨g,i,none⟩$ .int .u8 z) g (a.set i z):=by
 unfold Row8 at *;rw[heap_setCell_same w g i _ _ _ h];simp[List.map_set]
theorem Row8.lt {w:qw}{a:qi}(h:Row8 w g a):g<w.heap.size:=by
 unfold Row8 at h
 grind
theorem Row8.bw {w w':qw}{zs:qi}(h:Row8 w g zs)(a:qY w w'):Row8 w' g zs:=by
 have:=a.block g h.lt;unfold Row8 at *
 grind
def Row8.bs {w:qw}{zs:qi}(h:Row8 w g zs)(a:zs.length<=maxLen)(hz:∀z∈zs,0<=z/\z<=255)(n cap)(hn:zs.length=n)(hc:n<=cap:=by exact aQ):BS w (qP g) n cap zs:=by
 subst hn;exact⟨rfl,a,hz,λ_=>⟨g,0,rfl,λi hi=>by rw[Nat.zero_add];exact h.cell i hi⟩,hc⟩
def Blk (w:qw)(g:Nat)(cs:Array Value)(t:TypeId):Prop:=w.heap[g]?=some (.cells cs t (0,0))
def Blk.cell {w:qw}{t:TypeId}(h:Blk w g cs t)(i):w.cell? ⟨g,i,none⟩=cs[i]?:=cell_of_row w g i _ _ _ h
def Blk.frozen {w:qw}{t:TypeId}(h:Blk w g cs t)(i):w.frozen? ⟨g,i,none⟩=false:=frozen_of_row w g i _ _ h
theorem Blk.lt {w:qw}{t:TypeId}(h:Blk w g cs t):g<w.heap.size:=by
 unfold Blk at h
 grind
theorem Blk.bw {w w':qw}{t:TypeId}(h:Blk w g cs t)(a:qY w w'):Blk w' g cs t:=by
 have:=a.block g h.lt;unfold Blk at *
 grind
def Blk.new (w:qw)(cs t):Blk (w.alloc$ .cells cs t) w.heap.size cs t:=heap_alloc_new w _
def nwb (w X T):∃U,U=w.alloc (.cells X T)/\Below w.heap.size w U/\Blk U w.heap.size X T:=⟨_,rfl,(Below.refl _ _).alloc (Nat.le_refl _) _,Blk.new _ _ _⟩
def Blk.z4 {w:qw}{t:TypeId}(h:Blk w b #[v0,v1,v2,v3] t):w.cell? ⟨b,0,none⟩=some v0/\w.cell? ⟨b,1,none⟩=some v1/\w.cell? ⟨b,2,none⟩=some v2/\w.cell? ⟨b,3,none⟩=some v3:=⟨h.cell 0,h.cell 1,h.cell 2,h.cell 3⟩
def Blk.z6 {w:qw}{t:TypeId}(h:Blk w b #[v0,v1,v2,v3,v4,v5] t):w.cell? ⟨b,0,none⟩=some v0/\w.cell? ⟨b,1,none⟩=some v1/\w.cell? ⟨b,2,none⟩=some v2/\w.cell? ⟨b,3,none⟩=some v3/\w.cell? ⟨b,4,none⟩=some v4/\w.cell? ⟨b,5,none⟩=some v5:=⟨h.cell 0,h.cell 1,h.cell 2,h.cell 3,h.cell 4,h.cell 5⟩
def Blk.alloc {w:qw}{t:TypeId}(h:Blk w g cs t)(o):Blk (w.alloc o) g cs t:=by
 have a:=h.lt;unfold Blk at *;rw[Below.heap_alloc _ _ _ a];exact h
def Blk.set {w:qw}{t:TypeId}(h:Blk w g cs t)(i v):Blk (w.setCell ⟨g,i,none⟩ v) g (cs.setIfInBounds i v) t:=heap_setCell_same w g i _ _ _ h
def Blk.e0 {t:TypeId}(h:Blk w b (v0::l).toArray t):w.cell? ⟨b,0,none⟩=some v0:=by rw[h.cell];simp
def Blk.e1 {t:TypeId}(h:Blk w b (v0::v1::l).toArray t):w.cell? ⟨b,1,none⟩=some v1:=by rw[h.cell];simp
def Blk.e2 {t:TypeId}(h:Blk w b (v0::v1::v2::l).toArray t):w.cell? ⟨b,2,none⟩=some v2:=by rw[h.cell];simp
def Blk.e3 {t:TypeId}(h:Blk w b (v0::v1::v2::v3::l).toArray t):w.cell? ⟨b,3,none⟩=some v3:=by rw[h.cell];simp
def Blk.e4 {t:TypeId}(h:Blk w b (v0::v1::v2::v3::v4::l).toArray t):w.cell? ⟨b,4,none⟩=some v4:=by rw[h.cell];simp
def Blk.e5 {t:TypeId}(h:Blk w b (v0::v1::v2::v3::v4::v5::l).toArray t):w.cell? ⟨b,5,none⟩=some v5:=by rw[h.cell];simp
def Blk.e6 {t:TypeId}(h:Blk w b (v0::v1::v2::v3::v4::v5::v6::l).toArray t):w.cell? ⟨b,6,none⟩=some v6:=by rw[h.cell];simp
def Blk.e7 {t:TypeId}(h:Blk w b (v0::v1::v2::v3::v4::v5::v6::v7::l).toArray t):w.cell? ⟨b,7,none⟩=some v7:=by rw[h.cell];simp
def Blk.e8 {t:TypeId}(h:Blk w b (v0::v1::v2::v3::v4::v5::v6::v7::v8::l).toArray t):w.cell? ⟨b,8,none⟩=some v8:=by rw[h.cell];simp
def Blk.e9 {t:TypeId}(h:Blk w b (v0::v1::v2::v3::v4::v5::v6::v7::v8::v9::l).toArray t):w.cell? ⟨b,9,none⟩=some v9:=by rw[h.cell];simp
def Blk.e10 {t:TypeId}(h:Blk w b (v0::v1::v2::v3::v4::v5::v6::v7::v8::v9::v10::l).toArray t):w.cell? ⟨b,10,none⟩=some v10:=by rw[h.cell];simp
def Blk.e11 {t:TypeId}(h:Blk w b (v0::v1::v2::v3::v4::v5::v6::v7::v8::v9::v10::v11::l).toArray t):w.cell? ⟨b,11,none⟩=some v11:=by rw[h.cell];simp
def Blk.e12 {t:TypeId}(h:Blk w b (v0::v1::v2::v3::v4::v5::v6::v7::v8::v9::v10::v11::v12::l).toArray t):w.cell? ⟨b,12,none⟩=some v12:=by rw[h.cell];simp
def Blk.e13 {t:TypeId}(h:Blk w b (v0::v1::v2::v3::v4::v5::v6::v7::v8::v9::v10::v11::v12::v13::l).toArray t):w.cell? ⟨b,13,none⟩=some v13:=by rw[h.cell];simp
def Blk.e14 {t:TypeId}{v14:Value}(h:Blk w b (v0::v1::v2::v3::v4::v5::v6::v7::v8::v9::v10::v11::v12::v13::v14::l).toArray t):w.cell? ⟨b,14,none⟩=some v14:=by rw[h.cell];simp
def Blk.s0 {t:TypeId}(h:Blk w b (v0::l).toArray t)(x):Blk (w.setCell ⟨b,0,none⟩ x) b (x::l).toArray t:=by have:=h.set 0 x;simpa using this
def Blk.s1 {t:TypeId}(h:Blk w b (v0::v1::l).toArray t)(x):Blk (w.setCell ⟨b,1,none⟩ x) b (v0::x::l).toArray t:=by have:=h.set 1 x;simpa using this
def Blk.s2 {t:TypeId}(h:Blk w b (v0::v1::v2::l).toArray t)(x):Blk (w.setCell ⟨b,2,none⟩ x) b (v0::v1::x::l).toArray t:=by have:=h.set 2 x;simpa using this
def Blk.s3 {t:TypeId}(h:Blk w b (v0::v1::v2::v3::l).toArray t)(x):Blk (w.setCell ⟨b,3,none⟩ x) b (v0::v1::v2::x::l).toArray t:=by have:=h.set 3 x;simpa using this
def Blk.other {w:qw}{t:TypeId}(h:Blk w g cs t)(a v)(d:g≠a.block):Blk (w.setCell a v) g cs t:=by
 unfold Blk at *;rw[heap_setCell_other _ _ _ _ d];exact h
def Row8.other {w:qw}{zs:qi}(h:Row8 w g zs)(a v)(d:g≠a.block):Row8 (w.setCell a v) g zs:=Blk.other h a v d
def aL (w:qw)(a v):(w.setCell a v).heap.size=w.heap.size:=by simp[World.setCell]
def aU {w w':qw}(h:Below w.drew.heap.size w.drew w'):qY w w':=⟨h.os,h.tape,h.output,h.size,h.block⟩
def aN (zs:qi)(k:Nat):List Int:=(List.range zs.length).map λi=>if i<k then zs.getD i 0 else 0
def rG (a k):(aN a k).length=a.length:=by simp[aN]
def kY (b):aN b 0=List.replicate b.length 0:=by
 apply List.ext_getElem
 .simp[aN]
 .intro i a d;simp[aN]
def rH (zs):aN zs zs.length=zs:=by
 apply List.ext_getElem
 .simp[aN]
 .intro i d a;simp[aN,a]
theorem rE (b k)(h:k<b.length):(aN b k).set k (b.getD k 0)=aN b (k+1):=by
 apply List.ext_getElem
 .simp[aN]
 .intro i a d;simp only[aN,List.getElem_set,List.getElem_map,List.getElem_range]
  grind
def uM (x:Nat):Nat:=x%2+x/2%2+x/4%2+x/8%2+x/16%2+x/32%2+x/64%2+x/128%2
set_option maxRecDepth 100000 in
def wU (x:Nat)(w)(a:x<256):
 qC 321 #[.int .u8 x] w λe w'=>e=.returned (qI$ uM x)/\w=w':=by
 delta qC;go_in
 go_wp2;go_ret;refine⟨aJ ?_,rfl⟩
 revert x
 decide +kernel
def aNk:∀o:Fin 256,(255 ^^^ (255-o.val))=o.val:=by decide +kernel
theorem aQu (q:Nat)(h:q<256):bits BinOp.xor IntKind.u8 IntKind.u8.max (255-(q:Int))=(q:Int):=by
 have a:IntKind.u8.max=255:=Ja
 rw[a,u8_xor 255 (255-(q:Int)) J J J J];have:=aNk ⟨q,h⟩
 grind
def aR3:∀q,q<256->uM q<=8:=by decide +kernel
def aHq (b l)(q:Nat)(r x y w)(h:q<256):
 qC 314 #[.agg #[qI b,qI l,qI$ 255-(q:Int),.bool r,.bool x,.bool y]] w (qB w$ .int .u8 q):=by
 have hx:=zh$ aQu q h;have:0<=255-(q:Int):=J
 have:255-(q:Int)<=255:=J
 generalize 255-(q:Int)=o at *
 delta qC;go_in
 go_wp2;go_ret;exact⟨aJ hx,bal⟩
def Blk.six' {w:qw}{a b c d e f:Value}{t:TypeId}(h:Blk w g #[a,b,c,d,e,f] t):
 w.cell? (qR g 0)=some a/\w.cell? (qR g 1)=some b/\w.cell? (qR g 2)=some c/\w.cell? (qR g 3)=some d/\w.cell? (qR g 4)=some e/\w.cell? (qR g 5)=some f/\∀i,w.frozen? (qR g i)=false:=
 ⟨by rw[h.cell];rfl,by rw[h.cell];rfl,by rw[h.cell];rfl,by rw[h.cell];rfl,by rw[h.cell];rfl,by rw[h.cell];rfl,λi=>h.frozen i⟩
theorem rZ {n:Int}(d:-9223372036854775808<=n:=by omega)(a:n<=9223372036854775807:=by omega):IntKind.i64.wrap n=n:=by
 simp only[IntKind.wrap,IntKind.bits,IntKind.signed]
 grind
def cnt (l:Int)(q:Nat):Int:=(uM q:Int)*(2:Int)^(l-3).toNat
def gF (b l)(q:Nat)(r x y w)(h:q<256)(D:5<=l)(s:l<=14):
 qC 313 #[.agg #[qI b,qI l,qI$ 255-(q:Int),.bool r,.bool x,.bool y]] w (qB w$ qI$ cnt l q):=by
 have:=aR3 q h;have:=wJ (l-3).toNat;have:=pow_pos (l-3).toNat
 have d:(uM q:Int)*(2:Int)^(l-3).toNat<=8*1048576:=by
  have:(uM q:Int)*(2:Int)^(l-3).toNat<=8*(2:Int)^(l-3).toNat:=Int.mul_le_mul_of_nonneg_right J J;omega
 have a:0<=(uM q:Int)*(2:Int)^(l-3).toNat:=Int.mul_nonneg J J;have:IntKind.i64.wrap (l-3)=l-3:=rZ;have C:Zh (cnt l q=(uM q:Int)*(2:Int)^(l-3).toNat):=rfl;have kb:=Blk.new w #[qI b,qI l,qI$ 255-(q:Int),.bool r,.bool x,.bool y] 231;have i:qY w (w.alloc$ .cells #[qI b,qI l,qI$ 255-(q:Int),.bool r,.bool x,.bool y] 231):=bal;have j:=zh$ xA a d;clear d a;have u:=zh$ wU q
 delta qC;go_in
 go_wp2
 go_region_held3 (λg=>qn g w 0=qj b/\qn g w 1=qj l/\qn g w 2=qj (255-(q:Int))/\qn g w 3=some (.bool r)/\qn g w 4=some (.bool x)/\qn g w 5=some (.bool y)) (go_keep)
  (first
    | (go_at_call 314;refine(aHq b l q r x y _ h).mono ?_;rintro e H ⟨rfl,f⟩;have:=(Blk.bw (by exact kb) f).six')
    | (go_at_call 321;refine(u _ h).mono ?_;rintro e I ⟨rfl,rfl⟩))
 go_wp2;go_ret;refine⟨aJ ?_,i.drew.trans$ f.mono Jb⟩;rw[C.o];exact rZ (jK j.o)$ jK j.o
def aNq (q i:Nat)(w)(h:q<256)(hi:i<8):
 qC 323 #[.int .u8 q,qI i] w λe w'=>e=.returned (.int .u8 ((q ||| 2^i:Nat):Int))/\w=w':=by
 delta qC;go_in
 go_wp2;go_ret;refine⟨aJ ?_,rfl⟩;have a:(2:Nat)^i<256:=Nat.pow_lt_pow_right J hi
 have e:(2:Int)^i%256=((2^i:Nat):Int):=by
  have:((2^i:Nat):Int)=(2:Int)^i:=Jb
  have:=pow_pos i;omega
 rw[e];exact u8_or_nat q (2^i) h a
def cm (l:Int)(q:Nat)(l':Int)(q':Nat):Bool:=decide$ cnt l' q'<cnt l q\/(cnt l q=cnt l' q'/\l<l')
def aAf (b l Q p)(q f:Nat)(w)(h:q<256)(K:f<256)(I:5<=l)(y:l<=14)(t:5<=p)(k:p<=14):
 qC 319 #[.agg #[qI b,qI l,qI$ 255-(q:Int),.bool false,.bool false,.bool false],.agg #[qI Q,qI p,qI$ 255-(f:Int),.bool false,.bool false,.bool false]] w (qB w$ .bool$ cm l q p f):=by
 have S:=(Blk.new w #[qI b,qI l,qI$ 255-(q:Int),.bool false,.bool false,.bool false] 231).alloc$ .cells #[qI Q,qI p,qI$ 255-(f:Int),.bool false,.bool false,.bool false] 231;have kb:=Blk.new (w.alloc$ .cells #[qI b,qI l,qI$ 255-(q:Int),.bool false,.bool false,.bool false] 231) #[qI Q,qI p,qI$ 255-(f:Int),.bool false,.bool false,.bool false] 231;simp only[xF]at kb;have s:qY w ((w.alloc$ .cells #[qI b,qI l,qI$ 255-(q:Int),.bool false,.bool false,.bool false] 231).alloc$ .cells #[qI Q,qI p,qI$ 255-(f:Int),.bool false,.bool false,.bool false] 231):=bal.alloc Jb _;have G:=zh$ gF b l q false false false;have D:=zh$ gF Q p f false false false;let⟨o,U⟩:=aO$ 255-(q:Int);let⟨W,V⟩:=aO$ 255-(f:Int);have M:Zh (cm l q p f=decide (cnt p f<cnt l q\/(cnt l q=cnt p f/\l<p))):=rfl;rw[<-U]at G S kb s⊢;rw[<-V]at D S kb s⊢;clear U V;generalize cnt l q=B at *;generalize cnt p f=c2 at *
 delta qC;go_in
 go_wp2
 go_region_held3 (λg=>qn g w 0=some (qI b)/\qn g w 1=some (qI l)/\qn g w 2=some (qI o)/\qn g w 3=some (.bool false)/\qn g w 4=some (.bool false)/\qn g w 5=some (.bool false)/\qg g w 0=some (qI Q)/\qg g w 1=some (qI p)/\qg g w 2=some (qI W)/\qg g w 3=some (.bool false)/\qg g w 4=some (.bool false)/\qg g w 5=some (.bool false)) (go_keep)
  (first
    | (go_at_call_of 313 (qI l);refine(G _ h I y).mono ?_;rintro e O ⟨rfl,d⟩;replace d:=aU d;have x:=(S.bw d).six';have A:=(kb.bw d).six')
    | (go_at_call_of 313 (qI p);refine(D _ K t k).mono ?_;rintro e P ⟨rfl,a⟩;replace a:=yT d a;have x:=(S.bw a).six';have A:=(kb.bw a).six'))
 have i:=S.bw a;have j:=kb.bw a;have u:=yT s a;by_cases hc:B=c2
 .subst hc;have E:(B !=B)=false:=Jb
  have C:=zh$ show decide (B<B\/(B=B/\l<p))=decide (l<p)from Jb;have x:=i.six';have A:=j.six';go_wp2;go_ret;exact⟨aA (by rw[M.o,C.o]),u⟩
 .have E:(B !=c2)=true:=by simpa using hc
  have C:=zh (show decide (c2<B\/(B=c2/\l<p))=decide (c2<B)by simp[hc]);have x:=i.six';have A:=j.six';go_wp2
  go_region_held3 (λg=>qn g w 0=some (qI b)/\qn g w 1=some (qI l)/\qn g w 2=some (qI o)/\qn g w 3=some (.bool false)/\qn g w 4=some (.bool false)/\qn g w 5=some (.bool false)/\qg g w 0=some (qI Q)/\qg g w 1=some (qI p)/\qg g w 2=some (qI W)/\qg g w 3=some (.bool false)/\qg g w 4=some (.bool false)/\qg g w 5=some (.bool false)) (go_keep)
   (first
     | (go_at_call_of 313 (qI l);refine(G _ h I y).mono ?_;rintro e N ⟨rfl,d⟩;replace d:=aU d;have x:=(i.bw d).six';have A:=(j.bw d).six')
     | (go_at_call_of 313 (qI p);refine(D _ K t k).mono ?_;rintro e X ⟨rfl,a⟩;replace a:=yT d a;have x:=(i.bw a).six';have A:=(j.bw a).six'))
  have H:=yT u a;go_wp2;go_ret;exact⟨aA (by rw[M.o,C.o]),H⟩
structure Turn (S:Nat->Prop)(w w':qw):Prop where
 os:w'.os=w.os
 tape:w'.tape=w.tape
 output:w'.output=w.output
 size:w.heap.size<=w'.heap.size
 block:∀k,k<w.heap.size->¬S k->w'.heap[k]?=w.heap[k]?
def Turn.refl (S:Nat->Prop)(w):Turn S w w:=⟨rfl,rfl,rfl,aQ,λ_ _ _=>rfl⟩
def Turn.trans {a b c:qw}(h:Turn S a b)(k:Turn S b c):Turn S a c:=
 ⟨k.os.trans h.os,k.tape.trans h.tape,k.output.trans h.output,xM h.size k.size,λj d hs=>(k.block j (Nat.lt_of_lt_of_le d h.size) hs).trans$ h.block j d hs⟩
def Turn.mono {a:Nat->Prop}{w w':qw}(h:Turn S w w')(hs:∀k,S k->a k):Turn a w w':=⟨h.os,h.tape,h.output,h.size,λk d b=>h.block k d λe=>b$ hs k e⟩
def aG {w w':qw}(h:qY w w'):Turn S w w':=⟨h.os,h.tape,h.output,h.size,λk a _=>h.block k a⟩
def cK (w o):Turn S w (w.alloc o):=aG bal
theorem aF {a w w':qw}(h:Below B a w)(d:Turn S w w')(hS:∀k,S k->B<=k)(i:B<=w.heap.size):Below B a w':=
 ⟨d.os.trans h.os,d.tape.trans h.tape,d.output.trans h.output,xM h.size d.size,λk f=>(d.block k J (λe=>by grind)).trans$ h.block k f⟩
def aC {w w':qw}{k:Nat}{t:TypeId}(d:Turn S w w')(h:Blk w k cs t)(a:¬S k):Blk w' k cs t:=by
 have:=d.block k h.lt a;unfold Blk at *;rw[this];exact h
theorem cE (b off i):(Addr.add (qR b off) i)=(qR b$ off+i):=by
 simp only[Addr.add]
 grind
def Bst (w:qw)(B:Nat)(fd:Bool)(b l o:Int):Prop:=
 Blk w B #[.func (Fn.func 319) #[] #[],.bool fd,qI b,qI l,qI o,.bool false,.bool false,.bool false] 323
def Bst.cells {w:qw}{b l o:Int}(h:Bst w B fd b l o):
 w.cell? (qR B 0)=some (.func (Fn.func 319) #[] #[])/\w.cell? (qR B 1)=some (.bool fd)/\w.cell? (qR B 2)=some (qI b)/\w.cell? (qR B 3)=some (qI l)/\w.cell? (qR B 4)=some (qI o)/\w.cell? (qR B 5)=some (.bool false)/\w.cell? (qR B 6)=some (.bool false)/\w.cell? (qR B 7)=some (.bool false)/\∀i,w.frozen? (qR B i)=false:=
 ⟨by rw[Blk.cell h];rfl,by rw[Blk.cell h];rfl,by rw[Blk.cell h];rfl,by rw[Blk.cell h];rfl,by rw[Blk.cell h];rfl,by rw[Blk.cell h];rfl,by rw[Blk.cell h];rfl,by rw[Blk.cell h];rfl,λi=>Blk.frozen h i⟩
def aLz {a W:qw}(h:Turn S a W)(n):Turn S a (W.drewN n):=⟨h.os,h.tape,h.output,h.size,h.block⟩
def aN0 (W:qw)(B:Nat)(b l o:Int):World:=
 ((((((W.setCell (qR B 1)$ .bool true).setCell (qR B 2)$ qI b).setCell (qR B 3)$ qI l).setCell (qR B 4)$ qI o).setCell (qR B 5)$ .bool false).setCell (qR B 6)$ .bool false).setCell (qR B 7) (.bool false)
def aB5 {W:qw}{a e d:Int}(h:Bst W B fd a e d)(b l o):Bst (aN0 W B b l o) B true b l o:=by
 have:=((((((Blk.set h 1$ .bool true).set 2$ qI b).set 3$ qI l).set 4$ qI o).set 5$ .bool false).set 6$ .bool false).set 7$ .bool false;unfold Bst aN0;simpa using this
def vX (W B b l o):Turn (λj=>j=B) W (aN0 W B b l o):=by
 have T:∀(X:qw)(i:Nat)(v:Value),Turn (λj=>j=B) X$ X.setCell (qR B i) v:=λX i v=>⟨rfl,rfl,rfl,by rw[aL];exact aQ,λj a d=>heap_setCell_other _ _ _ _ d⟩;exact((((((T _ _ _).trans$ T _ _ _).trans$ T _ _ _).trans$ T _ _ _).trans$ T _ _ _).trans$ T _ _ _).trans (T _ _ _)
def aMm (B b l o a g i w)(h:Bst w B false a g i):
 qC 324 #[.pointer$ qP B,.agg #[qI b,qI l,qI o,.bool false,.bool false,.bool false]] w λe w'=>e=.returned (.tuple #[])/\Bst w' B true b l o/\Turn (λj=>j=B) w w':=by
 have:=Blk.lt h;have:=h.cells;have f:Zh (Bst (w.alloc$ .cells #[qI b,qI l,qI o,.bool false,.bool false,.bool false] 231) B false a g i):=Blk.alloc h _;have d:=zh$ cK (S:=λj=>j=B) w$ .cells #[qI b,qI l,qI o,.bool false,.bool false,.bool false] 231
 delta qC;go_in
 go_wp2
 go_quiet (fail)
 go_wp2
 go_end0
 exact⟨rfl,aB5 (W:=(w.alloc$ .cells #[qI b,qI l,qI o,.bool false,.bool false,.bool false] 231).drewN _) f b l o,(aLz d _).trans$ vX _ B b l o⟩
def aXj (w:qw)(B:Nat)(t:Bool)(b l o b' l' o':Int):Prop:=Bst w B true (if t then b else b') (if t then l else l')$ if t then o else o'
def aMn (B b l p g)(q d:Nat)(w)(h:Bst w B true p g (255-(d:Int)))(H:q<256)(x:d<256)(E:5<=l)(y:l<=14)(s:5<=g)(k:g<=14):
 qC 324 #[.pointer$ qP B,.agg #[qI b,qI l,qI$ 255-(q:Int),.bool false,.bool false,.bool false]] w λe w'=>e=.returned (.tuple #[])/\aXj w' B (cm l q g d) b l (255-(q:Int)) p g (255-(d:Int))/\Turn (λj=>j=B) w w':=by
 have:=Blk.lt h;have u:=zh$ aAf b l p g q d;have kb:=Blk.new w #[qI b,qI l,qI$ 255-(q:Int),.bool false,.bool false,.bool false] 231;have i:Bst (w.alloc$ .cells #[qI b,qI l,qI$ 255-(q:Int),.bool false,.bool false,.bool false] 231) B true p g (255-(d:Int)):=Blk.alloc h _;have C:=zh$ cK (S:=λj=>j=B) w$ .cells #[qI b,qI l,qI$ 255-(q:Int),.bool false,.bool false,.bool false] 231;let⟨o,G⟩:=aO$ 255-(q:Int);let⟨o',I⟩:=aO$ 255-(d:Int);rw[<-G]at u kb i C⊢;rw[<-I]at u i⊢;clear G I h;let⟨K,M,N,O,P,Q,U,V,W⟩:=i.cells;generalize cm l q g d=t at *
 delta qC;go_in
 go_wp2
 go_region_held3 (λw'=>qn w' w 0=qj b/\qn w' w 1=qj l/\qn w' w 2=qj o/\qn w' w 3=some (.bool false)/\qn w' w 4=some (.bool false)/\qn w' w 5=some (.bool false)/\qN w' B 0=some (.func (Fn.func 319) #[] #[])/\qN w' B 1=some (.bool true)/\qN w' B 2=qj p/\qN w' B 3=qj g/\qN w' B 4=qj o'/\qN w' B 5=some (.bool false)/\qN w' B 6=some (.bool false)/\qN w' B 7=some (.bool false)) (go_keep)
  (first
    | (go_at_call 319;refine(u _ H x E y s k).mono ?_;rintro e D ⟨rfl,a⟩;replace a:=aU a;obtain⟨X,Y,Z,p4,p5,p6,p7⟩:=(kb.bw a).six';obtain⟨K,M,N,O,P,Q,U,V,W⟩:=Bst.cells$ show Bst D B true p g o' from Blk.bw i a))
 have f:Bst D B true p g o':=Blk.bw i a;have A:=C.trans$ aG (S:=λj=>j=B) a;cases t
 .go_wp2
  go_end0
  exact⟨rfl,f,A⟩
 .go_wp2
  go_end0
  exact⟨rfl,aB5 f b l o,A.trans$ vX _ B b l o⟩
def bT (i0 j:Nat):Nat:=2^(i0+j)-2^i0
def aCc (a):bT a 0=0:=by simp[bT]
def aMa:∀a,a<8->∀j,j<8->a+j<8->(bT a j ||| 2^(a+j))=bT a (j+1):=by decide +kernel
def nQ:∀a,a<8->∀j,j<9->a+j<=8->bT a j<256:=by decide +kernel
def aOn:∀a,a<8->∀j,j<9->a+j<=8->uM (bT a j)=j:=by decide +kernel
def aMb:∀a,a<8->∀j,j<9->a+j<=8->(bT a j=255 ↔ j=8):=by decide +kernel
abbrev CSt:=Option (Int×Int×Nat)
def oZ:CSt->Int
 | none=>0
 | some (b,l,q)=>cnt l q
def aV3 (s:CSt)(L:Int):Prop:=∀b l q,s=some (b,l,q)->5<=l/\l<L/\q<256/\0<cnt l q
def jS (w:qw)(B:Nat):CSt->Prop
 | none=>Bst w B false 0 0 0
 | some (b,l,q)=>Bst w B true b l$ 255-(q:Int)
def keep (s:CSt)(b L:Int)(q:Nat):CSt:=if oZ s<cnt L q then some (b,L,q) else s
def oD (l P)(a:(2:Int)^(l-3).toNat=P)(b j)(d:b<8)(h:b+j<=8):cnt l (bT b j)=j*P:=by
 unfold cnt;rw[a,aOn b d j J h]
def aIr (B b l)(q:Nat)(w)(h:jS w B none):
 qC 324 #[.pointer$ qP B,.agg #[qI b,qI l,qI$ 255-(q:Int),.bool false,.bool false,.bool false]] w λe w'=>e=.returned (.tuple #[])/\jS w' B (some (b,l,q))/\Turn (λj=>j=B) w w':=
 aMm B b l (255-(q:Int)) 0 0 0 w h
def wV (B b l p g)(q a:Nat)(w)(h:jS w B (some (p,g,a)))(u:q<256)(k:a<256)(t:5<=l)(s:l<=14)(i:5<=g)(d:g<=14):
 qC 324 #[.pointer$ qP B,.agg #[qI b,qI l,qI$ 255-(q:Int),.bool false,.bool false,.bool false]] w λe w'=>e=.returned (.tuple #[])/\jS w' B (if cm l q g a then some (b,l,q) else some (p,g,a))/\Turn (λj=>j=B) w w':=
 (aMn B b l p g q a w h u k t s i d).mono λe w' f=>⟨f.1,by
   have:=f.2.1;cases hc:cm l q g a
   .rw[hc]at this;exact this
   .rw[hc]at this;exact this,f.2.2⟩
def stJ (s:CSt)(b l:Int)(i0 j:Nat):CSt:=if 8<=l\/j=8 then keep s b l (bT i0 j) else s
theorem aN8 (s b l P)(a:(2:Int)^(l-3).toNat=P)(e)(d:e<8)(hs:0<=oZ s):stJ s b l e 0=s:=by
 unfold stJ keep;rw[oD l P a e 0 d J]
 grind
theorem aIq (B s b l P)(G:(2:Int)^(l-3).toNat=P)(M:0<P)(g j w)(u:g<8)(N:g+j<8)(A:5<=l)(d:l<=14)(hs:aV3 s l)(i:0<=oZ s)(K:8<=l\/j+1=8)(h:jS w B (stJ s b l g j)):
 qC 324 #[.pointer$ qP B,.agg #[qI b,qI l,qI$ 255-(bT g (j+1):Int),.bool false,.bool false,.bool false]] w λe w'=>e=.returned (.tuple #[])/\jS w' B (stJ s b l g$ j+1)/\Turn (λj=>j=B) w w':=by
 have k:=nQ g u (j+1) J J;have t:=oD l P G g (j+1) u J;have D:=oD l P G g j u J;have a:((j+1:Nat):Int)*P=(j:Int)*P+P:=by grind
 have:0<=(j:Int)*P:=Int.mul_nonneg J J;have e1:stJ s b l g (j+1)=keep s b l (bT g$ j+1):=by unfold stJ;rw[if_pos K]
 rw[e1];by_cases x:8<=l/\oZ s<cnt l (bT g j)
 .have e0:stJ s b l g j=some (b,l,bT g j):=by unfold stJ keep;rw[if_pos (Or.inl x.1),if_pos x.2]
  rw[e0]at h;refine(wV B b l b l (bT g$ j+1) (bT g j) w h k (nQ g u j J J) A d A d).mono λe w' E=>?_;have f:cm l (bT g$ j+1) l (bT g j)=true:=by unfold cm;rw[t,D,a];simp;omega
  have y:keep s b l (bT g$ j+1)=some (b,l,bT g$ j+1):=by unfold keep;rw[if_pos (by grind)]
  grind
 .have e0:stJ s b l g j=s:=by
   unfold stJ;by_cases C:8<=l
   .rw[if_pos (Or.inl C)];unfold keep
    grind
   .grind
  rw[e0]at h
  match s,h,hs,i,x with
  | none,h,_,_,_=>
    have y:keep none b l (bT g$ j+1)=some (b,l,bT g$ j+1):=by unfold keep;rw[if_pos (by rw[t,a];simp[oZ];omega)]
    rw[y];exact aIr B b l (bT g$ j+1) w h
  | some (b',l',q'),h,hs,i,x=>
    let⟨p,H,q,O⟩:=hs b' l' q' rfl;refine(wV B b l b' l' (bT g$ j+1) q' w h k q A d p J).mono λe w' E=>?_
    have f:cm l (bT g$ j+1) l' q'=decide (cnt l' q'<cnt l (bT g$ j+1)):=by
     unfold cm
     grind
    rw[f]at E;by_cases I:cnt l' q'<cnt l (bT g$ j+1)
    .have y:keep (some (b',l',q')) b l (bT g$ j+1)=some (b,l,bT g$ j+1):=by
      show(if cnt l' q'<cnt l (bT g$ j+1) then some (b,l,bT g$ j+1) else some (b',l',q'))=_
      grind
     grind
    .have y:keep (some (b',l',q')) b l (bT g$ j+1)=some (b',l',q'):=by
      show(if cnt l' q'<cnt l (bT g$ j+1) then some (b,l,bT g$ j+1) else some (b',l',q'))=_
      grind
     grind
def zI {w w':qw}{s:CSt}(t:Turn S w w')(h:jS w B s)(a:¬S B):jS w' B s:=by
 match s,h with
 | none,h=>exact aC t h a
 | some (b,l,q),h=>exact aC t h a
def mG (a l N:Int)(f:5<=l)(d:l<=14)(e:(2:Int)^l.toNat=N)(i:0<=a:=by omega)(j:a<262144:=by omega):0<=a-a%N/\a-a%N<=262144-N/\(a-a%N)%N=0/\0<=a%N/\a%N<N:=by
 have:l=5\/l=6\/l=7\/l=8\/l=9\/l=10\/l=11\/l=12\/l=13\/l=14:=J
 rcases this with rfl|rfl|rfl|rfl|rfl|rfl|rfl|rfl|rfl|rfl<;>(subst e;simp;omega)
theorem aCg (l:Int)(a:5<=l):(2:Int)^l.toNat=8*(2:Int)^(l-3).toNat:=by
 have:l.toNat=(l-3).toNat+3:=J
 grind
def aGh (l:Int)(d:5<=l)(a:l<=14):4<=(2:Int)^(l-3).toNat/\(2:Int)^(l-3).toNat<=2048:=by
 have:l=5\/l=6\/l=7\/l=8\/l=9\/l=10\/l=11\/l=12\/l=13\/l=14:=J
 rcases this with rfl|rfl|rfl|rfl|rfl|rfl|rfl|rfl|rfl|rfl<;>simp
theorem aSn (q:Nat)(h:q<256):bits BinOp.xor IntKind.u8 IntKind.u8.max (q:Int)=255-(q:Int):=by
 have:=aQu (255-q) J
 grind
def aLv (s:CSt)(a en l P b:Int)(i0:Nat)(s':CSt):Prop:=
 (a%P≠0/\s'=s) \/
 (a%P=0/\∃j:Nat,i0+j<=8/\(b+((i0+j:Nat):Int)*P<=en\/j=0)/\(i0+j=8\/en<b+(((i0+j:Nat):Int)+1)*P)/\s'=stJ s b l i0 j)
def aUg {a w w':qw}(h:Turn S a w)(d:qY w w'):Turn S a w':=h.trans$ aG d
def aBe (B s a g l P N b)(f:Nat)(w)(Q:5<=l)(y:l<=14)(ha:0<=a)(ak:a<g)(am:g<=262144)(hs:aV3 s l)(a3:0<=oZ s)(O:(2:Int)^(l-3).toNat=P)(p:(2:Int)^l.toNat=N)(hb:a-a%N=b)(hi:(a-b)/P=(f:Int))(h:jS w B s):
 qC 320 #[.pointer$ qP B,qI a,qI g,qI l] w λe w'=>e=.returned (.tuple #[])/\(∃s',jS w' B s'/\aLv s a g l P b f s')/\Turn (λj=>j=B) w w':=by
 let⟨p4,p5⟩:=aGh l Q y;let⟨b0,b1,b2,b3,b4⟩:=mG a l N Q y p ha;have u:=aCg l Q;rw[O,p]at u;have af:0<N:=by rw[O]at p4;omega
 rw[hb]at b0 b1 b2;rw[O]at p4 p5;have a9:=zh O;have ab:=zh p;have I:a-b=a%N:=J
 have t:f<8:=by
  have:(a-b)/P<8:=by
   apply Int.ediv_lt_of_lt_mul J;omega
  omega
 by_cases M:a%P=0
 .have D:a=b+(f:Int)*P:=by
   have e1:(a%N)%P=0:=by
    rw[u,Int.emod_emod_of_dvd a$ Int.dvd_mul_left 8 P];exact M
   have e2:=Int.mul_ediv_add_emod (a-b) P;rw[hi,I,e1,Int.mul_comm]at e2;omega
  have HK:=zh$ aN8 s b l P O f t a3;have HS:=zh hs;have aj:=zh u;have ae:=zh D;have ad:=zh I;have HH:=zh h;have a6:=zh b2;have HM:=zh M;clear u hs D I h b2
  delta qC;go_in
  go_wp2;go_loopw [10,11] (λr i wr=>∃j:Nat,f+j<=8/\r=.int .u8 (bT f j:Nat)/\i=qI ((f+j:Nat):Int)/\(b+((f+j:Nat):Int)*P<=g\/j=0)/\jS wr B (stJ s b l f j)/\Turn (λj=>j=B) w wr) (λ_ i _=>8-(intOf i).toNat)
  .exact⟨0,J,by rw[aCc];rfl,by rw[hi];rfl,Or.inr rfl,by rw[HK.o];exact HH.o,Turn.refl _ _⟩
  .obtain⟨j,hj,rfl,rfl,E,hH,hT⟩:=hrel;obtain⟨k,hk⟩:∃k:Nat,k=f+j:=⟨_,rfl⟩;have a1:((k:Int)+1)*P=(k:Int)*P+P:=by rw[Int.add_mul];simp
   have a7:0<=(k:Int)*P:=Int.mul_nonneg J J;have Z:(k:Int)*P<=8*P:=Int.mul_le_mul_of_nonneg_right J J;have ah:0<=((k:Int)+1)*P:=J
   have an:((k:Int)+1)*P<=18432:=J
   rw[<-hk]at hj E⊢;have ao:=zh a1;have HQ:=zh E;have H:=zh hH;have HT:=zh hT;have d:=zh hk;have HI:=zh hi;have ag:=zh hb;clear a1 a7 Z E hH hT hk hi hb O p b3 b4 M;by_cases h8:k<8
   .by_cases W:b+((k:Int)+1)*P<=g
    .have A:=zh W;have aa:=nQ f t j (jK d.o)$ jK d.o;have a5:=nQ f t (j+1) (jK d.o)$ jK d.o;have U:=zh$ aMa f t j (jK d.o)$ jK d.o;rw[<-d.o]at U;have a0:=zh$ aSn (bT f$ j+1) a5
     have C:=zh (show rok b l (255-(bT f (j+1):Int))=decide (8<=l\/j+1=8)by
      have hf:=aMb f t (j+1) (jK d.o)$ jK d.o;unfold rok;rw[ab.o];have:=a6.o;rw[xJ];simp only[decide_eq_true_eq];constructor
      .rintro⟨_,_,_,_,h|h,_⟩
       .exact Or.inl h
       .exact Or.inr (hf.1 J)
      .intro h;refine⟨Q,y,J,J,?_,J,J,a6⟩;rcases h with h|h
       .exact Or.inl h
       .exact Or.inr (jK$ hf.2 h))
     go_wp2_with fail
     apply(aNq (bT f j) k _ aa h8).mono;rintro e w1 ⟨rfl,rfl⟩;rw[U.o];let⟨q,E⟩:=aO$ bT f$ j+1;rw[<-E]at a0 C a5⊢;have G:=zh E;clear E;have a8:(Lit.int .i64 b).wf=true:=by simp[Lit.wf,IntKind.min,IntKind.max,IntKind.bits,IntKind.signed];omega
     go_wp2_with fail
     rw[a0.o];rw[show wrap64 (255-(q:Int))=255-(q:Int)by unfold wrap64;omega];apply(oU b l (255-(q:Int)) false false false _ a8).mono;rintro e w2 ⟨rfl,x⟩;have q1:=(Blk.bw (Blk.new wr #[qI b,qI l,qI$ 255-(q:Int),.bool false,.bool false,.bool false] 231) x).six';have Y:=zh$ aUg (aUg HT$ brf.alloc aQ$ .cells #[qI b,qI l,qI$ 255-(q:Int),.bool false,.bool false,.bool false] 231) x;have a2:=zh$ zI (S:=λ_=>False) (aG x) (zI (S:=λ_=>False) (cK wr$ .cells #[qI b,qI l,qI$ 255-(q:Int),.bool false,.bool false,.bool false] 231) H id) id;rw[C.o];clear x;by_cases hc:8<=l\/j+1=8
     .simp only[hc,decide_true];have a4:=zh$ aIq B s b l P a9 J f j w2 t (jK d.o) Q y HS a3 hc a2;rw[<-G.o]at a4;go_wp2_with fail
      apply a4.mono;rintro e w3 ⟨rfl,X,V⟩;have K:=zh X;have ac:=zh$ Y.trans V;clear X V;go_wp2_with fail
      go_roundw
      .exact⟨j+1,jK d.o,by rw[G.o],by rw[d.o];go_num,Or.inl (by have:=A.o;have e:=d.o;rw[show((f+(j+1):Nat):Int)=(k:Int)+1 from J];exact this),K.o,ac.o⟩
      .simp[intOf];omega
     .simp only[hc,decide_false]
      have K:=zh (show jS w2 B (stJ s b l f$ j+1)by
       have e1:stJ s b l f (j+1)=s:=by unfold stJ;rw[if_neg hc]
       have e2:stJ s b l f j=s:=by unfold stJ;rw[if_neg (jK d.o)]
       rw[e1,<-e2]
       exact a2)
      go_wp2_with fail
      go_roundw
      .exact⟨j+1,jK d.o,by rw[G.o],by rw[d.o];go_num,Or.inl (by have:=A.o;have e:=d.o;rw[show((f+(j+1):Nat):Int)=(k:Int)+1 from J];exact this),K.o,Y.o⟩
      .simp[intOf];omega
    .have A:=zh W;go_wp2
     go_end0
     exact⟨rfl,⟨_,H.o,Or.inr ⟨HM.o,j,jK d.o,by rw[<-d.o];exact HQ.o,by rw[<-d.o];exact Or.inr$ jK A.o,rfl⟩⟩,HT.o⟩
   .go_wp2
    go_end0
    exact⟨rfl,⟨_,H.o,Or.inr ⟨HM.o,j,jK d.o,by rw[<-d.o];exact HQ.o,Or.inl$ jK d.o,rfl⟩⟩,HT.o⟩
 .have ai:(a%P !=0)=true:=by simpa using M
  have HN:=zh M;clear M
  delta qC;go_in
  go_wp2
  (try simp only[Exit.inBlock,Exit.then]);refine bodyPost_ret (results_none rfl _ _ _) rfl ?_
  exact⟨rfl,⟨s,h,Or.inl ⟨HN,rfl⟩⟩,Turn.refl _ _⟩
def bE (a l:Int):Int:=a-a%(2:Int)^l.toNat
def cR (a l:Int):Nat:=((a%(2:Int)^l.toNat)/(2:Int)^(l-3).toNat).toNat
def jOf (a en l:Int):Nat:=min (8-cR a l) ((en-a)/(2:Int)^(l-3).toNat).toNat
def qOf (a en l:Int):Nat:=
 if l<8 then (if a%(2:Int)^l.toNat=0/\a+(2:Int)^l.toNat<=en then 255 else 0)
 else if a%(2:Int)^(l-3).toNat=0 then bT (cR a l) (jOf a en l) else 0
def nI (l):cnt l 0=0:=by simp[cnt,uM]
def aCr (s b l)(h:0<=oZ s):keep s b l 0=s:=by
 unfold keep;rw[nI,if_neg J]
theorem qU (a l P N)(f:5<=l)(e:l<=14)(i:(2:Int)^(l-3).toNat=P)(k:(2:Int)^l.toNat=N)(ha:0<=a)(j:a<262144):
 N=8*P/\4<=P/\P<=2048/\(a%N)%P=a%P/\cR a l<8/\(a%P=0->a%N=(cR a l:Int)*P)/\(a-bE a l)/P=(cR a l:Int):=by
 let⟨b,g⟩:=aGh l f e;have d:=aCg l f;rw[i,k]at d;rw[i]at b g;let⟨q,s,u,p,w⟩:=mG a l N f e k ha j;have hd:(a%N)%P=a%P:=by rw[d,Int.emod_emod_of_dvd a$ Int.dvd_mul_left 8 P]
 have:0<=(a%N)/P:=Int.ediv_nonneg p J;have:(a%N)/P<8:=Int.ediv_lt_of_lt_mul J J;have:((cR a l:Nat):Int)=(a%N)/P:=by unfold cR;rw[i,k];omega
 refine⟨d,b,g,hd,J,λt=>?_,?_⟩
 .have e2:=Int.mul_ediv_add_emod (a%N) P
  grind
 .unfold bE
  grind
theorem aXw (a en l P N)(u:5<=l)(e:l<=14)(k:(2:Int)^(l-3).toNat=P)(t:(2:Int)^l.toNat=N)(ha:0<=a)(x:a<en)(A:en<=262144)(i:a%P=0)(j)(C:cR a l+j<=8)
 (y:bE a l+((cR a l+j:Nat):Int)*P<=en\/j=0) (s:cR a l+j=8\/en<bE a l+(((cR a l+j:Nat):Int)+1)*P):j=jOf a en l/\a+(j:Int)*P<=en:=by
 let⟨g,p,q,w,B,b,D⟩:=qU a l P N u e k t ha J;have f:bE a l=a-a%N:=by unfold bE;rw[t]
 have e1:((cR a l+j:Nat):Int)*P=(cR a l:Int)*P+(j:Int)*P:=by grind
 have e2:(((cR a l+j:Nat):Int)+1)*P=(cR a l:Int)*P+(j:Int)*P+P:=by grind
 rw[f,b i,e1]at y;rw[f,b i,e2]at s
 have d:a+(j:Int)*P<=en:=by
  grind
 have:(j:Int)<=(en-a)/P:=Int.le_ediv_of_mul_le J J;refine⟨?_,d⟩;unfold jOf;rw[k];rcases s with h|h
 .omega
 .have:(en-a)/P<(j:Int)+1:=Int.ediv_lt_of_lt_mul J (by grind);omega
theorem aHy (s p a b l P N)(A:5<=l)(e:l<=14)(f:(2:Int)^(l-3).toNat=P)(i:(2:Int)^l.toNat=N)(ha:0<=a)(k:a<b)(u:b<=262144)(hs:0<=oZ s)
 (h:aLv s a b l P (bE a l) (cR a l) p):p=keep s (bE a l) l (qOf a b l):=by
 let⟨I,K,M,g,O,q,Q⟩:=qU a l P N A e f i ha J;rcases h with⟨t,rfl⟩|⟨t,j,G,C,H,rfl⟩
 .have E:qOf a b l=0:=by
   unfold qOf;rw[f,i];by_cases y:l<8
   .rw[if_pos y,if_neg];rintro⟨h,_⟩;rw[h]at g;simp at g
    grind
   .grind
  rw[E,aCr _ _ _ hs]
 .have⟨w,S⟩:=aXw a b l P N A e f i ha k u t j G C H;have d:=q t;unfold stJ qOf;rw[f,i];by_cases y:l<8
  .rw[if_pos y];by_cases x:j=8
   .have:cR a l=0:=J
    rw[this]at d;simp at d;subst x;rw[if_pos (Or.inr rfl),if_pos ⟨d,J⟩,this];rfl
   .rw[if_neg J,if_neg,aCr _ _ _ hs];rintro⟨B,U⟩;rw[B]at d
    have D:cR a l=0:=by
     have:(cR a l:Int)=0:=by
      rcases Int.mul_eq_zero.1 d.symm with h|h
      .exact h
      .omega
     omega
    have hd:(8:Int)<=(b-a)/P:=Int.le_ediv_of_mul_le J J;unfold jOf at w
    grind
  .grind
def bZ (a en:Int)(n:Nat):CSt:=
 if h:n=0 then none else keep (bZ a en$ n-1) (bE a$ 5+((n-1:Nat):Int)) (5+((n-1:Nat):Int)) (qOf a en$ 5+((n-1:Nat):Int))
def fE (a b):bZ a b 0=none:=by rw[bZ,dif_pos rfl]
def fD (a b n):bZ a b (n+1)=keep (bZ a b n) (bE a$ 5+n) (5+n) (qOf a b$ 5+n):=by
 rw[bZ,dif_neg J];rfl
def aAk (l q):0<=cnt l q:=by
 exact Int.mul_nonneg J$ Int.le_of_lt$ pow_pos _
def jM (s):0<=oZ s:=by
 match s with
 | none=>exact Int.le_refl _
 | some (b,l,q)=>exact aAk l q
theorem aVa (a b l)(f:5<=l)(d:l<=14)(ha:0<=a)(e:a<262144):qOf a b l<256:=by
 let⟨i,j,k,p,g,q,s⟩:=qU a l _ _ f d rfl rfl ha e;unfold qOf;split
 .grind
 .split
  .apply nQ _ g<;>(unfold jOf;omega)
  .omega
theorem tQ (a g)(ha:0<=a)(d:a<262144):∀n:Nat,n<=10->aV3 (bZ a g n) (5+n)
 | 0,_=>λb l q h=>by rw[fE]at h;cases h
 | n+1,hn=>by
   have e:=tQ a g ha d n J;intro b l q h;rw[fD]at h;unfold keep at h;split at h
   .rename_i f;simp at h;obtain⟨rfl,rfl,rfl⟩:=h;refine⟨J,J,aVa a g _ J J ha d,?_⟩;have:=jM$ bZ a g n;omega
   .have⟨i,j,k,p⟩:=e b l q h
    grind
def aH3 (a g w)(ha:0<=a)(i:a<g)(s:g<=262144)(b l q)(E:bZ a g 10=some (b,l,q)):
 qC 312 #[qI a,qI g] w (qB w$ .agg #[qI b,qI l,qI$ 255-(q:Int),.bool false,.bool false,.bool false]):=by
 have M:=zh E;clear E
 delta qC;go_in
 go_wp2;go_loopw [6] (λx wr=>∃n:Nat,n<=10/\x=qI (5+(n:Int))/\jS wr (w.heap.size+1) (bZ a g n)/\Blk wr w.heap.size #[qI 0,qI 0,qI 0,.bool false,.bool false,.bool false] 231/\qY w wr) (qf 15)
 .refine⟨0,J,rfl,?_,?_,?_⟩
  .rw[fE];have:=Blk.new (w.alloc$ .cells #[qI 0,qI 0,qI 0,.bool false,.bool false,.bool false] 231) #[.func (Fn.func 319) #[] #[],.bool false,qI 0,qI 0,qI 0,.bool false,.bool false,.bool false] 323;simp only[xF]at this;exact this
  .exact(Blk.new w _ _).alloc _
  .exact bal.alloc Jb _
 .obtain⟨n,p,rfl,H,K,I⟩:=hrel;have C:=zh H;have y:=zh I;have u:=zh K;clear H I K;by_cases O:n<10
  .have D:=y.size;have t:=zh$ aBe (w.heap.size+1) (bZ a g n) a g (5+(n:Int)) _ _ _ (cR a$ 5+(n:Int)) wr J J ha i s (tQ a g ha J n J) (jM _) rfl rfl rfl (qU a (5+(n:Int)) _ _ J J rfl rfl ha J).2.2.2.2.2.2 C;go_wp2_with fail
   apply t.mono;rintro e Q ⟨rfl,⟨Y,d,f⟩,A⟩;have G:=aHy _ _ a g (5+(n:Int)) _ _ J J rfl rfl ha i s (jM _) f;have V:=zh (show jS Q (w.heap.size+1) (bZ a g$ n+1)by rw[G]at d;rw[fD];exact d);have U:=zh$ aC A u J;have N:=zh$ aF y A (λk e=>J) D;clear G d f A t;go_wp2
   go_roundw
   .exact⟨n+1,J,by go_num,V,U,N⟩
   .simp[qf,intOf];omega
  .have j:n=10:=J
   subst j;rw[M.o]at C;have t:=zh$ Bst.cells C;have W:=t.o;have X:=u.six';have P:=zh$ Blk.set (Blk.set (Blk.set (Blk.set (Blk.set (Blk.set u 0$ qI b) 1$ qI l) 2$ qI$ 255-(q:Int)) 3$ .bool false) 4$ .bool false) 5$ .bool false;go_wp2;refine bodyPost_ret (results_cell_row rfl _ _ (qs w) 231 #[qI b,qI l,qI$ 255-(q:Int),.bool false,.bool false,.bool false] (0,0) _ rfl (by exact P) Tryz.underlying231 rfl Je) rfl ⟨rfl,?_⟩;exact(((((y.setCell aQ _).setCell aQ _).setCell aQ _).setCell aQ _).setCell aQ _).setCell aQ _
abbrev Rg:=Int×Int×Int×Bool×Bool×Bool
def z6:Rg:=(0,0,0,false,false,false)
def At6 (w:qw)(b o:Nat)(g:Rg):Prop:=
 w.cell? (qR b o)=some (qI g.1)/\w.cell? (qR b$ o+1)=some (qI g.2.1)/\w.cell? (qR b$ o+2)=some (qI g.2.2.1) /\
 w.cell? (qR b$ o+3)=some (.bool g.2.2.2.1)/\w.cell? (qR b$ o+4)=some (.bool g.2.2.2.2.1)/\w.cell? (qR b$ o+5)=some (.bool g.2.2.2.2.2)
def wfi (z:Int):Prop:=-9223372036854775808<=z/\z<=9223372036854775807
def RS (w:qw)(a:qO)(n cap:Nat)(rs:List Rg):Prop:=
 rs.length=n/\n<=maxLen/\(∀g∈rs,wfi g.1/\wfi g.2.1/\wfi g.2.2.1)/\(n≠0->∃b off,a=some (qR b off)/\∀i,i<n->At6 w b (off+i*6) (rs.getD i z6))/\n<=cap
theorem At6.bw {w w':qw}{o:Nat}{g:Rg}(h:At6 w b o g)(d:qY w w'):At6 w' b o g:=by
 obtain⟨e,f,i,j,k,l⟩:=h;have a:b<w.heap.size:=xD w _ e;unfold At6;rw[d.cell (p:=(qR b o)) a,d.cell (p:=(qR b$ o+1)) a,d.cell (p:=(qR b$ o+2)) a,d.cell (p:=(qR b$ o+3)) a,d.cell (p:=(qR b$ o+4)) a,d.cell (p:=(qR b$ o+5)) a]
 grind
def RS.bw {w w':qw}{a:qO}{rs:List Rg}(h:RS w a n cap rs)(d:qY w w'):RS w' a n cap rs:=by
 obtain⟨e,f,g,j,k⟩:=h;refine⟨e,f,g,λp=>?_,k⟩;let⟨b,off,l,hc⟩:=j p;exact⟨b,off,l,λi hi=>(hc i hi).bw d⟩
theorem RS.some {w:qw}{a:qO}{rs:List Rg}(h:RS w a n cap rs)(hn:n≠0):∃b off,a=Option.some (qR b off):=by
 let⟨b,off,e,_⟩:=h.2.2.2.1 hn
 grind
theorem RS.at {w:qw}{off:Nat}{rs:List Rg}(h:RS w (Option.some$ qR b off) n cap rs)(i)(hi:i<n):At6 w b (off+i*6) (rs.getD i z6):=by
 let⟨a,d,e,hd⟩:=h.2.2.2.1 J
 grind
def aLa:(Tryz.prog.info? 231).map (λi=>(i.zero,i.size,i.bytes))=some (some$ .agg #[qI 0,qI 0,qI 0,.bool false,.bool false,.bool false],6,32):=Je
def dS (g:Rg):List Value:=[qI g.1,qI g.2.1,qI g.2.2.1,.bool g.2.2.2.1,.bool g.2.2.2.2.1,.bool g.2.2.2.2.2]
def fM (rs:List Rg):List Value:=rs.flatMap dS
def tL:∀a:List Rg,(fM a).length=a.length*6
 | []=>rfl
 | g::a=>by simp only[fM,xT,xI];have:=tL a;simp only[fM]at this;rw[this];simp[dS];omega
theorem tM:∀(b:List Rg)(i j:Nat),i<b.length->j<6->(fM b)[i*6+j]?=(dS$ b.getD i z6)[j]?
 | [],i,j,h,_=>absurd h Jb
 | g::b,0,j,_,hj=>by
   simp only[fM,xT];rw[List.getElem?_append_left (by simp[dS];omega)];simp
 | g::b,i+1,j,h,hj=>by
   have a:=tM b i j (by grind) hj;simp only[fM,xT]at a⊢;rw[List.getElem?_append_right (by simp[dS];omega)];have:(i+1)*6+j-(dS g).length=i*6+j:=by simp[dS];omega
   grind
def ORg (w:qw)(base:Nat)(v:Value)(rs:List Rg):Prop:=w.ownsRow base 231 6 v rs.length (fM rs)/\∀g∈rs,wfi g.1/\wfi g.2.1/\wfi g.2.2.1
theorem eV {w:qw}{a:qO}{rs:List Rg}(h:ORg w base (qS a n cap) rs):RS w a n cap rs:=by
 obtain⟨A,⟨b,l⟩|⟨g,s,k,f,y,q,p,t,u,x⟩⟩:=h.1
 .simp at b;obtain⟨rfl,rfl,rfl⟩:=b;exact⟨l,xC _,h.2,λe=>absurd rfl e,aQ⟩
 .simp at f;obtain⟨rfl,rfl,rfl⟩:=f;refine⟨rfl,J,h.2,λe=>⟨g,0,rfl,λi hi=>?_⟩,p⟩
  have hc:∀j,j<6->w.cell? (qR g$ 0+i*6+j)=(dS$ rs.getD i z6)[j]?:=by
   intro j d;rw[Blk.cell (w:=w) q]
   have:k.toList[0+i*6+j]?=(fM rs)[i*6+j]?:=by
    grind
   rw[Array.getElem?_toList]at this;rw[this,tM rs i j hi d]
  exact⟨hc 0 J,hc 1 J,hc 2 J,hc 3 J,hc 4 J,hc 5 J⟩
def aDc {w w':qw}{rs:List Rg}(t:Turn S w w')(h:ORg w base v rs)(a:∀k,base<=k->¬S k):ORg w' base v rs:=by
 refine⟨?_,h.2⟩;obtain⟨e,i|⟨b,f,g,u,d,s,j,l,p,q⟩⟩:=h.1
 .exact⟨e,.inl i⟩
 .exact⟨e,.inr ⟨b,f,g,u,d,aC t s$ a b d,j,l,p,q⟩⟩
def wP (w:qw)(base)(a:base<=w.heap.size):ORg (w.alloc$ .cells #[] 231) base (qS (qP w.heap.size) 0 0) []:=
 ⟨⟨rfl,.inr ⟨w.heap.size,0,#[],rfl,a,heap_alloc_new w _,aQ,xC _,rfl,rfl⟩⟩,λ_ h=>by cases h⟩
theorem mU {w:qw}{t:TypeId}{sz:Nat}{xs:List Value}(h:w.ownsRow base t sz v n xs):∃a cap,v=qS a n cap:=by
 obtain⟨_,⟨rfl,rfl⟩|⟨g,cap,b,rfl,_⟩⟩:=h
 .grind
 .grind
def aPi (w:qw)(g):∀j u,(dS g)[j]?=some u->(w.alloc$ .cells #[qI g.1,qI g.2.1,qI g.2.2.1,.bool g.2.2.2.1,.bool g.2.2.2.2.1,.bool g.2.2.2.2.2] 231).cell? (((qR w.heap.size 0):Addr).add j)=some u:=by
 intro j u a;rw[cE,Nat.zero_add,Blk.cell$ Blk.new w _ _,<-a]
 match j with
 | 0=>rfl
 | 1=>rfl
 | 2=>rfl
 | 3=>rfl
 | 4=>rfl
 | 5=>rfl
 | j+6=>rfl
def aSf (g):∀u∈dS g,u.oneCell'=true:=by
 intro u hu;simp[dS]at hu;rcases hu with rfl|rfl|rfl|rfl|rfl|rfl<;>rfl
theorem aEh {W a:qw}{v v':Value}{rs:List Rg}{g:Rg}(e:∀g∈rs,wfi g.1/\wfi g.2.1/\wfi g.2.2.1)(d:wfi g.1/\wfi g.2.1/\wfi g.2.2.1)(h:a.ownsRow base 231 6 v' (rs.length+1) (fM rs++dS g)):ORg a base v' (rs++[g]):=by
 refine⟨by simpa[fM]using h,λy f=>?_⟩
 grind
def lX {W W':qw}{row:Option Nat}(h:W.grownBy W' row):Turn (λj=>row=some j) W W':=⟨h.os,h.tape,h.output,h.size,λk a b=>h.block k a λe=>b e.symm⟩
