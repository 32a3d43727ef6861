import Derived.Test.YtncccmeomcaabaaGreatRows
import Derived.WalkKit
import Derived.WalkLawsBesides
import Derived.WalkSpells
import Derived.OrdersHeld
import Derived.BigQuiet
import Derived.Deep.QuietTactic
import Derived.Deep.RegionWith
import Derived.Laws.IdiomStrings
import Derived.Lib.Bytealg
import Derived.WideShapes
import Derived.Deep.RegionHeld3
import Derived.Laws.BitsLemmas
set_option linter.all false
set_option maxHeartbeats 2000000
namespace Go.Proofs.YtncccmeomcaabaaGreat
open Go.RowKit
open Go.Proofs.Tryz
set_option maxRecDepth 100000
variable {B b base base' cap fuel g i k n off sz:Nat}{P:Program}{Q:Exit->Act->World->Prop}{S S':Nat->Prop}{a:Act}{c v v0 v1 v10 v11 v12 v13 v2 v3 v4 v5 v6 v7 v8 v9:Value}{cs:Array Value}{l:List Value}{listed:Array Bool}{md:Region.Mode}{oi:Oper}{ops:Array Oper}{p:Prop}{ss:List ByteArray}{w:World}
abbrev qO:=Option Addr
theorem xC (n:Nat):0<=n:=Nat.zero_le n
theorem xM {a c:Nat}(h:a<=b)(k:b<=c):a<=c:=Nat.le_trans h k
def xA:=@And.intro
def xB:=@List.getD_eq_getElem?_getD
def xD:=@World.block_lt_of_cell?
def xE:=@List.eq_nil_of_length_eq_zero
def xF:=@World.size_alloc
def xG:=@List.take_of_length_le
def xH:=@List.length_map
def xI:=@List.length_append
def xJ:=@Bool.eq_iff_iff
def xK:=@Array.getD_eq_getD_getElem?
def xL:=@Int.tmod_eq_emod_of_nonneg
def xN:=@List.getElem?_eq_getElem
def xO:=@List.getElem?_eq_none
def xP:=@IntWalk.i64_left
def xQ:=@IntWalk.wrap64_in
def xR:=@decide_eq_true
def xS:=@decide_eq_false
def xT:=@List.flatMap_cons
def xU:=@List.flatMap_append
def xV:=@Int.eq_ofNat_of_zero_le
def xW:=@Array.toList_setIfInBounds
def xX:=@List.flatMap_singleton
def xY:=@Int.toNat_natCast
def xZ:=@Classical.not_not
abbrev qI (x:Int):Value:=.int .i64 x
abbrev qS (a:Option Addr)(n c:Nat):Value:=.slice a n c
abbrev qP (b:Nat):Option Addr:=some ⟨b,0,none⟩
abbrev qZ:Array Value:=#[.slice none 0 0,.int .i64 0,.int .i64 0,.int .i64 0,.int .i64 0,.int .i64 0,.slice none 0 0,.slice none 0 0,.slice none 0 0,.slice none 0 0,.int .i64 0,.int .i64 0,.slice none 0 0,.slice none 0 0,.int .i64 0]
abbrev qz:Array Value:=#[.slice none 0 0,.int .i64 0,.slice none 0 0,.int .i64 0,.int .i64 0,.slice none 0 0]
abbrev qV (a:Option Addr)(b c:Nat)(d:Option Addr)(e f:Nat)(g:Option Addr)(h i:Nat):Array Value:=#[.slice a b c,.slice d e f,.slice g h i]
abbrev qW (a b c d:Int):Array Value:=#[.int .i64 a,.int .i64 b,.int .i64 c,.int .i64 d]
abbrev qT (a b c:Int):Array Value:=#[.int .i64 a,.int .i64 b,.int .i64 c]
abbrev qM (s:ByteArray)(a:Option Addr)(b c:Nat)(d:Option Addr)(e f:Nat)(g:Option Addr)(h i:Nat)(x:Int)(j:Option Addr)(k l:Nat)(m:Option Addr)(n o:Nat)(p:Option Addr)(q r:Nat):Array Value:=#[.string s,.slice a b c,.slice d e f,.slice g h i,.int .i64 x,.slice j k l,.slice m n o,.slice p q r]
abbrev qY (w w':World):Prop:=Below w.heap.size w w'
abbrev qB (w:World)(v:Value)(e:Ending)(w':World):Prop:=e=.returned v/\Below w.heap.size w w'
def Zh (p:Prop):Prop:=p
theorem Zh.o (h:Zh p):p:=h
theorem zh (h:p):Zh p:=h
abbrev qw:=World
abbrev qi:=List Int
theorem yB {α:Type _}{l:List α}{a b:α}:(a::l).set 0 b=b::l:=rfl
theorem yC {α:Type _}{a b:α}{l:List α}:(a::l).set (n+1) b=a::l.set n b:=rfl
def yA:=@List.setIfInBounds_toArray
def yD:=@List.getElem_toArray
def yE:=@List.getElem_cons_succ
def yF:=@List.getElem_cons_zero
abbrev qC (f:Nat)(a:Array Value)(w:World)(Q:Ending->World->Prop):Prop:=Calls prog f a w Q
theorem bal {o:Obj}:Below w.heap.size w (w.alloc o):=(Below.refl _ _).alloc (Nat.le_refl _) _
abbrev qf (n:Nat)(v:Value)(_:World):Nat:=n-(intOf v).toNat
abbrev qR (b i:Nat):Addr:=⟨b,i,none⟩
theorem eqx {α:Sort _}(t:α):∃ x,x=t:=⟨_,rfl⟩
theorem brf:Below b w w:=Below.refl _ _
theorem aN:n<=n:=Nat.le_refl _
theorem tkv {S:World->Prop}(hi:ops[i]?=some oi)(hc:(Region.noSelect ops&&Region.free md ops listed i&&(Region.ready md ops listed).contains i)=true)(hQ:∀ c a w,Q (.panic c) (a.put oi.dst v) w->Q (.panic c) a w)(hw:Region.wanted oi (yielded ops a.tmps)=true)(hy:∀ w,S w->(execOp a.eval oi).run P w=.ok (.value v) w)(hS:S w)(h:wpAnyH P md ops Q S fuel (listed.setIfInBounds i true) (a.put oi.dst v) w):wpAnyH P md ops Q S (fuel+1) listed a w:=by
 simp only [Bool.and_eq_true] at hc;exact wpAnyH_take hi hc.1.1 hc.1.2 hc.2 hQ (Or.inl ⟨hw,hy⟩) hS h
theorem tks {S:World->Prop}(hi:ops[i]?=some oi)(hc:(Region.noSelect ops&&Region.free md ops listed i&&(Region.ready md ops listed).contains i)=true)(hQ:∀ c a w,Q (.panic c) (a.put oi.dst undef) w->Q (.panic c) a w)(hw:Region.wanted oi (yielded ops a.tmps)=false)(hS:S w)(h:wpAnyH P md ops Q S fuel (listed.setIfInBounds i true) (a.put oi.dst undef) w):wpAnyH P md ops Q S (fuel+1) listed a w:=by
 simp only [Bool.and_eq_true] at hc;exact wpAnyH_take hi hc.1.1 hc.1.2 hc.2 hQ (Or.inr ⟨hw,rfl⟩) hS h
theorem tkV {S:World->Prop}(i:Nat)(v:Value)(hi:ops[i]?=some oi)(hy:∀ w,S w->(execOp a.eval oi).run P w=.ok (.value v) w)(h:wpAnyH P md ops Q S fuel (listed.setIfInBounds i true) (a.put oi.dst v) w)(hc:(Region.noSelect ops&&Region.free md ops listed i&&(Region.ready md ops listed).contains i)=true:=by kernel_rfl)(hQ:∀ c a w,Q (.panic c) (a.put oi.dst v) w->Q (.panic c) a w:=by exact fun _ _ _ h=>h)(hw:Region.wanted oi (yielded ops a.tmps)=true:=by rfl)(hS:S w:=by assumption):wpAnyH P md ops Q S (fuel+1) listed a w:=tkv hi hc hQ hw hy hS h
theorem tkS {S:World->Prop}(i:Nat)(hi:ops[i]?=some oi)(h:wpAnyH P md ops Q S fuel (listed.setIfInBounds i true) (a.put oi.dst undef) w)(hc:(Region.noSelect ops&&Region.free md ops listed i&&(Region.ready md ops listed).contains i)=true:=by kernel_rfl)(hQ:∀ c a w,Q (.panic c) (a.put oi.dst undef) w->Q (.panic c) a w:=by exact fun _ _ _ h=>h)(hw:Region.wanted oi (yielded ops a.tmps)=false:=by rfl)(hS:S w:=by assumption):wpAnyH P md ops Q S (fuel+1) listed a w:=tks hi hc hQ hw hS h
theorem aI {k:IntKind}{a b:Int}(h:a=b):Ending.returned (.int k a)=.returned (.int k b):=by rw [h]
theorem aA {a b:Bool}(h:a=b):Ending.returned (.bool a)=.returned (.bool b):=by rw [h]
theorem aO (h:p):Hid p:=h
theorem oE (h:Hid p):p:=h
theorem sN (n:Nat)(h:n<=20:=by omega):(2:Int)^n<=1048576:=by
 have h1:(2:Nat)^n<=2^20:=Nat.pow_le_pow_right (by omega) h;have h2:((2^n:Nat):Int)=(2:Int)^n:=by simp
 have h3:(2:Nat)^20=1048576:=rfl;omega
theorem pow_pos (n:Nat):0<(2:Int)^n:=by
 have h1:0<(2:Nat)^n:=Nat.pow_pos (by omega);have h2:((2^n:Nat):Int)=(2:Int)^n:=by simp
 omega
theorem aL7 {W w1:World}(hb:qY W w1):(∀ b o,b<W.heap.size->w1.cell? ⟨b,o,none⟩=W.cell? ⟨b,o,none⟩)/\(∀ b o,b<W.heap.size->w1.frozen? ⟨b,o,none⟩=W.frozen? ⟨b,o,none⟩):=
 ⟨fun b o h=>hb.cell (p:=⟨b,o,none⟩) h,fun b o h=>hb.frozen (p:=⟨b,o,none⟩) h⟩
def BS (w:qw)(a:qO)(n cap:Nat)(zs:qi):Prop:=
 zs.length=n/\n<=maxLen/\(∀ z∈zs,0<=z/\z<=255)/\(n≠0->∃ b off,a=some ⟨b,off,none⟩/\∀ i,i<n->w.cell? ⟨b,off+i,none⟩=some (.int .u8 (zs.getD i 0)))/\n<=cap
theorem BS.bw {w w':qw}{a:qO}{zs:qi}(h:BS w a n cap zs)(hb:qY w w'):BS w' a n cap zs:=by
 obtain ⟨h1,h2,h3,h4,h5⟩:=h;refine ⟨h1,h2,h3,fun hn=>?_,h5⟩;obtain ⟨b,off,ha,hc⟩:=h4 hn;refine ⟨b,off,ha,fun i hi=>?_⟩;have:=hc i hi;rw [hb.cell (p:=⟨b,off+i,none⟩) (xD w _ this)];exact this
theorem BS.range {w:qw}{a:qO}{zs:qi}(h:BS w a n cap zs)(i:Nat):0<=zs.getD i 0/\zs.getD i 0<=255:=by
 by_cases hi:i<zs.length
 .have:=h.2.2.1 zs[i] (List.getElem_mem hi);simpa [xB,hi] using this
 .simp [xB,Nat.le_of_not_lt hi]
def Row8 (w:qw)(g:Nat)(zs:qi):Prop:=w.heap[g]?=some (.cells (zs.map (Value.int .u8)).toArray 5 (0,0))
theorem Row8.cell {w:qw}{zs:qi}(h:Row8 w g zs)(i:Nat)(hi:i<zs.length):w.cell? ⟨g,i,none⟩=some (.int .u8 (zs.getD i 0)):=by
 rw [cell_of_row w g i _ _ _ h];simp [xB,hi]
theorem Row8.frozen {w:qw}{zs:qi}(h:Row8 w g zs)(i:Nat):w.frozen? ⟨g,i,none⟩=false:=frozen_of_row w g i _ _ h
theorem Row8.set {w:qw}{zs:qi}(h:Row8 w g zs)(i:Nat)(z:Int):Row8 (w.setCell ⟨g,i,none⟩ (.int .u8 z)) g (zs.set i z):=by
 unfold Row8 at *;rw [heap_setCell_same w g i _ _ _ h];simp [List.map_set]
theorem Row8.lt {w:qw}{zs:qi}(h:Row8 w g zs):g<w.heap.size:=by
 unfold Row8 at h;by_cases hg:g<w.heap.size
 .exact hg
 .simp [Array.getElem?_eq_none (Nat.le_of_not_lt hg)] at h
theorem Row8.bw {w w':qw}{zs:qi}(h:Row8 w g zs)(hb:qY w w'):Row8 w' g zs:=by
 have:=hb.block g h.lt;unfold Row8 at *;rw [this];exact h
theorem Row8.bs {w:qw}{zs:qi}(h:Row8 w g zs)(hm:zs.length<=maxLen)(hz:∀ z∈zs,0<=z/\z<=255)(n cap:Nat)(hn:zs.length=n)(hc:n<=cap:=by exact aN):BS w (qP g) n cap zs:=by
 subst hn;exact ⟨rfl,hm,hz,fun _=>⟨g,0,rfl,fun i hi=>by rw [Nat.zero_add];exact h.cell i hi⟩,hc⟩
def Blk (w:qw)(g:Nat)(cs:Array Value)(t:TypeId):Prop:=w.heap[g]?=some (.cells cs t (0,0))
theorem Blk.cell {w:qw}{t:TypeId}(h:Blk w g cs t)(i:Nat):w.cell? ⟨g,i,none⟩=cs[i]?:=cell_of_row w g i _ _ _ h
theorem Blk.frozen {w:qw}{t:TypeId}(h:Blk w g cs t)(i:Nat):w.frozen? ⟨g,i,none⟩=false:=frozen_of_row w g i _ _ h
theorem Blk.lt {w:qw}{t:TypeId}(h:Blk w g cs t):g<w.heap.size:=by
 unfold Blk at h;by_cases hg:g<w.heap.size
 .exact hg
 .simp [Array.getElem?_eq_none (Nat.le_of_not_lt hg)] at h
theorem Blk.bw {w w':qw}{t:TypeId}(h:Blk w g cs t)(hb:qY w w'):Blk w' g cs t:=by
 have:=hb.block g h.lt;unfold Blk at *;rw [this];exact h
theorem Blk.new (w:qw)(cs:Array Value)(t:TypeId):Blk (w.alloc (.cells cs t)) w.heap.size cs t:=heap_alloc_new w _
theorem nwb (w:qw)(X:Array Value)(T:TypeId):∃ U,U=w.alloc (.cells X T)/\Below w.heap.size w U/\Blk U w.heap.size X T:=⟨_,rfl,(Below.refl _ _).alloc (Nat.le_refl _) _,Blk.new _ _ _⟩
theorem Blk.z4 {w:qw}{t:TypeId}(h:Blk w b #[v0,v1,v2,v3] t):w.cell? ⟨b,0,none⟩=some v0/\w.cell? ⟨b,1,none⟩=some v1/\w.cell? ⟨b,2,none⟩=some v2/\w.cell? ⟨b,3,none⟩=some v3:=⟨h.cell 0,h.cell 1,h.cell 2,h.cell 3⟩
theorem Blk.z6 {w:qw}{t:TypeId}(h:Blk w b #[v0,v1,v2,v3,v4,v5] t):w.cell? ⟨b,0,none⟩=some v0/\w.cell? ⟨b,1,none⟩=some v1/\w.cell? ⟨b,2,none⟩=some v2/\w.cell? ⟨b,3,none⟩=some v3/\w.cell? ⟨b,4,none⟩=some v4/\w.cell? ⟨b,5,none⟩=some v5:=⟨h.cell 0,h.cell 1,h.cell 2,h.cell 3,h.cell 4,h.cell 5⟩
theorem Blk.alloc {w:qw}{t:TypeId}(h:Blk w g cs t)(o:Obj):Blk (w.alloc o) g cs t:=by
 have hl:=h.lt;unfold Blk at *;rw [Below.heap_alloc _ _ _ hl];exact h
theorem Blk.set {w:qw}{t:TypeId}(h:Blk w g cs t)(i:Nat)(v:Value):Blk (w.setCell ⟨g,i,none⟩ v) g (cs.setIfInBounds i v) t:=heap_setCell_same w g i _ _ _ h
theorem Blk.e0 {t:TypeId}(h:Blk w b (v0::l).toArray t):w.cell? ⟨b,0,none⟩=some v0:=by rw [h.cell];simp
theorem Blk.e1 {t:TypeId}(h:Blk w b (v0::v1::l).toArray t):w.cell? ⟨b,1,none⟩=some v1:=by rw [h.cell];simp
theorem Blk.e2 {t:TypeId}(h:Blk w b (v0::v1::v2::l).toArray t):w.cell? ⟨b,2,none⟩=some v2:=by rw [h.cell];simp
theorem Blk.e3 {t:TypeId}(h:Blk w b (v0::v1::v2::v3::l).toArray t):w.cell? ⟨b,3,none⟩=some v3:=by rw [h.cell];simp
theorem Blk.e4 {t:TypeId}(h:Blk w b (v0::v1::v2::v3::v4::l).toArray t):w.cell? ⟨b,4,none⟩=some v4:=by rw [h.cell];simp
theorem Blk.e5 {t:TypeId}(h:Blk w b (v0::v1::v2::v3::v4::v5::l).toArray t):w.cell? ⟨b,5,none⟩=some v5:=by rw [h.cell];simp
theorem Blk.e6 {t:TypeId}(h:Blk w b (v0::v1::v2::v3::v4::v5::v6::l).toArray t):w.cell? ⟨b,6,none⟩=some v6:=by rw [h.cell];simp
theorem Blk.e7 {t:TypeId}(h:Blk w b (v0::v1::v2::v3::v4::v5::v6::v7::l).toArray t):w.cell? ⟨b,7,none⟩=some v7:=by rw [h.cell];simp
theorem Blk.e8 {t:TypeId}(h:Blk w b (v0::v1::v2::v3::v4::v5::v6::v7::v8::l).toArray t):w.cell? ⟨b,8,none⟩=some v8:=by rw [h.cell];simp
theorem Blk.e9 {t:TypeId}(h:Blk w b (v0::v1::v2::v3::v4::v5::v6::v7::v8::v9::l).toArray t):w.cell? ⟨b,9,none⟩=some v9:=by rw [h.cell];simp
theorem Blk.e10 {t:TypeId}(h:Blk w b (v0::v1::v2::v3::v4::v5::v6::v7::v8::v9::v10::l).toArray t):w.cell? ⟨b,10,none⟩=some v10:=by rw [h.cell];simp
theorem Blk.e11 {t:TypeId}(h:Blk w b (v0::v1::v2::v3::v4::v5::v6::v7::v8::v9::v10::v11::l).toArray t):w.cell? ⟨b,11,none⟩=some v11:=by rw [h.cell];simp
theorem Blk.e12 {t:TypeId}(h:Blk w b (v0::v1::v2::v3::v4::v5::v6::v7::v8::v9::v10::v11::v12::l).toArray t):w.cell? ⟨b,12,none⟩=some v12:=by rw [h.cell];simp
theorem Blk.e13 {t:TypeId}(h:Blk w b (v0::v1::v2::v3::v4::v5::v6::v7::v8::v9::v10::v11::v12::v13::l).toArray t):w.cell? ⟨b,13,none⟩=some v13:=by rw [h.cell];simp
theorem Blk.e14 {t:TypeId}{v14:Value}(h:Blk w b (v0::v1::v2::v3::v4::v5::v6::v7::v8::v9::v10::v11::v12::v13::v14::l).toArray t):w.cell? ⟨b,14,none⟩=some v14:=by rw [h.cell];simp
theorem Blk.s0 {t:TypeId}(h:Blk w b (v0::l).toArray t)(x:Value):Blk (w.setCell ⟨b,0,none⟩ x) b (x::l).toArray t:=by have:=h.set 0 x;simpa using this
theorem Blk.s1 {t:TypeId}(h:Blk w b (v0::v1::l).toArray t)(x:Value):Blk (w.setCell ⟨b,1,none⟩ x) b (v0::x::l).toArray t:=by have:=h.set 1 x;simpa using this
theorem Blk.s2 {t:TypeId}(h:Blk w b (v0::v1::v2::l).toArray t)(x:Value):Blk (w.setCell ⟨b,2,none⟩ x) b (v0::v1::x::l).toArray t:=by have:=h.set 2 x;simpa using this
theorem Blk.s3 {t:TypeId}(h:Blk w b (v0::v1::v2::v3::l).toArray t)(x:Value):Blk (w.setCell ⟨b,3,none⟩ x) b (v0::v1::v2::x::l).toArray t:=by have:=h.set 3 x;simpa using this
theorem Blk.other {w:qw}{t:TypeId}(h:Blk w g cs t)(a:Addr)(v:Value)(hg:g≠a.block):Blk (w.setCell a v) g cs t:=by
 unfold Blk at *;rw [heap_setCell_other _ _ _ _ hg];exact h
theorem Row8.other {w:qw}{zs:qi}(h:Row8 w g zs)(a:Addr)(v:Value)(hg:g≠a.block):Row8 (w.setCell a v) g zs:=Blk.other h a v hg
theorem aL (w:qw)(a:Addr)(v:Value):(w.setCell a v).heap.size=w.heap.size:=by simp [World.setCell]
theorem dH {w w':qw}(h:Below w.drew.heap.size w.drew w'):qY w w':=⟨h.os,h.tape,h.output,h.size,h.block⟩
def mid (zs:qi)(k:Nat):List Int:=(List.range zs.length).map (fun i=>if i<k then zs.getD i 0 else 0)
theorem aA7 (zs:qi)(k:Nat):(mid zs k).length=zs.length:=by simp [mid]
theorem tK (zs:qi):mid zs 0=List.replicate zs.length 0:=by
 apply List.ext_getElem
 .simp [mid]
 .intro i h1 h2;simp [mid]
theorem aA8 (zs:qi):mid zs zs.length=zs:=by
 apply List.ext_getElem
 .simp [mid]
 .intro i h1 h2;simp [mid,h2]
theorem aA6 (zs:qi)(k:Nat)(h:k<zs.length):(mid zs k).set k (zs.getD k 0)=mid zs (k+1):=by
 apply List.ext_getElem
 .simp [mid]
 .intro i h1 h2;simp only [mid,List.getElem_set,List.getElem_map,List.getElem_range];by_cases hik:k=i
  .subst hik;simp
  .by_cases h3:i<k
   .simp [hik,h3,show i<k+1 by omega]
   .simp [hik,h3,show ¬ i<k+1 by omega]
structure Turn (S:Nat->Prop)(w w':qw):Prop where
 os:w'.os=w.os
 tape:w'.tape=w.tape
 output:w'.output=w.output
 size:w.heap.size<=w'.heap.size
 block:∀ k,k<w.heap.size->¬ S k->w'.heap[k]?=w.heap[k]?
theorem Turn.refl (S:Nat->Prop)(w:qw):Turn S w w:=⟨rfl,rfl,rfl,aN,fun _ _ _=>rfl⟩
theorem Turn.trans {a b c:qw}(h:Turn S a b)(k:Turn S b c):Turn S a c:=
 ⟨k.os.trans h.os,k.tape.trans h.tape,k.output.trans h.output,xM h.size k.size,fun j hj hs=>(k.block j (Nat.lt_of_lt_of_le hj h.size) hs).trans (h.block j hj hs)⟩
theorem Turn.mono {w w':qw}(h:Turn S w w')(hs:∀ k,S k->S' k):Turn S' w w':=⟨h.os,h.tape,h.output,h.size,fun k hk hn=>h.block k hk (fun e=>hn (hs k e))⟩
theorem aJ {w w':qw}(h:qY w w'):Turn S w w':=⟨h.os,h.tape,h.output,h.size,fun k hk _=>h.block k hk⟩
theorem iW (w:qw)(o:Obj):Turn S w (w.alloc o):=aJ bal
theorem aG {a w w':qw}(h:Below B a w)(ht:Turn S w w')(hS:∀ k,S k->B<=k)(hB:B<=w.heap.size):Below B a w':=
 ⟨ht.os.trans h.os,ht.tape.trans h.tape,ht.output.trans h.output,xM h.size ht.size,fun k hk=>(ht.block k (by omega) (fun e=>by have:=hS k e;omega)).trans (h.block k hk)⟩
theorem aF {w w':qw}{t:TypeId}(ht:Turn S w w')(h:Blk w k cs t)(hk:¬ S k):Blk w' k cs t:=by
 have:=ht.block k h.lt hk;unfold Blk at *;rw [this];exact h
theorem bP (b off i:Nat):(Addr.add (qR b off) i)=(qR b (off+i)):=by
 simp only [Addr.add];split
 .next h=>subst h;rfl
 .rfl
theorem zC:(prog.info? 5).map (fun i=>(i.zero,i.size,i.bytes))=some (some (.int .u8 0),1,1):=by kernel_rfl
theorem aOl (n:Nat):(madeCells (Value.cells (.int .u8 0)) (n*1))=((List.replicate n (0:Int)).map (Value.int .u8)).toArray:=by
 apply Array.ext
 .simp [size_madeCells]
 .intro i h1 h2;simp [madeCells,Value.cells,Nat.mod_one]
theorem pO {w:qw}(h:w.ownsRow base 5 1 (qS (qP g) n n) n (madeCells (Value.cells (.int .u8 0)) (n*1)).toList):Row8 w g (List.replicate n 0):=by
 obtain ⟨hl,h|⟨g',cap,cur,hv,hb,hh,h1,h2,h3,h4⟩⟩:=h
 .simp at h
 .simp at hv;obtain ⟨rfl,rfl⟩:=hv;unfold Row8;rw [hh]
  have e:cur.toList=(madeCells (Value.cells (.int .u8 0)) (n*1)).toList:=by
   rw [<- h4,xG (by simp [h3])]
  have e2:cur=madeCells (Value.cells (.int .u8 0)) (n*1):=Array.toList_inj.1 e;rw [e2,aOl]
theorem aW {w w':qw}(h:w.grownBy w' none):qY w w':=brf.grown h aN (fun k hk=>by cases hk)
def mok (n1 n2 n3:Nat):Bool:=decide (n1<=16384/\n2<=16384/\n3<=5000)
theorem aEf (a1 a2 a3:qO)(n1 c1 n2 c2 n3 c3:Nat)(w:qw):
 qC 77 #[.agg (qV a1 n1 c1 a2 n2 c2 a3 n3 c3)] w (qB w (.bool (mok n1 n2 n3))):=by
 by_cases k1:(n1:Int)<=16384
 all_goals by_cases k2:(n2:Int)<=16384
 all_goals by_cases k3:(n3:Int)<=5000
 all_goals
  obtain ⟨r,hr⟩:=eqx (mok n1 n2 n3);have HR:Zh (r=mok n1 n2 n3):=hr;rw [<- hr];clear hr;go_enter func77,ntmps77
  go_wp2;go_ret;refine ⟨aA ?_,bal⟩;rw [HR.o];unfold mok;simp;try omega
theorem uC (a1 a2 a3:qO)(n1 c1 n2 c2 n3 c3:Nat)(w:qw):
 qC 192 #[.agg (qV a1 n1 c1 a2 n2 c2 a3 n3 c3)] w (qB w (.bool (mok n1 n2 n3))):=by
 by_cases k1:(n1:Int)<=16384
 all_goals by_cases k2:(n2:Int)<=16384
 all_goals by_cases k3:(n3:Int)<=5000
 all_goals
  obtain ⟨r,hr⟩:=eqx (mok n1 n2 n3);have HR:Zh (r=mok n1 n2 n3):=hr;rw [<- hr];clear hr;go_enter func192,ntmps192
  go_wp2;go_ret;refine ⟨aA ?_,bal⟩;rw [HR.o];unfold mok;simp;try omega
theorem Blk.three {w:qw}{a b:Value}{t:TypeId}(h:Blk w g #[a,b,c] t):
 w.cell? (qR g 0)=some a/\w.cell? (qR g 1)=some b/\w.cell? (qR g 2)=some c/\∀ i,w.frozen? (qR g i)=false:=
 ⟨by rw [h.cell];rfl,by rw [h.cell];rfl,by rw [h.cell];rfl,fun i=>h.frozen i⟩
abbrev Rg:=Int×Int×Int×Bool×Bool×Bool
def z6:Rg:=(0,0,0,false,false,false)
def At6 (w:qw)(b o:Nat)(g:Rg):Prop:=
 w.cell? (qR b o)=some (qI g.1)/\w.cell? (qR b (o+1))=some (qI g.2.1)/\w.cell? (qR b (o+2))=some (qI g.2.2.1) /\
 w.cell? (qR b (o+3))=some (.bool g.2.2.2.1)/\w.cell? (qR b (o+4))=some (.bool g.2.2.2.2.1)/\w.cell? (qR b (o+5))=some (.bool g.2.2.2.2.2)
def wfi (z:Int):Prop:=-9223372036854775808<=z/\z<=9223372036854775807
def RS (w:qw)(a:qO)(n cap:Nat)(rs:List Rg):Prop:=
 rs.length=n/\n<=maxLen/\(∀ g∈rs,wfi g.1/\wfi g.2.1/\wfi g.2.2.1)/\(n≠0->∃ b off,a=some (qR b off)/\∀ i,i<n->At6 w b (off+i*6) (rs.getD i z6))/\n<=cap
theorem At6.bw {w w':qw}{o:Nat}{g:Rg}(h:At6 w b o g)(hb:qY w w'):At6 w' b o g:=by
 obtain ⟨h1,h2,h3,h4,h5,h6⟩:=h;have hl:b<w.heap.size:=xD w _ h1;unfold At6;rw [hb.cell (p:=(qR b o)) hl,hb.cell (p:=(qR b (o+1))) hl,hb.cell (p:=(qR b (o+2))) hl,hb.cell (p:=(qR b (o+3))) hl,hb.cell (p:=(qR b (o+4))) hl,hb.cell (p:=(qR b (o+5))) hl];exact ⟨h1,h2,h3,h4,h5,h6⟩
theorem RS.bw {w w':qw}{a:qO}{rs:List Rg}(h:RS w a n cap rs)(hb:qY w w'):RS w' a n cap rs:=by
 obtain ⟨h1,h2,h3,h4,h5⟩:=h;refine ⟨h1,h2,h3,fun hn=>?_,h5⟩;obtain ⟨b,off,ha,hc⟩:=h4 hn;exact ⟨b,off,ha,fun i hi=>(hc i hi).bw hb⟩
theorem RS.some {w:qw}{a:qO}{rs:List Rg}(h:RS w a n cap rs)(hn:n≠0):∃ b off,a=Option.some (qR b off):=by
 obtain ⟨b,off,e,_⟩:=h.2.2.2.1 hn;exact ⟨b,off,e⟩
theorem RS.at {w:qw}{b off n cap:Nat}{rs:List Rg}(h:RS w (Option.some (qR b off)) n cap rs)(i:Nat)(hi:i<n):At6 w b (off+i*6) (rs.getD i z6):=by
 obtain ⟨b',off',e,hd⟩:=h.2.2.2.1 (by omega);simp at e;obtain ⟨rfl,rfl⟩:=e;exact hd i hi
theorem aG2:(prog.info? 214).map (fun i=>(i.zero,i.size,i.bytes))=some (some (.agg #[qI 0,qI 0,qI 0,.bool false,.bool false,.bool false]),6,32):=by kernel_rfl
def IS (w:qw)(a:qO)(n cap:Nat)(zs:qi):Prop:=
 zs.length=n/\n<=maxLen/\(∀ z∈zs,wfi z)/\(n≠0->∃ b off,a=some (qR b off)/\∀ i,i<n->w.cell? (qR b (off+i))=some (qI (zs.getD i 0)))/\n<=cap
theorem IS.bw {w w':qw}{a:qO}{zs:qi}(h:IS w a n cap zs)(hb:qY w w'):IS w' a n cap zs:=by
 obtain ⟨h1,h2,h3,h4,h5⟩:=h;refine ⟨h1,h2,h3,fun hn=>?_,h5⟩;obtain ⟨b,off,ha,hc⟩:=h4 hn;refine ⟨b,off,ha,fun i hi=>?_⟩;have:=hc i hi;rw [hb.cell (p:=(qR b (off+i))) (xD w _ this)];exact this
theorem IS.range {w:qw}{a:qO}{zs:qi}(h:IS w a n cap zs)(i:Nat):wfi (zs.getD i 0):=by
 by_cases hi:i<zs.length
 .have:=h.2.2.1 zs[i] (List.getElem_mem hi);simpa [xB,hi] using this
 .simp [xB,Nat.le_of_not_lt hi,wfi]
def RowI (w:qw)(g:Nat)(zs:qi):Prop:=w.heap[g]?=some (.cells (zs.map (Value.int .i64)).toArray 3 (0,0))
theorem RowI.cell {w:qw}{zs:qi}(h:RowI w g zs)(i:Nat)(hi:i<zs.length):w.cell? (qR g i)=some (qI (zs.getD i 0)):=by
 rw [cell_of_row w g i _ _ _ h];simp [xB,hi]
theorem RowI.frozen {w:qw}{zs:qi}(h:RowI w g zs)(i:Nat):w.frozen? (qR g i)=false:=frozen_of_row w g i _ _ h
theorem RowI.set {w:qw}{zs:qi}(h:RowI w g zs)(i:Nat)(z:Int):RowI (w.setCell (qR g i) (qI z)) g (zs.set i z):=by
 unfold RowI at *;rw [heap_setCell_same w g i _ _ _ h];simp [List.map_set]
theorem RowI.lt {w:qw}{zs:qi}(h:RowI w g zs):g<w.heap.size:=by
 unfold RowI at h;by_cases hg:g<w.heap.size
 .exact hg
 .simp [Array.getElem?_eq_none (Nat.le_of_not_lt hg)] at h
theorem RowI.bw {w w':qw}{zs:qi}(h:RowI w g zs)(hb:qY w w'):RowI w' g zs:=by
 have:=hb.block g h.lt;unfold RowI at *;rw [this];exact h
theorem RowI.is {w:qw}{zs:qi}(h:RowI w g zs)(hm:zs.length<=maxLen)(hz:∀ z∈zs,wfi z)(n cap:Nat)(hn:zs.length=n)(hc:n<=cap:=by exact aN):IS w (qP g) n cap zs:=by
 subst hn;exact ⟨rfl,hm,hz,fun _=>⟨g,0,rfl,fun i hi=>by rw [Nat.zero_add];exact h.cell i hi⟩,hc⟩
theorem jV:(prog.info? 3).map (fun i=>(i.zero,i.size,i.bytes))=some (some (qI 0),1,8):=by kernel_rfl
theorem aQo (n:Nat):(madeCells (Value.cells (qI 0)) (n*1))=((List.replicate n (0:Int)).map (Value.int .i64)).toArray:=by
 apply Array.ext
 .simp [size_madeCells]
 .intro i h1 h2;simp [madeCells,Value.cells,Nat.mod_one]
theorem jD {w:qw}(h:w.ownsRow base 3 1 (qS (qP g) n n) n (madeCells (Value.cells (qI 0)) (n*1)).toList):RowI w g (List.replicate n 0):=by
 obtain ⟨hl,h|⟨g',cap,cur,hv,hb,hh,h1,h2,h3,h4⟩⟩:=h
 .simp at h
 .simp at hv;obtain ⟨rfl,rfl⟩:=hv;unfold RowI;rw [hh]
  have e:cur.toList=(madeCells (Value.cells (qI 0)) (n*1)).toList:=by
   rw [<- h4,xG (by simp [h3])]
  have e2:cur=madeCells (Value.cells (qI 0)) (n*1):=Array.toList_inj.1 e;rw [e2,aQo]
theorem gA (a:qO)(n cap:Nat)(l:Int)(w:qw)(h0:0<=l)(h1:l<=1048576)(hn:n<=maxLen):
 qC 72 #[qS a n cap,qI l] w fun e w'=>e=.returned (qI (if l<n then -1 else l-n))/\w'=w:=by
 unfold maxLen at hn;by_cases h:l<n
 .go_enter func72,ntmps72
  go_wp2;go_ret;exact ⟨rfl,rfl⟩
 .go_enter func72,ntmps72
  go_wp2;go_ret;exact ⟨rfl,rfl⟩
theorem iY (a:qO)(n cap:Nat)(zs:qi)(w:qw)(h:IS w a n cap zs)(hn:n<=1048576):
 qC 15 #[qS a n cap] w fun e w'=>e=.returned (qS (qP w.heap.size) n n)/\RowI w' w.heap.size zs/\qY w w':=by
 obtain ⟨i0,hi,hz0,hz1,hz2⟩:=info_parts jV;obtain ⟨hl,hmx,hr,hc,_⟩:=h;by_cases hn0:n=0
 .subst hn0;obtain rfl:zs=[]:=xE hl;clear hc;go_enter func15,ntmps15
  go_wp2_with (at_make;refine wpList_make_full _ rfl _ _ 25 rfl w.heap.size 3 i0 (qI 0) 1 underlying25 hi hz0 hz1 .i64 .i64 _ _ 0 rfl rfl rfl rfl (by omega) (by unfold maxLen;omega) aN ?_;intro w1 hown hgr)
  have hrow:=jD hown;have hbel:=aW hgr;clear hown hgr;go_loop [4] (fun i=>i=qI 0) (fun _=>0)
  .rfl
  .obtain rfl:=hrel;go_wp2;go_ret;exact ⟨rfl,hrow,hbel⟩
 .obtain ⟨b,off,rfl,hd⟩:=hc hn0;clear hc;go_enter func15,ntmps15
  go_wp2_with (at_make;refine wpList_make_full _ rfl _ _ 25 rfl w.heap.size 3 i0 (qI 0) 1 underlying25 hi hz0 hz1 .i64 .i64 _ _ n rfl rfl rfl rfl (by rw [hz2];omega) (by unfold maxLen;omega) aN ?_;intro w1 hown hgr)
  have hrow:=jD hown;have hbel:=aW hgr;clear hown hgr hi hz0 hz1 hz2;go_loopw [4] (fun i wr=>∃ k:Nat,k<=n/\i=qI k/\RowI wr w.heap.size (mid zs k)/\qY w wr) (qf n)
  .exact ⟨0,xC _,rfl,by rw [tK,hl];exact hrow,hbel⟩
  .obtain ⟨k,hk,rfl,hR,hB⟩:=hrel;clear hrow hbel;by_cases hlt:k<n
   .have hlt':(k:Int)<(n:Int):=by omega
    have hck:wr.cell? (qR b (off+k))=some (qI (zs.getD k 0)):=(hB.cell (xD w _ (hd k hlt))).trans (hd k hlt);have hgk:wr.cell? (qR w.heap.size k)=some (qI ((mid zs k).getD k 0)):=hR.cell k (by rw [aA7];omega);have hfk:wr.frozen? (qR w.heap.size k)=false:=hR.frozen k;have R':=hR.set k (zs.getD k 0);rw [aA6 zs k (by omega)] at R';have B':qY w (wr.setCell (qR w.heap.size k) (qI (zs.getD k 0))):=hB.setCell aN _;have HR:=R';have HB:=B';generalize zs.getD k 0=z at *;generalize (mid zs k).getD k 0=z0 at *;clear hd hR hB;go_wp2
    go_roundw
    .exact ⟨k+1,by omega,by go_num,HR,HB⟩
    .simp [qf,intOf];omega
   .have e:Zh (k=n):=by show k=n;omega
    go_wp2;go_ret;exact ⟨rfl,by rw [e.o,<- hl,aA8] at hR;exact hR,hB⟩
theorem gW (xs ys:qi)(k:Nat)(h:xs.take k=ys.take k)(hx:k<xs.length)(hy:k<ys.length)(he:xs.getD k 0=ys.getD k 0):xs.take (k+1)=ys.take (k+1):=by
 rw [List.take_succ_eq_append_getElem hx,List.take_succ_eq_append_getElem hy,h];simp [xB,hx,hy] at he;rw [he]
theorem jO (a a':qO)(n cap n' cap':Nat)(xs ys:qi)(w:qw)(h:IS w a n cap xs)(h':IS w a' n' cap' ys):
 qC 17 #[qS a n cap,qS a' n' cap'] w (qB w (.bool (decide (xs=ys)))):=by
 obtain ⟨hl,hmx,hr,hc,_⟩:=h;obtain ⟨hl',hmx',hr',hc',_⟩:=h';unfold maxLen at hmx hmx';by_cases hn:n=n'
 .subst hn;have hne:((n:Int) !=(n:Int))=false:=by simp
  by_cases hn0:n=0
  .subst hn0;obtain rfl:xs=[]:=xE hl;obtain rfl:ys=[]:=xE hl';clear hc hc';go_enter func17,ntmps17
   go_wp2;go_loop [5] (fun i=>i=qI 0) (fun _=>0)
   .rfl
   .obtain rfl:=hrel;go_wp2;go_ret;exact ⟨rfl,brf⟩
  .obtain ⟨b,off,rfl,hd⟩:=hc hn0;obtain ⟨b',off',rfl,hd'⟩:=hc' hn0;clear hc hc';go_enter func17,ntmps17
   go_wp2;go_loopw [5] (fun i wr=>∃ k:Nat,k<=n/\i=qI k/\xs.take k=ys.take k/\qY w wr) (qf n)
   .exact ⟨0,xC _,rfl,by simp,brf⟩
   .obtain ⟨k,hk,rfl,hT,hB⟩:=hrel;by_cases hlt:k<n
    .have hlt':(k:Int)<(n:Int):=by omega
     have hck:wr.cell? (qR b (off+k))=some (qI (xs.getD k 0)):=(hB.cell (xD w _ (hd k hlt))).trans (hd k hlt);have hck':wr.cell? (qR b' (off'+k))=some (qI (ys.getD k 0)):=(hB.cell (xD w _ (hd' k hlt))).trans (hd' k hlt);by_cases he:xs.getD k 0=ys.getD k 0
     .have hS:=gW xs ys k hT (by omega) (by omega) he;have HS:Zh (xs.take (k+1)=ys.take (k+1)):=hS;rw [he] at hck;clear hS hT hd hd' he;generalize ys.getD k 0=z at *;have hz:(z !=z)=false:=by simp
      go_wp2
      go_quiet (fail)
      go_wp2
      go_roundw
      .exact ⟨k+1,by omega,by go_num,HS.o,below_drewN hB _⟩
      .simp [qf,intOf];omega
     .have hf:Zh (decide (xs=ys)=false):=by
       show _=_;simp;intro e;exact he (by rw [e])
      have hz:(xs.getD k 0 !=ys.getD k 0)=true:=by simpa using he
      clear hT hd hd' he;generalize ys.getD k 0=z at *;generalize xs.getD k 0=z' at *;go_wp2
      go_quiet (fail)
      go_wp2;go_ret;exact ⟨aA hf.o.symm,below_drewN hB _⟩
    .have hf:Zh (decide (xs=ys)=true):=by
      show _=_;simp;rw [xG (by omega),xG (by omega)] at hT;exact hT
     clear hT hd hd';go_wp2;go_ret;exact ⟨aA hf.o.symm,hB⟩
 .have hf:Zh (decide (xs=ys)=false):=by
   show _=_;simp;intro e;rw [e] at hl;omega
  have hne:((n:Int) !=(n':Int))=true:=by simp;omega
  clear hc hc';go_enter func17,ntmps17
  go_wp2;go_ret;exact ⟨aA hf.o.symm,brf⟩
theorem yL (w:qw)(d:Int)(h0:0<=d)(h1:d<=255):(convert 28 9 (qS (qP w.heap.size) 1 1)).run prog (w.alloc (.cells #[.int .u8 d] 5))=.ok (.string ⟨#[UInt8.ofNat d.toNat]⟩) (w.alloc (.cells #[.int .u8 d] 5)):=by
 have e:((UInt8.ofNat d.toNat).toNat:Int)=d:=by
  have:(UInt8.ofNat d.toNat).toNat=d.toNat%256:=UInt8.toNat_ofNat';omega
 refine run_convert_bytes_back (P:=prog) (w.alloc (.cells #[.int .u8 d] 5)) 28 9 5 (qR w.heap.size 0) 1 [UInt8.ofNat d.toNat] underlying28 underlying5 underlying9 ?_;intro j hj;obtain rfl:j=0:=by simp at hj;omega
 rw [bP,Blk.cell (Blk.new w _ _)];exact congrArg (fun z=>some (Value.int .u8 z)) e.symm
theorem jH (k:Nat)(w:qw)(hk:k<=8388608):qC 103 #[qI k] w fun e w'=>∃ s,e=.returned (.string s)/\s.size<=8388610/\qY w w':=by
 by_cases h0:k=0
 .subst h0;go_enter func103,ntmps103
  go_wp2;go_ret;exact ⟨_,rfl,by decide,brf⟩
 have hk0:0<(k:Int):=by omega
 go_enter func103,ntmps103
 go_wp2_with fail
 go_loopw [0,3] (fun x o wr=>∃ (m:Nat) (s:ByteArray),x=qI m/\o=.string s/\s.size+m<=8388608/\qY w wr) (fun x _ _=>(intOf x).toNat)
 .exact ⟨k,⟨#[]⟩,rfl,rfl,by show 0+k<=_;omega,brf⟩
 .obtain ⟨m,s,rfl,rfl,hm,hB⟩:=hrel;clear hk hk0 h0;by_cases hlt:0<m
  .have hlt':0<(m:Int):=by omega
   have hcv:=fun (W:qw)=>yL W (48+(m:Int)%10) (by omega) (by omega);have HB:=zh hB;have hBs:=hB.size;clear hB;go_wp2
   go_roundw
   .refine ⟨m/10,_,by go_num,rfl,?_,HB.o.alloc hBs _⟩;simp [ByteArray.size_append];have e1:(⟨#[48+UInt8.ofNat (m%10)]⟩:ByteArray).size=1:=rfl;omega
   .simp [intOf];omega
  .obtain rfl:m=0:=by omega
   go_wp2;go_ret;exact ⟨_,rfl,by have e1:(⟨#[109]⟩:ByteArray).size=1:=rfl;simp only [ByteArray.size_append];omega,hB⟩
def mtf:Nat -> Nat -> ByteArray -> ByteArray
 | 0,_,s=>s
 | f+1,k,s=>if k=0 then s else mtf f (k/10) (⟨#[UInt8.ofNat ((48+(k:Int)%10).toNat)]⟩++s)
theorem mtf_same:∀ (f g k:Nat) (s:ByteArray),k<=f -> k<=g -> mtf f k s=mtf g k s
 | 0,0,_,_,_,_=>rfl
 | 0,g+1,k,s,h,_=>by rw [show k=0 by omega];rfl
 | f+1,0,k,s,_,h=>by rw [show k=0 by omega];rfl
 | f+1,g+1,k,s,h,i=>by
  unfold mtf
  split
  · rfl
  · exact mtf_same f g _ _ (by omega) (by omega)
def mtd (k:Nat)(s:ByteArray):ByteArray:=mtf k k s
theorem aKo (s:ByteArray):mtd 0 s=s:=rfl
theorem aKp (k:Nat)(s:ByteArray)(h:0<k):mtd k s=mtd (k/10) (⟨#[UInt8.ofNat ((48+(k:Int)%10).toNat)]⟩++s):=by
 obtain ⟨j,rfl⟩:∃ j,k=j+1:=⟨k-1,by omega⟩
 show mtf (j+1) (j+1) s=_
 unfold mtf
 rw [if_neg (by omega)]
 exact mtf_same _ _ _ _ (by omega) (by omega)
def mtx (k:Nat):ByteArray:=⟨#[109]⟩++mtd k ⟨#[]⟩
theorem dN (k:Nat)(w:qw)(h0:0<k:=by omega)(hk:k<=67108864:=by omega):qC 103 #[qI k] w (qB w (.string (mtx k))):=by
 have hk0:0<(k:Int):=by omega
 go_enter func103,ntmps103
 go_wp2_with fail
 go_loopw [0,3] (fun x o wr=>∃ (m:Nat) (s:ByteArray),x=qI m/\o=.string s/\s.size+m<=67108864/\Hid (mtd m s=mtd k ⟨#[]⟩)/\qY w wr) (fun x _ _=>(intOf x).toNat)
 .exact ⟨k,⟨#[]⟩,rfl,rfl,by show 0+k<=_;omega,zh rfl,brf⟩
 .obtain ⟨m,s,rfl,rfl,hm,HM,hB⟩:=hrel;clear hk hk0 h0;by_cases hlt:0<m
  .have hlt':0<(m:Int):=by omega
   have hcv:=fun (W:qw)=>yL W (48+(m:Int)%10) (by omega) (by omega);have HB:=zh hB;have hBs:=hB.size;have HS:=zh (aKp m s hlt);generalize hd:UInt8.ofNat ((48+(m:Int)%10).toNat)=d at *;have HD:=zh hd;clear hB hd;go_wp2
   go_roundw
   .refine ⟨m/10,⟨#[d]⟩++s,by go_num,rfl,?_,zh (by rw [<- HM.out,HS.o]),HB.o.alloc hBs _⟩;rw [ByteArray.size_append];have e1:(⟨#[d]⟩:ByteArray).size=1:=rfl;omega
   .simp [intOf];omega
  .obtain rfl:m=0:=by omega
   have HM2:=zh (show mtx k=⟨#[109]⟩++s by unfold mtx;rw [<- HM.out,aKo]);go_wp2;go_ret;exact ⟨by rw [HM2.o];rfl,hB⟩
def Shp (w w':qw):Prop:=∀ g cs t,Blk w g cs t->∃ cs':Array Value,Blk w' g cs' t/\cs'.size=cs.size
theorem Shp.refl (w:qw):Shp w w:=fun g cs t h=>⟨cs,h,rfl⟩
theorem Shp.trans {a b c:qw}(h:Shp a b)(k:Shp b c):Shp a c:=fun g cs t hb=>by
 obtain ⟨c1,h1,e1⟩:=h g cs t hb;obtain ⟨c2,h2,e2⟩:=k g c1 t h1;exact ⟨c2,h2,e2.trans e1⟩
theorem Shp.bw {w w':qw}(h:qY w w'):Shp w w':=fun g cs t hb=>⟨cs,hb.bw h,rfl⟩
theorem Shp.set (w:qw)(k i:Nat)(v:Value):Shp w (w.setCell (qR k i) v):=fun g cs t hb=>by
 by_cases e:g=k
 .subst e;exact ⟨_,hb.set i v,by simp⟩
 .exact ⟨cs,hb.other _ _ e,rfl⟩
structure Mkd (S:Nat->Prop)(w w':qw):Prop where
 turn:Turn S w w'
 shp:Shp w w'
theorem Mkd.refl (S:Nat->Prop)(w:qw):Mkd S w w:=⟨Turn.refl _ _,Shp.refl _⟩
theorem Mkd.trans {a b c:qw}(h:Mkd S a b)(k:Mkd S b c):Mkd S a c:=⟨h.turn.trans k.turn,h.shp.trans k.shp⟩
theorem Mkd.bw {w w':qw}(h:qY w w'):Mkd S w w':=⟨aJ h,Shp.bw h⟩
theorem Mkd.set {w w':qw}(h:Mkd S w w')(k i:Nat)(v:Value)(hk:S k):Mkd S w (w'.setCell (qR k i) v):=
 h.trans ⟨⟨rfl,rfl,rfl,by rw [aL];exact aN,fun j _ hj=>heap_setCell_other _ _ _ _ (fun e=>hj (by rw [e];exact hk))⟩,Shp.set _ _ _ _⟩
theorem Mkd.mono {w w':qw}(h:Mkd S w w')(hs:∀ k,S k->S' k):Mkd S' w w':=⟨h.turn.mono hs,h.shp⟩
def Sl (S:Nat->Prop)(w:qw)(a:qO)(n sz:Nat):Prop:=n≠0->∃ g o cs t,a=some (qR g o)/\S g/\Blk w g cs t/\o+n*sz<=cs.size
theorem Sl.shp {w w':qw}{a:qO}(h:Sl S w a n sz)(m:Shp w w'):Sl S w' a n sz:=fun hn=>by
 obtain ⟨g,o,cs,t,ha,hs,hb,hl⟩:=h hn;obtain ⟨cs',hb',e⟩:=m g cs t hb;exact ⟨g,o,cs',t,ha,hs,hb',by omega⟩
theorem Sl.ofBlk {w:qw}{c:Nat}{t:TypeId}(hb:Blk w g cs t)(hS:S g)(hs:n*sz<=cs.size):Sl S w (qP g) n sz:=fun _=>⟨g,0,cs,t,rfl,hS,hb,by omega⟩
theorem Sl.cell {w:qw}{o:Nat}(h:Sl S w (some (qR g o)) n sz)(hn:n≠0)(i:Nat)(hi:i<n*sz):(∃ u,w.cell? (qR g (o+i))=some u)/\w.frozen? (qR g (o+i))=false/\S g:=by
 obtain ⟨g',o',cs,t,ha,hs,hb,hl⟩:=h hn;simp at ha;obtain ⟨rfl,rfl⟩:=ha;exact ⟨⟨cs[o+i]'(by omega),by rw [hb.cell];simp [show o+i<cs.size by omega]⟩,hb.frozen _,hs⟩
theorem Sl.addr {w:qw}{a:qO}(h:Sl S w a n sz)(hn:n≠0):∃ g o,a=some (qR g o):=by
 obtain ⟨g,o,_,_,ha,_⟩:=h hn;exact ⟨g,o,ha⟩
theorem kS (S:Nat->Prop)(a:qO)(n cap k:Nat)(w:qw)(h:Sl S w a n 1)(hn:n<=1048576)(hk:k<=6291456):
 qC 18 #[qS a n cap,qI k] w fun e w'=>e=.returned (qI ((k+n:Nat):Int))/\Mkd S w w':=by
 go_enter func18,ntmps18
 go_wp2;go_loopw [1,5] (fun x i wr=>∃ m:Nat,m<=n/\i=qI m/\x=qI ((k+m:Nat):Int)/\Mkd S w wr) (fun _ i _=>n-(intOf i).toNat)
 .exact ⟨0,xC _,rfl,rfl,Mkd.refl _ _⟩
 .obtain ⟨m,hm,rfl,rfl,M⟩:=hrel;by_cases hlt:m<n
  .have hlt':(m:Int)<(n:Int):=by omega
   obtain ⟨g,o,rfl⟩:=h.addr (by omega);obtain ⟨⟨u,c0⟩,f0,hS⟩:=(h.shp M.shp).cell (by omega) m (by omega);have HM:=zh (fun v=>M.set g (o+m) v hS);clear M;go_wp2
   go_roundw
   .exact ⟨m+1,by omega,by go_num,by go_num,HM.o _⟩
   .simp [intOf];omega
  .obtain rfl:m=n:=by omega
   go_wp2;go_ret;exact ⟨by go_num,M⟩
theorem aBb (S:Nat->Prop)(a:qO)(n cap k:Nat)(w:qw)(h:Sl S w a n 1)(hn:n<=1048576)(hk:k<=6291456):
 qC 105 #[qS a n cap,qI k] w fun e w'=>e=.returned (qI ((k+n:Nat):Int))/\Mkd S w w':=by
 go_enter func105,ntmps105
 go_wp2;go_loopw [1,5] (fun x i wr=>∃ m:Nat,m<=n/\i=qI m/\x=qI ((k+m:Nat):Int)/\Mkd S w wr) (fun _ i _=>n-(intOf i).toNat)
 .exact ⟨0,xC _,rfl,rfl,Mkd.refl _ _⟩
 .obtain ⟨m,hm,rfl,rfl,M⟩:=hrel;by_cases hlt:m<n
  .have hlt':(m:Int)<(n:Int):=by omega
   obtain ⟨g,o,rfl⟩:=h.addr (by omega);obtain ⟨⟨u,c0⟩,f0,hS⟩:=(h.shp M.shp).cell (by omega) m (by omega);have HM:=zh (fun v=>M.set g (o+m) v hS);clear M;go_wp2
   go_roundw
   .exact ⟨m+1,by omega,by go_num,by go_num,HM.o _⟩
   .simp [intOf];omega
  .obtain rfl:m=n:=by omega
   go_wp2;go_ret;exact ⟨by go_num,M⟩
theorem tL (S:Nat->Prop)(a:qO)(n cap k:Nat)(w:qw)(h:Sl S w a n 1)(hn:n<=1048576)(hk:k<=6291456):
 qC 106 #[qS a n cap,qI k] w fun e w'=>e=.returned (qI ((k+n:Nat):Int))/\Mkd S w w':=by
 go_enter func106,ntmps106
 go_wp2;go_loopw [1,5] (fun x i wr=>∃ m:Nat,m<=n/\i=qI m/\x=qI ((k+m:Nat):Int)/\Mkd S w wr) (fun _ i _=>n-(intOf i).toNat)
 .exact ⟨0,xC _,rfl,rfl,Mkd.refl _ _⟩
 .obtain ⟨m,hm,rfl,rfl,M⟩:=hrel;by_cases hlt:m<n
  .have hlt':(m:Int)<(n:Int):=by omega
   obtain ⟨g,o,rfl⟩:=h.addr (by omega);have HT:=zh (jH (k+m) wr (by omega));go_wp2_with fail
   refine HT.o.mono ?_;rintro e w1 ⟨s,rfl,hs,hb⟩;have M1:Mkd S w w1:=M.trans (Mkd.bw hb);obtain ⟨⟨u,c0⟩,f0,hS⟩:=(h.shp M1.shp).cell (by omega) m (by omega);have HM:=zh (fun v=>M1.set g (o+m) v hS);clear M M1 hb HT;go_wp2
   go_roundw
   .exact ⟨m+1,by omega,by go_num,by go_num,HM.o _⟩
   .simp [intOf];omega
  .obtain rfl:m=n:=by omega
   go_wp2;go_ret;exact ⟨by go_num,M⟩
theorem tP (S:Nat->Prop)(a:qO)(n cap k:Nat)(w:qw)(h:Sl S w a n 3)(hn:n<=1048576)(hk:k<=4194304):
 qC 107 #[qS a n cap,qI k] w fun e w'=>e=.returned (qI ((k+3*n:Nat):Int))/\Mkd S w w':=by
 go_enter func107,ntmps107
 go_wp2;go_loopw [1,5] (fun x i wr=>∃ m:Nat,m<=n/\i=qI m/\x=qI ((k+3*m:Nat):Int)/\Mkd S w wr) (fun _ i _=>n-(intOf i).toNat)
 .exact ⟨0,xC _,rfl,rfl,Mkd.refl _ _⟩
 .obtain ⟨m,hm,rfl,rfl,M⟩:=hrel;by_cases hlt:m<n
  .have hlt':(m:Int)<(n:Int):=by omega
   obtain ⟨g,o,rfl⟩:=h.addr (by omega);have HT:=zh (jH (k+3*m) wr (by omega));go_wp2_with fail
   refine HT.o.mono ?_;rintro e w1 ⟨s,rfl,hs,hb⟩;have M1:Mkd S w w1:=M.trans (Mkd.bw hb);obtain ⟨⟨u,c0⟩,f0,hS⟩:=(h.shp M1.shp).cell (by omega) (m*3) (by omega);obtain ⟨⟨u1,c1⟩,f1,_⟩:=(h.shp M1.shp).cell (by omega) (m*3+1) (by omega);obtain ⟨⟨u2,c2⟩,f2,_⟩:=(h.shp M1.shp).cell (by omega) (m*3+2) (by omega);rw [<- Nat.add_assoc] at c1 f1 c2 f2;have HM:=zh (fun v v1 v2=>((M1.set g (o+m*3) v hS).set g (o+m*3+1) v1 hS).set g (o+m*3+2) v2 hS);clear M M1 hb HT;go_wp2
   go_roundw
   .exact ⟨m+1,by omega,by go_num,by go_num,HM.o _ _ _⟩
   .simp [intOf];omega
  .obtain rfl:m=n:=by omega
   go_wp2;go_ret;exact ⟨by go_num,M⟩
structure SlB (S:Nat->Prop)(w:qw)(a:qO)(n:Nat)(f:Nat->qO×Nat×Nat):Prop where
 head:n≠0->∃ g o cs t,a=some (qR g o)/\¬ S g/\Blk w g cs t/\∀ i,i<n->cs[o+i]?=some (.slice (f i).1 (f i).2.1 (f i).2.2)
 rows:∀ i,i<n->Sl S w (f i).1 (f i).2.1 1
theorem SlB.kept {w w':qw}{a:qO}{f:Nat->qO×Nat×Nat}(h:SlB S w a n f)(m:Mkd S w w'):SlB S w' a n f:=
 ⟨fun hn=>by obtain ⟨g,o,cs,t,ha,hs,hb,hl⟩:=h.head hn;exact ⟨g,o,cs,t,ha,hs,aF m.turn hb hs,hl⟩,fun i hi=>(h.rows i hi).shp m.shp⟩
def bL (f:Nat->qO×Nat×Nat):Nat->Nat
 | 0=>0
 | n+1=>bL f n+(f n).2.1
theorem rM (f:Nat->qO×Nat×Nat):∀ n i,i<n->(f i).2.1+bL f i<=bL f n
 | 0,i,h=>by omega
 | n+1,i,h=>by
   show _<=bL f n+(f n).2.1;by_cases e:i=n
   .subst e;omega
   .have:=rM f n i (by omega);omega
theorem aBa (S:Nat->Prop)(a:qO)(n cap k:Nat)(f:Nat->qO×Nat×Nat)(w:qw)(h:SlB S w a n f)(hn:n<=1048576)(hs:bL f n<=1048576)(hk:k<=4194304):
 qC 104 #[qS a n cap,qI k] w fun e w'=>e=.returned (qI ((k+bL f n:Nat):Int))/\Mkd S w w':=by
 go_enter func104,ntmps104
 go_wp2;go_loopw [1,5] (fun x i wr=>∃ m:Nat,m<=n/\i=qI m/\x=qI ((k+bL f m:Nat):Int)/\Mkd S w wr) (fun _ i _=>n-(intOf i).toNat)
 .exact ⟨0,xC _,rfl,rfl,Mkd.refl _ _⟩
 .obtain ⟨m,hm,rfl,rfl,M⟩:=hrel;by_cases hlt:m<n
  .have hlt':(m:Int)<(n:Int):=by omega
   have hM:=h.kept M;obtain ⟨g,o,cs,t,rfl,_,hb,hc⟩:=hM.head (by omega);have c0:=(hb.cell (o+m)).trans (hc m hlt);have hle:=rM f n m hlt;have HSU:Zh (bL f (m+1)=bL f m+(f m).2.1):=rfl;have HK:=zh (fun k hk=>kS S (f m).1 (f m).2.1 (f m).2.2 k wr (hM.rows m hlt) (by omega) hk);generalize bL f m=sm at *;generalize f m=fm at *;obtain ⟨fa,fn,fc⟩:=fm;dsimp only at *;clear hM hb hc;go_wp2_with fail
   refine (HK.o (k+sm) (by omega)).mono ?_;rintro e w1 ⟨rfl,M1⟩;have HM:=zh (M.trans M1);clear M M1 HK c0;go_wp2
   go_roundw
   .exact ⟨m+1,by omega,by go_num,by rw [HSU.o];go_num,HM.o⟩
   .simp [intOf];omega
  .obtain rfl:m=n:=by omega
   go_wp2;go_ret;exact ⟨by go_num,M⟩
def byt (s:ByteArray)(k:Nat):Int:=((s.get! k).toNat:Int)
theorem pL (s:ByteArray)(k:Nat):0<=byt s k/\byt s k<=255:=by
 unfold byt;have:=(s.get! k).toNat_lt;omega
theorem aDm (s:ByteArray)(k:Nat)(h:k<s.size):s.get! k=s[k]'h:=by
 simp only [ByteArray.get!,getElem!_def];have:s.data[k]?=some (s.data[k]'h):=Array.getElem?_eq_getElem h;rw [this];rfl
theorem oF (s:ByteArray)(k:Nat)(h:k<s.size)(w:qw):(Instr.index 9 (.string s) (qI (k:Int))).run prog w=.ok (.int .u8 (byt s k)) w:=by
 rw [run_index_string w 9 s .i64 (k:Int) underlying9,dif_pos (by omega)];simp only [byt,xY,aDm s k h]
def nmo (s:ByteArray):Bool:=decide (1<=s.size/\s.size<=12)&&(List.range s.size).all fun k=>decide (97<=byt s k/\byt s k<=122)
theorem aGv (s:ByteArray)(k:Nat)(hk:k<s.size)(h:¬ (97<=byt s k/\byt s k<=122)):nmo s=false:=by
 unfold nmo;rw [Bool.and_eq_false_iff];right;rw [List.all_eq_false];exact ⟨k,by simpa using hk,by simpa using h⟩
theorem aC3 (s:ByteArray)(h:∀ j,j<s.size->97<=byt s j/\byt s j<=122):nmo s=decide (1<=s.size/\s.size<=12):=by
 unfold nmo;rw [show ((List.range s.size).all fun k=>decide (97<=byt s k/\byt s k<=122))=true from List.all_eq_true.2 (fun k hk=>by simpa using h k (by simpa using hk)),Bool.and_true]
theorem fV (s:ByteArray)(w:qw)(hs:s.size<=1048576):
 qC 170 #[.string s] w fun e w'=>e=.returned (.bool (nmo s))/\w=w':=by
 obtain ⟨N,hN⟩:=eqx (s.size);go_enter func170,ntmps170
 go_wp2_with fail
 go_loop [3] (fun i=>∃ k:Nat,k<=s.size/\i=qI k/\Hid (∀ j,j<k->97<=byt s j/\byt s j<=122)) (fun i=>s.size-(intOf i).toNat)
 .exact ⟨0,xC _,rfl,zh (fun j hj=>by omega)⟩
 .obtain ⟨k,hk,rfl,HJ⟩:=hrel;by_cases hlt:k<s.size
  .have hlt':(k:Int)<(s.size:Int):=by omega
   have hix:=oF s k hlt;obtain ⟨z0,z1⟩:=pL s k;have HZ:=zh (aGv s k hlt)
   have HG:=zh (show 97<=byt s k/\byt s k<=122->∀ j,j<k+1->97<=byt s j/\byt s j<=122 from fun h j hj=>by
    by_cases e:j=k
    .subst e;exact h
    .exact HJ.out j (by omega))
   generalize byt s k=z at *;by_cases c1:z<97
   .have c1':(z<97)=True:=by simp [c1]
    go_wp2;go_ret;exact ⟨aA (HZ.o (by omega)).symm,rfl⟩
   .by_cases c2:122<z
    .go_wp2;go_ret;exact ⟨aA (HZ.o (by omega)).symm,rfl⟩
    .go_wp2
     go_round
     .exact ⟨k+1,by omega,by go_num,zh (HG.o (by omega))⟩
     .simp [intOf];omega
  .have e:Zh (k=s.size):=by show k=s.size;omega
   have HE:=zh (aC3 s (fun j hj=>HJ.out j (by rw [e.o];exact hj)));by_cases c1:1<=s.size
   .by_cases c2:s.size<=12
    .go_wp2;go_ret;exact ⟨aA (by have:=e.o;rw [HE.o,xJ];simp;omega),rfl⟩
    .go_wp2;go_ret;exact ⟨aA (by have:=e.o;rw [HE.o,xJ];simp;omega),rfl⟩
   .go_wp2;go_ret;exact ⟨aA (by have:=e.o;rw [HE.o,xJ];simp;omega),rfl⟩
theorem jK (s:ByteArray)(w:qw)(hs:s.size<=1048576):
 qC 173 #[.string s] w fun e w'=>e=.returned (.bool (nmo s))/\w=w':=by
 by_cases c1:s.size<1
 .have HF:Zh (nmo s=false):=by show _=_;unfold nmo;rw [Bool.and_eq_false_iff];left;simp;omega
  have c1':(s.size:Int)<1:=by omega
  go_enter func173,ntmps173
  go_wp2;go_ret;exact ⟨aA HF.o.symm,rfl⟩
 .by_cases c2:12<s.size
  .have HF:Zh (nmo s=false):=by show _=_;unfold nmo;rw [Bool.and_eq_false_iff];left;simp;omega
   have c1':¬ (s.size:Int)<1:=by omega
   have c2':(12:Int)<(s.size:Int):=by omega
   go_enter func173,ntmps173
   go_wp2;go_ret;exact ⟨aA HF.o.symm,rfl⟩
  .have c1':¬ (s.size:Int)<1:=by omega
   have c2':¬ (12:Int)<(s.size:Int):=by omega
   go_enter func173,ntmps173
   go_wp2_with fail
   go_loop [14] (fun i=>∃ k:Nat,k<=s.size/\i=qI k/\Hid (∀ j,j<k->97<=byt s j/\byt s j<=122)) (fun i=>s.size-(intOf i).toNat)
   .exact ⟨0,xC _,rfl,zh (fun j hj=>by omega)⟩
   .obtain ⟨k,hk,rfl,HJ⟩:=hrel;by_cases hlt:k<s.size
    .have hlt':(k:Int)<(s.size:Int):=by omega
     have hix:=oF s k hlt;obtain ⟨z0,z1⟩:=pL s k;have HZ:=zh (aGv s k hlt)
     have HG:=zh (show 97<=byt s k/\byt s k<=122->∀ j,j<k+1->97<=byt s j/\byt s j<=122 from fun h j hj=>by
      by_cases e:j=k
      .subst e;exact h
      .exact HJ.out j (by omega))
     generalize byt s k=z at *;by_cases d1:z<97
     .go_wp2;go_ret;exact ⟨aA (HZ.o (by omega)).symm,rfl⟩
     .by_cases d2:122<z
      .go_wp2;go_ret;exact ⟨aA (HZ.o (by omega)).symm,rfl⟩
      .go_wp2
       go_round
       .exact ⟨k+1,by omega,by go_num,zh (HG.o (by omega))⟩
       .simp [intOf];omega
    .have e:Zh (k=s.size):=by show k=s.size;omega
     have HE:=zh (aC3 s (fun j hj=>HJ.out j (by rw [e.o];exact hj)));go_wp2;go_ret;exact ⟨aA (by have:=e.o;rw [HE.o,xJ];simp;omega),rfl⟩
def dG (s:ByteArray):Nat->Nat->Int
 | 0,_=>-1
 | f+1,k=>if byt s k=46 then (k:Int) else dG s f (k+1)
def dot (s:ByteArray):Int:=dG s s.size 0
theorem yY (s:ByteArray)(w:qw)(hs:s.size<=1048576):
 qC 114 #[.string s] w fun e w'=>e=.returned (qI (dot s))/\w=w':=by
 go_enter func114,ntmps114
 go_wp2_with fail
 go_loop [3] (fun i=>∃ k:Nat,k<=s.size/\i=qI k/\Hid (dot s=dG s (s.size-k) k)) (fun i=>s.size-(intOf i).toNat)
 .exact ⟨0,xC _,rfl,zh rfl⟩
 .obtain ⟨k,hk,rfl,HJ⟩:=hrel;by_cases hlt:k<s.size
  .have hlt':(k:Int)<(s.size:Int):=by omega
   have hix:=oF s k hlt;obtain ⟨z0,z1⟩:=pL s k
   have HD:=zh (show dot s=if byt s k=46 then (k:Int) else dG s (s.size-(k+1)) (k+1) from by
    rw [HJ.out,show s.size-k=(s.size-(k+1))+1 by omega];rfl)
   clear HJ;generalize byt s k=z at *;by_cases c1:z=46
   .have HE:=zh (show dot s=(k:Int) from by rw [HD.o,if_pos c1]);subst c1;go_wp2;go_ret;exact ⟨aI HE.o.symm,rfl⟩
   .have HE:=zh (show dot s=dG s (s.size-(k+1)) (k+1) from by rw [HD.o,if_neg c1]);have c1':(z==46)=false:=by simpa using c1
    go_wp2
    go_round
    .exact ⟨k+1,by omega,by go_num,HE⟩
    .simp [intOf];omega
  .have e:Zh (dot s=-1):=by
    show dot s=-1;rw [HJ.out,show s.size-k=0 by omega];rfl
   go_wp2;go_ret;exact ⟨aI e.o.symm,rfl⟩
theorem eW (s:ByteArray):∀ (f k:Nat),dG s f k=-1\/((k:Int)<=dG s f k/\dG s f k<k+f)
 | 0,k=>Or.inl rfl
 | f+1,k=>by
   unfold dG;split
   .right;omega
   .rcases eW s f (k+1) with h|h
    .left;exact h
    .right;omega
theorem lU (s:ByteArray):dot s=-1\/(0<=dot s/\dot s<s.size):=by
 have:=eW s s.size 0;unfold dot;omega
def dI (s:ByteArray):ByteArray:=s.extract 0 (dot s).toNat
def eK (s:ByteArray):ByteArray:=s.extract (dot s+1).toNat s.size
theorem pI (s:ByteArray)(hs:s.size<=1048576):(dI s).size<=1048576:=by
 unfold dI;rw [ByteArray.size_extract];omega
theorem pH (s:ByteArray)(hs:s.size<=1048576):(eK s).size<=1048576:=by
 unfold eK;rw [ByteArray.size_extract];omega
def fG (s:ByteArray):Bool:=decide (0<=dot s)&&(nmo (dI s)&&nmo (eK s))
theorem nQ (s:ByteArray)(w:qw)(hs:s.size<=1048576):
 qC 113 #[.string s] w fun e w'=>e=.returned (.bool (fG s))/\w=w':=by
 have HD:=zh (fun w=>yY s w hs);have HA:=zh (fun w=>fV (dI s) w (pI s hs));have HB:=zh (fun w=>fV (eK s) w (pH s hs));obtain ⟨r,hr⟩:=eqx (fG s);rw [<- hr];unfold fG at hr;unfold dI eK at *;rcases lU s with h|⟨h0,h1⟩
 .rw [h] at HD hr;have HR:=zh (show r=false from by rw [hr];rfl);clear HA HB hr h;go_enter func113,ntmps113
  go_wp2_with (go_at_call 114;refine (HD.o _).mono ?_;rintro e w1 ⟨rfl,rfl⟩)
  go_ret;exact ⟨aA HR.o.symm,rfl⟩
 .generalize dot s=p at *;generalize nmo (s.extract 0 p.toNat)=A at *;generalize nmo (s.extract (p+1).toNat s.size)=B at *;have HR:=zh (show r=(A&&B) from by rw [hr];simp [h0]);clear hr;cases A
  .go_enter func113,ntmps113
   go_wp2_with (first
    | (go_at_call 114;refine (HD.o _).mono ?_;rintro e w1 ⟨rfl,rfl⟩)
    | (go_at_call 170;refine (HA.o _).mono ?_;rintro e w1 ⟨rfl,rfl⟩))
   go_ret;exact ⟨aA HR.o.symm,rfl⟩
  .go_enter func113,ntmps113
   go_wp2_with fail
   refine (HD.o _).mono ?_;rintro e w1 ⟨rfl,rfl⟩;go_wp2_with fail
   refine (HA.o _).mono ?_;rintro e w1 ⟨rfl,rfl⟩;go_wp2_with fail
   refine (HB.o _).mono ?_;rintro e w1 ⟨rfl,rfl⟩;go_wp2;go_ret;exact ⟨aA HR.o.symm,rfl⟩
theorem aNv (l:List UInt8):∀ (s:ByteArray) (k:Nat),s.data.toList.drop k=l->Lib.indexByte l (46:Int).toNat.toUInt8=(let d:=dG s l.length k;if d=-1 then -1 else d-k):=by
 induction l with
 | nil=>intro s k h;rfl
 | cons b l ih=>
   intro s k h
   have hk:k<s.data.toList.length:=by
    by_cases e:k<s.data.toList.length
    .exact e
    .rw [List.drop_eq_nil_of_le (by omega)] at h;cases h
   have hks:k<s.size:=by simpa using hk
   have hb:s.data.toList[k]'hk=b:=by
    have h2:s.data.toList[k]?=some b:=by
     have:=congrArg (fun t=>t[0]?) h;simpa using this
    rw [xN hk] at h2;injection h2
   have hd:s.data.toList.drop (k+1)=l:=by
    have:=congrArg List.tail h;simpa using this
   have hbyt:byt s k=(b.toNat:Int):=by
    unfold byt;rw [aDm s k hks,<- hb];rfl
   have ih':=ih s (k+1) hd;simp only [Lib.indexByte,List.length_cons,dG,hbyt];rw [ih'];have e46:(46:Int).toNat.toUInt8=46:=rfl;rw [e46];by_cases c:b=46
   .subst c;simp
   .have c1:(b==46)=false:=by simpa using c
    have c2:¬ ((b.toNat:Int)=46):=fun e=>c (UInt8.toNat_inj.1 (by simpa using (by omega:b.toNat=46)));rw [c1,if_neg c2];rcases eW s l.length (k+1) with e|e
    .simp [e]
    .have n1:¬ dG s l.length (k+1)=-1:=by omega
     simp only [n1,if_false,Bool.false_eq_true];split
     .next h=>simp at h;omega
     .omega
theorem aLf (s:ByteArray):Lib.indexByte s.data.toList (46:Int).toNat.toUInt8=dot s:=by
 have:=aNv s.data.toList s 0 (by simp);rw [this];have e:s.data.toList.length=s.size:=Array.length_toList;unfold dot;rw [e];rcases eW s s.size 0 with h|h
 .simp [h]
 .simp only [if_neg (show ¬ dG s s.size 0=-1 by omega)];omega
theorem wJ (s:ByteArray)(w:qw):
 qC 236 #[.string s,.int .u8 46] w fun e w'=>e=.returned (qI (dot s))/\w=w':=by
 have HD:=zh (aLf s);go_enter func236,ntmps236
 go_wp2;rw [run_callFunc_extern func254 (by kernel_rfl) (by kernel_rfl) (by kernel_rfl) (e:=Extern.BytealgIndexByte.indexByte) (by kernel_rfl),Lib.run_indexByteString];simp only [Result.andThen];rw [Oper.upon_value];go_wp2;go_ret;exact ⟨aI HD.o,rfl⟩
theorem aIw (s:ByteArray)(w:qw)(hs:s.size<=1048576):
 qC 221 #[.string s,.string ⟨#[46]⟩] w fun e w'=>e=.returned (qI (dot s))/\w=w':=by
 have HI:=zh (fun w=>wJ s w);by_cases he:(⟨#[46]⟩:ByteArray)=s
 .subst he;have HD:Zh (dot ⟨#[46]⟩=0):=by show _=_;rfl
  clear HI;go_enter func221,ntmps221
  go_wp2;go_ret;exact ⟨aI HD.o.symm,rfl⟩
 .have hne:¬ ([46]:List UInt8)=s.toList:=fun e=>he (Go.WideShapes.bytes_inj (by rw [ByteArray.toList_eq] at e;exact e));have he':(([46]:List UInt8)==s.toList)=false:=by simpa using hne
  have he2:((⟨#[46]⟩:ByteArray).toList==s.toList)=false:=by rw [ByteArray.toList_eq];exact he'
  have h46:∀ w:World,(Instr.index 9 (.string ⟨#[46]⟩) (qI 0)).run prog w=.ok (.int .u8 46) w:=fun w=>by kernel_rfl
  go_enter func221,ntmps221
  go_wp2_with (go_at_call 236;refine (HI.o _).mono ?_;rintro e w1 ⟨rfl,rfl⟩)
  go_ret;exact ⟨rfl,rfl⟩
theorem aHy (s:ByteArray)(w:qw)(hs:s.size<=1048576):
 qC 201 #[.string s,.string ⟨#[46]⟩] w (qB w (.tuple #[.string (if 0<=dot s then dI s else s),.string (if 0<=dot s then eK s else ⟨#[]⟩),.bool (decide (0<=dot s))])):=by
 have HI:=zh (fun w=>aIw s w hs);have HB:=zh (Below.refl w.heap.size w);rcases lU s with h|⟨h0,h1⟩
 .have hn:¬ (0<=dot s):=by omega
  rw [if_neg hn,if_neg hn,xS hn];rw [h] at HI;clear h hn;go_enter func201,ntmps201
  go_wp2_with (go_at_call 221;refine (HI.o _).mono ?_;rintro e w1 ⟨rfl,rfl⟩)
  all_goals (try go_region)
  all_goals (try go_wp2)
  all_goals go_ret3
  all_goals exact ⟨rfl,by first|exact HB.o|exact HB.o.drew⟩
 .rw [if_pos h0,if_pos h0,xR h0];unfold dI eK;generalize dot s=p at *;go_enter func201,ntmps201
  go_wp2_with (go_at_call 221;refine (HI.o _).mono ?_;rintro e w1 ⟨rfl,rfl⟩)
  all_goals (try go_region)
  all_goals (try go_wp2)
  all_goals go_ret3
  all_goals exact ⟨rfl,by first|exact HB.o|exact HB.o.drew⟩
theorem aN0 (s:ByteArray)(w:qw)(hs:s.size<=1048576):
 qC 172 #[.string s,.string ⟨#[46]⟩] w (qB w (.tuple #[.string (if 0<=dot s then dI s else s),.string (if 0<=dot s then eK s else ⟨#[]⟩),.bool (decide (0<=dot s))])):=by
 have HC:=zh (fun w=>aHy s w hs);generalize (if 0<=dot s then dI s else s)=A at *;generalize (if 0<=dot s then eK s else ⟨#[]⟩)=B at *;generalize decide (0<=dot s)=C at *;go_enter func172,ntmps172
 go_wp2_with (go_at_call 201;refine (HC.o _).mono ?_;rintro e w1 ⟨rfl,hb1⟩)
 go_ret3
 exact ⟨rfl,hb1⟩
theorem aKm:nmo ⟨#[]⟩=false:=rfl
def aFt (s:ByteArray):Value:=if fG s then .tuple #[.string (dI s),.string (eK s),.bool true] else .tuple #[.string ⟨#[]⟩,.string ⟨#[]⟩,.bool false]
theorem mJ (s:ByteArray)(w:qw)(hs:s.size<=1048576):
 qC 120 #[.string s] w (qB w (aFt s)):=by
 have HC:=zh (fun w=>aN0 s w hs);obtain ⟨V,hV⟩:=eqx (aFt s);rw [<- hV];unfold aFt fG at hV;have hA:(if 0<=dot s then dI s else s).size<=1048576:=by split;exact pI s hs;exact hs
 have hB:(if 0<=dot s then eK s else ⟨#[]⟩).size<=1048576:=by split;exact pH s hs;exact (by decide)
 have HA:=zh (fun w=>jK _ w hA);have HB:=zh (fun w=>jK _ w hB)
 have hV':V=if nmo (if 0<=dot s then dI s else s)&&nmo (if 0<=dot s then eK s else ⟨#[]⟩) then .tuple #[.string (if 0<=dot s then dI s else s),.string (if 0<=dot s then eK s else ⟨#[]⟩),.bool true] else .tuple #[.string ⟨#[]⟩,.string ⟨#[]⟩,.bool false]:=by
  by_cases h:0<=dot s
  .simp only [h,if_true,decide_true,Bool.true_and] at hV ⊢;exact hV
  .simp only [h,if_false,decide_false,Bool.false_and,aKm,Bool.and_false] at hV ⊢;exact hV
 clear hV hA hB;generalize (if 0<=dot s then dI s else s)=A at *;generalize (if 0<=dot s then eK s else ⟨#[]⟩)=B at *;generalize decide (0<=dot s)=C at *;generalize nmo A=a at *;generalize nmo B=b at *;have HV:=zh hV';clear hV';cases a
 .obtain rfl:V=.tuple #[.string ⟨#[]⟩,.string ⟨#[]⟩,.bool false]:=HV.o;go_enter func120,ntmps120
  go_wp2_with fail
  refine (HC.o _).mono ?_;rintro e w1 ⟨rfl,hb1⟩;go_wp2_with fail
  refine (HA.o _).mono ?_;rintro e w2 ⟨rfl,rfl⟩;go_wp2
  go_ret3
  exact ⟨rfl,hb1⟩
 .cases b
  .obtain rfl:V=.tuple #[.string ⟨#[]⟩,.string ⟨#[]⟩,.bool false]:=HV.o;go_enter func120,ntmps120
   go_wp2_with fail
   refine (HC.o _).mono ?_;rintro e w1 ⟨rfl,hb1⟩;go_wp2_with fail
   refine (HA.o _).mono ?_;rintro e w2 ⟨rfl,rfl⟩;go_wp2_with fail
   refine (HB.o _).mono ?_;rintro e w2 ⟨rfl,rfl⟩;go_wp2
   go_ret3
   exact ⟨rfl,hb1⟩
  .obtain rfl:V=.tuple #[.string A,.string B,.bool true]:=HV.o;go_enter func120,ntmps120
   go_wp2_with fail
   refine (HC.o _).mono ?_;rintro e w1 ⟨rfl,hb1⟩;go_wp2_with fail
   refine (HA.o _).mono ?_;rintro e w2 ⟨rfl,rfl⟩;go_wp2_with fail
   refine (HB.o _).mono ?_;rintro e w2 ⟨rfl,rfl⟩;go_wp2
   go_ret3
   exact ⟨rfl,hb1⟩
def wd (s:Int):Bool:=decide (s=1\/s=2\/s=4)
theorem gT (s:Int)(w:qw):
 qC 240 #[qI s] w fun e w'=>e=.returned (.bool (wd s))/\w=w':=by
 by_cases h1:s=1
 .subst h1;go_enter func240,ntmps240
  go_wp2;go_ret;exact ⟨rfl,rfl⟩
 .by_cases h2:s=2
  .subst h2;go_enter func240,ntmps240
   go_wp2;go_ret;exact ⟨rfl,rfl⟩
  .have hf:Zh (wd s=(s==4)):=by show _=_;unfold wd;rw [xJ];simp;omega
   have g1:(s==1)=false:=by simpa using h1
   have g2:(s==2)=false:=by simpa using h2
   clear h1 h2;go_enter func240,ntmps240
   go_wp2;go_ret;exact ⟨aA hf.o.symm,rfl⟩
def ins (p s f:Int)(n:Nat):Bool:=decide (f<=p/\p<=f+n-s)
theorem iK (a:qO)(n cap:Nat)(p s f:Int)(w:qw)(hp:p<=9223372036854775807:=by omega)(hs0:1<=s:=by omega)(hs:s<=4:=by omega)(hf0:0<=f:=by omega)(hf:f<=65536:=by omega)(hn:n<=16384:=by omega):
 qC 261 #[qS a n cap,qI f,qI p,qI s] w fun e w'=>e=.returned (.bool (ins p s f n))/\w=w':=by
 by_cases h1:f<=p
 .have hf:Zh (ins p s f n=decide (p-f<=n-s)):=by show _=_;unfold ins;rw [xJ];simp;omega
  go_enter func261,ntmps261
  go_wp2;go_ret;exact ⟨aA hf.o.symm,rfl⟩
 .have hf:Zh (ins p s f n=false):=by show _=_;unfold ins;simp;omega
  go_enter func261,ntmps261
  go_wp2;go_ret;exact ⟨aA hf.o.symm,rfl⟩
def low:List Int->Int
 | []=>0
 | z::zs=>low zs*256+z
theorem yV:∀ (zs:qi),(∀ z∈zs,0<=z/\z<=255)->0<=low zs/\low zs+1<=(256:Int)^zs.length
 | [],_=>by simp [low]
 | z::zs,h=>by
   have ih:=yV zs (fun x hx=>h x (by simp [hx]));have hz:=h z (by simp);simp only [low,List.length_cons,Int.pow_succ];omega
theorem oV (zs:qi)(h:∀ z∈zs,0<=z/\z<=255)(hl:zs.length<=4):0<=low zs/\low zs<=4294967295:=by
 have h1:=yV zs h;have h2:(256:Nat)^zs.length<=256^4:=Nat.pow_le_pow_right (by omega) hl;have h3:((256^zs.length:Nat):Int)=(256:Int)^zs.length:=by simp
 have h4:(256:Nat)^4=4294967296:=rfl;omega
theorem aK3 (zs:qi)(j:Nat)(h:j<zs.length):low (zs.drop j)=low (zs.drop (j+1))*256+zs.getD j 0:=by
 rw [List.drop_eq_getElem_cons h];simp [low,xB,h]
theorem aIv (b off n cap:Nat)(zs:qi)(w:qw)(h:BS w (some (qR b off)) n cap zs)(hn:n<=4:=by omega):
 qC 146 #[qS (some (qR b off)) n cap] w fun e w'=>e=.returned (qI (low zs))/\w=w':=by
 obtain ⟨hl,hmx,hr,hc,_⟩:=h
 have hd:∀ i,i<n->w.cell? (qR b (off+i))=some (.int .u8 (zs.getD i 0)):=by
  intro i hi;obtain ⟨b',off',e,hd⟩:=hc (by omega);simp at e;obtain ⟨rfl,rfl⟩:=e;exact hd i hi
 clear hc;go_enter func146,ntmps146
 go_wp2;go_loop [3,4] (fun v i=>∃ (k:Nat) (p:Int),k<=n/\p+1=k/\i=qI p/\v=qI (low (zs.drop k))) (fun _ i=>(intOf i+1).toNat)
 .exact ⟨n,(n:Int)-1,aN,by omega,rfl,by rw [List.drop_of_length_le (by omega)];rfl⟩
 .obtain ⟨k,p,hk,hp,rfl,rfl⟩:=hrel;by_cases h0:k=0
  .have hp':p=-1:=by omega
   subst hp' h0;clear hp;have hfin:Zh (low (List.drop 0 zs)=low zs):=by show _=_;rw [List.drop_zero]
   generalize low (List.drop 0 zs)=L at *;go_wp2;go_ret;exact ⟨aI hfin.o,rfl⟩
  .obtain ⟨j,rfl⟩:∃ j,k=j+1:=⟨k-1,by omega⟩;have hp':p=(j:Int):=by omega
   subst hp';have hj:(0:Int)<=(j:Int):=by omega
   have hjn:(j:Int)<(n:Int):=by omega
   have hst:=aK3 zs j (by omega);have hL:=oV (zs.drop (j+1)) (fun z hz=>hr z (List.mem_of_mem_drop hz)) (by simp;omega);have hL3:low (zs.drop (j+1))<=4294967295:=hL.2;have hcj:=hd j (by omega)
   have hz0:0<=zs.getD j 0/\zs.getD j 0<=255:=by
    have:=hr zs[j] (List.getElem_mem (by omega));simpa [xB,show j<zs.length by omega] using this
   have HS:=zh hst;clear hst hp hd h0;generalize low (zs.drop (j+1))=L at *;generalize zs.getD j 0=z at *;obtain ⟨hL1,hL2⟩:=hL;obtain ⟨hz1,hz2⟩:=hz0;go_wp2
   go_round
   .exact ⟨j,(j:Int)-1,by omega,by omega,by go_num,by rw [HS.o]⟩
   .simp [intOf]
theorem aHo (n:Int)(h₀:0<=n)(h₁:n<2^62):IntKind.i64.wrap n=n:=by
 have:(2:Int)^62=4611686018427387904:=rfl;simp only [IntKind.wrap,IntKind.bits,IntKind.signed];simp;omega
theorem rS (i:Nat)(x y:Int)(hx₀:0<=x:=by omega)(hx:x%2^i=0:=by omega)(hx₁:x<2^62:=by omega)(hy₀:0<=y:=by omega)(hy:y<2^i:=by omega)(hy₁:y<2^62:=by omega):bits .or .i64 x y=x+y:=
 bits_join .i64 62 (by decide) aHo i x y hx₀ hx hx₁ hy₀ hy hy₁
theorem BS.at {w:qw}{b off n cap:Nat}{zs:qi}(h:BS w (some (qR b off)) n cap zs)(i:Nat)(hi:i<n):w.cell? (qR b (off+i))=some (.int .u8 (zs.getD i 0)):=by
 obtain ⟨b',off',e,hd⟩:=h.2.2.2.1 (by omega);simp at e;obtain ⟨rfl,rfl⟩:=e;exact hd i hi
theorem or4 (z0 z1 z2 z3:Int)(p0:0<=z0)(p0':z0<=255)(p1:0<=z1)(p1':z1<=255)(p2:0<=z2)(p2':z2<=255)(p3:0<=z3)(p3':z3<=255):
 bits BinOp.or IntKind.i64 (bits BinOp.or IntKind.i64 (bits BinOp.or IntKind.i64 0 (bits BinOp.or IntKind.i64 (z3*16777216) (z2*65536))) (z1*256)) z0=low [z0,z1,z2,z3]:=by
 rw [rS 24 (z3*16777216) (z2*65536)];rw [rS 40 0 (z3*16777216+z2*65536)];rw [rS 16 (0+(z3*16777216+z2*65536)) (z1*256)];rw [rS 8 (0+(z3*16777216+z2*65536)+z1*256) z0];simp only [low];omega
theorem aQc (zs:qi)(h:4<=zs.length):zs.take 4=[zs.getD 0 0,zs.getD 1 0,zs.getD 2 0,zs.getD 3 0]:=by
 match zs,h with
 | a::b::c::d::_,_=>rfl
theorem aFq (b off n cap:Nat)(zs:qi)(w:qw)(h:BS w (some (qR b off)) n cap zs)(hn:4<=n):
 qC 234 #[qS (some (qR b off)) n cap,qI 4] w (qB w (qI (low (zs.take 4)))):=by
 have r0:=h.range 0;have r1:=h.range 1;have r2:=h.range 2;have r3:=h.range 3;have c0:=h.at 0 (by omega);have c1:=h.at 1 (by omega);have c2:=h.at 2 (by omega);have c3:=h.at 3 (by omega);simp only [Nat.add_zero] at c0;have hl:(3:Int)<(n:Int):=by omega
 rw [aQc zs (by rw [h.1];omega)];clear h;generalize zs.getD 0 0=z0 at *;generalize zs.getD 1 0=z1 at *;generalize zs.getD 2 0=z2 at *;generalize zs.getD 3 0=z3 at *;obtain ⟨p0,p0'⟩:=r0;obtain ⟨p1,p1'⟩:=r1;obtain ⟨p2,p2'⟩:=r2;obtain ⟨p3,p3'⟩:=r3;have HS:=zh (or4 z0 z1 z2 z3 p0 p0' p1 p1' p2 p2' p3 p3');generalize low [z0,z1,z2,z3]=L at *;go_enter func234,ntmps234
 go_wp2
 go_quiet (fail)
 go_wp2;go_ret;exact ⟨aI HS.o,below_drewN brf _⟩
theorem BS.drop {w:qw}{zs:qi}(h:BS w (some (qR b off)) n cap zs)(k:Nat)(hk:k<=n):BS w (some (qR b (off+k))) (n-k) (cap-k) (zs.drop k):=by
 have hl:=h.1;refine ⟨by simp;omega,by have:=h.2.1;omega,fun z hz=>h.2.2.1 z (List.mem_of_mem_drop hz),fun hn=>⟨b,off+k,rfl,fun i hi=>?_⟩,by have:=h.2.2.2.2;omega⟩;have:=h.at (k+i) (by omega);rw [Nat.add_assoc,this];simp [xB]
theorem BS.take {w:qw}{zs:qi}(h:BS w (some (qR b off)) n cap zs)(s:Nat)(hs:s<=n):BS w (some (qR b off)) s cap (zs.take s):=by
 have hl:=h.1;refine ⟨by simp;omega,by have:=h.2.1;omega,fun z hz=>h.2.2.1 z (List.mem_of_mem_take hz),fun hn=>⟨b,off,rfl,fun i hi=>?_⟩,by have:=h.2.2.2.2;omega⟩;have:=h.at i (by omega);rw [this];simp [xB,hi]
theorem wd4:wd 4=true:=by decide
theorem aPt {n1 n2 n3:Nat}(h:mok n1 n2 n3=true):n1<=16384/\n2<=16384/\n3<=5000:=by simpa [mok] using h
theorem aB5 (a1 a2 a3:qO)(n1 c1 n2 c2 n3 c3:Nat)(p:Int)(w:qw)(h:mok n1 n2 n3=true)(hm:(p.tmod 4 !=0)=false):
 qC 259 #[.agg (qV a1 n1 c1 a2 n2 c2 a3 n3 c3),qI p,qI 4] w (qB w (qI 0)):=by
 have hB0:qY w (w.alloc (.cells (qV a1 n1 c1 a2 n2 c2 a3 n3 c3) 39)):=bal;go_enter func259,ntmps259
 go_wp2_with fail
 refine (uC a1 a2 a3 n1 c1 n2 c2 n3 c3 _).mono ?_;rw [h];rintro e w1 ⟨rfl,hb1⟩;have k1:=(Blk.new w (qV a1 n1 c1 a2 n2 c2 a3 n3 c3) 39).bw hb1;have hB1:=hB0.trans (hb1.mono (by simp));obtain ⟨q1,q2,q3,q4⟩:=k1.three;clear hb1 k1;go_wp2_with fail
 refine (gT 4 _).mono ?_;rw [wd4];rintro e w2 ⟨rfl,rfl⟩;go_wp2;go_ret;exact ⟨rfl,hB1⟩
theorem BS.some {w:qw}{a:qO}{zs:qi}(h:BS w a n cap zs)(hn:n≠0):∃ b off,a=Option.some (qR b off):=by
 obtain ⟨b,off,e,_⟩:=h.2.2.2.1 hn;exact ⟨b,off,e⟩
def OB (w:qw)(base:Nat)(v:Value)(zs:qi):Prop:=w.ownsRow base 5 1 v zs.length (zs.map (Value.int .u8))/\∀ z∈zs,0<=z/\z<=255
theorem aBy {w:qw}{zs:qi}(h:BS w (some (qR b off)) n cap zs):∀ j u,(zs.map (Value.int .u8))[j]?=some u->w.cell? (((qR b off):Addr).add j)=some u:=by
 intro j u hj;have hl:=h.1
 have hjl:j<n:=by
  by_cases e:j<n
  .exact e
  .rw [xO (by simp;omega)] at hj;simp at hj
 rw [bP,h.at j hjl];rw [<- hj];simp [xB,show j<zs.length by omega]
theorem yQ (w:qw):(w.alloc (.cells #[] 5)).ownsRow w.heap.size 5 1 (qS (qP w.heap.size) 0 0) 0 []:=
 ⟨rfl,.inr ⟨w.heap.size,0,#[],rfl,aN,heap_alloc_new w _,aN,xC _,rfl,rfl⟩⟩
theorem yP {w:qw}{t:TypeId}{xs:List Value}(h:w.ownsRow base t 1 v n xs):∃ a cap,v=qS a n cap:=by
 obtain ⟨_,⟨rfl,rfl⟩|⟨g,cap,cur,rfl,_⟩⟩:=h
 .exact ⟨_,_,rfl⟩
 .exact ⟨_,_,rfl⟩
theorem oB {a w w':qw}(h:Below B a w)(hg:w.grownBy w' (some k))(hB:B<=w.heap.size)(hk:B<=k):Below B a w':=h.grown hg hB (fun j hj=>by cases hj;exact hk)
theorem lF (b off n cap:Nat)(zs:qi)(w:qw)(h:BS w (some (qR b off)) n cap zs)(hn:n<=1048576):
 qC 149 #[qS (some (qR b off)) n cap] w fun e w'=>∃ a cap',e=.returned (qS a n cap')/\OB w' w.heap.size (qS a n cap') zs/\qY w w':=by
 obtain ⟨i0,hi,hz0,hz1,hz2⟩:=info_parts zC;have hl:=h.1;have h':=h.bw ((Below.refl w.heap.size w).alloc aN (.cells #[] 5));have hnews:=zh (aBy h');have hone:=zh (ints_oneCell .u8 zs);have hown:=zh (yQ w);have hlen:=zh (show (zs.map (Value.int .u8)).length=n*1 by simp;omega);go_enter func149,ntmps149
 go_wp2_with (at_builtin;refine wpList_append_own _ rfl _ _ 28 rfl w.heap.size 5 i0 (.int .u8 0) 1 1 underlying28 hi hz0 hz1 hz2 rfl (by decide) _ 0 [] rfl hown.o (qR b off) n cap (zs.map (Value.int .u8)) rfl hlen.o hnews.o hone.o (by unfold maxLen;omega) (by omega) (by simp) ?_;intro v' w1 hown1 hgr1 _)
 simp only [Nat.zero_add,List.nil_append] at hown1;have hex:=yP hown1;go_ret;obtain ⟨a',cap',he⟩:=hex;refine ⟨a',cap',by rw [<- he];rfl,⟨?_,h.2.2.1⟩,?_⟩
 .rw [hl,<- he];exact hown1
 .exact oB ((Below.refl w.heap.size w).alloc aN _) hgr1 (by simp) aN
theorem pJ (b off n cap:Nat)(zs:qi)(w:qw)(h:BS w (some (qR b off)) n cap zs)(hn:n<=1048576):
 qC 164 #[qS (some (qR b off)) n cap] w fun e w'=>∃ a cap',e=.returned (qS a n cap')/\OB w' w.heap.size (qS a n cap') zs/\qY w w':=by
 obtain ⟨i0,hi,hz0,hz1,hz2⟩:=info_parts zC;have hl:=h.1;have h':=h.bw ((Below.refl w.heap.size w).alloc aN (.cells #[] 5));have hnews:=zh (aBy h');have hone:=zh (ints_oneCell .u8 zs);have hown:=zh (yQ w);have hlen:=zh (show (zs.map (Value.int .u8)).length=n*1 by simp;omega);have hnil:=fun (w:qw)=>Lib.run_eql_slice_nil (P:=prog) w 28 5 (some (qR b off)) n cap 0 0 underlying28;go_enter func164,ntmps164
 go_wp2_with (at_builtin;refine wpList_append_own _ rfl _ _ 28 rfl w.heap.size 5 i0 (.int .u8 0) 1 1 underlying28 hi hz0 hz1 hz2 rfl (by decide) _ 0 [] rfl hown.o (qR b off) n cap (zs.map (Value.int .u8)) rfl hlen.o hnews.o hone.o (by unfold maxLen;omega) (by omega) (by simp) ?_;intro v' w1 hown1 hgr1 _)
 simp only [Nat.zero_add,List.nil_append] at hown1;have hex:=yP hown1;go_ret;obtain ⟨a',cap',he⟩:=hex;refine ⟨a',cap',by rw [<- he];rfl,⟨?_,h.2.2.1⟩,?_⟩
 .rw [hl,<- he];exact hown1
 .exact oB ((Below.refl w.heap.size w).alloc aN _) hgr1 (by simp) aN
def gK (w:qw)(base:Nat)(v1 v2 v3:Value)(x1 x2 x3:qi):Prop:=
 OB w base v1 x1/\OB w base v2 x2/\OB w base v3 x3/\(∀ k j,v1.ownBlock=some k->v2.ownBlock=some j->k<j)/\(∀ k j,v1.ownBlock=some k->v3.ownBlock=some j->k<j)/\∀ k j,v2.ownBlock=some k->v3.ownBlock=some j->k<j
theorem OB.bw {w w':qw}{zs:qi}(h:OB w base v zs)(hb:qY w w'):OB w' base v zs:=by
 refine ⟨?_,h.2⟩;obtain ⟨hl,h0|⟨g,cap,cur,hv,hg,hh,h1,h2,h3,h4⟩⟩:=h.1
 .exact ⟨hl,.inl h0⟩
 .refine ⟨hl,.inr ⟨g,cap,cur,hv,hg,?_,h1,h2,h3,h4⟩⟩;exact Blk.bw (w:=w) hh hb
theorem OB.mono {w:qw}{zs:qi}(h:OB w base v zs)(hb:base'<=base):OB w base' v zs:=by
 refine ⟨?_,h.2⟩;obtain ⟨hl,h0|⟨g,cap,cur,hv,hg,hh,h1,h2,h3,h4⟩⟩:=h.1
 .exact ⟨hl,.inl h0⟩
 .exact ⟨hl,.inr ⟨g,cap,cur,hv,by omega,hh,h1,h2,h3,h4⟩⟩
theorem OB.other {w:qw}{zs:qi}(h:OB w base v zs)(a:Addr)(u:Value)(ha:a.block<base):OB (w.setCell a u) base v zs:=by
 refine ⟨?_,h.2⟩;obtain ⟨hl,h0|⟨g,cap,cur,hv,hg,hh,h1,h2,h3,h4⟩⟩:=h.1
 .exact ⟨hl,.inl h0⟩
 .exact ⟨hl,.inr ⟨g,cap,cur,hv,hg,Blk.other (w:=w) hh a u (by omega),h1,h2,h3,h4⟩⟩
theorem OB.lt {w:qw}{zs:qi}(h:OB w base v zs):∀ k,v.ownBlock=some k->base<=k/\k<w.heap.size:=h.1.lt
theorem OB.bs {w:qw}{a:qO}{zs:qi}(h:OB w base (qS a n cap) zs):BS w a n cap zs:=by
 obtain ⟨hl,⟨h0,h0'⟩|⟨g,cap',cur,hv,hg,hh,h1,h2,h3,h4⟩⟩:=h.1
 .simp at h0;obtain ⟨rfl,rfl,rfl⟩:=h0;exact ⟨h0',xC _,h.2,fun hn=>absurd rfl hn,aN⟩
 .simp at hv;obtain ⟨rfl,rfl,rfl⟩:=hv;refine ⟨rfl,by omega,h.2,fun hn=>⟨g,0,rfl,fun i hi=>?_⟩,h1⟩;rw [Nat.zero_add,Blk.cell (w:=w) hh]
  have:cur.toList[i]?=(zs.map (Value.int .u8))[i]?:=by
   rw [<- h4,List.getElem?_take,if_pos (by omega)]
  rw [Array.getElem?_toList] at this;rw [this];simp [xB,hi]
theorem aFe (b1 o1 b2 o2 b3 o3 n1 c1 n2 c2 n3 c3:Nat)(x1 x2 x3:qi)(w:qw)(h1:BS w (some (qR b1 o1)) n1 c1 x1)(h2:BS w (some (qR b2 o2)) n2 c2 x2)(h3:BS w (some (qR b3 o3)) n3 c3 x3)(hn:n1+n2+n3<=1048576):
 qC 85 #[.agg (qV (some (qR b1 o1)) n1 c1 (some (qR b2 o2)) n2 c2 (some (qR b3 o3)) n3 c3)] w fun e w'=>∃ a1 d1 a2 d2 a3 d3,e=.returned (.agg (qV a1 n1 d1 a2 n2 d2 a3 n3 d3))/\gK w' w.heap.size (qS a1 n1 d1) (qS a2 n2 d2) (qS a3 n3 d3) x1 x2 x3/\qY w w':=by
 have hB0:qY w ((w.alloc (.cells (qV (some (qR b1 o1)) n1 c1 (some (qR b2 o2)) n2 c2 (some (qR b3 o3)) n3 c3) 39)).alloc (.cells (qV none 0 0 none 0 0 none 0 0) 39)):=
  bal.alloc (by simp) _
 have kb:=(Blk.new w (qV (some (qR b1 o1)) n1 c1 (some (qR b2 o2)) n2 c2 (some (qR b3 o3)) n3 c3) 39).alloc (.cells (qV none 0 0 none 0 0 none 0 0) 39);have kr:=Blk.new (w.alloc (.cells (qV (some (qR b1 o1)) n1 c1 (some (qR b2 o2)) n2 c2 (some (qR b3 o3)) n3 c3) 39)) (qV none 0 0 none 0 0 none 0 0) 39;try unfold qY at *
 simp only [xF] at kr;have B1:=h1.bw hB0;have B2:=h2.bw hB0;have B3:=h3.bw hB0;clear h1 h2 h3;go_enter func85,ntmps85
 go_wp2
 go_region_held3 (fun w'=>w'.cell? (qR w.heap.size 0)=some (qS (some (qR b1 o1)) n1 c1)/\w'.cell? (qR w.heap.size 1)=some (qS (some (qR b2 o2)) n2 c2)/\w'.cell? (qR w.heap.size 2)=some (qS (some (qR b3 o3)) n3 c3)) (go_keep)
  (first
    | (go_at_call_of 149 (qS (some (qR b1 o1)) n1 c1);refine (lF b1 o1 n1 c1 x1 _ (by exact B1) (by omega)).mono ?_;rintro e w1 ⟨a1,d1,rfl,p1,hb1⟩;replace hb1:=dH hb1;obtain ⟨q1,q2,q3,q4⟩:=(kb.bw hb1).three)
    | (go_at_call_of 149 (qS (some (qR b2 o2)) n2 c2);refine (lF b2 o2 n2 c2 x2 _ (B2.bw hb1) (by omega)).mono ?_;rintro e w2 ⟨a2,d2,rfl,p2,hb2⟩;have hb12:=hb1.trans (hb2.mono hb1.size);obtain ⟨q1,q2,q3,q4⟩:=(kb.bw hb12).three)
    | (go_at_call_of 149 (qS (some (qR b3 o3)) n3 c3);refine (lF b3 o3 n3 c3 x3 _ (B3.bw hb12) (by omega)).mono ?_;rintro e w3 ⟨a3,d3,rfl,p3,hb3⟩;have hb13:=hb12.trans (hb3.mono hb12.size);obtain ⟨q1,q2,q3,q4⟩:=(kb.bw hb13).three;obtain ⟨q5,q6,q7,q8⟩:=(kr.bw hb13).three))
 have s1:=hb1.size;have s2:=hb2.size;have s3:=hb3.size;simp only [heap_drew,xF] at s1 p1;go_wp2;refine bodyPost_ret (v:=.agg (qV a1 n1 d1 a2 n2 d2 a3 n3 d3)) (by simp [results,results85,go_sem,q5,q6,q7]) rfl ⟨a1,d1,a2,d2,a3,d3,rfl,⟨?_,?_,?_,?_,?_,?_⟩,?_⟩
 .exact (((((p1.bw hb2).bw hb3).other _ _ (by dsimp only;omega)).other _ _ (by dsimp only;omega)).other _ _ (by dsimp only;omega)).mono (by omega)
 .exact ((((p2.bw hb3).other _ _ (by dsimp only;omega)).other _ _ (by dsimp only;omega)).other _ _ (by dsimp only;omega)).mono (by omega)
 .exact (((p3.other _ _ (by dsimp only;omega)).other _ _ (by dsimp only;omega)).other _ _ (by dsimp only;omega)).mono (by omega)
 .intro k j hk hj;have:=p1.lt k hk;have:=p2.lt j hj;omega
 .intro k j hk hj;have:=p1.lt k hk;have:=p3.lt j hj;omega
 .intro k j hk hj;have:=p2.lt k hk;have:=p3.lt j hj;omega
 .exact (((hB0.trans (hb13.mono (by simp;omega))).setCell (by dsimp only;omega) _).setCell (by dsimp only;omega) _).setCell (by dsimp only;omega) _
theorem aDv (b1 o1 b2 o2 b3 o3 n1 c1 n2 c2 n3 c3:Nat)(x1 x2 x3:qi)(w:qw)(h1:BS w (some (qR b1 o1)) n1 c1 x1)(h2:BS w (some (qR b2 o2)) n2 c2 x2)(h3:BS w (some (qR b3 o3)) n3 c3 x3)(hn:n1+n2+n3<=1048576):
 qC 96 #[.agg (qV (some (qR b1 o1)) n1 c1 (some (qR b2 o2)) n2 c2 (some (qR b3 o3)) n3 c3)] w fun e w'=>∃ a1 d1 a2 d2 a3 d3,e=.returned (.agg (qV a1 n1 d1 a2 n2 d2 a3 n3 d3))/\gK w' w.heap.size (qS a1 n1 d1) (qS a2 n2 d2) (qS a3 n3 d3) x1 x2 x3/\qY w w':=by
 have hB0:qY w ((w.alloc (.cells (qV (some (qR b1 o1)) n1 c1 (some (qR b2 o2)) n2 c2 (some (qR b3 o3)) n3 c3) 39)).alloc (.cells (qV none 0 0 none 0 0 none 0 0) 39)):=
  bal.alloc (by simp) _
 have kb:=(Blk.new w (qV (some (qR b1 o1)) n1 c1 (some (qR b2 o2)) n2 c2 (some (qR b3 o3)) n3 c3) 39).alloc (.cells (qV none 0 0 none 0 0 none 0 0) 39);have kr:=Blk.new (w.alloc (.cells (qV (some (qR b1 o1)) n1 c1 (some (qR b2 o2)) n2 c2 (some (qR b3 o3)) n3 c3) 39)) (qV none 0 0 none 0 0 none 0 0) 39;try unfold qY at *
 simp only [xF] at kr;have B1:=h1.bw hB0;have B2:=h2.bw hB0;have B3:=h3.bw hB0;clear h1 h2 h3;go_enter func96,ntmps96
 go_wp2
 go_region_held3 (fun w'=>w'.cell? (qR w.heap.size 0)=some (qS (some (qR b1 o1)) n1 c1)/\w'.cell? (qR w.heap.size 1)=some (qS (some (qR b2 o2)) n2 c2)/\w'.cell? (qR w.heap.size 2)=some (qS (some (qR b3 o3)) n3 c3)) (go_keep)
  (first
    | (go_at_call_of 164 (qS (some (qR b1 o1)) n1 c1);refine (pJ b1 o1 n1 c1 x1 _ (by exact B1) (by omega)).mono ?_;rintro e w1 ⟨a1,d1,rfl,p1,hb1⟩;replace hb1:=dH hb1;obtain ⟨q1,q2,q3,q4⟩:=(kb.bw hb1).three)
    | (go_at_call_of 164 (qS (some (qR b2 o2)) n2 c2);refine (pJ b2 o2 n2 c2 x2 _ (B2.bw hb1) (by omega)).mono ?_;rintro e w2 ⟨a2,d2,rfl,p2,hb2⟩;have hb12:=hb1.trans (hb2.mono hb1.size);obtain ⟨q1,q2,q3,q4⟩:=(kb.bw hb12).three)
    | (go_at_call_of 164 (qS (some (qR b3 o3)) n3 c3);refine (pJ b3 o3 n3 c3 x3 _ (B3.bw hb12) (by omega)).mono ?_;rintro e w3 ⟨a3,d3,rfl,p3,hb3⟩;have hb13:=hb12.trans (hb3.mono hb12.size);obtain ⟨q1,q2,q3,q4⟩:=(kb.bw hb13).three;obtain ⟨q5,q6,q7,q8⟩:=(kr.bw hb13).three))
 have s1:=hb1.size;have s2:=hb2.size;have s3:=hb3.size;simp only [heap_drew,xF] at s1 p1;go_wp2;refine bodyPost_ret (v:=.agg (qV a1 n1 d1 a2 n2 d2 a3 n3 d3)) (by simp [results,results96,go_sem,q5,q6,q7]) rfl ⟨a1,d1,a2,d2,a3,d3,rfl,⟨?_,?_,?_,?_,?_,?_⟩,?_⟩
 .exact (((((p1.bw hb2).bw hb3).other _ _ (by dsimp only;omega)).other _ _ (by dsimp only;omega)).other _ _ (by dsimp only;omega)).mono (by omega)
 .exact ((((p2.bw hb3).other _ _ (by dsimp only;omega)).other _ _ (by dsimp only;omega)).other _ _ (by dsimp only;omega)).mono (by omega)
 .exact (((p3.other _ _ (by dsimp only;omega)).other _ _ (by dsimp only;omega)).other _ _ (by dsimp only;omega)).mono (by omega)
 .intro k j hk hj;have:=p1.lt k hk;have:=p2.lt j hj;omega
 .intro k j hk hj;have:=p1.lt k hk;have:=p3.lt j hj;omega
 .intro k j hk hj;have:=p2.lt k hk;have:=p3.lt j hj;omega
 .exact (((hB0.trans (hb13.mono (by simp;omega))).setCell (by dsimp only;omega) _).setCell (by dsimp only;omega) _).setCell (by dsimp only;omega) _
theorem aKs (v:Int):((v.tmod 4294967296)+4294967296).tmod 4294967296=v%4294967296:=by
 have h:=Int.tmod_eq_emod (a:=v) (b:=4294967296)
 have hlt:-4294967296<v.tmod 4294967296:=by
  have:=Int.lt_tmod_of_pos v (show (0:Int)<4294967296 by omega);exact this
 rw [xL (by omega)];split at h<;>omega
theorem aFd (v:Int)(w:qw)(hv:-9223372036854775808<=v/\v<=9223372036854775807):
 qC 116 #[qI v,qI 4294967296] w fun e w'=>e=.returned (qI (v%4294967296))/\w=w':=by
 have hlt:-4294967296<v.tmod 4294967296:=Int.lt_tmod_of_pos v (by omega);have hgt:v.tmod 4294967296<4294967296:=Int.tmod_lt_of_pos v (by omega);have HM:=zh (aKs v);go_enter func116,ntmps116
 go_wp2;go_ret;exact ⟨aI (by have:=HM.o;rwa [xL (by omega)] at this),rfl⟩
theorem uA (v:Int)(w:qw)(hv:-9223372036854775808<=v/\v<=9223372036854775807):
 qC 61 #[qI v] w fun e w'=>e=.returned (qI (v%4294967296))/\w=w':=by
 go_enter func61,ntmps61
 go_wp2_with fail
 refine (aFd v _ hv).mono ?_;rintro e w1 ⟨rfl,rfl⟩;go_wp2;go_ret;exact ⟨rfl,rfl⟩
def bt (v:Int)(j:Nat):Int:=v/(256:Int)^j%256
def aAu (w:qw)(g k:Nat)(v:Int):Nat->World
 | 0=>w
 | j+1=>(aAu w g k v j).setCell (qR g (k+j)) (.int .u8 (bt v j))
def put (zs:qi)(k:Nat)(v:Int):Nat->List Int
 | 0=>zs
 | j+1=>(put zs k v j).set (k+j) (bt v j)
theorem lL (v:Int)(j:Nat):0<=bt v j/\bt v j<=255:=by unfold bt;omega
theorem aN5 (v:Int)(j:Nat):v/(256:Int)^j/256=v/(256:Int)^(j+1):=by
 rw [Int.pow_succ,Int.ediv_ediv_of_nonneg (Int.le_of_lt (Int.pow_pos (by omega)))]
theorem rN (zs:qi)(k:Nat)(v:Int):∀ j,(put zs k v j).length=zs.length
 | 0=>rfl
 | j+1=>by rw [put,List.length_set,rN zs k v j]
def Room (w:qw)(g n:Nat):Prop:=∃ cur,Blk w g cur 5/\n<=cur.size
theorem Room.cell {w:qw}(h:Room w g n)(i:Nat)(hi:i<n):∃ u,w.cell? (qR g i)=some u:=by
 obtain ⟨cur,hb,hn⟩:=h;rw [hb.cell];exact ⟨cur[i],by simp⟩
theorem Room.frozen {w:qw}(h:Room w g n)(i:Nat):w.frozen? (qR g i)=false:=by
 obtain ⟨cur,hb,hn⟩:=h;exact hb.frozen i
theorem Room.set {w:qw}(h:Room w g n)(i:Nat)(u:Value):Room (w.setCell (qR g i) u) g n:=by
 obtain ⟨cur,hb,hn⟩:=h;exact ⟨_,hb.set i u,by simpa using hn⟩
theorem Room.put {w:qw}{g n:Nat}(h:Room w g n)(k:Nat)(v:Int):∀ j,Room (aAu w g k v j) g n
 | 0=>h
 | j+1=>(Room.put h k v j).set (k+j) _
theorem yZ (g n cap k:Nat)(s v:Int)(w:qw)(h:Room w g n)(hn:n<=16384)(hs1:1<=s)(hs:s<=4)(hk:(k:Int)+s<=n)(hv0:0<=v)(hv1:v<=4294967295):
 qC 145 #[qS (qP g) n cap,qI k,qI s,qI v] w fun e w'=>e=.returned (.tuple #[])/\w'=aAu w g k v s.toNat:=by
 go_enter func145,ntmps145
 go_wp2;go_loopw [3,8] (fun x i wr=>∃ j:Nat,(j:Int)<=s/\i=qI j/\x=qI (v/(256:Int)^j)/\wr=aAu w g k v j) (fun _ i _=>s.toNat-(intOf i).toNat)
 .exact ⟨0,by omega,rfl,by simp,rfl⟩
 .obtain ⟨j,hj,rfl,rfl,rfl⟩:=hrel;by_cases hlt:(j:Int)<s
  .have hR:=h.put k v j;obtain ⟨u,hu⟩:=hR.cell (k+j) (by omega);have hf:=hR.frozen (k+j);have hp:0<(256:Int)^j:=Int.pow_pos (by omega);have hq0:0<=v/(256:Int)^j:=Int.ediv_nonneg hv0 (by omega);have hq1:v/(256:Int)^j<=v:=Int.ediv_le_self _ hv0;have HS:=zh (aN5 v j);have hW:aAu w g k v (j+1)=(aAu w g k v j).setCell (qR g (k+j)) (.int .u8 (v/(256:Int)^j%256)):=rfl;have HW:=zh hW;clear hW hR hp;generalize aAu w g k v j=W at *;generalize v/(256:Int)^j=q at *;go_wp2
   go_roundw
   .exact ⟨j+1,by omega,by go_num,by rw [HS.o],HW.o.symm⟩
   .simp [intOf];omega
  .have hjs:s.toNat=j:=by omega
   have HJ:=zh hjs;clear hjs;generalize v/(256:Int)^j=q at *;go_wp2
   go_end0
   exact ⟨rfl,by rw [HJ.o]⟩
def sM (w:qw)(g k:Nat)(v:Int):World:=
 (((w.setCell (qR g (k+3)) (.int .u8 (bt v 3))).setCell (qR g (k+2)) (.int .u8 (bt v 2))).setCell (qR g (k+1)) (.int .u8 (bt v 1))).setCell (qR g k) (.int .u8 (bt v 0))
theorem bt0 (v:Int):bt v 0=v%256:=by unfold bt;simp
theorem bt1 (v:Int):bt v 1=v/256%256:=by unfold bt;simp
theorem bt2 (v:Int):bt v 2=v/65536%256:=by unfold bt;rw [show (256:Int)^2=65536 from rfl]
theorem bt3 (v:Int):bt v 3=v/16777216%256:=by unfold bt;rw [show (256:Int)^3=16777216 from rfl]
theorem mQ (g n cap k:Nat)(v:Int)(w:qw)(h:Room w g (k+4))(hn:4<=n)(hv:-9223372036854775808<=v/\v<=9223372036854775807):
 qC 233 #[qS (some (qR g k)) n cap,qI 4,qI v] w fun e w'=>e=.returned (.tuple #[])/\w'=sM w g k v:=by
 obtain ⟨u0,c0⟩:=h.cell k (by omega);obtain ⟨u1,c1⟩:=h.cell (k+1) (by omega);obtain ⟨u2,c2⟩:=h.cell (k+2) (by omega);obtain ⟨u3,c3⟩:=h.cell (k+3) (by omega);have hf:∀ i,w.frozen? (qR g i)=false:=h.frozen;have hl:(3:Int)<(n:Int):=by omega
 obtain ⟨hv0,hv1⟩:=hv;have HP:Zh (sM w g k v=sM w g k v):=rfl;unfold sM;rw [bt3,bt2,bt1,bt0];go_enter func233,ntmps233
 go_wp2
 go_end0
 exact ⟨rfl,rfl⟩
theorem aN4 (v:Int):bt (v%4294967296) 0=bt v 0/\bt (v%4294967296) 1=bt v 1/\bt (v%4294967296) 2=bt v 2/\bt (v%4294967296) 3=bt v 3:=by
 rw [bt0,bt1,bt2,bt3,bt0,bt1,bt2,bt3];omega
theorem aH9 (zs:qi)(k:Nat)(v:Int):put zs k v 4=(((zs.set (k+3) (bt v 3)).set (k+2) (bt v 2)).set (k+1) (bt v 1)).set k (bt v 0):=by
 simp only [put,Nat.add_zero];rw [List.set_comm _ _ (show k≠k+1 by omega),List.set_comm _ _ (show k≠k+2 by omega),List.set_comm _ _ (show k≠k+3 by omega)];congr 1;rw [List.set_comm _ _ (show k+1≠k+2 by omega),List.set_comm _ _ (show k+1≠k+3 by omega)];congr 1;rw [List.set_comm _ _ (show k+2≠k+3 by omega)]
theorem oM {w:qw}{zs:qi}(h:OB w base (qS (qP g) n cap) zs)(i:Nat)(hi:i<n)(z:Int)(hz:0<=z/\z<=255):OB (w.setCell (qR g i) (.int .u8 z)) base (qS (qP g) n cap) (zs.set i z):=by
 obtain ⟨⟨hl,h0|⟨g',cap',cur,hv,hg,hh,h1,h2,h3,h4⟩⟩,hr⟩:=h
 .simp at h0
 .simp at hv;obtain ⟨rfl,rfl,rfl⟩:=hv;refine ⟨⟨by simp,.inr ⟨g,cap,cur.setIfInBounds i (.int .u8 z),by simp,hg,Blk.set (w:=w) hh i _,by simpa using h1,h2,by simpa using h3,?_⟩⟩,?_⟩
  .rw [List.length_set,xW,List.take_set,h4,List.map_set]
  .intro y hy;rcases List.mem_or_eq_of_mem_set hy with hy|rfl
   .exact hr y hy
   .exact hz
theorem aEr {w:qw}{base g n cap:Nat}{zs:qi}(h:OB w base (qS (qP g) n cap) zs)(k:Nat)(v:Int):∀ j,k+j<=n->OB (aAu w g k v j) base (qS (qP g) n cap) (put zs k v j)
 | 0,_=>h
 | j+1,hj=>oM (aEr h k v j (by omega)) (k+j) (by omega) _ (lL v j)
theorem tE {w:qw}{zs:qi}(h:OB w base (qS (qP g) n cap) zs)(k:Nat)(v:Int)(hk:k+4<=n:=by omega):OB (sM w g k v) base (qS (qP g) n cap) (put zs k v 4):=by
 rw [aH9];exact oM (oM (oM (oM h (k+3) (by omega) _ (lL v 3)) (k+2) (by omega) _ (lL v 2)) (k+1) (by omega) _ (lL v 1)) k (by omega) _ (lL v 0)
theorem nK {w:qw}{zs:qi}(h:OB w base (qS (qP g) n cap) zs):Room w g n:=by
 obtain ⟨⟨hl,h0|⟨g',cap',cur,hv,hg,hh,h1,h2,h3,h4⟩⟩,hr⟩:=h
 .simp at h0
 .simp at hv;obtain ⟨rfl,rfl,rfl⟩:=hv;exact ⟨cur,hh,by omega⟩
def fI (g:Nat)(w w':qw):Prop:=w'.heap.size=w.heap.size/\(∀ k,k≠g->w'.heap[k]?=w.heap[k]?)/\w'.os=w.os/\w'.tape=w.tape/\w'.output=w.output
theorem iJ (g:Nat)(w:qw):fI g w w:=⟨rfl,fun _ _=>rfl,rfl,rfl,rfl⟩
theorem kN {w w':qw}(h:fI g w w')(i:Nat)(u:Value):fI g w (w'.setCell (qR g i) u):=
 ⟨by rw [aL];exact h.1,fun k hk=>by rw [heap_setCell_other _ _ _ _ hk];exact h.2.1 k hk,h.2.2.1,h.2.2.2.1,h.2.2.2.2⟩
theorem sZ (g k:Nat)(v:Int)(w:qw):∀ j,fI g w (aAu w g k v j)
 | 0=>iJ g w
 | j+1=>kN (sZ g k v w j) (k+j) _
theorem jG (g k:Nat)(v:Int)(w:qw):fI g w (sM w g k v):=kN (kN (kN (kN (iJ g w) _ _) _ _) _ _) _ _
theorem cY {a w w':qw}(h:Below B a w)(ho:fI g w w')(hg:B<=g):Below B a w':=
 ⟨ho.2.2.1.trans h.os,ho.2.2.2.1.trans h.tape,ho.2.2.2.2.trans h.output,by rw [ho.1];exact h.size,fun k hk=>(ho.2.1 k (by omega)).trans (h.block k hk)⟩
theorem bZ {w w':qw}{t:TypeId}(ho:fI g w w')(h:Blk w k cs t)(hk:k≠g):Blk w' k cs t:=by
 unfold Blk at *;rw [ho.2.1 k hk];exact h
theorem rU {w w':qw}{zs:qi}(ho:fI g w w')(h:OB w base v zs)(hk:v.ownBlock≠some g):OB w' base v zs:=by
 refine ⟨?_,h.2⟩;obtain ⟨hl,h0|⟨g',cap,cur,rfl,hg,hh,h1,h2,h3,h4⟩⟩:=h.1
 .exact ⟨hl,.inl h0⟩
 .refine ⟨hl,.inr ⟨g',cap,cur,rfl,hg,?_,h1,h2,h3,h4⟩⟩;exact bZ ho hh (by intro e;subst e;exact hk rfl)
theorem aKa (zs:qi)(k:Nat)(v:Int):put zs k (v%4294967296) 4=put zs k v 4/\put zs k (v%4294967296) 2=put zs k v 2/\put zs k (v%4294967296) 1=put zs k v 1:=by
 obtain ⟨e0,e1,e2,e3⟩:=aN4 v;simp only [put,e0,e1,e2,e3,and_self]
theorem sS {w w':qw}{x1 x2 x3:qi}(h:gK w base v1 v2 v3 x1 x2 x3)(hb:qY w w'):gK w' base v1 v2 v3 x1 x2 x3:=
 ⟨h.1.bw hb,h.2.1.bw hb,h.2.2.1.bw hb,h.2.2.2⟩
theorem aId {w:qw}{x1 x2 x3:qi}(h:gK w base v1 v2 v3 x1 x2 x3)(hb:base'<=base):gK w base' v1 v2 v3 x1 x2 x3:=
 ⟨h.1.mono hb,h.2.1.mono hb,h.2.2.1.mono hb,h.2.2.2⟩
theorem cL {w w':qw}{row:Option Nat}{t:TypeId}(hg:w.grownBy w' row)(h:Blk w k cs t)(hk:some k≠row):Blk w' k cs t:=by
 have:=hg.block k h.lt hk;unfold Blk at *;rw [this];exact h
theorem aU {w w':qw}{zs:qi}(ht:Turn S w w')(h:OB w base v zs)(hk:∀ k,v.ownBlock=some k->¬ S k):OB w' base v zs:=by
 refine ⟨?_,h.2⟩;obtain ⟨hl,h0|⟨g',cap,cur,rfl,hg,hh,h1,h2,h3,h4⟩⟩:=h.1
 .exact ⟨hl,.inl h0⟩
 .exact ⟨hl,.inr ⟨g',cap,cur,rfl,hg,aF ht hh (hk g' rfl),h1,h2,h3,h4⟩⟩
theorem IS.at {w:qw}{b off n cap:Nat}{zs:qi}(h:IS w (Option.some (qR b off)) n cap zs)(i:Nat)(hi:i<n):w.cell? (qR b (off+i))=Option.some (qI (zs.getD i 0)):=by
 obtain ⟨b',off',e,hd⟩:=h.2.2.2.1 (by omega);simp at e;obtain ⟨rfl,rfl⟩:=e;exact hd i hi
theorem IS.addr {w:qw}{a:qO}{zs:qi}(h:IS w a n cap zs)(hn:n≠0):∃ b off,a=some (qR b off):=by
 obtain ⟨b,off,e,_⟩:=h.2.2.2.1 hn;exact ⟨b,off,e⟩
def OI (w:qw)(base:Nat)(v:Value)(zs:qi):Prop:=w.ownsRow base 3 1 v zs.length (zs.map (Value.int .i64))/\∀ z∈zs,wfi z
theorem aBi {w:qw}{zs:qi}(h:IS w (some (qR b off)) n cap zs):∀ j u,(zs.map (Value.int .i64))[j]?=some u->w.cell? (((qR b off):Addr).add j)=some u:=by
 intro j u hj;have hl:=h.1
 have hjl:j<n:=by
  by_cases e:j<n
  .exact e
  .rw [xO (by simp;omega)] at hj;simp at hj
 rw [bP,h.at j hjl];rw [<- hj];simp [xB,show j<zs.length by omega]
theorem aEn (w:qw):(w.alloc (.cells #[] 3)).ownsRow w.heap.size 3 1 (qS (qP w.heap.size) 0 0) 0 []:=
 ⟨rfl,.inr ⟨w.heap.size,0,#[],rfl,aN,heap_alloc_new w _,aN,xC _,rfl,rfl⟩⟩
theorem OI.bw {w w':qw}{zs:qi}(h:OI w base v zs)(hb:qY w w'):OI w' base v zs:=by
 refine ⟨?_,h.2⟩;obtain ⟨hl,h0|⟨g,cap,cur,hv,hg,hh,h1,h2,h3,h4⟩⟩:=h.1
 .exact ⟨hl,.inl h0⟩
 .refine ⟨hl,.inr ⟨g,cap,cur,hv,hg,?_,h1,h2,h3,h4⟩⟩;exact Blk.bw (w:=w) hh hb
theorem OI.mono {w:qw}{zs:qi}(h:OI w base v zs)(hb:base'<=base):OI w base' v zs:=by
 refine ⟨?_,h.2⟩;obtain ⟨hl,h0|⟨g,cap,cur,hv,hg,hh,h1,h2,h3,h4⟩⟩:=h.1
 .exact ⟨hl,.inl h0⟩
 .exact ⟨hl,.inr ⟨g,cap,cur,hv,by omega,hh,h1,h2,h3,h4⟩⟩
theorem OI.other {w:qw}{zs:qi}(h:OI w base v zs)(a:Addr)(u:Value)(ha:a.block<base):OI (w.setCell a u) base v zs:=by
 refine ⟨?_,h.2⟩;obtain ⟨hl,h0|⟨g,cap,cur,hv,hg,hh,h1,h2,h3,h4⟩⟩:=h.1
 .exact ⟨hl,.inl h0⟩
 .exact ⟨hl,.inr ⟨g,cap,cur,hv,hg,Blk.other (w:=w) hh a u (by omega),h1,h2,h3,h4⟩⟩
theorem OI.lt {w:qw}{zs:qi}(h:OI w base v zs):∀ k,v.ownBlock=some k->base<=k/\k<w.heap.size:=h.1.lt
theorem OI.is {w:qw}{a:qO}{zs:qi}(h:OI w base (qS a n cap) zs):IS w a n cap zs:=by
 obtain ⟨hl,⟨h0,h0'⟩|⟨g,cap',cur,hv,hg,hh,h1,h2,h3,h4⟩⟩:=h.1
 .simp at h0;obtain ⟨rfl,rfl,rfl⟩:=h0;exact ⟨h0',xC _,h.2,fun hn=>absurd rfl hn,aN⟩
 .simp at hv;obtain ⟨rfl,rfl,rfl⟩:=hv;refine ⟨rfl,by omega,h.2,fun hn=>⟨g,0,rfl,fun i hi=>?_⟩,h1⟩;rw [Nat.zero_add,Blk.cell (w:=w) hh]
  have:cur.toList[i]?=(zs.map (Value.int .i64))[i]?:=by
   rw [<- h4,List.getElem?_take,if_pos (by omega)]
  rw [Array.getElem?_toList] at this;rw [this];simp [xB,hi]
def RoomI (w:qw)(g n:Nat):Prop:=∃ cur,Blk w g cur 3/\n<=cur.size
theorem RoomI.cell {w:qw}(h:RoomI w g n)(i:Nat)(hi:i<n):∃ u,w.cell? (qR g i)=some u:=by
 obtain ⟨cur,hb,hn⟩:=h;rw [hb.cell];exact ⟨cur[i],by simp⟩
theorem RoomI.frozen {w:qw}(h:RoomI w g n)(i:Nat):w.frozen? (qR g i)=false:=by
 obtain ⟨cur,hb,hn⟩:=h;exact hb.frozen i
theorem aKi {w:qw}{zs:qi}(h:OI w base (qS (qP g) n cap) zs)(i:Nat)(hi:i<n)(z:Int)(hz:wfi z):OI (w.setCell (qR g i) (qI z)) base (qS (qP g) n cap) (zs.set i z):=by
 obtain ⟨⟨hl,h0|⟨g',cap',cur,hv,hg,hh,h1,h2,h3,h4⟩⟩,hr⟩:=h
 .simp at h0
 .simp at hv;obtain ⟨rfl,rfl,rfl⟩:=hv;refine ⟨⟨by simp,.inr ⟨g,cap,cur.setIfInBounds i (qI z),by simp,hg,Blk.set (w:=w) hh i _,by simpa using h1,h2,by simpa using h3,?_⟩⟩,?_⟩
  .rw [List.length_set,xW,List.take_set,h4,List.map_set]
  .intro y hy;rcases List.mem_or_eq_of_mem_set hy with hy|rfl
   .exact hr y hy
   .exact hz
theorem aGt {w:qw}{zs:qi}(h:OI w base (qS (qP g) n cap) zs):RoomI w g n:=by
 obtain ⟨⟨hl,h0|⟨g',cap',cur,hv,hg,hh,h1,h2,h3,h4⟩⟩,hr⟩:=h
 .simp at h0
 .simp at hv;obtain ⟨rfl,rfl,rfl⟩:=hv;exact ⟨cur,hh,by omega⟩
theorem aV {w w':qw}{zs:qi}(ht:Turn S w w')(h:OI w base v zs)(hk:∀ k,v.ownBlock=some k->¬ S k):OI w' base v zs:=by
 refine ⟨?_,h.2⟩;obtain ⟨hl,h0|⟨g',cap,cur,rfl,hg,hh,h1,h2,h3,h4⟩⟩:=h.1
 .exact ⟨hl,.inl h0⟩
 .exact ⟨hl,.inr ⟨g',cap,cur,rfl,hg,aF ht hh (hk g' rfl),h1,h2,h3,h4⟩⟩
def bG (k n:Nat):List Int:=(List.range n).map fun i=>((k+i:Nat):Int)
def gD (zs:qi)(k m:Nat):List Int:=(List.range zs.length).map fun i=>if i<m then ((k+i:Nat):Int) else zs.getD i 0
theorem aC6 (zs:qi)(k:Nat):gD zs k 0=zs:=by
 apply List.ext_getElem
 .simp [gD]
 .intro i h1 h2;simp [gD,h2]
theorem aE1 (zs:qi)(k:Nat):gD zs k zs.length=bG k zs.length:=by
 apply List.ext_getElem
 .simp [gD,bG]
 .intro i h1 h2;simp [bG] at h2;simp [gD,bG,h2]
theorem aE0 (zs:qi)(k m:Nat)(h:m<zs.length):(gD zs k m).set m (((k+m:Nat):Int))=gD zs k (m+1):=by
 apply List.ext_getElem
 .simp [gD]
 .intro i h1 h2;simp only [gD,List.getElem_set,List.getElem_map,List.getElem_range];by_cases hik:m=i
  .subst hik;simp
  .by_cases h3:i<m
   .simp [hik,h3,show i<m+1 by omega]
   .simp [hik,h3,show ¬ i<m+1 by omega]
theorem wC (g n cap base:Nat)(zs:qi)(k:Nat)(w:qw)(h:OI w base (qS (qP g) n cap) zs)(hn:n<=5000000)(hk:k<=20000000):
 qC 18 #[qS (qP g) n cap,qI k] w fun e w'=>e=.returned (qI ((k+n:Nat):Int))/\OI w' base (qS (qP g) n cap) (bG k n)/\Turn (fun j=>j=g) w w':=by
 have hl:=h.is.1;go_enter func18,ntmps18
 go_wp2;go_loopw [1,5] (fun x i wr=>∃ m:Nat,m<=n/\i=qI m/\x=qI ((k+m:Nat):Int)/\OI wr base (qS (qP g) n cap) (gD zs k m)/\Turn (fun j=>j=g) w wr) (fun _ i _=>n-(intOf i).toNat)
 .exact ⟨0,xC _,rfl,rfl,by rw [aC6];exact h,Turn.refl _ _⟩
 .obtain ⟨m,hm,rfl,rfl,hO,hT⟩:=hrel;by_cases hlt:m<n
  .have hlt':(m:Int)<(n:Int):=by omega
   obtain ⟨u,hu⟩:=(aGt hO).cell m hlt;have hf:=(aGt hO).frozen m;have hset:=aKi hO m hlt (((k+m:Nat):Int)) (by unfold wfi;omega);rw [aE0 zs k m (by omega)] at hset
   have hT2:Turn (fun j=>j=g) w (wr.setCell (qR g m) (qI (((k+m:Nat):Int)))):=
    hT.trans ⟨rfl,rfl,rfl,by rw [aL];exact aN,fun j hj hs=>heap_setCell_other _ _ _ _ hs⟩
   have HO:=zh hset;have HT:=zh hT2;clear hset hT2 hO hT;obtain ⟨K,hK⟩:∃ K:Int,K=((k+m:Nat):Int):=⟨_,rfl⟩;have hK0:0<=K:=by omega
   have hK1:K<=67108864:=by omega
   have HK:=zh (show K+1=((k+(m+1):Nat):Int) by omega);rw [<- hK] at HO HT ⊢;clear hK;go_wp2
   go_roundw
   .exact ⟨m+1,by omega,by go_num,by rw [HK.o],HO.o,HT.o⟩
   .simp [intOf];omega
  .have e:Zh (m=n):=by show m=n;omega
   go_wp2;go_ret;exact ⟨aI (by rw [e.o]),by rw [e.o,<- hl,aE1] at hO;rw [hl] at hO;exact hO,hT⟩
theorem wB (a:qO)(cap k:Nat)(w:qw):
 qC 18 #[qS a 0 cap,qI k] w fun e w'=>e=.returned (qI k)/\w=w':=by
 go_enter func18,ntmps18
 go_wp2;go_loop [1,5] (fun x i=>i=qI 0/\x=qI k) (fun _ _=>0)
 .exact ⟨rfl,rfl⟩
 .obtain ⟨rfl,rfl⟩:=hrel;go_wp2;go_ret;exact ⟨rfl,rfl⟩
theorem fU (a:qO)(n cap base:Nat)(zs:qi)(k:Nat)(w:qw)(h:OI w base (qS a n cap) zs)(hn:n<=5000000:=by omega)(hk:k<=20000000:=by omega):
 qC 18 #[qS a n cap,qI k] w fun e w'=>e=.returned (qI ((k+n:Nat):Int))/\OI w' base (qS a n cap) (bG k n)/\Turn (fun j=>(qS a n cap).ownBlock=some j) w w':=by
 by_cases h0:n=0
 .subst h0;refine (wB a cap k w).mono fun e w' he=>?_;obtain ⟨rfl,rfl⟩:=he;have hz:zs=[]:=xE h.is.1;subst hz;exact ⟨rfl,h,Turn.refl _ _⟩
 .obtain ⟨g,rfl⟩:∃ g,a=some ⟨g,0,none⟩:=by
   obtain ⟨hl,⟨h0',_⟩|⟨g,cap',cur,hv,_⟩⟩:=h.1
   .simp at h0';exact absurd h0'.2.1 h0
   .simp at hv;exact ⟨g,hv.1⟩
  refine (wC g n cap base zs k w h hn hk).mono fun e w' he=>⟨he.1,he.2.1,he.2.2.mono ?_⟩;intro j hj;subst hj;rfl
theorem aDa (k n m:Nat)(h:m<n):(bG k n).getD m 0=((k+m:Nat):Int):=by simp [bG,xB,h]
theorem fW (a:qO)(n cap:Nat)(k:Nat)(w:qw)(h:IS w a n cap (bG k n))(hn:n<=5000000:=by omega)(hk:k<=20000000:=by omega):
 qC 108 #[qS a n cap,qI k] w fun e w'=>e=.returned (qI ((k+n:Nat):Int))/\w=w':=by
 go_enter func108,ntmps108
 go_wp2;go_loop [1,5] (fun x i=>∃ m:Nat,m<=n/\i=qI m/\x=qI ((k+m:Nat):Int)) (fun _ i=>n-(intOf i).toNat)
 .exact ⟨0,xC _,rfl,rfl⟩
 .obtain ⟨m,hm,rfl,rfl⟩:=hrel;by_cases hlt:m<n
  .have hlt':(m:Int)<(n:Int):=by omega
   obtain ⟨b,off,rfl⟩:=h.addr (by omega);have hc:=h.at m hlt;rw [aDa k n m hlt] at hc;obtain ⟨K,hK⟩:∃ K:Int,K=((k+m:Nat):Int):=⟨_,rfl⟩;have hK0:0<=K:=by omega
   have hK1:K<=67108864:=by omega
   have HK:=zh (show K+1=((k+(m+1):Nat):Int) by omega);rw [<- hK] at hc ⊢;have hne:(K !=K)=false:=by simp
   clear hK;go_wp2
   go_round
   .exact ⟨m+1,by omega,by go_num,by rw [HK.o]⟩
   .simp [intOf];omega
  .have e:Zh (m=n):=by show m=n;omega
   go_wp2;go_ret;exact ⟨aI (by rw [e.o]),rfl⟩
def mA (u:Int):Int:=if u/2%2=1 then 7 else 0
theorem cA (n:Int)(h₀:0<=n)(h₁:n<2^62):IntKind.i64.wrap n=n:=by
 rw [IntKind.wrap_i64];omega
theorem cD (v:Int)(w:qw):
 qC 190 #[qI v] w fun e w'=>e=.returned (.bool (decide (0<=v/\v<=4294967295)))/\w=w':=by
 go_enter func190,ntmps190
 go_wp2
 all_goals
  go_ret;refine ⟨aA ?_,rfl⟩;rw [xJ];simp;try omega
theorem cZ (v m:Int)(w:qw):
 qC 155 #[qI v,qI m] w fun e w'=>e=.returned (.bool (decide (0<=v/\v<=m)))/\w=w':=by
 go_enter func155,ntmps155
 go_wp2
 all_goals
  go_ret;refine ⟨aA ?_,rfl⟩;rw [xJ];simp;try omega
def wds (zs:qi):Bool:=zs.all fun z=>decide (0<=z/\z<=4294967295)
theorem aGc (zs:qi)(k:Nat)(hk:k<zs.length)(h:¬ (0<=zs.getD k 0/\zs.getD k 0<=4294967295)):wds zs=false:=by
 unfold wds;rw [List.all_eq_false];refine ⟨zs[k],List.getElem_mem _,?_⟩;have:zs.getD k 0=zs[k]:=by simp [xB,hk]
 rw [this] at h;simpa using h
theorem aB8 (zs:qi)(h:∀ j,j<zs.length->0<=zs.getD j 0/\zs.getD j 0<=4294967295):wds zs=true:=by
 unfold wds;rw [List.all_eq_true];intro z hz;obtain ⟨i,hi,rfl⟩:=List.getElem_of_mem hz;have:=h i hi;rw [show zs.getD i 0=zs[i] by simp [xB,hi]] at this;simpa using this
theorem pU (a:qO)(n cap:Nat)(zs:qi)(w:qw)(h:IS w a n cap zs):
 qC 224 #[qS a n cap] w fun e w'=>e=.returned (.bool (wds zs))/\w=w':=by
 have hl:=h.1;have hmx:=h.2.1;unfold maxLen at hmx;go_enter func224,ntmps224
 go_wp2_with fail
 go_loop [3] (fun i=>∃ k:Nat,k<=n/\i=qI k/\Hid (∀ j,j<k->0<=zs.getD j 0/\zs.getD j 0<=4294967295)) (fun i=>n-(intOf i).toNat)
 .exact ⟨0,xC _,rfl,zh (fun j hj=>by omega)⟩
 .obtain ⟨k,hk,rfl,HJ⟩:=hrel;by_cases hlt:k<n
  .have hlt':(k:Int)<(n:Int):=by omega
   obtain ⟨b,off,rfl⟩:=h.addr (by omega);have hck:=h.at k hlt;have HZ:=zh (aGc zs k (by omega))
   have HG:=zh (show 0<=zs.getD k 0/\zs.getD k 0<=4294967295->∀ j,j<k+1->0<=zs.getD j 0/\zs.getD j 0<=4294967295 from fun h j hj=>by
    by_cases e:j=k
    .subst e;exact h
    .exact HJ.out j (by omega))
   generalize zs.getD k 0=z at *;by_cases c1:z<0
   .go_wp2;go_ret;exact ⟨aA (HZ.o (by omega)).symm,rfl⟩
   .by_cases c2:4294967295<z
    .go_wp2;go_ret;exact ⟨aA (HZ.o (by omega)).symm,rfl⟩
    .go_wp2
     go_round
     .exact ⟨k+1,by omega,by go_num,zh (HG.o (by omega))⟩
     .simp [intOf];omega
  .have HE:=zh (aB8 zs (fun j hj=>HJ.out j (by omega)));go_wp2;go_ret;exact ⟨aA HE.o.symm,rfl⟩
theorem oC (a:qO)(n cap:Nat)(zs:qi)(w:qw)(h:IS w a n cap zs):
 qC 246 #[qS a n cap] w fun e w'=>e=.returned (.bool (wds zs))/\w=w':=by
 have hl:=h.1;have hmx:=h.2.1;unfold maxLen at hmx;have HIW:=zh (fun v w=>cD v w);go_enter func246,ntmps246
 go_wp2_with fail
 go_loop [7] (fun i=>∃ k:Nat,k<=n/\i=qI k/\Hid (∀ j,j<k->0<=zs.getD j 0/\zs.getD j 0<=4294967295)) (fun i=>n-(intOf i).toNat)
 .exact ⟨0,xC _,rfl,zh (fun j hj=>by omega)⟩
 .obtain ⟨k,hk,rfl,HJ⟩:=hrel;by_cases hlt:k<n
  .have hlt':(k:Int)<(n:Int):=by omega
   obtain ⟨b,off,rfl⟩:=h.addr (by omega);have hck:=h.at k hlt;have HZ:=zh (aGc zs k (by omega))
   have HG:=zh (show 0<=zs.getD k 0/\zs.getD k 0<=4294967295->∀ j,j<k+1->0<=zs.getD j 0/\zs.getD j 0<=4294967295 from fun h j hj=>by
    by_cases e:j=k
    .subst e;exact h
    .exact HJ.out j (by omega))
   generalize zs.getD k 0=z at *;have HW:=zh (HIW.o z);by_cases c1:0<=z/\z<=4294967295
   .rw [xR c1] at HW;go_wp2_with (go_at_call 190;refine (HW.o _).mono ?_;rintro e w1 ⟨rfl,rfl⟩)
    go_round
    .exact ⟨k+1,by omega,by go_num,zh (HG.o c1)⟩
    .simp [intOf];omega
   .rw [xS c1] at HW;go_wp2_with (go_at_call 190;refine (HW.o _).mono ?_;rintro e w1 ⟨rfl,rfl⟩)
    go_ret;exact ⟨aA (HZ.o c1).symm,rfl⟩
  .have HE:=zh (aB8 zs (fun j hj=>HJ.out j (by omega)));go_wp2;go_ret;exact ⟨aA HE.o.symm,rfl⟩
abbrev Bk:=qO×Nat×Nat×List Int
def zB:Bk:=(none,0,0,[])
def BKS (w:qw)(a:qO)(n cap:Nat)(bl:List Bk):Prop:=
 bl.length=n/\n<=maxLen/\(n≠0->∃ b off,a=some (qR b off)/\∀ i,i<n->w.cell? (qR b (off+i))=some (.slice (bl.getD i zB).1 (bl.getD i zB).2.1 (bl.getD i zB).2.2.1))/\(∀ i,i<n->IS w (bl.getD i zB).1 (bl.getD i zB).2.1 (bl.getD i zB).2.2.1 (bl.getD i zB).2.2.2)/\n<=cap
theorem BKS.bw {w w':qw}{a:qO}{bl:List Bk}(h:BKS w a n cap bl)(hb:qY w w'):BKS w' a n cap bl:=by
 obtain ⟨h1,h2,h3,h4,h5⟩:=h;refine ⟨h1,h2,fun hn=>?_,fun i hi=>(h4 i hi).bw hb,h5⟩;obtain ⟨b,off,e,hc⟩:=h3 hn;exact ⟨b,off,e,fun i hi=>(hb.cell (xD w _ (hc i hi))).trans (hc i hi)⟩
theorem BKS.addr {w:qw}{a:qO}{bl:List Bk}(h:BKS w a n cap bl)(hn:n≠0):∃ b off,a=some (qR b off):=by
 obtain ⟨b,off,e,_⟩:=h.2.2.1 hn;exact ⟨b,off,e⟩
theorem BKS.at {w:qw}{b off n cap:Nat}{bl:List Bk}(h:BKS w (some (qR b off)) n cap bl)(i:Nat)(hi:i<n):w.cell? (qR b (off+i))=some (.slice (bl.getD i zB).1 (bl.getD i zB).2.1 (bl.getD i zB).2.2.1):=by
 obtain ⟨b',off',e,hc⟩:=h.2.2.1 (by omega);simp at e;obtain ⟨rfl,rfl⟩:=e;exact hc i hi
def bko (b:Bk):Bool:=decide (1<=b.2.1/\b.2.1<=64)&&wds b.2.2.2
def cdo (tn:Nat)(tz:qi)(bn:Nat)(bl:List Bk):Bool:=decide (tn<=200/\bn<=4)&&(wds tz&&bl.all bko)
theorem aB4 (bl:List Bk)(k:Nat)(hk:k<bl.length)(h:bko (bl.getD k zB)=false):bl.all bko=false:=by
 rw [List.all_eq_false];exact ⟨bl[k],List.getElem_mem _,by rw [show bl.getD k zB=bl[k] by simp [xB,hk]] at h;simp [h]⟩
theorem vE (bl:List Bk)(h:∀ j,j<bl.length->bko (bl.getD j zB)=true):bl.all bko=true:=by
 rw [List.all_eq_true];intro z hz;obtain ⟨i,hi,rfl⟩:=List.getElem_of_mem hz;have:=h i hi
 rwa [show bl.getD i zB=bl[i] by simp [xB,hi]] at this
theorem Blk.eight {w:qw}{a b d e f x y:Value}{t:TypeId}(h:Blk w g #[a,b,c,d,e,f,x,y] t):
 w.cell? (qR g 0)=some a/\w.cell? (qR g 1)=some b/\w.cell? (qR g 2)=some c/\w.cell? (qR g 3)=some d/\w.cell? (qR g 4)=some e/\w.cell? (qR g 5)=some f/\w.cell? (qR g 6)=some x/\w.cell? (qR g 7)=some y:=
 ⟨by rw [h.cell];rfl,by rw [h.cell];rfl,by rw [h.cell];rfl,by rw [h.cell];rfl,by rw [h.cell];rfl,by rw [h.cell];rfl,by rw [h.cell];rfl,by rw [h.cell];rfl⟩
theorem aBf (nm:ByteArray)(ta:qO)(tn tc:Nat)(tz:qi)(ba:qO)(bn bc:Nat)(bl:List Bk)(v3 v5 v6 v7:Value)(bss:Int)(w:qw)(ht:IS w ta tn tc tz)(hb:BKS w ba bn bc bl):
 qC 204 #[.agg #[.string nm,qS ta tn tc,qS ba bn bc,v3,qI bss,v5,v6,v7]] w (qB w (.bool (cdo tn tz bn bl))):=by
 obtain ⟨W,hW,hB0,kb⟩:=nwb w #[.string nm,qS ta tn tc,qS ba bn bc,v3,qI bss,v5,v6,v7] 138;obtain ⟨q0,q1,q2,q3,q4,q5,q6,q7⟩:=kb.eight;have HT:=zh (fun w h=>pU ta tn tc tz w h);obtain ⟨r,hr⟩:=eqx (cdo tn tz bn bl);rw [<- hr];unfold cdo at hr;have ht0:=ht.bw hB0;have hb0:=hb.bw hB0;have hm1:=ht.2.1;have hm2:=hb.2.1;unfold maxLen at hm1 hm2;have HW:=zh hW;clear hW;by_cases c1:200<tn
 .have HR:=zh (show r=false by rw [hr,xS (by omega)];rfl);clear hr;have c1':(200:Int)<(tn:Int):=by omega
  go_enter func204,ntmps204
  go_wp2_with (rw [<- HW.o])
  go_ret;exact ⟨aA HR.o.symm,hB0⟩
 .have c1':¬ (200:Int)<(tn:Int):=by omega
  by_cases c2:4<bn
  .have HR:=zh (show r=false by rw [hr,xS (by omega)];rfl);clear hr;have c2':(4:Int)<(bn:Int):=by omega
   go_enter func204,ntmps204
   go_wp2_with (rw [<- HW.o])
   go_ret;exact ⟨aA HR.o.symm,hB0⟩
  .have c2':¬ (4:Int)<(bn:Int):=by omega
   cases hz:wds tz
   .rw [hz] at HT;have HR:=zh (show r=false by rw [hr,hz];simp);clear hr;go_enter func204,ntmps204
    go_wp2_with (first|(rw [<- HW.o])|(go_at_call 224;refine (HT.o _ ht0).mono ?_;rintro e w1 ⟨rfl,rfl⟩))
    go_ret;exact ⟨aA HR.o.symm,hB0⟩
   .rw [hz] at HT;have hr':r=bl.all bko:=by rw [hr,hz,xR (by omega)];simp
    have HR:=zh hr';clear hr hr';have hl:=hb.1;go_enter func204,ntmps204
    go_wp2_with (first|(rw [<- HW.o])|(go_at_call 224;refine (HT.o _ ht0).mono ?_;rintro e w1 ⟨rfl,rfl⟩))
    go_loop [3] (fun i=>∃ k:Nat,k<=bn/\i=qI k/\Hid (∀ j,j<k->bko (bl.getD j zB)=true)) (fun i=>bn-(intOf i).toNat)
    .exact ⟨0,xC _,rfl,zh (fun j hj=>by omega)⟩
    .obtain ⟨k,hk,rfl,HJ⟩:=hrel;by_cases hlt:k<bn
     .have hlt':(k:Int)<(bn:Int):=by omega
      obtain ⟨bb,off,rfl⟩:=hb0.addr (by omega);have hck:=hb0.at k hlt;have hik:=hb0.2.2.2.1 k hlt;have HZ:=zh (aB4 bl k (by omega))
      have HG:=zh (show bko (bl.getD k zB)=true->∀ j,j<k+1->bko (bl.getD j zB)=true from fun h j hj=>by
       by_cases e:j=k
       .subst e;exact h
       .exact HJ.out j (by omega))
      generalize bl.getD k zB=B at *;obtain ⟨xa,xn,xc,xz⟩:=B;dsimp only at hck hik;have hxm:=hik.2.1;unfold maxLen at hxm;have HX:=zh (fun w h=>pU xa xn xc xz w h);by_cases d1:xn<1
      .have d1':(xn:Int)<1:=by omega
       go_wp2;go_ret;exact ⟨aA (by rw [HR.o];exact (HZ.o (by unfold bko;dsimp only;rw [decide_eq_false (by omega)];rfl)).symm),hB0⟩
      .have d1':¬ (xn:Int)<1:=by omega
       by_cases d2:64<xn
       .have d2':(64:Int)<(xn:Int):=by omega
        go_wp2;go_ret;exact ⟨aA (by rw [HR.o];exact (HZ.o (by unfold bko;dsimp only;rw [decide_eq_false (by omega)];rfl)).symm),hB0⟩
       .have d2':¬ (64:Int)<(xn:Int):=by omega
        cases hx:wds xz
        .rw [hx] at HX;go_wp2_with (go_at_call 224;refine (HX.o _ hik).mono ?_;rintro e w1 ⟨rfl,rfl⟩)
         go_ret;exact ⟨aA (by rw [HR.o];exact (HZ.o (by unfold bko;dsimp only;rw [hx];simp)).symm),hB0⟩
        .rw [hx] at HX;go_wp2_with (go_at_call 224;refine (HX.o _ hik).mono ?_;rintro e w1 ⟨rfl,rfl⟩)
         go_round
         .exact ⟨k+1,by omega,by go_num,zh (HG.o (by unfold bko;dsimp only;rw [hx,decide_eq_true (by omega)];rfl))⟩
         .simp [intOf];omega
     .have HE:=zh (vE bl (fun j hj=>HJ.out j (by omega)));go_wp2;go_ret;exact ⟨aA (by rw [HR.o];exact HE.o.symm),hB0⟩
theorem aFx (nm:ByteArray)(ta:qO)(tn tc:Nat)(tz:qi)(ba:qO)(bn bc:Nat)(bl:List Bk)(v3 v5 v6 v7:Value)(bss:Int)(w:qw)(ht:IS w ta tn tc tz)(hb:BKS w ba bn bc bl):
 qC 227 #[.agg #[.string nm,qS ta tn tc,qS ba bn bc,v3,qI bss,v5,v6,v7]] w (qB w (.bool (cdo tn tz bn bl))):=by
 obtain ⟨W,hW,hB0,kb⟩:=nwb w #[.string nm,qS ta tn tc,qS ba bn bc,v3,qI bss,v5,v6,v7] 138;obtain ⟨q0,q1,q2,q3,q4,q5,q6,q7⟩:=kb.eight;have HT:=zh (fun w h=>oC ta tn tc tz w h);obtain ⟨r,hr⟩:=eqx (cdo tn tz bn bl);rw [<- hr];unfold cdo at hr;have ht0:=ht.bw hB0;have hb0:=hb.bw hB0;have hm1:=ht.2.1;have hm2:=hb.2.1;unfold maxLen at hm1 hm2;have HW:=zh hW;clear hW;by_cases c1:200<tn
 .have HR:=zh (show r=false by rw [hr,xS (by omega)];rfl);clear hr;have c1':(200:Int)<(tn:Int):=by omega
  go_enter func227,ntmps227
  go_wp2_with (rw [<- HW.o])
  go_ret;exact ⟨aA HR.o.symm,hB0⟩
 .have c1':¬ (200:Int)<(tn:Int):=by omega
  by_cases c2:4<bn
  .have HR:=zh (show r=false by rw [hr,xS (by omega)];rfl);clear hr;have c2':(4:Int)<(bn:Int):=by omega
   go_enter func227,ntmps227
   go_wp2_with (rw [<- HW.o])
   go_ret;exact ⟨aA HR.o.symm,hB0⟩
  .have c2':¬ (4:Int)<(bn:Int):=by omega
   cases hz:wds tz
   .rw [hz] at HT;have HR:=zh (show r=false by rw [hr,hz];simp);clear hr;go_enter func227,ntmps227
    go_wp2_with (first|(rw [<- HW.o])|(go_at_call 246;refine (HT.o _ ht0).mono ?_;rintro e w1 ⟨rfl,rfl⟩))
    go_ret;exact ⟨aA HR.o.symm,hB0⟩
   .rw [hz] at HT;have hr':r=bl.all bko:=by rw [hr,hz,xR (by omega)];simp
    have HR:=zh hr';clear hr hr';have hl:=hb.1;go_enter func227,ntmps227
    go_wp2_with (first|(rw [<- HW.o])|(go_at_call 246;refine (HT.o _ ht0).mono ?_;rintro e w1 ⟨rfl,rfl⟩))
    go_loop [24] (fun i=>∃ k:Nat,k<=bn/\i=qI k/\Hid (∀ j,j<k->bko (bl.getD j zB)=true)) (fun i=>bn-(intOf i).toNat)
    .exact ⟨0,xC _,rfl,zh (fun j hj=>by omega)⟩
    .obtain ⟨k,hk,rfl,HJ⟩:=hrel;by_cases hlt:k<bn
     .have hlt':(k:Int)<(bn:Int):=by omega
      obtain ⟨bb,off,rfl⟩:=hb0.addr (by omega);have hck:=hb0.at k hlt;have hik:=hb0.2.2.2.1 k hlt;have HZ:=zh (aB4 bl k (by omega))
      have HG:=zh (show bko (bl.getD k zB)=true->∀ j,j<k+1->bko (bl.getD j zB)=true from fun h j hj=>by
       by_cases e:j=k
       .subst e;exact h
       .exact HJ.out j (by omega))
      generalize bl.getD k zB=B at *;obtain ⟨xa,xn,xc,xz⟩:=B;dsimp only at hck hik;have hxm:=hik.2.1;unfold maxLen at hxm;have HX:=zh (fun w h=>oC xa xn xc xz w h);by_cases d1:xn<1
      .have d1':(xn:Int)<1:=by omega
       go_wp2;go_ret;exact ⟨aA (by rw [HR.o];exact (HZ.o (by unfold bko;dsimp only;rw [decide_eq_false (by omega)];rfl)).symm),hB0⟩
      .have d1':¬ (xn:Int)<1:=by omega
       by_cases d2:64<xn
       .have d2':(64:Int)<(xn:Int):=by omega
        go_wp2;go_ret;exact ⟨aA (by rw [HR.o];exact (HZ.o (by unfold bko;dsimp only;rw [decide_eq_false (by omega)];rfl)).symm),hB0⟩
       .have d2':¬ (64:Int)<(xn:Int):=by omega
        cases hx:wds xz
        .rw [hx] at HX;go_wp2_with (go_at_call 246;refine (HX.o _ hik).mono ?_;rintro e w1 ⟨rfl,rfl⟩)
         go_ret;exact ⟨aA (by rw [HR.o];exact (HZ.o (by unfold bko;dsimp only;rw [hx];simp)).symm),hB0⟩
        .rw [hx] at HX;go_wp2_with (go_at_call 246;refine (HX.o _ hik).mono ?_;rintro e w1 ⟨rfl,rfl⟩)
         go_round
         .exact ⟨k+1,by omega,by go_num,zh (HG.o (by unfold bko;dsimp only;rw [hx,decide_eq_true (by omega)];rfl))⟩
         .simp [intOf];omega
     .have HE:=zh (vE bl (fun j hj=>HJ.out j (by omega)));go_wp2;go_ret;exact ⟨aA (by rw [HR.o];exact HE.o.symm),hB0⟩
def rlk (rz:qi)(dn:Nat)(k:Nat):Bool:=decide (0<=rz.getD k 0/\rz.getD k 0%4=0/\rz.getD k 0<=(dn:Int)-4/\(k=0\/rz.getD (k-1) 0<rz.getD k 0))
def rlo (rn:Nat)(rz:qi)(dn:Nat):Bool:=decide (rn<=16)&&(List.range rn).all (rlk rz dn)
theorem fT (f:Nat->Bool)(n k:Nat)(hk:k<n)(h:f k=false):(List.range n).all f=false:=by
 rw [List.all_eq_false];exact ⟨k,by simpa using hk,by simp [h]⟩
theorem fA (f:Nat->Bool)(n:Nat)(h:∀ j,j<n->f j=true):(List.range n).all f=true:=by
 rw [List.all_eq_true];exact fun k hk=>h k (by simpa using hk)
theorem aOe (z:Int):(z.tmod 4 !=0)=decide (z%4≠0):=by
 have h:z.tmod 4=0 ↔ z%4=0:=by
  rw [<- Int.dvd_iff_tmod_eq_zero,<- Int.dvd_iff_emod_eq_zero]
 by_cases c:z%4=0
 .simp [h.2 c,c]
 .have:¬ z.tmod 4=0:=fun e=>c (h.1 e);simp [this,c]
theorem tZ (nm:ByteArray)(v1 v2:Value)(da:qO)(dn dc:Nat)(bss:Int)(ra:qO)(rn rc:Nat)(rz:qi)(v6 v7:Value)(w:qw)(hd:dn<=maxLen)(h:IS w ra rn rc rz):
 qC 205 #[.agg #[.string nm,v1,v2,qS da dn dc,qI bss,qS ra rn rc,v6,v7]] w (qB w (.bool (rlo rn rz dn))):=by
 obtain ⟨W,hW,hB0,kb⟩:=nwb w #[.string nm,v1,v2,qS da dn dc,qI bss,qS ra rn rc,v6,v7] 138;obtain ⟨q0,q1,q2,q3,q4,q5,q6,q7⟩:=kb.eight;obtain ⟨r,hr⟩:=eqx (rlo rn rz dn);rw [<- hr];unfold rlo at hr;have h0:=h.bw hB0;have hm1:=h.2.1;unfold maxLen at hm1 hd;have HW:=zh hW;clear hW;by_cases c1:16<rn
 .have HR:=zh (show r=false by rw [hr,xS (by omega)];rfl);clear hr;have c1':(16:Int)<(rn:Int):=by omega
  go_enter func205,ntmps205
  go_wp2_with (rw [<- HW.o])
  go_ret;exact ⟨aA HR.o.symm,hB0⟩
 .have c1':¬ (16:Int)<(rn:Int):=by omega
  have HR:=zh (show r=(List.range rn).all (rlk rz dn) by rw [hr,xR (by omega)];rfl);clear hr;go_enter func205,ntmps205
  go_wp2_with (rw [<- HW.o])
  go_loop [3] (fun i=>∃ k:Nat,k<=rn/\i=qI k/\Hid (∀ j,j<k->rlk rz dn j=true)) (fun i=>rn-(intOf i).toNat)
  .exact ⟨0,xC _,rfl,zh (fun j hj=>by omega)⟩
  .obtain ⟨k,hk,rfl,HJ⟩:=hrel;by_cases hlt:k<rn
   .have hlt':(k:Int)<(rn:Int):=by omega
    obtain ⟨bb,off,rfl⟩:=h0.addr (by omega);have hck:=h0.at k hlt;have HZ:=zh (fT (rlk rz dn) rn k hlt)
    have HG:=zh (show rlk rz dn k=true->∀ j,j<k+1->rlk rz dn j=true from fun h j hj=>by
     by_cases e:j=k
     .subst e;exact h
     .exact HJ.out j (by omega))
    have HK:Zh (∀ b:Bool,(b=true ↔ (0<=rz.getD k 0/\rz.getD k 0%4=0/\rz.getD k 0<=(dn:Int)-4/\(k=0\/rz.getD (k-1) 0<rz.getD k 0)))->rlk rz dn k=b):=fun b hb=>by unfold rlk;rw [xJ,hb];simp
    have hrg:=h0.range k;unfold wfi at hrg;obtain ⟨g0,g1⟩:=hrg;have ht4:=aOe (rz.getD k 0);by_cases k0:k=0
    .subst k0;simp only [Nat.add_zero] at hck;generalize rz.getD 0 0=z at *;by_cases d1:z<0
     .go_wp2;go_ret;exact ⟨aA (by rw [HR.o];exact (HZ.o (HK.o false (by simp;omega))).symm),hB0⟩
     .by_cases d2:z%4≠0
      .rw [xR d2] at ht4;go_wp2;go_ret;exact ⟨aA (by rw [HR.o];exact (HZ.o (HK.o false (by simp;omega))).symm),hB0⟩
      .rw [xS d2] at ht4;by_cases d3:(dn:Int)-4<z
       .go_wp2;go_ret;exact ⟨aA (by rw [HR.o];exact (HZ.o (HK.o false (by simp;omega))).symm),hB0⟩
       .go_wp2
        go_round
        .exact ⟨1,by omega,by go_num,zh (HG.o (HK.o true (by simp;omega)))⟩
        .simp [intOf];omega
    .have hpk:=h0.at (k-1) (by omega);have hk0:(0:Int)<(k:Int):=by omega
     have hk1:(0:Int)<=(k:Int)-1:=by omega
     have hk2:(k:Int)-1<(rn:Int):=by omega
     generalize rz.getD (k-1) 0=y at *;generalize rz.getD k 0=z at *;by_cases d1:z<0
     .go_wp2;go_ret;exact ⟨aA (by rw [HR.o];exact (HZ.o (HK.o false (by simp;omega))).symm),hB0⟩
     .by_cases d2:z%4≠0
      .rw [xR d2] at ht4;go_wp2;go_ret;exact ⟨aA (by rw [HR.o];exact (HZ.o (HK.o false (by simp;omega))).symm),hB0⟩
      .rw [xS d2] at ht4;by_cases d3:(dn:Int)-4<z
       .go_wp2;go_ret;exact ⟨aA (by rw [HR.o];exact (HZ.o (HK.o false (by simp;omega))).symm),hB0⟩
       .by_cases d4:z<=y
        .go_wp2;go_ret;exact ⟨aA (by rw [HR.o];exact (HZ.o (HK.o false (by simp;omega))).symm),hB0⟩
        .go_wp2
         go_round
         .exact ⟨k+1,by omega,by go_num,zh (HG.o (HK.o true (by simp;omega)))⟩
         .simp [intOf];omega
   .have HE:=zh (fA (rlk rz dn) rn (fun j hj=>HJ.out j (by omega)));go_wp2;go_ret;exact ⟨aA (by rw [HR.o];exact HE.o.symm),hB0⟩
theorem aAs (nm:ByteArray)(v1 v2:Value)(da:qO)(dn dc:Nat)(bss:Int)(ra:qO)(rn rc:Nat)(rz:qi)(v6 v7:Value)(w:qw)(hd:dn<=maxLen)(h:IS w ra rn rc rz):
 qC 228 #[.agg #[.string nm,v1,v2,qS da dn dc,qI bss,qS ra rn rc,v6,v7]] w (qB w (.bool (rlo rn rz dn))):=by
 obtain ⟨W,hW,hB0,kb⟩:=nwb w #[.string nm,v1,v2,qS da dn dc,qI bss,qS ra rn rc,v6,v7] 138;obtain ⟨q0,q1,q2,q3,q4,q5,q6,q7⟩:=kb.eight;obtain ⟨r,hr⟩:=eqx (rlo rn rz dn);rw [<- hr];unfold rlo at hr;have h0:=h.bw hB0;have hm1:=h.2.1;unfold maxLen at hm1 hd;have HW:=zh hW;clear hW;by_cases c1:16<rn
 .have HR:=zh (show r=false by rw [hr,xS (by omega)];rfl);clear hr;have c1':(16:Int)<(rn:Int):=by omega
  go_enter func228,ntmps228
  go_wp2_with (rw [<- HW.o])
  go_ret;exact ⟨aA HR.o.symm,hB0⟩
 .have c1':¬ (16:Int)<(rn:Int):=by omega
  have HR:=zh (show r=(List.range rn).all (rlk rz dn) by rw [hr,xR (by omega)];rfl);clear hr;go_enter func228,ntmps228
  go_wp2_with (rw [<- HW.o])
  go_loop [12] (fun i=>∃ k:Nat,k<=rn/\i=qI k/\Hid (∀ j,j<k->rlk rz dn j=true)) (fun i=>rn-(intOf i).toNat)
  .exact ⟨0,xC _,rfl,zh (fun j hj=>by omega)⟩
  .obtain ⟨k,hk,rfl,HJ⟩:=hrel;by_cases hlt:k<rn
   .have hlt':(k:Int)<(rn:Int):=by omega
    obtain ⟨bb,off,rfl⟩:=h0.addr (by omega);have hck:=h0.at k hlt;have HZ:=zh (fT (rlk rz dn) rn k hlt)
    have HG:=zh (show rlk rz dn k=true->∀ j,j<k+1->rlk rz dn j=true from fun h j hj=>by
     by_cases e:j=k
     .subst e;exact h
     .exact HJ.out j (by omega))
    have HK:Zh (∀ b:Bool,(b=true ↔ (0<=rz.getD k 0/\rz.getD k 0%4=0/\rz.getD k 0<=(dn:Int)-4/\(k=0\/rz.getD (k-1) 0<rz.getD k 0)))->rlk rz dn k=b):=fun b hb=>by unfold rlk;rw [xJ,hb];simp
    have hrg:=h0.range k;unfold wfi at hrg;obtain ⟨g0,g1⟩:=hrg;have ht4:=aOe (rz.getD k 0);have HU:=zh (fun w=>cZ (rz.getD k 0) ((dn:Int)-4) w);by_cases k0:k=0
    .subst k0;simp only [Nat.add_zero] at hck;generalize rz.getD 0 0=z at *;by_cases d2:z%4≠0
     .rw [xR d2] at ht4;go_wp2;go_ret;exact ⟨aA (by rw [HR.o];exact (HZ.o (HK.o false (by simp;omega))).symm),hB0⟩
     .rw [xS d2] at ht4;by_cases d3:0<=z/\z<=(dn:Int)-4
      .rw [xR d3] at HU;go_wp2_with (go_at_call 155;refine (HU.o _).mono ?_;rintro e w1 ⟨rfl,rfl⟩)
       go_round
       .exact ⟨1,by omega,by go_num,zh (HG.o (HK.o true (by simp;omega)))⟩
       .simp [intOf];omega
      .rw [xS d3] at HU;go_wp2_with (go_at_call 155;refine (HU.o _).mono ?_;rintro e w1 ⟨rfl,rfl⟩)
       go_ret;exact ⟨aA (by rw [HR.o];exact (HZ.o (HK.o false (by simp;omega))).symm),hB0⟩
    .have hpk:=h0.at (k-1) (by omega);have hk0:(0:Int)<(k:Int):=by omega
     have hk1:(0:Int)<=(k:Int)-1:=by omega
     have hk2:(k:Int)-1<(rn:Int):=by omega
     generalize rz.getD (k-1) 0=y at *;generalize rz.getD k 0=z at *;by_cases d2:z%4≠0
     .rw [xR d2] at ht4;go_wp2;go_ret;exact ⟨aA (by rw [HR.o];exact (HZ.o (HK.o false (by simp;omega))).symm),hB0⟩
     .rw [xS d2] at ht4;by_cases d3:0<=z/\z<=(dn:Int)-4
      .rw [xR d3] at HU;by_cases d4:z<=y
       .go_wp2_with (go_at_call 155;refine (HU.o _).mono ?_;rintro e w1 ⟨rfl,rfl⟩)
        go_ret;exact ⟨aA (by rw [HR.o];exact (HZ.o (HK.o false (by simp;omega))).symm),hB0⟩
       .go_wp2_with (go_at_call 155;refine (HU.o _).mono ?_;rintro e w1 ⟨rfl,rfl⟩)
        go_round
        .exact ⟨k+1,by omega,by go_num,zh (HG.o (HK.o true (by simp;omega)))⟩
        .simp [intOf];omega
      .rw [xS d3] at HU;go_wp2_with (go_at_call 155;refine (HU.o _).mono ?_;rintro e w1 ⟨rfl,rfl⟩)
       go_ret;exact ⟨aA (by rw [HR.o];exact (HZ.o (HK.o false (by simp;omega))).symm),hB0⟩
   .have HE:=zh (fA (rlk rz dn) rn (fun j hj=>HJ.out j (by omega)));go_wp2;go_ret;exact ⟨aA (by rw [HR.o];exact HE.o.symm),hB0⟩
def zS:ByteArray:=⟨#[]⟩
def SS (w:qw)(a:qO)(n cap:Nat)(ss:List ByteArray):Prop:=
 ss.length=n/\n<=maxLen/\(∀ s∈ss,s.size<=1048576)/\(n≠0->∃ b off,a=some (qR b off)/\∀ i,i<n->w.cell? (qR b (off+i))=some (.string (ss.getD i zS)))/\n<=cap
theorem SS.bw {w w':qw}{a:qO}(h:SS w a n cap ss)(hb:qY w w'):SS w' a n cap ss:=by
 obtain ⟨h1,h2,h3,h4,h5⟩:=h;refine ⟨h1,h2,h3,fun hn=>?_,h5⟩;obtain ⟨b,off,e,hc⟩:=h4 hn;exact ⟨b,off,e,fun i hi=>(hb.cell (xD w _ (hc i hi))).trans (hc i hi)⟩
theorem SS.addr {w:qw}{a:qO}(h:SS w a n cap ss)(hn:n≠0):∃ b off,a=some (qR b off):=by
 obtain ⟨b,off,e,_⟩:=h.2.2.2.1 hn;exact ⟨b,off,e⟩
theorem SS.at {w:qw}{b off n cap:Nat}{ss:List ByteArray}(h:SS w (some (qR b off)) n cap ss)(i:Nat)(hi:i<n):w.cell? (qR b (off+i))=some (.string (ss.getD i zS)):=by
 obtain ⟨b',off',e,hc⟩:=h.2.2.2.1 (by omega);simp at e;obtain ⟨rfl,rfl⟩:=e;exact hc i hi
theorem SS.size {w:qw}{a:qO}(h:SS w a n cap ss)(i:Nat):(ss.getD i zS).size<=1048576:=by
 by_cases hi:i<ss.length
 .have:=h.2.2.1 ss[i] (List.getElem_mem hi);simpa [xB,hi] using this
 .rw [xB,xO (Nat.le_of_not_lt hi)];exact (by decide:(zS).size<=1048576)
def imo (n:Nat)(ss:List ByteArray):Bool:=decide (n<=16)&&(List.range n).all fun k=>fG (ss.getD k zS)
theorem wK (nm:ByteArray)(v1 v2 v3 v5 v7:Value)(bss:Int)(ia:qO)(n ic:Nat)(ss:List ByteArray)(w:qw)(h:SS w ia n ic ss):
 qC 229 #[.agg #[.string nm,v1,v2,v3,qI bss,v5,qS ia n ic,v7]] w (qB w (.bool (imo n ss))):=by
 obtain ⟨W,hW,hB0,kb⟩:=nwb w #[.string nm,v1,v2,v3,qI bss,v5,qS ia n ic,v7] 138;obtain ⟨q0,q1,q2,q3,q4,q5,q6,q7⟩:=kb.eight;obtain ⟨r,hr⟩:=eqx (imo n ss);rw [<- hr];unfold imo at hr;have hm1:=h.2.1;unfold maxLen at hm1;have HW:=zh hW;clear hW;by_cases c1:16<n
 .have HR:=zh (show r=false by rw [hr,xS (by omega)];rfl);clear hr;have c1':(16:Int)<(n:Int):=by omega
  go_enter func229,ntmps229
  go_wp2_with (rw [<- HW.o])
  go_ret;exact ⟨aA HR.o.symm,hB0⟩
 .have c1':¬ (16:Int)<(n:Int):=by omega
  have HR:=zh (show r=(List.range n).all (fun k=>fG (ss.getD k zS)) by rw [hr,xR (by omega)];rfl);clear hr;go_enter func229,ntmps229
  go_wp2_with (rw [<- HW.o])
  go_loopw [15] (fun i wr=>∃ k:Nat,k<=n/\i=qI k/\Hid (∀ j,j<k->fG (ss.getD j zS)=true)/\qY w wr) (qf n)
  .exact ⟨0,xC _,rfl,zh (fun j hj=>by omega),hB0⟩
  .obtain ⟨k,hk,rfl,HJ,hB⟩:=hrel;by_cases hlt:k<n
   .have hlt':(k:Int)<(n:Int):=by omega
    obtain ⟨bb,off,rfl⟩:=h.addr (by omega);have hck:=(h.bw hB).at k hlt;have HZ:=zh (fT (fun k=>fG (ss.getD k zS)) n k hlt)
    have HG:=zh (show fG (ss.getD k zS)=true->∀ j,j<k+1->fG (ss.getD j zS)=true from fun h j hj=>by
     by_cases e:j=k
     .subst e;exact h
     .exact HJ.out j (by omega))
    have HC:=zh (fun w=>mJ (ss.getD k zS) w (h.size k));generalize ss.getD k zS=s at *;cases hf:fG s
    .rw [aFt,hf,if_neg (by simp)] at HC;go_wp2_with fail
     refine (HC.o _).mono ?_;rintro e w1 ⟨rfl,hb1⟩;go_wp2;go_ret;exact ⟨aA (by rw [HR.o];exact (HZ.o hf).symm),hB.trans (hb1.mono hB.size)⟩
    .rw [aFt,hf,if_pos rfl] at HC;go_wp2_with fail
     refine (HC.o _).mono ?_;rintro e w1 ⟨rfl,hb1⟩;go_wp2
     go_roundw
     .exact ⟨k+1,by omega,by go_num,zh (HG.o hf),hB.trans (hb1.mono hB.size)⟩
     .simp [qf,intOf];omega
   .have HE:=zh (fA (fun k=>fG (ss.getD k zS)) n (fun j hj=>HJ.out j (by omega)));go_wp2;go_ret;exact ⟨aA (by rw [HR.o];exact HE.o.symm),hB⟩
def pcn (tn bn:Nat)(bl:List Bk)(b:Int):Int:=if b=-1 then (tn:Int) else if 0<=b/\b<(bn:Int) then ((bl.getD b.toNat zB).2.1:Int) else -1
def aMf (w:qw)(ta:qO)(tn tc bn:Nat)(bl:List Bk)(b:Int)(e:Ending)(w':qw):Prop:=
 ∃ a n c ok,e=.returned (.tuple #[qS a n c,.bool ok])/\ok=decide (0<=pcn tn bn bl b)/\(ok=true->(n:Int)=pcn tn bn bl b)/\n<=maxLen/\qY w w'
theorem gS (nm:ByteArray)(ta:qO)(tn tc:Nat)(ba:qO)(bn bc:Nat)(bl:List Bk)(v3 v5 v6 v7:Value)(bss b:Int)(w:qw)(htn:tn<=maxLen)(hb:BKS w ba bn bc bl):
 qC 115 #[.agg #[.string nm,qS ta tn tc,qS ba bn bc,v3,qI bss,v5,v6,v7],qI b] w (aMf w ta tn tc bn bl b):=by
 obtain ⟨W,hW,hB0,kb⟩:=nwb w #[.string nm,qS ta tn tc,qS ba bn bc,v3,qI bss,v5,v6,v7] 138;obtain ⟨q0,q1,q2,q3,q4,q5,q6,q7⟩:=kb.eight;have hb0:=hb.bw hB0;have hm2:=hb.2.1;unfold maxLen at hm2;have HW:=zh hW;clear hW;by_cases c1:b=-1
 .subst c1;have HP:Zh (pcn tn bn bl (-1)=(tn:Int)):=rfl;go_enter func115,ntmps115
  go_wp2_with (rw [<- HW.o])
  go_ret2
  exact ⟨ta,tn,tc,true,rfl,by rw [HP.o];simp,fun _=>HP.o.symm,htn,hB0⟩
 .have c1':(b == -1)=false:=by simpa using c1
  by_cases c2:b<0
  .have HP:=zh (show pcn tn bn bl b=-1 by unfold pcn;rw [if_neg c1,if_neg (by omega)]);go_enter func115,ntmps115
   go_wp2_with (rw [<- HW.o])
   go_ret2
   exact ⟨_,0,0,false,rfl,by rw [HP.o];rfl,(by intro h;cases h),xC _,by first|exact hB0.alloc hB0.size _|exact hB0⟩
  .by_cases c3:(bn:Int)<=b
   .have HP:=zh (show pcn tn bn bl b=-1 by unfold pcn;rw [if_neg c1,if_neg (by omega)]);go_enter func115,ntmps115
    go_wp2_with (rw [<- HW.o])
    go_ret2
    exact ⟨_,0,0,false,rfl,by rw [HP.o];rfl,(by intro h;cases h),xC _,by first|exact hB0.alloc hB0.size _|exact hB0⟩
   .have c3':b<(bn:Int):=by omega
    have HP:=zh (show pcn tn bn bl b=((bl.getD b.toNat zB).2.1:Int) by unfold pcn;rw [if_neg c1,if_pos (by omega)]);obtain ⟨bb,off,rfl⟩:=hb0.addr (by omega);have hck:=hb0.at b.toNat (by omega);have hik:=hb0.2.2.2.1 b.toNat (by omega);generalize bl.getD b.toNat zB=B at *;obtain ⟨xa,xn,xc,xz⟩:=B;dsimp only at hck hik HP;have HM:=zh hik.2.1;clear hik;have c2':0<=b:=by omega
    go_enter func115,ntmps115
    go_wp2_with (rw [<- HW.o])
    go_ret2
    exact ⟨xa,xn,xc,true,rfl,by rw [HP.o];simp,fun _=>HP.o.symm,HM.o,hB0⟩
theorem gP (nm:ByteArray)(ta:qO)(tn tc:Nat)(ba:qO)(bn bc:Nat)(bl:List Bk)(v3 v5 v6 v7:Value)(bss b:Int)(w:qw)(htn:tn<=maxLen)(hb:BKS w ba bn bc bl):
 qC 175 #[.agg #[.string nm,qS ta tn tc,qS ba bn bc,v3,qI bss,v5,v6,v7],qI b] w (aMf w ta tn tc bn bl b):=by
 obtain ⟨W,hW,hB0,kb⟩:=nwb w #[.string nm,qS ta tn tc,qS ba bn bc,v3,qI bss,v5,v6,v7] 138;obtain ⟨q0,q1,q2,q3,q4,q5,q6,q7⟩:=kb.eight;have hb0:=hb.bw hB0;have hm2:=hb.2.1;unfold maxLen at hm2;have HW:=zh hW;clear hW;by_cases c1:b=-1
 .subst c1;have HP:Zh (pcn tn bn bl (-1)=(tn:Int)):=rfl;go_enter func175,ntmps175
  go_wp2_with (rw [<- HW.o])
  go_ret2
  exact ⟨ta,tn,tc,true,rfl,by rw [HP.o];simp,fun _=>HP.o.symm,htn,hB0⟩
 .have c1':(b == -1)=false:=by simpa using c1
  by_cases c2:b<0
  .have HP:=zh (show pcn tn bn bl b=-1 by unfold pcn;rw [if_neg c1,if_neg (by omega)]);go_enter func175,ntmps175
   go_wp2_with (rw [<- HW.o])
   go_ret2
   exact ⟨_,0,0,false,rfl,by rw [HP.o];rfl,(by intro h;cases h),xC _,by first|exact hB0.alloc hB0.size _|exact hB0⟩
  .by_cases c3:(bn:Int)<=b
   .have HP:=zh (show pcn tn bn bl b=-1 by unfold pcn;rw [if_neg c1,if_neg (by omega)]);go_enter func175,ntmps175
    go_wp2_with (rw [<- HW.o])
    go_ret2
    exact ⟨_,0,0,false,rfl,by rw [HP.o];rfl,(by intro h;cases h),xC _,by first|exact hB0.alloc hB0.size _|exact hB0⟩
   .have c3':b<(bn:Int):=by omega
    have HP:=zh (show pcn tn bn bl b=((bl.getD b.toNat zB).2.1:Int) by unfold pcn;rw [if_neg c1,if_pos (by omega)]);obtain ⟨bb,off,rfl⟩:=hb0.addr (by omega);have hck:=hb0.at b.toNat (by omega);have hik:=hb0.2.2.2.1 b.toNat (by omega);generalize bl.getD b.toNat zB=B at *;obtain ⟨xa,xn,xc,xz⟩:=B;dsimp only at hck hik HP;have HM:=zh hik.2.1;clear hik;have c2':0<=b:=by omega
    go_enter func175,ntmps175
    go_wp2_with (rw [<- HW.o])
    go_ret2
    exact ⟨xa,xn,xc,true,rfl,by rw [HP.o];simp,fun _=>HP.o.symm,HM.o,hB0⟩
