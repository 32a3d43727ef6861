import Derived.Test.YtncccmeomcaabaaGreatRows
import Derived.WalkKit
import Derived.WalkLawsBesides
import Derived.WalkSpells
import Derived.OrdersHeld
import Derived.BigQuiet
import Derived.Deep.QuietTactic
import Derived.Deep.RegionWith
import Derived.Laws.IdiomStrings
import Derived.Lib.Bytealg
import Derived.WideShapes
import Derived.Deep.RegionHeld3
set_option maxHeartbeats 2000000
namespace Go.Proofs.YtncccmeomcaabaaGreat
open Go.RowKit
open Go.Proofs.Tryz
set_option linter.all false
set_option maxRecDepth 100000
variable {B b base cap fuel g i k n off sz:Nat}{P:Program}{Q:Exit->Act->World->Prop}{S S':Nat->Prop}{a:Act}{cs:Array Value}{l:List Value}{listed:Array Bool}{md:Region.Mode}{oi:Oper}{ops:Array Oper}{p:Prop}{v v0 v1 v10 v11 v12 v13 v2 v3 v4 v5 v6 v7 v8 v9:Value}{w:World}
abbrev qO:=Option Addr
theorem xC (n:Nat):0<=n:=Nat.zero_le n
theorem xM {a c:Nat}(h:a<=b)(k:b<=c):a<=c:=Nat.le_trans h k
def xA:=@And.intro
def xB:=@List.getD_eq_getElem?_getD
def xD:=@World.block_lt_of_cell?
def xE:=@List.eq_nil_of_length_eq_zero
def xF:=@World.size_alloc
def xG:=@List.take_of_length_le
def xH:=@List.length_map
def xI:=@List.length_append
def xJ:=@Bool.eq_iff_iff
def xK:=@Array.getD_eq_getD_getElem?
def xL:=@Int.tmod_eq_emod_of_nonneg
def xN:=@List.getElem?_eq_getElem
def xO:=@List.getElem?_eq_none
def xP:=@IntWalk.i64_left
def xQ:=@IntWalk.wrap64_in
def xR:=@decide_eq_true
def xS:=@decide_eq_false
def xT:=@List.flatMap_cons
def xU:=@List.flatMap_append
def xV:=@Int.eq_ofNat_of_zero_le
def xW:=@Array.toList_setIfInBounds
def xX:=@List.flatMap_singleton
def xY:=@Int.toNat_natCast
def xZ:=@Classical.not_not
abbrev qI (x:Int):Value:=.int .i64 x
abbrev qS (a:Option Addr)(n c:Nat):Value:=.slice a n c
abbrev qP (b:Nat):Option Addr:=some ⟨b,0,none⟩
abbrev qZ:Array Value:=#[.slice none 0 0,.int .i64 0,.int .i64 0,.int .i64 0,.int .i64 0,.int .i64 0,.slice none 0 0,.slice none 0 0,.slice none 0 0,.slice none 0 0,.int .i64 0,.int .i64 0,.slice none 0 0,.slice none 0 0,.int .i64 0]
abbrev qz:Array Value:=#[.slice none 0 0,.int .i64 0,.slice none 0 0,.int .i64 0,.int .i64 0,.slice none 0 0]
abbrev qV (a:Option Addr)(b c:Nat)(d:Option Addr)(e f:Nat)(g:Option Addr)(h i:Nat):Array Value:=#[.slice a b c,.slice d e f,.slice g h i]
abbrev qW (a b c d:Int):Array Value:=#[.int .i64 a,.int .i64 b,.int .i64 c,.int .i64 d]
abbrev qT (a b c:Int):Array Value:=#[.int .i64 a,.int .i64 b,.int .i64 c]
abbrev qM (s:ByteArray)(a:Option Addr)(b c:Nat)(d:Option Addr)(e f:Nat)(g:Option Addr)(h i:Nat)(x:Int)(j:Option Addr)(k l:Nat)(m:Option Addr)(n o:Nat)(p:Option Addr)(q r:Nat):Array Value:=#[.string s,.slice a b c,.slice d e f,.slice g h i,.int .i64 x,.slice j k l,.slice m n o,.slice p q r]
abbrev qY (w w':World):Prop:=Below w.heap.size w w'
abbrev qB (w:World)(v:Value)(e:Ending)(w':World):Prop:=e=.returned v/\Below w.heap.size w w'
def Zh (p:Prop):Prop:=p
theorem Zh.o (h:Zh p):p:=h
theorem zh (h:p):Zh p:=h
abbrev qw:=World
abbrev qi:=List Int
theorem yB {α:Type _}{l:List α}{a b:α}:(a::l).set 0 b=b::l:=rfl
theorem yC {α:Type _}{a b:α}{l:List α}:(a::l).set (n+1) b=a::l.set n b:=rfl
def yA:=@List.setIfInBounds_toArray
def yD:=@List.getElem_toArray
def yE:=@List.getElem_cons_succ
def yF:=@List.getElem_cons_zero
abbrev qC (f:Nat)(a:Array Value)(w:World)(Q:Ending->World->Prop):Prop:=Calls prog f a w Q
theorem bal {o:Obj}:Below w.heap.size w (w.alloc o):=(Below.refl _ _).alloc (Nat.le_refl _) _
abbrev qf (n:Nat)(v:Value)(_:World):Nat:=n-(intOf v).toNat
abbrev qR (b i:Nat):Addr:=⟨b,i,none⟩
theorem eqx {α:Sort _}(t:α):∃ x,x=t:=⟨_,rfl⟩
theorem brf:Below b w w:=Below.refl _ _
theorem aN:n<=n:=Nat.le_refl _
theorem tkv {S:World->Prop}(hi:ops[i]?=some oi)(hc:(Region.noSelect ops&&Region.free md ops listed i&&(Region.ready md ops listed).contains i)=true)(hQ:∀ c a w,Q (.panic c) (a.put oi.dst v) w->Q (.panic c) a w)(hw:Region.wanted oi (yielded ops a.tmps)=true)(hy:∀ w,S w->(execOp a.eval oi).run P w=.ok (.value v) w)(hS:S w)(h:wpAnyH P md ops Q S fuel (listed.setIfInBounds i true) (a.put oi.dst v) w):wpAnyH P md ops Q S (fuel+1) listed a w:=by
 simp only [Bool.and_eq_true] at hc;exact wpAnyH_take hi hc.1.1 hc.1.2 hc.2 hQ (Or.inl ⟨hw,hy⟩) hS h
theorem tks {S:World->Prop}(hi:ops[i]?=some oi)(hc:(Region.noSelect ops&&Region.free md ops listed i&&(Region.ready md ops listed).contains i)=true)(hQ:∀ c a w,Q (.panic c) (a.put oi.dst undef) w->Q (.panic c) a w)(hw:Region.wanted oi (yielded ops a.tmps)=false)(hS:S w)(h:wpAnyH P md ops Q S fuel (listed.setIfInBounds i true) (a.put oi.dst undef) w):wpAnyH P md ops Q S (fuel+1) listed a w:=by
 simp only [Bool.and_eq_true] at hc;exact wpAnyH_take hi hc.1.1 hc.1.2 hc.2 hQ (Or.inr ⟨hw,rfl⟩) hS h
theorem tkV {S:World->Prop}(i:Nat)(v:Value)(hi:ops[i]?=some oi)(hy:∀ w,S w->(execOp a.eval oi).run P w=.ok (.value v) w)(h:wpAnyH P md ops Q S fuel (listed.setIfInBounds i true) (a.put oi.dst v) w)(hc:(Region.noSelect ops&&Region.free md ops listed i&&(Region.ready md ops listed).contains i)=true:=by kernel_rfl)(hQ:∀ c a w,Q (.panic c) (a.put oi.dst v) w->Q (.panic c) a w:=by exact fun _ _ _ h=>h)(hw:Region.wanted oi (yielded ops a.tmps)=true:=by rfl)(hS:S w:=by assumption):wpAnyH P md ops Q S (fuel+1) listed a w:=tkv hi hc hQ hw hy hS h
theorem tkS {S:World->Prop}(i:Nat)(hi:ops[i]?=some oi)(h:wpAnyH P md ops Q S fuel (listed.setIfInBounds i true) (a.put oi.dst undef) w)(hc:(Region.noSelect ops&&Region.free md ops listed i&&(Region.ready md ops listed).contains i)=true:=by kernel_rfl)(hQ:∀ c a w,Q (.panic c) (a.put oi.dst undef) w->Q (.panic c) a w:=by exact fun _ _ _ h=>h)(hw:Region.wanted oi (yielded ops a.tmps)=false:=by rfl)(hS:S w:=by assumption):wpAnyH P md ops Q S (fuel+1) listed a w:=tks hi hc hQ hw hS h
theorem aH {k:IntKind}{a b:Int}(h:a=b):Ending.returned (.int k a)=.returned (.int k b):=by rw [h]
theorem aA {a b:Bool}(h:a=b):Ending.returned (.bool a)=.returned (.bool b):=by rw [h]
theorem aO (h:p):Hid p:=h
theorem nT (h:Hid p):p:=h
theorem sD (n:Nat)(h:n<=20:=by omega):(2:Int)^n<=1048576:=by
 have h1:(2:Nat)^n<=2^20:=Nat.pow_le_pow_right (by omega) h;have h2:((2^n:Nat):Int)=(2:Int)^n:=by simp
 have h3:(2:Nat)^20=1048576:=rfl;omega
theorem pow_pos (n:Nat):0<(2:Int)^n:=by
 have h1:0<(2:Nat)^n:=Nat.pow_pos (by omega);have h2:((2^n:Nat):Int)=(2:Int)^n:=by simp
 omega
theorem aLp {W w1:World}(hb:qY W w1):(∀ b o,b<W.heap.size->w1.cell? ⟨b,o,none⟩=W.cell? ⟨b,o,none⟩)/\(∀ b o,b<W.heap.size->w1.frozen? ⟨b,o,none⟩=W.frozen? ⟨b,o,none⟩):=
 ⟨fun b o h=>hb.cell (p:=⟨b,o,none⟩) h,fun b o h=>hb.frozen (p:=⟨b,o,none⟩) h⟩
def BS (w:qw)(a:qO)(n cap:Nat)(zs:qi):Prop:=
 zs.length=n/\n<=maxLen/\(∀ z∈zs,0<=z/\z<=255)/\(n≠0->∃ b off,a=some ⟨b,off,none⟩/\∀ i,i<n->w.cell? ⟨b,off+i,none⟩=some (.int .u8 (zs.getD i 0)))/\n<=cap
theorem BS.bw {w w':qw}{a:qO}{zs:qi}(h:BS w a n cap zs)(hb:qY w w'):BS w' a n cap zs:=by
 obtain ⟨h1,h2,h3,h4,h5⟩:=h;refine ⟨h1,h2,h3,fun hn=>?_,h5⟩;obtain ⟨b,off,ha,hc⟩:=h4 hn;refine ⟨b,off,ha,fun i hi=>?_⟩;have:=hc i hi;rw [hb.cell (p:=⟨b,off+i,none⟩) (xD w _ this)];exact this
theorem BS.range {w:qw}{a:qO}{zs:qi}(h:BS w a n cap zs)(i:Nat):0<=zs.getD i 0/\zs.getD i 0<=255:=by
 by_cases hi:i<zs.length
 .have:=h.2.2.1 zs[i] (List.getElem_mem hi);simpa [xB,hi] using this
 .simp [xB,Nat.le_of_not_lt hi]
def Row8 (w:qw)(g:Nat)(zs:qi):Prop:=w.heap[g]?=some (.cells (zs.map (Value.int .u8)).toArray 5 (0,0))
theorem Row8.cell {w:qw}{zs:qi}(h:Row8 w g zs)(i:Nat)(hi:i<zs.length):w.cell? ⟨g,i,none⟩=some (.int .u8 (zs.getD i 0)):=by
 rw [cell_of_row w g i _ _ _ h];simp [xB,hi]
theorem Row8.frozen {w:qw}{zs:qi}(h:Row8 w g zs)(i:Nat):w.frozen? ⟨g,i,none⟩=false:=frozen_of_row w g i _ _ h
theorem Row8.set {w:qw}{zs:qi}(h:Row8 w g zs)(i:Nat)(z:Int):Row8 (w.setCell ⟨g,i,none⟩ (.int .u8 z)) g (zs.set i z):=by
 unfold Row8 at *;rw [heap_setCell_same w g i _ _ _ h];simp [List.map_set]
theorem Row8.lt {w:qw}{zs:qi}(h:Row8 w g zs):g<w.heap.size:=by
 unfold Row8 at h;by_cases hg:g<w.heap.size
 .exact hg
 .simp [Array.getElem?_eq_none (Nat.le_of_not_lt hg)] at h
theorem Row8.bw {w w':qw}{zs:qi}(h:Row8 w g zs)(hb:qY w w'):Row8 w' g zs:=by
 have:=hb.block g h.lt;unfold Row8 at *;rw [this];exact h
theorem Row8.bs {w:qw}{zs:qi}(h:Row8 w g zs)(hm:zs.length<=maxLen)(hz:∀ z∈zs,0<=z/\z<=255)(n cap:Nat)(hn:zs.length=n)(hc:n<=cap:=by exact aN):BS w (qP g) n cap zs:=by
 subst hn;exact ⟨rfl,hm,hz,fun _=>⟨g,0,rfl,fun i hi=>by rw [Nat.zero_add];exact h.cell i hi⟩,hc⟩
def Blk (w:qw)(g:Nat)(cs:Array Value)(t:TypeId):Prop:=w.heap[g]?=some (.cells cs t (0,0))
theorem Blk.cell {w:qw}{t:TypeId}(h:Blk w g cs t)(i:Nat):w.cell? ⟨g,i,none⟩=cs[i]?:=cell_of_row w g i _ _ _ h
theorem Blk.frozen {w:qw}{t:TypeId}(h:Blk w g cs t)(i:Nat):w.frozen? ⟨g,i,none⟩=false:=frozen_of_row w g i _ _ h
theorem Blk.lt {w:qw}{t:TypeId}(h:Blk w g cs t):g<w.heap.size:=by
 unfold Blk at h;by_cases hg:g<w.heap.size
 .exact hg
 .simp [Array.getElem?_eq_none (Nat.le_of_not_lt hg)] at h
theorem Blk.bw {w w':qw}{t:TypeId}(h:Blk w g cs t)(hb:qY w w'):Blk w' g cs t:=by
 have:=hb.block g h.lt;unfold Blk at *;rw [this];exact h
theorem Blk.new (w:qw)(cs:Array Value)(t:TypeId):Blk (w.alloc (.cells cs t)) w.heap.size cs t:=heap_alloc_new w _
theorem nwb (w:qw)(X:Array Value)(T:TypeId):∃ U,U=w.alloc (.cells X T)/\Below w.heap.size w U/\Blk U w.heap.size X T:=⟨_,rfl,(Below.refl _ _).alloc (Nat.le_refl _) _,Blk.new _ _ _⟩
theorem Blk.z4 {w:qw}{t:TypeId}(h:Blk w b #[v0,v1,v2,v3] t):w.cell? ⟨b,0,none⟩=some v0/\w.cell? ⟨b,1,none⟩=some v1/\w.cell? ⟨b,2,none⟩=some v2/\w.cell? ⟨b,3,none⟩=some v3:=⟨h.cell 0,h.cell 1,h.cell 2,h.cell 3⟩
theorem Blk.z6 {w:qw}{t:TypeId}(h:Blk w b #[v0,v1,v2,v3,v4,v5] t):w.cell? ⟨b,0,none⟩=some v0/\w.cell? ⟨b,1,none⟩=some v1/\w.cell? ⟨b,2,none⟩=some v2/\w.cell? ⟨b,3,none⟩=some v3/\w.cell? ⟨b,4,none⟩=some v4/\w.cell? ⟨b,5,none⟩=some v5:=⟨h.cell 0,h.cell 1,h.cell 2,h.cell 3,h.cell 4,h.cell 5⟩
theorem Blk.alloc {w:qw}{t:TypeId}(h:Blk w g cs t)(o:Obj):Blk (w.alloc o) g cs t:=by
 have hl:=h.lt;unfold Blk at *;rw [Below.heap_alloc _ _ _ hl];exact h
theorem Blk.set {w:qw}{t:TypeId}(h:Blk w g cs t)(i:Nat)(v:Value):Blk (w.setCell ⟨g,i,none⟩ v) g (cs.setIfInBounds i v) t:=heap_setCell_same w g i _ _ _ h
theorem Blk.e0 {t:TypeId}(h:Blk w b (v0::l).toArray t):w.cell? ⟨b,0,none⟩=some v0:=by rw [h.cell];simp
theorem Blk.e1 {t:TypeId}(h:Blk w b (v0::v1::l).toArray t):w.cell? ⟨b,1,none⟩=some v1:=by rw [h.cell];simp
theorem Blk.e2 {t:TypeId}(h:Blk w b (v0::v1::v2::l).toArray t):w.cell? ⟨b,2,none⟩=some v2:=by rw [h.cell];simp
theorem Blk.e3 {t:TypeId}(h:Blk w b (v0::v1::v2::v3::l).toArray t):w.cell? ⟨b,3,none⟩=some v3:=by rw [h.cell];simp
theorem Blk.e4 {t:TypeId}(h:Blk w b (v0::v1::v2::v3::v4::l).toArray t):w.cell? ⟨b,4,none⟩=some v4:=by rw [h.cell];simp
theorem Blk.e5 {t:TypeId}(h:Blk w b (v0::v1::v2::v3::v4::v5::l).toArray t):w.cell? ⟨b,5,none⟩=some v5:=by rw [h.cell];simp
theorem Blk.e6 {t:TypeId}(h:Blk w b (v0::v1::v2::v3::v4::v5::v6::l).toArray t):w.cell? ⟨b,6,none⟩=some v6:=by rw [h.cell];simp
theorem Blk.e7 {t:TypeId}(h:Blk w b (v0::v1::v2::v3::v4::v5::v6::v7::l).toArray t):w.cell? ⟨b,7,none⟩=some v7:=by rw [h.cell];simp
theorem Blk.e8 {t:TypeId}(h:Blk w b (v0::v1::v2::v3::v4::v5::v6::v7::v8::l).toArray t):w.cell? ⟨b,8,none⟩=some v8:=by rw [h.cell];simp
theorem Blk.e9 {t:TypeId}(h:Blk w b (v0::v1::v2::v3::v4::v5::v6::v7::v8::v9::l).toArray t):w.cell? ⟨b,9,none⟩=some v9:=by rw [h.cell];simp
theorem Blk.e10 {t:TypeId}(h:Blk w b (v0::v1::v2::v3::v4::v5::v6::v7::v8::v9::v10::l).toArray t):w.cell? ⟨b,10,none⟩=some v10:=by rw [h.cell];simp
theorem Blk.e11 {t:TypeId}(h:Blk w b (v0::v1::v2::v3::v4::v5::v6::v7::v8::v9::v10::v11::l).toArray t):w.cell? ⟨b,11,none⟩=some v11:=by rw [h.cell];simp
theorem Blk.e12 {t:TypeId}(h:Blk w b (v0::v1::v2::v3::v4::v5::v6::v7::v8::v9::v10::v11::v12::l).toArray t):w.cell? ⟨b,12,none⟩=some v12:=by rw [h.cell];simp
theorem Blk.e13 {t:TypeId}(h:Blk w b (v0::v1::v2::v3::v4::v5::v6::v7::v8::v9::v10::v11::v12::v13::l).toArray t):w.cell? ⟨b,13,none⟩=some v13:=by rw [h.cell];simp
theorem Blk.e14 {t:TypeId}{v14:Value}(h:Blk w b (v0::v1::v2::v3::v4::v5::v6::v7::v8::v9::v10::v11::v12::v13::v14::l).toArray t):w.cell? ⟨b,14,none⟩=some v14:=by rw [h.cell];simp
theorem Blk.s0 {t:TypeId}(h:Blk w b (v0::l).toArray t)(x:Value):Blk (w.setCell ⟨b,0,none⟩ x) b (x::l).toArray t:=by have:=h.set 0 x;simpa using this
theorem Blk.s1 {t:TypeId}(h:Blk w b (v0::v1::l).toArray t)(x:Value):Blk (w.setCell ⟨b,1,none⟩ x) b (v0::x::l).toArray t:=by have:=h.set 1 x;simpa using this
theorem Blk.s2 {t:TypeId}(h:Blk w b (v0::v1::v2::l).toArray t)(x:Value):Blk (w.setCell ⟨b,2,none⟩ x) b (v0::v1::x::l).toArray t:=by have:=h.set 2 x;simpa using this
theorem Blk.s3 {t:TypeId}(h:Blk w b (v0::v1::v2::v3::l).toArray t)(x:Value):Blk (w.setCell ⟨b,3,none⟩ x) b (v0::v1::v2::x::l).toArray t:=by have:=h.set 3 x;simpa using this
theorem Blk.other {w:qw}{t:TypeId}(h:Blk w g cs t)(a:Addr)(v:Value)(hg:g≠a.block):Blk (w.setCell a v) g cs t:=by
 unfold Blk at *;rw [heap_setCell_other _ _ _ _ hg];exact h
theorem Row8.other {w:qw}{zs:qi}(h:Row8 w g zs)(a:Addr)(v:Value)(hg:g≠a.block):Row8 (w.setCell a v) g zs:=Blk.other h a v hg
theorem aL (w:qw)(a:Addr)(v:Value):(w.setCell a v).heap.size=w.heap.size:=by simp [World.setCell]
theorem dG {w w':qw}(h:Below w.drew.heap.size w.drew w'):qY w w':=⟨h.os,h.tape,h.output,h.size,h.block⟩
def mid (zs:qi)(k:Nat):List Int:=(List.range zs.length).map (fun i=>if i<k then zs.getD i 0 else 0)
theorem aAt (zs:qi)(k:Nat):(mid zs k).length=zs.length:=by simp [mid]
theorem tB (zs:qi):mid zs 0=List.replicate zs.length 0:=by
 apply List.ext_getElem
 .simp [mid]
 .intro i h1 h2;simp [mid]
theorem aAu (zs:qi):mid zs zs.length=zs:=by
 apply List.ext_getElem
 .simp [mid]
 .intro i h1 h2;simp [mid,h2]
theorem aAs (zs:qi)(k:Nat)(h:k<zs.length):(mid zs k).set k (zs.getD k 0)=mid zs (k+1):=by
 apply List.ext_getElem
 .simp [mid]
 .intro i h1 h2;simp only [mid,List.getElem_set,List.getElem_map,List.getElem_range];by_cases hik:k=i
  .subst hik;simp
  .by_cases h3:i<k
   .simp [hik,h3,show i<k+1 by omega]
   .simp [hik,h3,show ¬ i<k+1 by omega]
structure Turn (S:Nat->Prop)(w w':qw):Prop where
 os:w'.os=w.os
 tape:w'.tape=w.tape
 output:w'.output=w.output
 size:w.heap.size<=w'.heap.size
 block:∀ k,k<w.heap.size->¬ S k->w'.heap[k]?=w.heap[k]?
theorem Turn.refl (S:Nat->Prop)(w:qw):Turn S w w:=⟨rfl,rfl,rfl,aN,fun _ _ _=>rfl⟩
theorem Turn.trans {a b c:qw}(h:Turn S a b)(k:Turn S b c):Turn S a c:=
 ⟨k.os.trans h.os,k.tape.trans h.tape,k.output.trans h.output,xM h.size k.size,fun j hj hs=>(k.block j (Nat.lt_of_lt_of_le hj h.size) hs).trans (h.block j hj hs)⟩
theorem Turn.mono {w w':qw}(h:Turn S w w')(hs:∀ k,S k->S' k):Turn S' w w':=⟨h.os,h.tape,h.output,h.size,fun k hk hn=>h.block k hk (fun e=>hn (hs k e))⟩
theorem aJ {w w':qw}(h:qY w w'):Turn S w w':=⟨h.os,h.tape,h.output,h.size,fun k hk _=>h.block k hk⟩
theorem iU (w:qw)(o:Obj):Turn S w (w.alloc o):=aJ bal
theorem aG {a w w':qw}(h:Below B a w)(ht:Turn S w w')(hS:∀ k,S k->B<=k)(hB:B<=w.heap.size):Below B a w':=
 ⟨ht.os.trans h.os,ht.tape.trans h.tape,ht.output.trans h.output,xM h.size ht.size,fun k hk=>(ht.block k (by omega) (fun e=>by have:=hS k e;omega)).trans (h.block k hk)⟩
theorem aF {w w':qw}{t:TypeId}(ht:Turn S w w')(h:Blk w k cs t)(hk:¬ S k):Blk w' k cs t:=by
 have:=ht.block k h.lt hk;unfold Blk at *;rw [this];exact h
theorem bN (b off i:Nat):(Addr.add (qR b off) i)=(qR b (off+i)):=by
 simp only [Addr.add];split
 .next h=>subst h;rfl
 .rfl
theorem yO:(prog.info? 5).map (fun i=>(i.zero,i.size,i.bytes))=some (some (.int .u8 0),1,1):=by kernel_rfl
theorem aN0 (n:Nat):(madeCells (Value.cells (.int .u8 0)) (n*1))=((List.replicate n (0:Int)).map (Value.int .u8)).toArray:=by
 apply Array.ext
 .simp [size_madeCells]
 .intro i h1 h2;simp [madeCells,Value.cells,Nat.mod_one]
theorem pB {w:qw}(h:w.ownsRow base 5 1 (qS (qP g) n n) n (madeCells (Value.cells (.int .u8 0)) (n*1)).toList):Row8 w g (List.replicate n 0):=by
 obtain ⟨hl,h|⟨g',cap,cur,hv,hb,hh,h1,h2,h3,h4⟩⟩:=h
 .simp at h
 .simp at hv;obtain ⟨rfl,rfl⟩:=hv;unfold Row8;rw [hh]
  have e:cur.toList=(madeCells (Value.cells (.int .u8 0)) (n*1)).toList:=by
   rw [<- h4,xG (by simp [h3])]
  have e2:cur=madeCells (Value.cells (.int .u8 0)) (n*1):=Array.toList_inj.1 e;rw [e2,aN0]
theorem aW {w w':qw}(h:w.grownBy w' none):qY w w':=brf.grown h aN (fun k hk=>by cases hk)
def mok (n1 n2 n3:Nat):Bool:=decide (n1<=16384/\n2<=16384/\n3<=5000)
theorem aD4 (a1 a2 a3:qO)(n1 c1 n2 c2 n3 c3:Nat)(w:qw):
 qC 77 #[.agg (qV a1 n1 c1 a2 n2 c2 a3 n3 c3)] w (qB w (.bool (mok n1 n2 n3))):=by
 by_cases k1:(n1:Int)<=16384
 all_goals by_cases k2:(n2:Int)<=16384
 all_goals by_cases k3:(n3:Int)<=5000
 all_goals
  obtain ⟨r,hr⟩:=eqx (mok n1 n2 n3);have HR:Zh (r=mok n1 n2 n3):=hr;rw [<- hr];clear hr;go_enter func77,ntmps77
  go_wp2;go_ret;refine ⟨aA ?_,bal⟩;rw [HR.o];unfold mok;simp;try omega
theorem tT (a1 a2 a3:qO)(n1 c1 n2 c2 n3 c3:Nat)(w:qw):
 qC 192 #[.agg (qV a1 n1 c1 a2 n2 c2 a3 n3 c3)] w (qB w (.bool (mok n1 n2 n3))):=by
 by_cases k1:(n1:Int)<=16384
 all_goals by_cases k2:(n2:Int)<=16384
 all_goals by_cases k3:(n3:Int)<=5000
 all_goals
  obtain ⟨r,hr⟩:=eqx (mok n1 n2 n3);have HR:Zh (r=mok n1 n2 n3):=hr;rw [<- hr];clear hr;go_enter func192,ntmps192
  go_wp2;go_ret;refine ⟨aA ?_,bal⟩;rw [HR.o];unfold mok;simp;try omega
theorem Blk.three {w:qw}{a b c:Value}{t:TypeId}(h:Blk w g #[a,b,c] t):
 w.cell? (qR g 0)=some a/\w.cell? (qR g 1)=some b/\w.cell? (qR g 2)=some c/\∀ i,w.frozen? (qR g i)=false:=
 ⟨by rw [h.cell];rfl,by rw [h.cell];rfl,by rw [h.cell];rfl,fun i=>h.frozen i⟩
abbrev Rg:=Int×Int×Int×Bool×Bool×Bool
def z6:Rg:=(0,0,0,false,false,false)
def At6 (w:qw)(b o:Nat)(g:Rg):Prop:=
 w.cell? (qR b o)=some (qI g.1)/\w.cell? (qR b (o+1))=some (qI g.2.1)/\w.cell? (qR b (o+2))=some (qI g.2.2.1) /\
 w.cell? (qR b (o+3))=some (.bool g.2.2.2.1)/\w.cell? (qR b (o+4))=some (.bool g.2.2.2.2.1)/\w.cell? (qR b (o+5))=some (.bool g.2.2.2.2.2)
def wfi (z:Int):Prop:=-9223372036854775808<=z/\z<=9223372036854775807
def RS (w:qw)(a:qO)(n cap:Nat)(rs:List Rg):Prop:=
 rs.length=n/\n<=maxLen/\(∀ g∈rs,wfi g.1/\wfi g.2.1/\wfi g.2.2.1)/\(n≠0->∃ b off,a=some (qR b off)/\∀ i,i<n->At6 w b (off+i*6) (rs.getD i z6))/\n<=cap
theorem At6.bw {w w':qw}{o:Nat}{g:Rg}(h:At6 w b o g)(hb:qY w w'):At6 w' b o g:=by
 obtain ⟨h1,h2,h3,h4,h5,h6⟩:=h;have hl:b<w.heap.size:=xD w _ h1;unfold At6;rw [hb.cell (p:=(qR b o)) hl,hb.cell (p:=(qR b (o+1))) hl,hb.cell (p:=(qR b (o+2))) hl,hb.cell (p:=(qR b (o+3))) hl,hb.cell (p:=(qR b (o+4))) hl,hb.cell (p:=(qR b (o+5))) hl];exact ⟨h1,h2,h3,h4,h5,h6⟩
theorem RS.bw {w w':qw}{a:qO}{rs:List Rg}(h:RS w a n cap rs)(hb:qY w w'):RS w' a n cap rs:=by
 obtain ⟨h1,h2,h3,h4,h5⟩:=h;refine ⟨h1,h2,h3,fun hn=>?_,h5⟩;obtain ⟨b,off,ha,hc⟩:=h4 hn;exact ⟨b,off,ha,fun i hi=>(hc i hi).bw hb⟩
theorem RS.some {w:qw}{a:qO}{rs:List Rg}(h:RS w a n cap rs)(hn:n≠0):∃ b off,a=Option.some (qR b off):=by
 obtain ⟨b,off,e,_⟩:=h.2.2.2.1 hn;exact ⟨b,off,e⟩
theorem RS.at {w:qw}{b off n cap:Nat}{rs:List Rg}(h:RS w (Option.some (qR b off)) n cap rs)(i:Nat)(hi:i<n):At6 w b (off+i*6) (rs.getD i z6):=by
 obtain ⟨b',off',e,hd⟩:=h.2.2.2.1 (by omega);simp at e;obtain ⟨rfl,rfl⟩:=e;exact hd i hi
theorem aGn:(prog.info? 214).map (fun i=>(i.zero,i.size,i.bytes))=some (some (.agg #[qI 0,qI 0,qI 0,.bool false,.bool false,.bool false]),6,32):=by kernel_rfl
def IS (w:qw)(a:qO)(n cap:Nat)(zs:qi):Prop:=
 zs.length=n/\n<=maxLen/\(∀ z∈zs,wfi z)/\(n≠0->∃ b off,a=some (qR b off)/\∀ i,i<n->w.cell? (qR b (off+i))=some (qI (zs.getD i 0)))/\n<=cap
theorem IS.bw {w w':qw}{a:qO}{zs:qi}(h:IS w a n cap zs)(hb:qY w w'):IS w' a n cap zs:=by
 obtain ⟨h1,h2,h3,h4,h5⟩:=h;refine ⟨h1,h2,h3,fun hn=>?_,h5⟩;obtain ⟨b,off,ha,hc⟩:=h4 hn;refine ⟨b,off,ha,fun i hi=>?_⟩;have:=hc i hi;rw [hb.cell (p:=(qR b (off+i))) (xD w _ this)];exact this
theorem IS.range {w:qw}{a:qO}{zs:qi}(h:IS w a n cap zs)(i:Nat):wfi (zs.getD i 0):=by
 by_cases hi:i<zs.length
 .have:=h.2.2.1 zs[i] (List.getElem_mem hi);simpa [xB,hi] using this
 .simp [xB,Nat.le_of_not_lt hi,wfi]
def RowI (w:qw)(g:Nat)(zs:qi):Prop:=w.heap[g]?=some (.cells (zs.map (Value.int .i64)).toArray 3 (0,0))
theorem RowI.cell {w:qw}{zs:qi}(h:RowI w g zs)(i:Nat)(hi:i<zs.length):w.cell? (qR g i)=some (qI (zs.getD i 0)):=by
 rw [cell_of_row w g i _ _ _ h];simp [xB,hi]
theorem RowI.frozen {w:qw}{zs:qi}(h:RowI w g zs)(i:Nat):w.frozen? (qR g i)=false:=frozen_of_row w g i _ _ h
theorem RowI.set {w:qw}{zs:qi}(h:RowI w g zs)(i:Nat)(z:Int):RowI (w.setCell (qR g i) (qI z)) g (zs.set i z):=by
 unfold RowI at *;rw [heap_setCell_same w g i _ _ _ h];simp [List.map_set]
theorem RowI.lt {w:qw}{zs:qi}(h:RowI w g zs):g<w.heap.size:=by
 unfold RowI at h;by_cases hg:g<w.heap.size
 .exact hg
 .simp [Array.getElem?_eq_none (Nat.le_of_not_lt hg)] at h
theorem RowI.bw {w w':qw}{zs:qi}(h:RowI w g zs)(hb:qY w w'):RowI w' g zs:=by
 have:=hb.block g h.lt;unfold RowI at *;rw [this];exact h
theorem RowI.is {w:qw}{zs:qi}(h:RowI w g zs)(hm:zs.length<=maxLen)(hz:∀ z∈zs,wfi z)(n cap:Nat)(hn:zs.length=n)(hc:n<=cap:=by exact aN):IS w (qP g) n cap zs:=by
 subst hn;exact ⟨rfl,hm,hz,fun _=>⟨g,0,rfl,fun i hi=>by rw [Nat.zero_add];exact h.cell i hi⟩,hc⟩
theorem jP:(prog.info? 3).map (fun i=>(i.zero,i.size,i.bytes))=some (some (qI 0),1,8):=by kernel_rfl
theorem aP6 (n:Nat):(madeCells (Value.cells (qI 0)) (n*1))=((List.replicate n (0:Int)).map (Value.int .i64)).toArray:=by
 apply Array.ext
 .simp [size_madeCells]
 .intro i h1 h2;simp [madeCells,Value.cells,Nat.mod_one]
theorem jA {w:qw}(h:w.ownsRow base 3 1 (qS (qP g) n n) n (madeCells (Value.cells (qI 0)) (n*1)).toList):RowI w g (List.replicate n 0):=by
 obtain ⟨hl,h|⟨g',cap,cur,hv,hb,hh,h1,h2,h3,h4⟩⟩:=h
 .simp at h
 .simp at hv;obtain ⟨rfl,rfl⟩:=hv;unfold RowI;rw [hh]
  have e:cur.toList=(madeCells (Value.cells (qI 0)) (n*1)).toList:=by
   rw [<- h4,xG (by simp [h3])]
  have e2:cur=madeCells (Value.cells (qI 0)) (n*1):=Array.toList_inj.1 e;rw [e2,aP6]
theorem gA (a:qO)(n cap:Nat)(l:Int)(w:qw)(h0:0<=l)(h1:l<=1048576)(hn:n<=maxLen):
 qC 72 #[qS a n cap,qI l] w fun e w'=>e=.returned (qI (if l<n then -1 else l-n))/\w'=w:=by
 unfold maxLen at hn;by_cases h:l<n
 .go_enter func72,ntmps72
  go_wp2;go_ret;exact ⟨rfl,rfl⟩
 .go_enter func72,ntmps72
  go_wp2;go_ret;exact ⟨rfl,rfl⟩
theorem iV (a:qO)(n cap:Nat)(zs:qi)(w:qw)(h:IS w a n cap zs)(hn:n<=1048576):
 qC 15 #[qS a n cap] w fun e w'=>e=.returned (qS (qP w.heap.size) n n)/\RowI w' w.heap.size zs/\qY w w':=by
 obtain ⟨i0,hi,hz0,hz1,hz2⟩:=info_parts jP;obtain ⟨hl,hmx,hr,hc,_⟩:=h;by_cases hn0:n=0
 .subst hn0;obtain rfl:zs=[]:=xE hl;clear hc;go_enter func15,ntmps15
  go_wp2_with (at_make;refine wpList_make_full _ rfl _ _ 25 rfl w.heap.size 3 i0 (qI 0) 1 underlying25 hi hz0 hz1 .i64 .i64 _ _ 0 rfl rfl rfl rfl (by omega) (by unfold maxLen;omega) aN ?_;intro w1 hown hgr)
  have hrow:=jA hown;have hbel:=aW hgr;clear hown hgr;go_loop [4] (fun i=>i=qI 0) (fun _=>0)
  .rfl
  .obtain rfl:=hrel;go_wp2;go_ret;exact ⟨rfl,hrow,hbel⟩
 .obtain ⟨b,off,rfl,hd⟩:=hc hn0;clear hc;go_enter func15,ntmps15
  go_wp2_with (at_make;refine wpList_make_full _ rfl _ _ 25 rfl w.heap.size 3 i0 (qI 0) 1 underlying25 hi hz0 hz1 .i64 .i64 _ _ n rfl rfl rfl rfl (by rw [hz2];omega) (by unfold maxLen;omega) aN ?_;intro w1 hown hgr)
  have hrow:=jA hown;have hbel:=aW hgr;clear hown hgr hi hz0 hz1 hz2;go_loopw [4] (fun i wr=>∃ k:Nat,k<=n/\i=qI k/\RowI wr w.heap.size (mid zs k)/\qY w wr) (qf n)
  .exact ⟨0,xC _,rfl,by rw [tB,hl];exact hrow,hbel⟩
  .obtain ⟨k,hk,rfl,hR,hB⟩:=hrel;clear hrow hbel;by_cases hlt:k<n
   .have hlt':(k:Int)<(n:Int):=by omega
    have hck:wr.cell? (qR b (off+k))=some (qI (zs.getD k 0)):=(hB.cell (xD w _ (hd k hlt))).trans (hd k hlt);have hgk:wr.cell? (qR w.heap.size k)=some (qI ((mid zs k).getD k 0)):=hR.cell k (by rw [aAt];omega);have hfk:wr.frozen? (qR w.heap.size k)=false:=hR.frozen k;have R':=hR.set k (zs.getD k 0);rw [aAs zs k (by omega)] at R';have B':qY w (wr.setCell (qR w.heap.size k) (qI (zs.getD k 0))):=hB.setCell aN _;have HR:=R';have HB:=B';generalize zs.getD k 0=z at *;generalize (mid zs k).getD k 0=z0 at *;clear hd hR hB;go_wp2
    go_roundw
    .exact ⟨k+1,by omega,by go_num,HR,HB⟩
    .simp [qf,intOf];omega
   .have e:Zh (k=n):=by show k=n;omega
    go_wp2;go_ret;exact ⟨rfl,by rw [e.o,<- hl,aAu] at hR;exact hR,hB⟩
theorem gX (xs ys:qi)(k:Nat)(h:xs.take k=ys.take k)(hx:k<xs.length)(hy:k<ys.length)(he:xs.getD k 0=ys.getD k 0):xs.take (k+1)=ys.take (k+1):=by
 rw [List.take_succ_eq_append_getElem hx,List.take_succ_eq_append_getElem hy,h];simp [xB,hx,hy] at he;rw [he]
theorem jI (a a':qO)(n cap n' cap':Nat)(xs ys:qi)(w:qw)(h:IS w a n cap xs)(h':IS w a' n' cap' ys):
 qC 17 #[qS a n cap,qS a' n' cap'] w (qB w (.bool (decide (xs=ys)))):=by
 obtain ⟨hl,hmx,hr,hc,_⟩:=h;obtain ⟨hl',hmx',hr',hc',_⟩:=h';unfold maxLen at hmx hmx';by_cases hn:n=n'
 .subst hn;have hne:((n:Int) !=(n:Int))=false:=by simp
  by_cases hn0:n=0
  .subst hn0;obtain rfl:xs=[]:=xE hl;obtain rfl:ys=[]:=xE hl';clear hc hc';go_enter func17,ntmps17
   go_wp2;go_loop [5] (fun i=>i=qI 0) (fun _=>0)
   .rfl
   .obtain rfl:=hrel;go_wp2;go_ret;exact ⟨rfl,brf⟩
  .obtain ⟨b,off,rfl,hd⟩:=hc hn0;obtain ⟨b',off',rfl,hd'⟩:=hc' hn0;clear hc hc';go_enter func17,ntmps17
   go_wp2;go_loopw [5] (fun i wr=>∃ k:Nat,k<=n/\i=qI k/\xs.take k=ys.take k/\qY w wr) (qf n)
   .exact ⟨0,xC _,rfl,by simp,brf⟩
   .obtain ⟨k,hk,rfl,hT,hB⟩:=hrel;by_cases hlt:k<n
    .have hlt':(k:Int)<(n:Int):=by omega
     have hck:wr.cell? (qR b (off+k))=some (qI (xs.getD k 0)):=(hB.cell (xD w _ (hd k hlt))).trans (hd k hlt);have hck':wr.cell? (qR b' (off'+k))=some (qI (ys.getD k 0)):=(hB.cell (xD w _ (hd' k hlt))).trans (hd' k hlt);by_cases he:xs.getD k 0=ys.getD k 0
     .have hS:=gX xs ys k hT (by omega) (by omega) he;have HS:Zh (xs.take (k+1)=ys.take (k+1)):=hS;rw [he] at hck;clear hS hT hd hd' he;generalize ys.getD k 0=z at *;have hz:(z !=z)=false:=by simp
      go_wp2
      go_quiet (fail)
      go_wp2
      go_roundw
      .exact ⟨k+1,by omega,by go_num,HS.o,below_drewN hB _⟩
      .simp [qf,intOf];omega
     .have hf:Zh (decide (xs=ys)=false):=by
       show _=_;simp;intro e;exact he (by rw [e])
      have hz:(xs.getD k 0 !=ys.getD k 0)=true:=by simpa using he
      clear hT hd hd' he;generalize ys.getD k 0=z at *;generalize xs.getD k 0=z' at *;go_wp2
      go_quiet (fail)
      go_wp2;go_ret;exact ⟨aA hf.o.symm,below_drewN hB _⟩
    .have hf:Zh (decide (xs=ys)=true):=by
      show _=_;simp;rw [xG (by omega),xG (by omega)] at hT;exact hT
     clear hT hd hd';go_wp2;go_ret;exact ⟨aA hf.o.symm,hB⟩
 .have hf:Zh (decide (xs=ys)=false):=by
   show _=_;simp;intro e;rw [e] at hl;omega
  have hne:((n:Int) !=(n':Int))=true:=by simp;omega
  clear hc hc';go_enter func17,ntmps17
  go_wp2;go_ret;exact ⟨aA hf.o.symm,brf⟩
theorem wS (w:qw)(d:Int)(h0:0<=d)(h1:d<=255):(convert 28 9 (qS (qP w.heap.size) 1 1)).run prog (w.alloc (.cells #[.int .u8 d] 5))=.ok (.string ⟨#[UInt8.ofNat d.toNat]⟩) (w.alloc (.cells #[.int .u8 d] 5)):=by
 have e:((UInt8.ofNat d.toNat).toNat:Int)=d:=by
  have:(UInt8.ofNat d.toNat).toNat=d.toNat%256:=UInt8.toNat_ofNat';omega
 refine run_convert_bytes_back (P:=prog) (w.alloc (.cells #[.int .u8 d] 5)) 28 9 5 (qR w.heap.size 0) 1 [UInt8.ofNat d.toNat] underlying28 underlying5 underlying9 ?_;intro j hj;obtain rfl:j=0:=by simp at hj;omega
 rw [bN,Blk.cell (Blk.new w _ _)];exact congrArg (fun z=>some (Value.int .u8 z)) e.symm
theorem jD (k:Nat)(w:qw)(hk:k<=8388608):qC 103 #[qI k] w fun e w'=>∃ s,e=.returned (.string s)/\s.size<=8388610/\qY w w':=by
 by_cases h0:k=0
 .subst h0;go_enter func103,ntmps103
  go_wp2;go_ret;exact ⟨_,rfl,by decide,brf⟩
 have hk0:0<(k:Int):=by omega
 go_enter func103,ntmps103
 go_wp2_with fail
 go_loopw [0,3] (fun x o wr=>∃ (m:Nat) (s:ByteArray),x=qI m/\o=.string s/\s.size+m<=8388608/\qY w wr) (fun x _ _=>(intOf x).toNat)
 .exact ⟨k,⟨#[]⟩,rfl,rfl,by show 0+k<=_;omega,brf⟩
 .obtain ⟨m,s,rfl,rfl,hm,hB⟩:=hrel;clear hk hk0 h0;by_cases hlt:0<m
  .have hlt':0<(m:Int):=by omega
   have hcv:=fun (W:qw)=>wS W (48+(m:Int)%10) (by omega) (by omega);have HB:=zh hB;have hBs:=hB.size;clear hB;go_wp2
   go_roundw
   .refine ⟨m/10,_,by go_num,rfl,?_,HB.o.alloc hBs _⟩;simp [ByteArray.size_append];have e1:(⟨#[48+UInt8.ofNat (m%10)]⟩:ByteArray).size=1:=rfl;omega
   .simp [intOf];omega
  .obtain rfl:m=0:=by omega
   go_wp2;go_ret;exact ⟨_,rfl,by have e1:(⟨#[109]⟩:ByteArray).size=1:=rfl;simp only [ByteArray.size_append];omega,hB⟩
def mtf:Nat -> Nat -> ByteArray -> ByteArray
 | 0,_,s=>s
 | f+1,k,s=>if k=0 then s else mtf f (k/10) (⟨#[UInt8.ofNat ((48+(k:Int)%10).toNat)]⟩++s)
theorem mtf_same:∀ (f g k:Nat) (s:ByteArray),k<=f -> k<=g -> mtf f k s=mtf g k s
 | 0,0,_,_,_,_=>rfl
 | 0,g+1,k,s,h,_=>by rw [show k=0 by omega];rfl
 | f+1,0,k,s,_,h=>by rw [show k=0 by omega];rfl
 | f+1,g+1,k,s,h,i=>by
  unfold mtf
  split
  · rfl
  · exact mtf_same f g _ _ (by omega) (by omega)
def mtd (k:Nat)(s:ByteArray):ByteArray:=mtf k k s
theorem aJ9 (s:ByteArray):mtd 0 s=s:=rfl
theorem aKa (k:Nat)(s:ByteArray)(h:0<k):mtd k s=mtd (k/10) (⟨#[UInt8.ofNat ((48+(k:Int)%10).toNat)]⟩++s):=by
 obtain ⟨j,rfl⟩:∃ j,k=j+1:=⟨k-1,by omega⟩
 show mtf (j+1) (j+1) s=_
 unfold mtf
 rw [if_neg (by omega)]
 exact mtf_same _ _ _ _ (by omega) (by omega)
def mtx (k:Nat):ByteArray:=⟨#[109]⟩++mtd k ⟨#[]⟩
theorem dL (k:Nat)(w:qw)(h0:0<k:=by omega)(hk:k<=67108864:=by omega):qC 103 #[qI k] w (qB w (.string (mtx k))):=by
 have hk0:0<(k:Int):=by omega
 go_enter func103,ntmps103
 go_wp2_with fail
 go_loopw [0,3] (fun x o wr=>∃ (m:Nat) (s:ByteArray),x=qI m/\o=.string s/\s.size+m<=67108864/\Hid (mtd m s=mtd k ⟨#[]⟩)/\qY w wr) (fun x _ _=>(intOf x).toNat)
 .exact ⟨k,⟨#[]⟩,rfl,rfl,by show 0+k<=_;omega,zh rfl,brf⟩
 .obtain ⟨m,s,rfl,rfl,hm,HM,hB⟩:=hrel;clear hk hk0 h0;by_cases hlt:0<m
  .have hlt':0<(m:Int):=by omega
   have hcv:=fun (W:qw)=>wS W (48+(m:Int)%10) (by omega) (by omega);have HB:=zh hB;have hBs:=hB.size;have HS:=zh (aKa m s hlt);generalize hd:UInt8.ofNat ((48+(m:Int)%10).toNat)=d at *;have HD:=zh hd;clear hB hd;go_wp2
   go_roundw
   .refine ⟨m/10,⟨#[d]⟩++s,by go_num,rfl,?_,zh (by rw [<- HM.out,HS.o]),HB.o.alloc hBs _⟩;rw [ByteArray.size_append];have e1:(⟨#[d]⟩:ByteArray).size=1:=rfl;omega
   .simp [intOf];omega
  .obtain rfl:m=0:=by omega
   have HM2:=zh (show mtx k=⟨#[109]⟩++s by unfold mtx;rw [<- HM.out,aJ9]);go_wp2;go_ret;exact ⟨by rw [HM2.o];rfl,hB⟩
def Shp (w w':qw):Prop:=∀ g cs t,Blk w g cs t->∃ cs':Array Value,Blk w' g cs' t/\cs'.size=cs.size
theorem Shp.refl (w:qw):Shp w w:=fun g cs t h=>⟨cs,h,rfl⟩
theorem Shp.trans {a b c:qw}(h:Shp a b)(k:Shp b c):Shp a c:=fun g cs t hb=>by
 obtain ⟨c1,h1,e1⟩:=h g cs t hb;obtain ⟨c2,h2,e2⟩:=k g c1 t h1;exact ⟨c2,h2,e2.trans e1⟩
theorem Shp.bw {w w':qw}(h:qY w w'):Shp w w':=fun g cs t hb=>⟨cs,hb.bw h,rfl⟩
theorem Shp.set (w:qw)(k i:Nat)(v:Value):Shp w (w.setCell (qR k i) v):=fun g cs t hb=>by
 by_cases e:g=k
 .subst e;exact ⟨_,hb.set i v,by simp⟩
 .exact ⟨cs,hb.other _ _ e,rfl⟩
structure Mkd (S:Nat->Prop)(w w':qw):Prop where
 turn:Turn S w w'
 shp:Shp w w'
theorem Mkd.refl (S:Nat->Prop)(w:qw):Mkd S w w:=⟨Turn.refl _ _,Shp.refl _⟩
theorem Mkd.trans {a b c:qw}(h:Mkd S a b)(k:Mkd S b c):Mkd S a c:=⟨h.turn.trans k.turn,h.shp.trans k.shp⟩
theorem Mkd.bw {w w':qw}(h:qY w w'):Mkd S w w':=⟨aJ h,Shp.bw h⟩
theorem Mkd.set {w w':qw}(h:Mkd S w w')(k i:Nat)(v:Value)(hk:S k):Mkd S w (w'.setCell (qR k i) v):=
 h.trans ⟨⟨rfl,rfl,rfl,by rw [aL];exact aN,fun j _ hj=>heap_setCell_other _ _ _ _ (fun e=>hj (by rw [e];exact hk))⟩,Shp.set _ _ _ _⟩
theorem Mkd.mono {w w':qw}(h:Mkd S w w')(hs:∀ k,S k->S' k):Mkd S' w w':=⟨h.turn.mono hs,h.shp⟩
def Sl (S:Nat->Prop)(w:qw)(a:qO)(n sz:Nat):Prop:=n≠0->∃ g o cs t,a=some (qR g o)/\S g/\Blk w g cs t/\o+n*sz<=cs.size
theorem Sl.shp {w w':qw}{a:qO}(h:Sl S w a n sz)(m:Shp w w'):Sl S w' a n sz:=fun hn=>by
 obtain ⟨g,o,cs,t,ha,hs,hb,hl⟩:=h hn;obtain ⟨cs',hb',e⟩:=m g cs t hb;exact ⟨g,o,cs',t,ha,hs,hb',by omega⟩
theorem Sl.ofBlk {w:qw}{c:Nat}{t:TypeId}(hb:Blk w g cs t)(hS:S g)(hs:n*sz<=cs.size):Sl S w (qP g) n sz:=fun _=>⟨g,0,cs,t,rfl,hS,hb,by omega⟩
theorem Sl.cell {w:qw}{o:Nat}(h:Sl S w (some (qR g o)) n sz)(hn:n≠0)(i:Nat)(hi:i<n*sz):(∃ u,w.cell? (qR g (o+i))=some u)/\w.frozen? (qR g (o+i))=false/\S g:=by
 obtain ⟨g',o',cs,t,ha,hs,hb,hl⟩:=h hn;simp at ha;obtain ⟨rfl,rfl⟩:=ha;exact ⟨⟨cs[o+i]'(by omega),by rw [hb.cell];simp [show o+i<cs.size by omega]⟩,hb.frozen _,hs⟩
theorem Sl.addr {w:qw}{a:qO}(h:Sl S w a n sz)(hn:n≠0):∃ g o,a=some (qR g o):=by
 obtain ⟨g,o,_,_,ha,_⟩:=h hn;exact ⟨g,o,ha⟩
theorem kD (S:Nat->Prop)(a:qO)(n cap k:Nat)(w:qw)(h:Sl S w a n 1)(hn:n<=1048576)(hk:k<=6291456):
 qC 18 #[qS a n cap,qI k] w fun e w'=>e=.returned (qI ((k+n:Nat):Int))/\Mkd S w w':=by
 go_enter func18,ntmps18
 go_wp2;go_loopw [1,5] (fun x i wr=>∃ m:Nat,m<=n/\i=qI m/\x=qI ((k+m:Nat):Int)/\Mkd S w wr) (fun _ i _=>n-(intOf i).toNat)
 .exact ⟨0,xC _,rfl,rfl,Mkd.refl _ _⟩
 .obtain ⟨m,hm,rfl,rfl,M⟩:=hrel;by_cases hlt:m<n
  .have hlt':(m:Int)<(n:Int):=by omega
   obtain ⟨g,o,rfl⟩:=h.addr (by omega);obtain ⟨⟨u,c0⟩,f0,hS⟩:=(h.shp M.shp).cell (by omega) m (by omega);have HM:=zh (fun v=>M.set g (o+m) v hS);clear M;go_wp2
   go_roundw
   .exact ⟨m+1,by omega,by go_num,by go_num,HM.o _⟩
   .simp [intOf];omega
  .obtain rfl:m=n:=by omega
   go_wp2;go_ret;exact ⟨by go_num,M⟩
theorem aAx (S:Nat->Prop)(a:qO)(n cap k:Nat)(w:qw)(h:Sl S w a n 1)(hn:n<=1048576)(hk:k<=6291456):
 qC 105 #[qS a n cap,qI k] w fun e w'=>e=.returned (qI ((k+n:Nat):Int))/\Mkd S w w':=by
 go_enter func105,ntmps105
 go_wp2;go_loopw [1,5] (fun x i wr=>∃ m:Nat,m<=n/\i=qI m/\x=qI ((k+m:Nat):Int)/\Mkd S w wr) (fun _ i _=>n-(intOf i).toNat)
 .exact ⟨0,xC _,rfl,rfl,Mkd.refl _ _⟩
 .obtain ⟨m,hm,rfl,rfl,M⟩:=hrel;by_cases hlt:m<n
  .have hlt':(m:Int)<(n:Int):=by omega
   obtain ⟨g,o,rfl⟩:=h.addr (by omega);obtain ⟨⟨u,c0⟩,f0,hS⟩:=(h.shp M.shp).cell (by omega) m (by omega);have HM:=zh (fun v=>M.set g (o+m) v hS);clear M;go_wp2
   go_roundw
   .exact ⟨m+1,by omega,by go_num,by go_num,HM.o _⟩
   .simp [intOf];omega
  .obtain rfl:m=n:=by omega
   go_wp2;go_ret;exact ⟨by go_num,M⟩
theorem tC (S:Nat->Prop)(a:qO)(n cap k:Nat)(w:qw)(h:Sl S w a n 1)(hn:n<=1048576)(hk:k<=6291456):
 qC 106 #[qS a n cap,qI k] w fun e w'=>e=.returned (qI ((k+n:Nat):Int))/\Mkd S w w':=by
 go_enter func106,ntmps106
 go_wp2;go_loopw [1,5] (fun x i wr=>∃ m:Nat,m<=n/\i=qI m/\x=qI ((k+m:Nat):Int)/\Mkd S w wr) (fun _ i _=>n-(intOf i).toNat)
 .exact ⟨0,xC _,rfl,rfl,Mkd.refl _ _⟩
 .obtain ⟨m,hm,rfl,rfl,M⟩:=hrel;by_cases hlt:m<n
  .have hlt':(m:Int)<(n:Int):=by omega
   obtain ⟨g,o,rfl⟩:=h.addr (by omega);have HT:=zh (jD (k+m) wr (by omega));go_wp2_with fail
   refine HT.o.mono ?_;rintro e w1 ⟨s,rfl,hs,hb⟩;have M1:Mkd S w w1:=M.trans (Mkd.bw hb);obtain ⟨⟨u,c0⟩,f0,hS⟩:=(h.shp M1.shp).cell (by omega) m (by omega);have HM:=zh (fun v=>M1.set g (o+m) v hS);clear M M1 hb HT;go_wp2
   go_roundw
   .exact ⟨m+1,by omega,by go_num,by go_num,HM.o _⟩
   .simp [intOf];omega
  .obtain rfl:m=n:=by omega
   go_wp2;go_ret;exact ⟨by go_num,M⟩
theorem tH (S:Nat->Prop)(a:qO)(n cap k:Nat)(w:qw)(h:Sl S w a n 3)(hn:n<=1048576)(hk:k<=4194304):
 qC 107 #[qS a n cap,qI k] w fun e w'=>e=.returned (qI ((k+3*n:Nat):Int))/\Mkd S w w':=by
 go_enter func107,ntmps107
 go_wp2;go_loopw [1,5] (fun x i wr=>∃ m:Nat,m<=n/\i=qI m/\x=qI ((k+3*m:Nat):Int)/\Mkd S w wr) (fun _ i _=>n-(intOf i).toNat)
 .exact ⟨0,xC _,rfl,rfl,Mkd.refl _ _⟩
 .obtain ⟨m,hm,rfl,rfl,M⟩:=hrel;by_cases hlt:m<n
  .have hlt':(m:Int)<(n:Int):=by omega
   obtain ⟨g,o,rfl⟩:=h.addr (by omega);have HT:=zh (jD (k+3*m) wr (by omega));go_wp2_with fail
   refine HT.o.mono ?_;rintro e w1 ⟨s,rfl,hs,hb⟩;have M1:Mkd S w w1:=M.trans (Mkd.bw hb);obtain ⟨⟨u,c0⟩,f0,hS⟩:=(h.shp M1.shp).cell (by omega) (m*3) (by omega);obtain ⟨⟨u1,c1⟩,f1,_⟩:=(h.shp M1.shp).cell (by omega) (m*3+1) (by omega);obtain ⟨⟨u2,c2⟩,f2,_⟩:=(h.shp M1.shp).cell (by omega) (m*3+2) (by omega);rw [<- Nat.add_assoc] at c1 f1 c2 f2;have HM:=zh (fun v v1 v2=>((M1.set g (o+m*3) v hS).set g (o+m*3+1) v1 hS).set g (o+m*3+2) v2 hS);clear M M1 hb HT;go_wp2
   go_roundw
   .exact ⟨m+1,by omega,by go_num,by go_num,HM.o _ _ _⟩
   .simp [intOf];omega
  .obtain rfl:m=n:=by omega
   go_wp2;go_ret;exact ⟨by go_num,M⟩
structure SlB (S:Nat->Prop)(w:qw)(a:qO)(n:Nat)(f:Nat->qO×Nat×Nat):Prop where
 head:n≠0->∃ g o cs t,a=some (qR g o)/\¬ S g/\Blk w g cs t/\∀ i,i<n->cs[o+i]?=some (.slice (f i).1 (f i).2.1 (f i).2.2)
 rows:∀ i,i<n->Sl S w (f i).1 (f i).2.1 1
theorem SlB.kept {w w':qw}{a:qO}{f:Nat->qO×Nat×Nat}(h:SlB S w a n f)(m:Mkd S w w'):SlB S w' a n f:=
 ⟨fun hn=>by obtain ⟨g,o,cs,t,ha,hs,hb,hl⟩:=h.head hn;exact ⟨g,o,cs,t,ha,hs,aF m.turn hb hs,hl⟩,fun i hi=>(h.rows i hi).shp m.shp⟩
def bJ (f:Nat->qO×Nat×Nat):Nat->Nat
 | 0=>0
 | n+1=>bJ f n+(f n).2.1
theorem qQ (f:Nat->qO×Nat×Nat):∀ n i,i<n->(f i).2.1+bJ f i<=bJ f n
 | 0,i,h=>by omega
 | n+1,i,h=>by
   show _<=bJ f n+(f n).2.1;by_cases e:i=n
   .subst e;omega
   .have:=qQ f n i (by omega);omega
theorem aAw (S:Nat->Prop)(a:qO)(n cap k:Nat)(f:Nat->qO×Nat×Nat)(w:qw)(h:SlB S w a n f)(hn:n<=1048576)(hs:bJ f n<=1048576)(hk:k<=4194304):
 qC 104 #[qS a n cap,qI k] w fun e w'=>e=.returned (qI ((k+bJ f n:Nat):Int))/\Mkd S w w':=by
 go_enter func104,ntmps104
 go_wp2;go_loopw [1,5] (fun x i wr=>∃ m:Nat,m<=n/\i=qI m/\x=qI ((k+bJ f m:Nat):Int)/\Mkd S w wr) (fun _ i _=>n-(intOf i).toNat)
 .exact ⟨0,xC _,rfl,rfl,Mkd.refl _ _⟩
 .obtain ⟨m,hm,rfl,rfl,M⟩:=hrel;by_cases hlt:m<n
  .have hlt':(m:Int)<(n:Int):=by omega
   have hM:=h.kept M;obtain ⟨g,o,cs,t,rfl,_,hb,hc⟩:=hM.head (by omega);have c0:=(hb.cell (o+m)).trans (hc m hlt);have hle:=qQ f n m hlt;have HSU:Zh (bJ f (m+1)=bJ f m+(f m).2.1):=rfl;have HK:=zh (fun k hk=>kD S (f m).1 (f m).2.1 (f m).2.2 k wr (hM.rows m hlt) (by omega) hk);generalize bJ f m=sm at *;generalize f m=fm at *;obtain ⟨fa,fn,fc⟩:=fm;dsimp only at *;clear hM hb hc;go_wp2_with fail
   refine (HK.o (k+sm) (by omega)).mono ?_;rintro e w1 ⟨rfl,M1⟩;have HM:=zh (M.trans M1);clear M M1 HK c0;go_wp2
   go_roundw
   .exact ⟨m+1,by omega,by go_num,by rw [HSU.o];go_num,HM.o⟩
   .simp [intOf];omega
  .obtain rfl:m=n:=by omega
   go_wp2;go_ret;exact ⟨by go_num,M⟩
def byt (s:ByteArray)(k:Nat):Int:=((s.get! k).toNat:Int)
theorem oY (s:ByteArray)(k:Nat):0<=byt s k/\byt s k<=255:=by
 unfold byt;have:=(s.get! k).toNat_lt;omega
theorem aDa (s:ByteArray)(k:Nat)(h:k<s.size):s.get! k=s[k]'h:=by
 simp only [ByteArray.get!,getElem!_def];have:s.data[k]?=some (s.data[k]'h):=Array.getElem?_eq_getElem h;rw [this];rfl
theorem nU (s:ByteArray)(k:Nat)(h:k<s.size)(w:qw):(Instr.index 9 (.string s) (qI (k:Int))).run prog w=.ok (.int .u8 (byt s k)) w:=by
 rw [run_index_string w 9 s .i64 (k:Int) underlying9,dif_pos (by omega)];simp only [byt,xY,aDa s k h]
def nmo (s:ByteArray):Bool:=decide (1<=s.size/\s.size<=12)&&(List.range s.size).all fun k=>decide (97<=byt s k/\byt s k<=122)
theorem aGg (s:ByteArray)(k:Nat)(hk:k<s.size)(h:¬ (97<=byt s k/\byt s k<=122)):nmo s=false:=by
 unfold nmo;rw [Bool.and_eq_false_iff];right;rw [List.all_eq_false];exact ⟨k,by simpa using hk,by simpa using h⟩
theorem aCq (s:ByteArray)(h:∀ j,j<s.size->97<=byt s j/\byt s j<=122):nmo s=decide (1<=s.size/\s.size<=12):=by
 unfold nmo;rw [show ((List.range s.size).all fun k=>decide (97<=byt s k/\byt s k<=122))=true from List.all_eq_true.2 (fun k hk=>by simpa using h k (by simpa using hk)),Bool.and_true]
theorem fV (s:ByteArray)(w:qw)(hs:s.size<=1048576):
 qC 170 #[.string s] w fun e w'=>e=.returned (.bool (nmo s))/\w=w':=by
 obtain ⟨N,hN⟩:=eqx (s.size);go_enter func170,ntmps170
 go_wp2_with fail
 go_loop [3] (fun i=>∃ k:Nat,k<=s.size/\i=qI k/\Hid (∀ j,j<k->97<=byt s j/\byt s j<=122)) (fun i=>s.size-(intOf i).toNat)
 .exact ⟨0,xC _,rfl,zh (fun j hj=>by omega)⟩
 .obtain ⟨k,hk,rfl,HJ⟩:=hrel;by_cases hlt:k<s.size
  .have hlt':(k:Int)<(s.size:Int):=by omega
   have hix:=nU s k hlt;obtain ⟨z0,z1⟩:=oY s k;have HZ:=zh (aGg s k hlt)
   have HG:=zh (show 97<=byt s k/\byt s k<=122->∀ j,j<k+1->97<=byt s j/\byt s j<=122 from fun h j hj=>by
    by_cases e:j=k
    .subst e;exact h
    .exact HJ.out j (by omega))
   generalize byt s k=z at *;by_cases c1:z<97
   .have c1':(z<97)=True:=by simp [c1]
    go_wp2;go_ret;exact ⟨aA (HZ.o (by omega)).symm,rfl⟩
   .by_cases c2:122<z
    .go_wp2;go_ret;exact ⟨aA (HZ.o (by omega)).symm,rfl⟩
    .go_wp2
     go_round
     .exact ⟨k+1,by omega,by go_num,zh (HG.o (by omega))⟩
     .simp [intOf];omega
  .have e:Zh (k=s.size):=by show k=s.size;omega
   have HE:=zh (aCq s (fun j hj=>HJ.out j (by rw [e.o];exact hj)));by_cases c1:1<=s.size
   .by_cases c2:s.size<=12
    .go_wp2;go_ret;exact ⟨aA (by have:=e.o;rw [HE.o,xJ];simp;omega),rfl⟩
    .go_wp2;go_ret;exact ⟨aA (by have:=e.o;rw [HE.o,xJ];simp;omega),rfl⟩
   .go_wp2;go_ret;exact ⟨aA (by have:=e.o;rw [HE.o,xJ];simp;omega),rfl⟩
theorem jE (s:ByteArray)(w:qw)(hs:s.size<=1048576):
 qC 173 #[.string s] w fun e w'=>e=.returned (.bool (nmo s))/\w=w':=by
 by_cases c1:s.size<1
 .have HF:Zh (nmo s=false):=by show _=_;unfold nmo;rw [Bool.and_eq_false_iff];left;simp;omega
  have c1':(s.size:Int)<1:=by omega
  go_enter func173,ntmps173
  go_wp2;go_ret;exact ⟨aA HF.o.symm,rfl⟩
 .by_cases c2:12<s.size
  .have HF:Zh (nmo s=false):=by show _=_;unfold nmo;rw [Bool.and_eq_false_iff];left;simp;omega
   have c1':¬ (s.size:Int)<1:=by omega
   have c2':(12:Int)<(s.size:Int):=by omega
   go_enter func173,ntmps173
   go_wp2;go_ret;exact ⟨aA HF.o.symm,rfl⟩
  .have c1':¬ (s.size:Int)<1:=by omega
   have c2':¬ (12:Int)<(s.size:Int):=by omega
   go_enter func173,ntmps173
   go_wp2_with fail
   go_loop [14] (fun i=>∃ k:Nat,k<=s.size/\i=qI k/\Hid (∀ j,j<k->97<=byt s j/\byt s j<=122)) (fun i=>s.size-(intOf i).toNat)
   .exact ⟨0,xC _,rfl,zh (fun j hj=>by omega)⟩
   .obtain ⟨k,hk,rfl,HJ⟩:=hrel;by_cases hlt:k<s.size
    .have hlt':(k:Int)<(s.size:Int):=by omega
     have hix:=nU s k hlt;obtain ⟨z0,z1⟩:=oY s k;have HZ:=zh (aGg s k hlt)
     have HG:=zh (show 97<=byt s k/\byt s k<=122->∀ j,j<k+1->97<=byt s j/\byt s j<=122 from fun h j hj=>by
      by_cases e:j=k
      .subst e;exact h
      .exact HJ.out j (by omega))
     generalize byt s k=z at *;by_cases d1:z<97
     .go_wp2;go_ret;exact ⟨aA (HZ.o (by omega)).symm,rfl⟩
     .by_cases d2:122<z
      .go_wp2;go_ret;exact ⟨aA (HZ.o (by omega)).symm,rfl⟩
      .go_wp2
       go_round
       .exact ⟨k+1,by omega,by go_num,zh (HG.o (by omega))⟩
       .simp [intOf];omega
    .have e:Zh (k=s.size):=by show k=s.size;omega
     have HE:=zh (aCq s (fun j hj=>HJ.out j (by rw [e.o];exact hj)));go_wp2;go_ret;exact ⟨aA (by have:=e.o;rw [HE.o,xJ];simp;omega),rfl⟩
def dF (s:ByteArray):Nat->Nat->Int
 | 0,_=>-1
 | f+1,k=>if byt s k=46 then (k:Int) else dF s f (k+1)
def dot (s:ByteArray):Int:=dF s s.size 0
theorem yL (s:ByteArray)(w:qw)(hs:s.size<=1048576):
 qC 114 #[.string s] w fun e w'=>e=.returned (qI (dot s))/\w=w':=by
 go_enter func114,ntmps114
 go_wp2_with fail
 go_loop [3] (fun i=>∃ k:Nat,k<=s.size/\i=qI k/\Hid (dot s=dF s (s.size-k) k)) (fun i=>s.size-(intOf i).toNat)
 .exact ⟨0,xC _,rfl,zh rfl⟩
 .obtain ⟨k,hk,rfl,HJ⟩:=hrel;by_cases hlt:k<s.size
  .have hlt':(k:Int)<(s.size:Int):=by omega
   have hix:=nU s k hlt;obtain ⟨z0,z1⟩:=oY s k
   have HD:=zh (show dot s=if byt s k=46 then (k:Int) else dF s (s.size-(k+1)) (k+1) from by
    rw [HJ.out,show s.size-k=(s.size-(k+1))+1 by omega];rfl)
   clear HJ;generalize byt s k=z at *;by_cases c1:z=46
   .have HE:=zh (show dot s=(k:Int) from by rw [HD.o,if_pos c1]);subst c1;go_wp2;go_ret;exact ⟨aH HE.o.symm,rfl⟩
   .have HE:=zh (show dot s=dF s (s.size-(k+1)) (k+1) from by rw [HD.o,if_neg c1]);have c1':(z==46)=false:=by simpa using c1
    go_wp2
    go_round
    .exact ⟨k+1,by omega,by go_num,HE⟩
    .simp [intOf];omega
  .have e:Zh (dot s=-1):=by
    show dot s=-1;rw [HJ.out,show s.size-k=0 by omega];rfl
   go_wp2;go_ret;exact ⟨aH e.o.symm,rfl⟩
theorem eV (s:ByteArray):∀ (f k:Nat),dF s f k=-1\/((k:Int)<=dF s f k/\dF s f k<k+f)
 | 0,k=>Or.inl rfl
 | f+1,k=>by
   unfold dF;split
   .right;omega
   .rcases eV s f (k+1) with h|h
    .left;exact h
    .right;omega
theorem lH (s:ByteArray):dot s=-1\/(0<=dot s/\dot s<s.size):=by
 have:=eV s s.size 0;unfold dot;omega
def dH (s:ByteArray):ByteArray:=s.extract 0 (dot s).toNat
def eJ (s:ByteArray):ByteArray:=s.extract (dot s+1).toNat s.size
theorem oV (s:ByteArray)(hs:s.size<=1048576):(dH s).size<=1048576:=by
 unfold dH;rw [ByteArray.size_extract];omega
theorem oU (s:ByteArray)(hs:s.size<=1048576):(eJ s).size<=1048576:=by
 unfold eJ;rw [ByteArray.size_extract];omega
def fE (s:ByteArray):Bool:=decide (0<=dot s)&&(nmo (dH s)&&nmo (eJ s))
theorem nG (s:ByteArray)(w:qw)(hs:s.size<=1048576):
 qC 113 #[.string s] w fun e w'=>e=.returned (.bool (fE s))/\w=w':=by
 have HD:=zh (fun w=>yL s w hs);have HA:=zh (fun w=>fV (dH s) w (oV s hs));have HB:=zh (fun w=>fV (eJ s) w (oU s hs));obtain ⟨r,hr⟩:=eqx (fE s);rw [<- hr];unfold fE at hr;unfold dH eJ at *;rcases lH s with h|⟨h0,h1⟩
 .rw [h] at HD hr;have HR:=zh (show r=false from by rw [hr];rfl);clear HA HB hr h;go_enter func113,ntmps113
  go_wp2_with (go_at_call 114;refine (HD.o _).mono ?_;rintro e w1 ⟨rfl,rfl⟩)
  go_ret;exact ⟨aA HR.o.symm,rfl⟩
 .generalize dot s=p at *;generalize nmo (s.extract 0 p.toNat)=A at *;generalize nmo (s.extract (p+1).toNat s.size)=B at *;have HR:=zh (show r=(A&&B) from by rw [hr];simp [h0]);clear hr;cases A
  .go_enter func113,ntmps113
   go_wp2_with (first
    | (go_at_call 114;refine (HD.o _).mono ?_;rintro e w1 ⟨rfl,rfl⟩)
    | (go_at_call 170;refine (HA.o _).mono ?_;rintro e w1 ⟨rfl,rfl⟩))
   go_ret;exact ⟨aA HR.o.symm,rfl⟩
  .go_enter func113,ntmps113
   go_wp2_with fail
   refine (HD.o _).mono ?_;rintro e w1 ⟨rfl,rfl⟩;go_wp2_with fail
   refine (HA.o _).mono ?_;rintro e w1 ⟨rfl,rfl⟩;go_wp2_with fail
   refine (HB.o _).mono ?_;rintro e w1 ⟨rfl,rfl⟩;go_wp2;go_ret;exact ⟨aA HR.o.symm,rfl⟩
theorem aNb (l:List UInt8):∀ (s:ByteArray) (k:Nat),s.data.toList.drop k=l->Lib.indexByte l (46:Int).toNat.toUInt8=(let d:=dF s l.length k;if d=-1 then -1 else d-k):=by
 induction l with
 | nil=>intro s k h;rfl
 | cons b l ih=>
   intro s k h
   have hk:k<s.data.toList.length:=by
    by_cases e:k<s.data.toList.length
    .exact e
    .rw [List.drop_eq_nil_of_le (by omega)] at h;cases h
   have hks:k<s.size:=by simpa using hk
   have hb:s.data.toList[k]'hk=b:=by
    have h2:s.data.toList[k]?=some b:=by
     have:=congrArg (fun t=>t[0]?) h;simpa using this
    rw [xN hk] at h2;injection h2
   have hd:s.data.toList.drop (k+1)=l:=by
    have:=congrArg List.tail h;simpa using this
   have hbyt:byt s k=(b.toNat:Int):=by
    unfold byt;rw [aDa s k hks,<- hb];rfl
   have ih':=ih s (k+1) hd;simp only [Lib.indexByte,List.length_cons,dF,hbyt];rw [ih'];have e46:(46:Int).toNat.toUInt8=46:=rfl;rw [e46];by_cases c:b=46
   .subst c;simp
   .have c1:(b==46)=false:=by simpa using c
    have c2:¬ ((b.toNat:Int)=46):=fun e=>c (UInt8.toNat_inj.1 (by simpa using (by omega:b.toNat=46)));rw [c1,if_neg c2];rcases eV s l.length (k+1) with e|e
    .simp [e]
    .have n1:¬ dF s l.length (k+1)=-1:=by omega
     simp only [n1,if_false,Bool.false_eq_true];split
     .next h=>simp at h;omega
     .omega
theorem aKz (s:ByteArray):Lib.indexByte s.data.toList (46:Int).toNat.toUInt8=dot s:=by
 have:=aNb s.data.toList s 0 (by simp);rw [this];have e:s.data.toList.length=s.size:=Array.length_toList;unfold dot;rw [e];rcases eV s s.size 0 with h|h
 .simp [h]
 .simp only [if_neg (show ¬ dF s s.size 0=-1 by omega)];omega
theorem vX (s:ByteArray)(w:qw):
 qC 236 #[.string s,.int .u8 46] w fun e w'=>e=.returned (qI (dot s))/\w=w':=by
 have HD:=zh (aKz s);go_enter func236,ntmps236
 go_wp2;rw [run_callFunc_extern func254 (by kernel_rfl) (by kernel_rfl) (by kernel_rfl) (e:=Extern.BytealgIndexByte.indexByte) (by kernel_rfl),Lib.run_indexByteString];simp only [Result.andThen];rw [Oper.upon_value];go_wp2;go_ret;exact ⟨aH HD.o,rfl⟩
theorem aIi (s:ByteArray)(w:qw)(hs:s.size<=1048576):
 qC 221 #[.string s,.string ⟨#[46]⟩] w fun e w'=>e=.returned (qI (dot s))/\w=w':=by
 have HI:=zh (fun w=>vX s w);by_cases he:(⟨#[46]⟩:ByteArray)=s
 .subst he;have HD:Zh (dot ⟨#[46]⟩=0):=by show _=_;rfl
  clear HI;go_enter func221,ntmps221
  go_wp2;go_ret;exact ⟨aH HD.o.symm,rfl⟩
 .have hne:¬ ([46]:List UInt8)=s.toList:=fun e=>he (Go.WideShapes.bytes_inj (by rw [ByteArray.toList_eq] at e;exact e));have he':(([46]:List UInt8)==s.toList)=false:=by simpa using hne
  have he2:((⟨#[46]⟩:ByteArray).toList==s.toList)=false:=by rw [ByteArray.toList_eq];exact he'
  have h46:∀ w:World,(Instr.index 9 (.string ⟨#[46]⟩) (qI 0)).run prog w=.ok (.int .u8 46) w:=fun w=>by kernel_rfl
  go_enter func221,ntmps221
  go_wp2_with (go_at_call 236;refine (HI.o _).mono ?_;rintro e w1 ⟨rfl,rfl⟩)
  go_ret;exact ⟨rfl,rfl⟩
theorem aHj (s:ByteArray)(w:qw)(hs:s.size<=1048576):
 qC 201 #[.string s,.string ⟨#[46]⟩] w (qB w (.tuple #[.string (if 0<=dot s then dH s else s),.string (if 0<=dot s then eJ s else ⟨#[]⟩),.bool (decide (0<=dot s))])):=by
 have HI:=zh (fun w=>aIi s w hs);have HB:=zh (Below.refl w.heap.size w);rcases lH s with h|⟨h0,h1⟩
 .have hn:¬ (0<=dot s):=by omega
  rw [if_neg hn,if_neg hn,xS hn];rw [h] at HI;clear h hn;go_enter func201,ntmps201
  go_wp2_with (go_at_call 221;refine (HI.o _).mono ?_;rintro e w1 ⟨rfl,rfl⟩)
  all_goals (try go_region)
  all_goals (try go_wp2)
  all_goals go_ret3
  all_goals exact ⟨rfl,by first|exact HB.o|exact HB.o.drew⟩
 .rw [if_pos h0,if_pos h0,xR h0];unfold dH eJ;generalize dot s=p at *;go_enter func201,ntmps201
  go_wp2_with (go_at_call 221;refine (HI.o _).mono ?_;rintro e w1 ⟨rfl,rfl⟩)
  all_goals (try go_region)
  all_goals (try go_wp2)
  all_goals go_ret3
  all_goals exact ⟨rfl,by first|exact HB.o|exact HB.o.drew⟩
theorem aNg (s:ByteArray)(w:qw)(hs:s.size<=1048576):
 qC 172 #[.string s,.string ⟨#[46]⟩] w (qB w (.tuple #[.string (if 0<=dot s then dH s else s),.string (if 0<=dot s then eJ s else ⟨#[]⟩),.bool (decide (0<=dot s))])):=by
 have HC:=zh (fun w=>aHj s w hs);generalize (if 0<=dot s then dH s else s)=A at *;generalize (if 0<=dot s then eJ s else ⟨#[]⟩)=B at *;generalize decide (0<=dot s)=C at *;go_enter func172,ntmps172
 go_wp2_with (go_at_call 201;refine (HC.o _).mono ?_;rintro e w1 ⟨rfl,hb1⟩)
 go_ret3
 exact ⟨rfl,hb1⟩
theorem aJ7:nmo ⟨#[]⟩=false:=rfl
def aFh (s:ByteArray):Value:=if fE s then .tuple #[.string (dH s),.string (eJ s),.bool true] else .tuple #[.string ⟨#[]⟩,.string ⟨#[]⟩,.bool false]
theorem lV (s:ByteArray)(w:qw)(hs:s.size<=1048576):
 qC 120 #[.string s] w (qB w (aFh s)):=by
 have HC:=zh (fun w=>aNg s w hs);obtain ⟨V,hV⟩:=eqx (aFh s);rw [<- hV];unfold aFh fE at hV;have hA:(if 0<=dot s then dH s else s).size<=1048576:=by split;exact oV s hs;exact hs
 have hB:(if 0<=dot s then eJ s else ⟨#[]⟩).size<=1048576:=by split;exact oU s hs;exact (by decide)
 have HA:=zh (fun w=>jE _ w hA);have HB:=zh (fun w=>jE _ w hB)
 have hV':V=if nmo (if 0<=dot s then dH s else s)&&nmo (if 0<=dot s then eJ s else ⟨#[]⟩) then .tuple #[.string (if 0<=dot s then dH s else s),.string (if 0<=dot s then eJ s else ⟨#[]⟩),.bool true] else .tuple #[.string ⟨#[]⟩,.string ⟨#[]⟩,.bool false]:=by
  by_cases h:0<=dot s
  .simp only [h,if_true,decide_true,Bool.true_and] at hV ⊢;exact hV
  .simp only [h,if_false,decide_false,Bool.false_and,aJ7,Bool.and_false] at hV ⊢;exact hV
 clear hV hA hB;generalize (if 0<=dot s then dH s else s)=A at *;generalize (if 0<=dot s then eJ s else ⟨#[]⟩)=B at *;generalize decide (0<=dot s)=C at *;generalize nmo A=a at *;generalize nmo B=b at *;have HV:=zh hV';clear hV';cases a
 .obtain rfl:V=.tuple #[.string ⟨#[]⟩,.string ⟨#[]⟩,.bool false]:=HV.o;go_enter func120,ntmps120
  go_wp2_with fail
  refine (HC.o _).mono ?_;rintro e w1 ⟨rfl,hb1⟩;go_wp2_with fail
  refine (HA.o _).mono ?_;rintro e w2 ⟨rfl,rfl⟩;go_wp2
  go_ret3
  exact ⟨rfl,hb1⟩
 .cases b
  .obtain rfl:V=.tuple #[.string ⟨#[]⟩,.string ⟨#[]⟩,.bool false]:=HV.o;go_enter func120,ntmps120
   go_wp2_with fail
   refine (HC.o _).mono ?_;rintro e w1 ⟨rfl,hb1⟩;go_wp2_with fail
   refine (HA.o _).mono ?_;rintro e w2 ⟨rfl,rfl⟩;go_wp2_with fail
   refine (HB.o _).mono ?_;rintro e w2 ⟨rfl,rfl⟩;go_wp2
   go_ret3
   exact ⟨rfl,hb1⟩
  .obtain rfl:V=.tuple #[.string A,.string B,.bool true]:=HV.o;go_enter func120,ntmps120
   go_wp2_with fail
   refine (HC.o _).mono ?_;rintro e w1 ⟨rfl,hb1⟩;go_wp2_with fail
   refine (HA.o _).mono ?_;rintro e w2 ⟨rfl,rfl⟩;go_wp2_with fail
   refine (HB.o _).mono ?_;rintro e w2 ⟨rfl,rfl⟩;go_wp2
   go_ret3
   exact ⟨rfl,hb1⟩
def wd (s:Int):Bool:=decide (s=1\/s=2\/s=4)
theorem gU (s:Int)(w:qw):
 qC 240 #[qI s] w fun e w'=>e=.returned (.bool (wd s))/\w=w':=by
 by_cases h1:s=1
 .subst h1;go_enter func240,ntmps240
  go_wp2;go_ret;exact ⟨rfl,rfl⟩
 .by_cases h2:s=2
  .subst h2;go_enter func240,ntmps240
   go_wp2;go_ret;exact ⟨rfl,rfl⟩
  .have hf:Zh (wd s=(s==4)):=by show _=_;unfold wd;rw [xJ];simp;omega
   have g1:(s==1)=false:=by simpa using h1
   have g2:(s==2)=false:=by simpa using h2
   clear h1 h2;go_enter func240,ntmps240
   go_wp2;go_ret;exact ⟨aA hf.o.symm,rfl⟩
def ins (p s f:Int)(n:Nat):Bool:=decide (f<=p/\p<=f+n-s)
theorem iK (a:qO)(n cap:Nat)(p s f:Int)(w:qw)(hp:p<=9223372036854775807:=by omega)(hs0:1<=s:=by omega)(hs:s<=4:=by omega)(hf0:0<=f:=by omega)(hf:f<=65536:=by omega)(hn:n<=16384:=by omega):
 qC 261 #[qS a n cap,qI f,qI p,qI s] w fun e w'=>e=.returned (.bool (ins p s f n))/\w=w':=by
 by_cases h1:f<=p
 .have hf:Zh (ins p s f n=decide (p-f<=n-s)):=by show _=_;unfold ins;rw [xJ];simp;omega
  go_enter func261,ntmps261
  go_wp2;go_ret;exact ⟨aA hf.o.symm,rfl⟩
 .have hf:Zh (ins p s f n=false):=by show _=_;unfold ins;simp;omega
  go_enter func261,ntmps261
  go_wp2;go_ret;exact ⟨aA hf.o.symm,rfl⟩
def low:List Int->Int
 | []=>0
 | z::zs=>low zs*256+z
theorem yH:∀ (zs:qi),(∀ z∈zs,0<=z/\z<=255)->0<=low zs/\low zs+1<=(256:Int)^zs.length
 | [],_=>by simp [low]
 | z::zs,h=>by
   have ih:=yH zs (fun x hx=>h x (by simp [hx]));have hz:=h z (by simp);simp only [low,List.length_cons,Int.pow_succ];omega
theorem oI (zs:qi)(h:∀ z∈zs,0<=z/\z<=255)(hl:zs.length<=4):0<=low zs/\low zs<=4294967295:=by
 have h1:=yH zs h;have h2:(256:Nat)^zs.length<=256^4:=Nat.pow_le_pow_right (by omega) hl;have h3:((256^zs.length:Nat):Int)=(256:Int)^zs.length:=by simp
 have h4:(256:Nat)^4=4294967296:=rfl;omega
theorem aKn (zs:qi)(j:Nat)(h:j<zs.length):low (zs.drop j)=low (zs.drop (j+1))*256+zs.getD j 0:=by
 rw [List.drop_eq_getElem_cons h];simp [low,xB,h]
theorem aIh (b off n cap:Nat)(zs:qi)(w:qw)(h:BS w (some (qR b off)) n cap zs)(hn:n<=4:=by omega):
 qC 146 #[qS (some (qR b off)) n cap] w fun e w'=>e=.returned (qI (low zs))/\w=w':=by
 obtain ⟨hl,hmx,hr,hc,_⟩:=h
 have hd:∀ i,i<n->w.cell? (qR b (off+i))=some (.int .u8 (zs.getD i 0)):=by
  intro i hi;obtain ⟨b',off',e,hd⟩:=hc (by omega);simp at e;obtain ⟨rfl,rfl⟩:=e;exact hd i hi
 clear hc;go_enter func146,ntmps146
 go_wp2;go_loop [3,4] (fun v i=>∃ (k:Nat) (p:Int),k<=n/\p+1=k/\i=qI p/\v=qI (low (zs.drop k))) (fun _ i=>(intOf i+1).toNat)
 .exact ⟨n,(n:Int)-1,aN,by omega,rfl,by rw [List.drop_of_length_le (by omega)];rfl⟩
 .obtain ⟨k,p,hk,hp,rfl,rfl⟩:=hrel;by_cases h0:k=0
  .have hp':p=-1:=by omega
   subst hp' h0;clear hp;have hfin:Zh (low (List.drop 0 zs)=low zs):=by show _=_;rw [List.drop_zero]
   generalize low (List.drop 0 zs)=L at *;go_wp2;go_ret;exact ⟨aH hfin.o,rfl⟩
  .obtain ⟨j,rfl⟩:∃ j,k=j+1:=⟨k-1,by omega⟩;have hp':p=(j:Int):=by omega
   subst hp';have hj:(0:Int)<=(j:Int):=by omega
   have hjn:(j:Int)<(n:Int):=by omega
   have hst:=aKn zs j (by omega);have hL:=oI (zs.drop (j+1)) (fun z hz=>hr z (List.mem_of_mem_drop hz)) (by simp;omega);have hL3:low (zs.drop (j+1))<=4294967295:=hL.2;have hcj:=hd j (by omega)
   have hz0:0<=zs.getD j 0/\zs.getD j 0<=255:=by
    have:=hr zs[j] (List.getElem_mem (by omega));simpa [xB,show j<zs.length by omega] using this
   have HS:=zh hst;clear hst hp hd h0;generalize low (zs.drop (j+1))=L at *;generalize zs.getD j 0=z at *;obtain ⟨hL1,hL2⟩:=hL;obtain ⟨hz1,hz2⟩:=hz0;go_wp2
   go_round
   .exact ⟨j,(j:Int)-1,by omega,by omega,by go_num,by rw [HS.o]⟩
   .simp [intOf]
theorem aG8 (n:Int)(h₀:0<=n)(h₁:n<2^62):IntKind.i64.wrap n=n:=by
 have:(2:Int)^62=4611686018427387904:=rfl;simp only [IntKind.wrap,IntKind.bits,IntKind.signed];simp;omega
theorem rE (i:Nat)(x y:Int)(hx₀:0<=x:=by omega)(hx:x%2^i=0:=by omega)(hx₁:x<2^62:=by omega)(hy₀:0<=y:=by omega)(hy:y<2^i:=by omega)(hy₁:y<2^62:=by omega):bits .or .i64 x y=x+y:=
 bits_join .i64 62 (by decide) aG8 i x y hx₀ hx hx₁ hy₀ hy hy₁
theorem BS.at {w:qw}{b off n cap:Nat}{zs:qi}(h:BS w (some (qR b off)) n cap zs)(i:Nat)(hi:i<n):w.cell? (qR b (off+i))=some (.int .u8 (zs.getD i 0)):=by
 obtain ⟨b',off',e,hd⟩:=h.2.2.2.1 (by omega);simp at e;obtain ⟨rfl,rfl⟩:=e;exact hd i hi
theorem or4 (z0 z1 z2 z3:Int)(p0:0<=z0)(p0':z0<=255)(p1:0<=z1)(p1':z1<=255)(p2:0<=z2)(p2':z2<=255)(p3:0<=z3)(p3':z3<=255):
 bits BinOp.or IntKind.i64 (bits BinOp.or IntKind.i64 (bits BinOp.or IntKind.i64 0 (bits BinOp.or IntKind.i64 (z3*16777216) (z2*65536))) (z1*256)) z0=low [z0,z1,z2,z3]:=by
 rw [rE 24 (z3*16777216) (z2*65536)];rw [rE 40 0 (z3*16777216+z2*65536)];rw [rE 16 (0+(z3*16777216+z2*65536)) (z1*256)];rw [rE 8 (0+(z3*16777216+z2*65536)+z1*256) z0];simp only [low];omega
theorem aPu (zs:qi)(h:4<=zs.length):zs.take 4=[zs.getD 0 0,zs.getD 1 0,zs.getD 2 0,zs.getD 3 0]:=by
 match zs,h with
 | a::b::c::d::_,_=>rfl
theorem aFe (b off n cap:Nat)(zs:qi)(w:qw)(h:BS w (some (qR b off)) n cap zs)(hn:4<=n):
 qC 234 #[qS (some (qR b off)) n cap,qI 4] w (qB w (qI (low (zs.take 4)))):=by
 have r0:=h.range 0;have r1:=h.range 1;have r2:=h.range 2;have r3:=h.range 3;have c0:=h.at 0 (by omega);have c1:=h.at 1 (by omega);have c2:=h.at 2 (by omega);have c3:=h.at 3 (by omega);simp only [Nat.add_zero] at c0;have hl:(3:Int)<(n:Int):=by omega
 rw [aPu zs (by rw [h.1];omega)];clear h;generalize zs.getD 0 0=z0 at *;generalize zs.getD 1 0=z1 at *;generalize zs.getD 2 0=z2 at *;generalize zs.getD 3 0=z3 at *;obtain ⟨p0,p0'⟩:=r0;obtain ⟨p1,p1'⟩:=r1;obtain ⟨p2,p2'⟩:=r2;obtain ⟨p3,p3'⟩:=r3;have HS:=zh (or4 z0 z1 z2 z3 p0 p0' p1 p1' p2 p2' p3 p3');generalize low [z0,z1,z2,z3]=L at *;go_enter func234,ntmps234
 go_wp2
 go_quiet (fail)
 go_wp2;go_ret;exact ⟨aH HS.o,below_drewN brf _⟩
theorem BS.drop {w:qw}{zs:qi}(h:BS w (some (qR b off)) n cap zs)(k:Nat)(hk:k<=n):BS w (some (qR b (off+k))) (n-k) (cap-k) (zs.drop k):=by
 have hl:=h.1;refine ⟨by simp;omega,by have:=h.2.1;omega,fun z hz=>h.2.2.1 z (List.mem_of_mem_drop hz),fun hn=>⟨b,off+k,rfl,fun i hi=>?_⟩,by have:=h.2.2.2.2;omega⟩;have:=h.at (k+i) (by omega);rw [Nat.add_assoc,this];simp [xB]
theorem BS.take {w:qw}{zs:qi}(h:BS w (some (qR b off)) n cap zs)(s:Nat)(hs:s<=n):BS w (some (qR b off)) s cap (zs.take s):=by
 have hl:=h.1;refine ⟨by simp;omega,by have:=h.2.1;omega,fun z hz=>h.2.2.1 z (List.mem_of_mem_take hz),fun hn=>⟨b,off,rfl,fun i hi=>?_⟩,by have:=h.2.2.2.2;omega⟩;have:=h.at i (by omega);rw [this];simp [xB,hi]
theorem wd4:wd 4=true:=by decide
theorem aPa {n1 n2 n3:Nat}(h:mok n1 n2 n3=true):n1<=16384/\n2<=16384/\n3<=5000:=by simpa [mok] using h
theorem aBs (a1 a2 a3:qO)(n1 c1 n2 c2 n3 c3:Nat)(p:Int)(w:qw)(h:mok n1 n2 n3=true)(hm:(p.tmod 4 !=0)=false):
 qC 259 #[.agg (qV a1 n1 c1 a2 n2 c2 a3 n3 c3),qI p,qI 4] w (qB w (qI 0)):=by
 have hB0:qY w (w.alloc (.cells (qV a1 n1 c1 a2 n2 c2 a3 n3 c3) 39)):=bal;go_enter func259,ntmps259
 go_wp2_with fail
 refine (tT a1 a2 a3 n1 c1 n2 c2 n3 c3 _).mono ?_;rw [h];rintro e w1 ⟨rfl,hb1⟩;have k1:=(Blk.new w (qV a1 n1 c1 a2 n2 c2 a3 n3 c3) 39).bw hb1;have hB1:=hB0.trans (hb1.mono (by simp));obtain ⟨q1,q2,q3,q4⟩:=k1.three;clear hb1 k1;go_wp2_with fail
 refine (gU 4 _).mono ?_;rw [wd4];rintro e w2 ⟨rfl,rfl⟩;go_wp2;go_ret;exact ⟨rfl,hB1⟩
theorem BS.some {w:qw}{a:qO}{zs:qi}(h:BS w a n cap zs)(hn:n≠0):∃ b off,a=Option.some (qR b off):=by
 obtain ⟨b,off,e,_⟩:=h.2.2.2.1 hn;exact ⟨b,off,e⟩
def OB (w:qw)(base:Nat)(v:Value)(zs:qi):Prop:=w.ownsRow base 5 1 v zs.length (zs.map (Value.int .u8))/\∀ z∈zs,0<=z/\z<=255
theorem aBl {w:qw}{zs:qi}(h:BS w (some (qR b off)) n cap zs):∀ j u,(zs.map (Value.int .u8))[j]?=some u->w.cell? (((qR b off):Addr).add j)=some u:=by
 intro j u hj;have hl:=h.1
 have hjl:j<n:=by
  by_cases e:j<n
  .exact e
  .rw [xO (by simp;omega)] at hj;simp at hj
 rw [bN,h.at j hjl];rw [<- hj];simp [xB,show j<zs.length by omega]
theorem wW (w:qw):(w.alloc (.cells #[] 5)).ownsRow w.heap.size 5 1 (qS (qP w.heap.size) 0 0) 0 []:=
 ⟨rfl,.inr ⟨w.heap.size,0,#[],rfl,aN,heap_alloc_new w _,aN,xC _,rfl,rfl⟩⟩
theorem wV {w:qw}{t:TypeId}{xs:List Value}(h:w.ownsRow base t 1 v n xs):∃ a cap,v=qS a n cap:=by
 obtain ⟨_,⟨rfl,rfl⟩|⟨g,cap,cur,rfl,_⟩⟩:=h
 .exact ⟨_,_,rfl⟩
 .exact ⟨_,_,rfl⟩
theorem nQ {a w w':qw}(h:Below B a w)(hg:w.grownBy w' (some k))(hB:B<=w.heap.size)(hk:B<=k):Below B a w':=h.grown hg hB (fun j hj=>by cases hj;exact hk)
theorem kN (b off n cap:Nat)(zs:qi)(w:qw)(h:BS w (some (qR b off)) n cap zs)(hn:n<=1048576):
 qC 149 #[qS (some (qR b off)) n cap] w fun e w'=>∃ a cap',e=.returned (qS a n cap')/\OB w' w.heap.size (qS a n cap') zs/\qY w w':=by
 obtain ⟨i0,hi,hz0,hz1,hz2⟩:=info_parts yO;have hl:=h.1;have h':=h.bw ((Below.refl w.heap.size w).alloc aN (.cells #[] 5));have hnews:=zh (aBl h');have hone:=zh (ints_oneCell .u8 zs);have hown:=zh (wW w);have hlen:=zh (show (zs.map (Value.int .u8)).length=n*1 by simp;omega);go_enter func149,ntmps149
 go_wp2_with (at_builtin;refine wpList_append_own _ rfl _ _ 28 rfl w.heap.size 5 i0 (.int .u8 0) 1 1 underlying28 hi hz0 hz1 hz2 rfl (by decide) _ 0 [] rfl hown.o (qR b off) n cap (zs.map (Value.int .u8)) rfl hlen.o hnews.o hone.o (by unfold maxLen;omega) (by omega) (by simp) ?_;intro v' w1 hown1 hgr1 _)
 simp only [Nat.zero_add,List.nil_append] at hown1;have hex:=wV hown1;go_ret;obtain ⟨a',cap',he⟩:=hex;refine ⟨a',cap',by rw [<- he];rfl,⟨?_,h.2.2.1⟩,?_⟩
 .rw [hl,<- he];exact hown1
 .exact nQ ((Below.refl w.heap.size w).alloc aN _) hgr1 (by simp) aN
theorem oW (b off n cap:Nat)(zs:qi)(w:qw)(h:BS w (some (qR b off)) n cap zs)(hn:n<=1048576):
 qC 164 #[qS (some (qR b off)) n cap] w fun e w'=>∃ a cap',e=.returned (qS a n cap')/\OB w' w.heap.size (qS a n cap') zs/\qY w w':=by
 obtain ⟨i0,hi,hz0,hz1,hz2⟩:=info_parts yO;have hl:=h.1;have h':=h.bw ((Below.refl w.heap.size w).alloc aN (.cells #[] 5));have hnews:=zh (aBl h');have hone:=zh (ints_oneCell .u8 zs);have hown:=zh (wW w);have hlen:=zh (show (zs.map (Value.int .u8)).length=n*1 by simp;omega);have hnil:=fun (w:qw)=>Lib.run_eql_slice_nil (P:=prog) w 28 5 (some (qR b off)) n cap 0 0 underlying28;go_enter func164,ntmps164
 go_wp2_with (at_builtin;refine wpList_append_own _ rfl _ _ 28 rfl w.heap.size 5 i0 (.int .u8 0) 1 1 underlying28 hi hz0 hz1 hz2 rfl (by decide) _ 0 [] rfl hown.o (qR b off) n cap (zs.map (Value.int .u8)) rfl hlen.o hnews.o hone.o (by unfold maxLen;omega) (by omega) (by simp) ?_;intro v' w1 hown1 hgr1 _)
 simp only [Nat.zero_add,List.nil_append] at hown1;have hex:=wV hown1;go_ret;obtain ⟨a',cap',he⟩:=hex;refine ⟨a',cap',by rw [<- he];rfl,⟨?_,h.2.2.1⟩,?_⟩
 .rw [hl,<- he];exact hown1
 .exact nQ ((Below.refl w.heap.size w).alloc aN _) hgr1 (by simp) aN
def gL (w:qw)(base:Nat)(v1 v2 v3:Value)(x1 x2 x3:qi):Prop:=
 OB w base v1 x1/\OB w base v2 x2/\OB w base v3 x3/\(∀ k j,v1.ownBlock=some k->v2.ownBlock=some j->k<j)/\(∀ k j,v1.ownBlock=some k->v3.ownBlock=some j->k<j)/\∀ k j,v2.ownBlock=some k->v3.ownBlock=some j->k<j
theorem OB.bw {w w':qw}{zs:qi}(h:OB w base v zs)(hb:qY w w'):OB w' base v zs:=by
 refine ⟨?_,h.2⟩;obtain ⟨hl,h0|⟨g,cap,cur,hv,hg,hh,h1,h2,h3,h4⟩⟩:=h.1
 .exact ⟨hl,.inl h0⟩
 .refine ⟨hl,.inr ⟨g,cap,cur,hv,hg,?_,h1,h2,h3,h4⟩⟩;exact Blk.bw (w:=w) hh hb
theorem OB.mono {w:qw}{base':Nat}{zs:qi}(h:OB w base v zs)(hb:base'<=base):OB w base' v zs:=by
 refine ⟨?_,h.2⟩;obtain ⟨hl,h0|⟨g,cap,cur,hv,hg,hh,h1,h2,h3,h4⟩⟩:=h.1
 .exact ⟨hl,.inl h0⟩
 .exact ⟨hl,.inr ⟨g,cap,cur,hv,by omega,hh,h1,h2,h3,h4⟩⟩
theorem OB.other {w:qw}{zs:qi}(h:OB w base v zs)(a:Addr)(u:Value)(ha:a.block<base):OB (w.setCell a u) base v zs:=by
 refine ⟨?_,h.2⟩;obtain ⟨hl,h0|⟨g,cap,cur,hv,hg,hh,h1,h2,h3,h4⟩⟩:=h.1
 .exact ⟨hl,.inl h0⟩
 .exact ⟨hl,.inr ⟨g,cap,cur,hv,hg,Blk.other (w:=w) hh a u (by omega),h1,h2,h3,h4⟩⟩
theorem OB.lt {w:qw}{zs:qi}(h:OB w base v zs):∀ k,v.ownBlock=some k->base<=k/\k<w.heap.size:=h.1.lt
theorem OB.bs {w:qw}{a:qO}{zs:qi}(h:OB w base (qS a n cap) zs):BS w a n cap zs:=by
 obtain ⟨hl,⟨h0,h0'⟩|⟨g,cap',cur,hv,hg,hh,h1,h2,h3,h4⟩⟩:=h.1
 .simp at h0;obtain ⟨rfl,rfl,rfl⟩:=h0;exact ⟨h0',xC _,h.2,fun hn=>absurd rfl hn,aN⟩
 .simp at hv;obtain ⟨rfl,rfl,rfl⟩:=hv;refine ⟨rfl,by omega,h.2,fun hn=>⟨g,0,rfl,fun i hi=>?_⟩,h1⟩;rw [Nat.zero_add,Blk.cell (w:=w) hh]
  have:cur.toList[i]?=(zs.map (Value.int .u8))[i]?:=by
   rw [<- h4,List.getElem?_take,if_pos (by omega)]
  rw [Array.getElem?_toList] at this;rw [this];simp [xB,hi]
theorem aE0 (b1 o1 b2 o2 b3 o3 n1 c1 n2 c2 n3 c3:Nat)(x1 x2 x3:qi)(w:qw)(h1:BS w (some (qR b1 o1)) n1 c1 x1)(h2:BS w (some (qR b2 o2)) n2 c2 x2)(h3:BS w (some (qR b3 o3)) n3 c3 x3)(hn:n1+n2+n3<=1048576):
 qC 85 #[.agg (qV (some (qR b1 o1)) n1 c1 (some (qR b2 o2)) n2 c2 (some (qR b3 o3)) n3 c3)] w fun e w'=>∃ a1 d1 a2 d2 a3 d3,e=.returned (.agg (qV a1 n1 d1 a2 n2 d2 a3 n3 d3))/\gL w' w.heap.size (qS a1 n1 d1) (qS a2 n2 d2) (qS a3 n3 d3) x1 x2 x3/\qY w w':=by
 have hB0:qY w ((w.alloc (.cells (qV (some (qR b1 o1)) n1 c1 (some (qR b2 o2)) n2 c2 (some (qR b3 o3)) n3 c3) 39)).alloc (.cells (qV none 0 0 none 0 0 none 0 0) 39)):=
  bal.alloc (by simp) _
 have kb:=(Blk.new w (qV (some (qR b1 o1)) n1 c1 (some (qR b2 o2)) n2 c2 (some (qR b3 o3)) n3 c3) 39).alloc (.cells (qV none 0 0 none 0 0 none 0 0) 39);have kr:=Blk.new (w.alloc (.cells (qV (some (qR b1 o1)) n1 c1 (some (qR b2 o2)) n2 c2 (some (qR b3 o3)) n3 c3) 39)) (qV none 0 0 none 0 0 none 0 0) 39;try unfold qY at *
 simp only [xF] at kr;have B1:=h1.bw hB0;have B2:=h2.bw hB0;have B3:=h3.bw hB0;clear h1 h2 h3;go_enter func85,ntmps85
 go_wp2
 go_region_held3 (fun w'=>w'.cell? (qR w.heap.size 0)=some (qS (some (qR b1 o1)) n1 c1)/\w'.cell? (qR w.heap.size 1)=some (qS (some (qR b2 o2)) n2 c2)/\w'.cell? (qR w.heap.size 2)=some (qS (some (qR b3 o3)) n3 c3)) (go_keep)
  (first
    | (go_at_call_of 149 (qS (some (qR b1 o1)) n1 c1);refine (kN b1 o1 n1 c1 x1 _ (by exact B1) (by omega)).mono ?_;rintro e w1 ⟨a1,d1,rfl,p1,hb1⟩;replace hb1:=dG hb1;obtain ⟨q1,q2,q3,q4⟩:=(kb.bw hb1).three)
    | (go_at_call_of 149 (qS (some (qR b2 o2)) n2 c2);refine (kN b2 o2 n2 c2 x2 _ (B2.bw hb1) (by omega)).mono ?_;rintro e w2 ⟨a2,d2,rfl,p2,hb2⟩;have hb12:=hb1.trans (hb2.mono hb1.size);obtain ⟨q1,q2,q3,q4⟩:=(kb.bw hb12).three)
    | (go_at_call_of 149 (qS (some (qR b3 o3)) n3 c3);refine (kN b3 o3 n3 c3 x3 _ (B3.bw hb12) (by omega)).mono ?_;rintro e w3 ⟨a3,d3,rfl,p3,hb3⟩;have hb13:=hb12.trans (hb3.mono hb12.size);obtain ⟨q1,q2,q3,q4⟩:=(kb.bw hb13).three;obtain ⟨q5,q6,q7,q8⟩:=(kr.bw hb13).three))
 have s1:=hb1.size;have s2:=hb2.size;have s3:=hb3.size;simp only [heap_drew,xF] at s1 p1;go_wp2;refine bodyPost_ret (v:=.agg (qV a1 n1 d1 a2 n2 d2 a3 n3 d3)) (by simp [results,results85,go_sem,q5,q6,q7]) rfl ⟨a1,d1,a2,d2,a3,d3,rfl,⟨?_,?_,?_,?_,?_,?_⟩,?_⟩
 .exact (((((p1.bw hb2).bw hb3).other _ _ (by dsimp only;omega)).other _ _ (by dsimp only;omega)).other _ _ (by dsimp only;omega)).mono (by omega)
 .exact ((((p2.bw hb3).other _ _ (by dsimp only;omega)).other _ _ (by dsimp only;omega)).other _ _ (by dsimp only;omega)).mono (by omega)
 .exact (((p3.other _ _ (by dsimp only;omega)).other _ _ (by dsimp only;omega)).other _ _ (by dsimp only;omega)).mono (by omega)
 .intro k j hk hj;have:=p1.lt k hk;have:=p2.lt j hj;omega
 .intro k j hk hj;have:=p1.lt k hk;have:=p3.lt j hj;omega
 .intro k j hk hj;have:=p2.lt k hk;have:=p3.lt j hj;omega
 .exact (((hB0.trans (hb13.mono (by simp;omega))).setCell (by dsimp only;omega) _).setCell (by dsimp only;omega) _).setCell (by dsimp only;omega) _
theorem aDk (b1 o1 b2 o2 b3 o3 n1 c1 n2 c2 n3 c3:Nat)(x1 x2 x3:qi)(w:qw)(h1:BS w (some (qR b1 o1)) n1 c1 x1)(h2:BS w (some (qR b2 o2)) n2 c2 x2)(h3:BS w (some (qR b3 o3)) n3 c3 x3)(hn:n1+n2+n3<=1048576):
 qC 96 #[.agg (qV (some (qR b1 o1)) n1 c1 (some (qR b2 o2)) n2 c2 (some (qR b3 o3)) n3 c3)] w fun e w'=>∃ a1 d1 a2 d2 a3 d3,e=.returned (.agg (qV a1 n1 d1 a2 n2 d2 a3 n3 d3))/\gL w' w.heap.size (qS a1 n1 d1) (qS a2 n2 d2) (qS a3 n3 d3) x1 x2 x3/\qY w w':=by
 have hB0:qY w ((w.alloc (.cells (qV (some (qR b1 o1)) n1 c1 (some (qR b2 o2)) n2 c2 (some (qR b3 o3)) n3 c3) 39)).alloc (.cells (qV none 0 0 none 0 0 none 0 0) 39)):=
  bal.alloc (by simp) _
 have kb:=(Blk.new w (qV (some (qR b1 o1)) n1 c1 (some (qR b2 o2)) n2 c2 (some (qR b3 o3)) n3 c3) 39).alloc (.cells (qV none 0 0 none 0 0 none 0 0) 39);have kr:=Blk.new (w.alloc (.cells (qV (some (qR b1 o1)) n1 c1 (some (qR b2 o2)) n2 c2 (some (qR b3 o3)) n3 c3) 39)) (qV none 0 0 none 0 0 none 0 0) 39;try unfold qY at *
 simp only [xF] at kr;have B1:=h1.bw hB0;have B2:=h2.bw hB0;have B3:=h3.bw hB0;clear h1 h2 h3;go_enter func96,ntmps96
 go_wp2
 go_region_held3 (fun w'=>w'.cell? (qR w.heap.size 0)=some (qS (some (qR b1 o1)) n1 c1)/\w'.cell? (qR w.heap.size 1)=some (qS (some (qR b2 o2)) n2 c2)/\w'.cell? (qR w.heap.size 2)=some (qS (some (qR b3 o3)) n3 c3)) (go_keep)
  (first
    | (go_at_call_of 164 (qS (some (qR b1 o1)) n1 c1);refine (oW b1 o1 n1 c1 x1 _ (by exact B1) (by omega)).mono ?_;rintro e w1 ⟨a1,d1,rfl,p1,hb1⟩;replace hb1:=dG hb1;obtain ⟨q1,q2,q3,q4⟩:=(kb.bw hb1).three)
    | (go_at_call_of 164 (qS (some (qR b2 o2)) n2 c2);refine (oW b2 o2 n2 c2 x2 _ (B2.bw hb1) (by omega)).mono ?_;rintro e w2 ⟨a2,d2,rfl,p2,hb2⟩;have hb12:=hb1.trans (hb2.mono hb1.size);obtain ⟨q1,q2,q3,q4⟩:=(kb.bw hb12).three)
    | (go_at_call_of 164 (qS (some (qR b3 o3)) n3 c3);refine (oW b3 o3 n3 c3 x3 _ (B3.bw hb12) (by omega)).mono ?_;rintro e w3 ⟨a3,d3,rfl,p3,hb3⟩;have hb13:=hb12.trans (hb3.mono hb12.size);obtain ⟨q1,q2,q3,q4⟩:=(kb.bw hb13).three;obtain ⟨q5,q6,q7,q8⟩:=(kr.bw hb13).three))
 have s1:=hb1.size;have s2:=hb2.size;have s3:=hb3.size;simp only [heap_drew,xF] at s1 p1;go_wp2;refine bodyPost_ret (v:=.agg (qV a1 n1 d1 a2 n2 d2 a3 n3 d3)) (by simp [results,results96,go_sem,q5,q6,q7]) rfl ⟨a1,d1,a2,d2,a3,d3,rfl,⟨?_,?_,?_,?_,?_,?_⟩,?_⟩
 .exact (((((p1.bw hb2).bw hb3).other _ _ (by dsimp only;omega)).other _ _ (by dsimp only;omega)).other _ _ (by dsimp only;omega)).mono (by omega)
 .exact ((((p2.bw hb3).other _ _ (by dsimp only;omega)).other _ _ (by dsimp only;omega)).other _ _ (by dsimp only;omega)).mono (by omega)
 .exact (((p3.other _ _ (by dsimp only;omega)).other _ _ (by dsimp only;omega)).other _ _ (by dsimp only;omega)).mono (by omega)
 .intro k j hk hj;have:=p1.lt k hk;have:=p2.lt j hj;omega
 .intro k j hk hj;have:=p1.lt k hk;have:=p3.lt j hj;omega
 .intro k j hk hj;have:=p2.lt k hk;have:=p3.lt j hj;omega
 .exact (((hB0.trans (hb13.mono (by simp;omega))).setCell (by dsimp only;omega) _).setCell (by dsimp only;omega) _).setCell (by dsimp only;omega) _
