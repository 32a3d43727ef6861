import Derived.Test.YtncccmeomcaabaaGreatRows
import Derived.WalkKit
import Derived.WalkLawsBesides
import Derived.WalkSpells
import Derived.OrdersHeld
import Derived.BigQuiet
import Derived.Deep.QuietTactic
import Derived.Deep.RegionWith
set_option linter.all false
set_option maxHeartbeats 1000000
namespace Go.Proofs.YtncccmeomcaabaaGreat
open Go.RowKit
open Go.Proofs.Tryz
set_option maxRecDepth 100000
variable {P:Program}{Q:Exit->Act->World->Prop}{S:Nat->Prop}{a:Act}{b cap fuel g i n:Nat}{cs:Array Value}{l:List Value}{listed:Array Bool}{md:Region.Mode}{oi:Oper}{ops:Array Oper}{p:Prop}{v0 v1 v10 v11 v12 v13 v2 v3 v4 v5 v6 v7 v8 v9:Value}{w:World}
abbrev qO:=Option Addr
theorem xC (n:Nat):0<=n:=Nat.zero_le n
theorem xM {a c:Nat}(h:a<=b)(k:b<=c):a<=c:=Nat.le_trans h k
def xA:=@And.intro
def xB:=@List.getD_eq_getElem?_getD
def xD:=@World.block_lt_of_cell?
def xE:=@List.eq_nil_of_length_eq_zero
def xF:=@World.size_alloc
def xG:=@List.take_of_length_le
def xH:=@List.length_map
def xI:=@List.length_append
def xJ:=@Bool.eq_iff_iff
def xL:=@Int.tmod_eq_emod_of_nonneg
def xN:=@List.getElem?_eq_getElem
def xO:=@List.getElem?_eq_none
def xP:=@IntWalk.i64_left
def xQ:=@IntWalk.wrap64_in
def xR:=@decide_eq_true
def xS:=@decide_eq_false
def xT:=@List.flatMap_cons
def xU:=@List.flatMap_append
def xV:=@Int.eq_ofNat_of_zero_le
def xW:=@Array.toList_setIfInBounds
def xX:=@List.flatMap_singleton
def xY:=@Int.toNat_natCast
def xZ:=@Classical.not_not
abbrev qI (x:Int):Value:=.int .i64 x
abbrev qS (a:Option Addr)(n c:Nat):Value:=.slice a n c
abbrev qP (b:Nat):Option Addr:=some ⟨b,0,none⟩
abbrev qZ:Array Value:=#[.slice none 0 0,.int .i64 0,.int .i64 0,.int .i64 0,.int .i64 0,.int .i64 0,.slice none 0 0,.slice none 0 0,.slice none 0 0,.slice none 0 0,.int .i64 0,.int .i64 0,.slice none 0 0,.slice none 0 0,.int .i64 0]
abbrev qz:Array Value:=#[.slice none 0 0,.int .i64 0,.slice none 0 0,.int .i64 0,.int .i64 0,.slice none 0 0]
abbrev qV (a:Option Addr)(b c:Nat)(d:Option Addr)(e f:Nat)(g:Option Addr)(h i:Nat):Array Value:=#[.slice a b c,.slice d e f,.slice g h i]
abbrev qW (a b c d:Int):Array Value:=#[.int .i64 a,.int .i64 b,.int .i64 c,.int .i64 d]
abbrev qT (a b c:Int):Array Value:=#[.int .i64 a,.int .i64 b,.int .i64 c]
abbrev qM (s:ByteArray)(a:Option Addr)(b c:Nat)(d:Option Addr)(e f:Nat)(g:Option Addr)(h i:Nat)(x:Int)(j:Option Addr)(k l:Nat)(m:Option Addr)(n o:Nat)(p:Option Addr)(q r:Nat):Array Value:=#[.string s,.slice a b c,.slice d e f,.slice g h i,.int .i64 x,.slice j k l,.slice m n o,.slice p q r]
abbrev qY (w w':World):Prop:=Below w.heap.size w w'
abbrev qB (w:World)(v:Value)(e:Ending)(w':World):Prop:=e=.returned v/\Below w.heap.size w w'
def Zh (p:Prop):Prop:=p
theorem Zh.o (h:Zh p):p:=h
theorem zh (h:p):Zh p:=h
abbrev qw:=World
abbrev qi:=List Int
theorem yB {α:Type _}{l:List α}{a b:α}:(a::l).set 0 b=b::l:=rfl
theorem yC {α:Type _}{a b:α}{l:List α}:(a::l).set (n+1) b=a::l.set n b:=rfl
def yA:=@List.setIfInBounds_toArray
def yD:=@List.getElem_toArray
def yE:=@List.getElem_cons_succ
def yF:=@List.getElem_cons_zero
abbrev qC (f:Nat)(a:Array Value)(w:World)(Q:Ending->World->Prop):Prop:=Calls prog f a w Q
theorem bal {o:Obj}:Below w.heap.size w (w.alloc o):=(Below.refl _ _).alloc (Nat.le_refl _) _
abbrev qf (n:Nat)(v:Value)(_:World):Nat:=n-(intOf v).toNat
abbrev qR (b i:Nat):Addr:=⟨b,i,none⟩
theorem eqx {α:Sort _}(t:α):∃ x,x=t:=⟨_,rfl⟩
theorem brf:Below b w w:=Below.refl _ _
theorem aN:n<=n:=Nat.le_refl _
theorem tkv {S:World->Prop}{v:Value}(hi:ops[i]?=some oi)(hc:(Region.noSelect ops&&Region.free md ops listed i&&(Region.ready md ops listed).contains i)=true)(hQ:∀ c a w,Q (.panic c) (a.put oi.dst v) w->Q (.panic c) a w)(hw:Region.wanted oi (yielded ops a.tmps)=true)(hy:∀ w,S w->(execOp a.eval oi).run P w=.ok (.value v) w)(hS:S w)(h:wpAnyH P md ops Q S fuel (listed.setIfInBounds i true) (a.put oi.dst v) w):wpAnyH P md ops Q S (fuel+1) listed a w:=by
 simp only [Bool.and_eq_true] at hc;exact wpAnyH_take hi hc.1.1 hc.1.2 hc.2 hQ (Or.inl ⟨hw,hy⟩) hS h
theorem tks {S:World->Prop}(hi:ops[i]?=some oi)(hc:(Region.noSelect ops&&Region.free md ops listed i&&(Region.ready md ops listed).contains i)=true)(hQ:∀ c a w,Q (.panic c) (a.put oi.dst undef) w->Q (.panic c) a w)(hw:Region.wanted oi (yielded ops a.tmps)=false)(hS:S w)(h:wpAnyH P md ops Q S fuel (listed.setIfInBounds i true) (a.put oi.dst undef) w):wpAnyH P md ops Q S (fuel+1) listed a w:=by
 simp only [Bool.and_eq_true] at hc;exact wpAnyH_take hi hc.1.1 hc.1.2 hc.2 hQ (Or.inr ⟨hw,rfl⟩) hS h
theorem tkV {S:World->Prop}(i:Nat)(v:Value)(hi:ops[i]?=some oi)(hy:∀ w,S w->(execOp a.eval oi).run P w=.ok (.value v) w)(h:wpAnyH P md ops Q S fuel (listed.setIfInBounds i true) (a.put oi.dst v) w)(hc:(Region.noSelect ops&&Region.free md ops listed i&&(Region.ready md ops listed).contains i)=true:=by kernel_rfl)(hQ:∀ c a w,Q (.panic c) (a.put oi.dst v) w->Q (.panic c) a w:=by exact fun _ _ _ h=>h)(hw:Region.wanted oi (yielded ops a.tmps)=true:=by rfl)(hS:S w:=by assumption):wpAnyH P md ops Q S (fuel+1) listed a w:=tkv hi hc hQ hw hy hS h
theorem tkS {S:World->Prop}(i:Nat)(hi:ops[i]?=some oi)(h:wpAnyH P md ops Q S fuel (listed.setIfInBounds i true) (a.put oi.dst undef) w)(hc:(Region.noSelect ops&&Region.free md ops listed i&&(Region.ready md ops listed).contains i)=true:=by kernel_rfl)(hQ:∀ c a w,Q (.panic c) (a.put oi.dst undef) w->Q (.panic c) a w:=by exact fun _ _ _ h=>h)(hw:Region.wanted oi (yielded ops a.tmps)=false:=by rfl)(hS:S w:=by assumption):wpAnyH P md ops Q S (fuel+1) listed a w:=tks hi hc hQ hw hS h
theorem aH {k:IntKind}{a b:Int}(h:a=b):Ending.returned (.int k a)=.returned (.int k b):=by rw [h]
theorem aA {a b:Bool}(h:a=b):Ending.returned (.bool a)=.returned (.bool b):=by rw [h]
theorem aO (h:p):Hid p:=h
theorem nN (h:Hid p):p:=h
theorem rP (n:Nat)(h:n<=20:=by omega):(2:Int)^n<=1048576:=by
 have h1:(2:Nat)^n<=2^20:=Nat.pow_le_pow_right (by omega) h;have h2:((2^n:Nat):Int)=(2:Int)^n:=by simp
 have h3:(2:Nat)^20=1048576:=rfl;omega
theorem pow_pos (n:Nat):0<(2:Int)^n:=by
 have h1:0<(2:Nat)^n:=Nat.pow_pos (by omega);have h2:((2^n:Nat):Int)=(2:Int)^n:=by simp
 omega
theorem aK9 {W w1:World}(hb:qY W w1):(∀ b o,b<W.heap.size->w1.cell? ⟨b,o,none⟩=W.cell? ⟨b,o,none⟩)/\(∀ b o,b<W.heap.size->w1.frozen? ⟨b,o,none⟩=W.frozen? ⟨b,o,none⟩):=
 ⟨fun b o h=>hb.cell (p:=⟨b,o,none⟩) h,fun b o h=>hb.frozen (p:=⟨b,o,none⟩) h⟩
def BS (w:qw)(a:qO)(n cap:Nat)(zs:qi):Prop:=
 zs.length=n/\n<=maxLen/\(∀ z∈zs,0<=z/\z<=255)/\(n≠0->∃ b off,a=some ⟨b,off,none⟩/\∀ i,i<n->w.cell? ⟨b,off+i,none⟩=some (.int .u8 (zs.getD i 0)))/\n<=cap
theorem BS.bw {w w':qw}{a:qO}{zs:qi}(h:BS w a n cap zs)(hb:qY w w'):BS w' a n cap zs:=by
 obtain ⟨h1,h2,h3,h4,h5⟩:=h;refine ⟨h1,h2,h3,fun hn=>?_,h5⟩;obtain ⟨b,off,ha,hc⟩:=h4 hn;refine ⟨b,off,ha,fun i hi=>?_⟩;have:=hc i hi;rw [hb.cell (p:=⟨b,off+i,none⟩) (xD w _ this)];exact this
theorem BS.range {w:qw}{a:qO}{zs:qi}(h:BS w a n cap zs)(i:Nat):0<=zs.getD i 0/\zs.getD i 0<=255:=by
 by_cases hi:i<zs.length
 .have:=h.2.2.1 zs[i] (List.getElem_mem hi);simpa [xB,hi] using this
 .simp [xB,Nat.le_of_not_lt hi]
def Row8 (w:qw)(g:Nat)(zs:qi):Prop:=w.heap[g]?=some (.cells (zs.map (Value.int .u8)).toArray 5 (0,0))
theorem Row8.cell {w:qw}{zs:qi}(h:Row8 w g zs)(i:Nat)(hi:i<zs.length):w.cell? ⟨g,i,none⟩=some (.int .u8 (zs.getD i 0)):=by
 rw [cell_of_row w g i _ _ _ h];simp [xB,hi]
theorem Row8.frozen {w:qw}{zs:qi}(h:Row8 w g zs)(i:Nat):w.frozen? ⟨g,i,none⟩=false:=frozen_of_row w g i _ _ h
theorem Row8.set {w:qw}{zs:qi}(h:Row8 w g zs)(i:Nat)(z:Int):Row8 (w.setCell ⟨g,i,none⟩ (.int .u8 z)) g (zs.set i z):=by
 unfold Row8 at *;rw [heap_setCell_same w g i _ _ _ h];simp [List.map_set]
theorem Row8.lt {w:qw}{zs:qi}(h:Row8 w g zs):g<w.heap.size:=by
 unfold Row8 at h;by_cases hg:g<w.heap.size
 .exact hg
 .simp [Array.getElem?_eq_none (Nat.le_of_not_lt hg)] at h
theorem Row8.bw {w w':qw}{zs:qi}(h:Row8 w g zs)(hb:qY w w'):Row8 w' g zs:=by
 have:=hb.block g h.lt;unfold Row8 at *;rw [this];exact h
theorem Row8.bs {w:qw}{zs:qi}(h:Row8 w g zs)(hm:zs.length<=maxLen)(hz:∀ z∈zs,0<=z/\z<=255)(n cap:Nat)(hn:zs.length=n)(hc:n<=cap:=by exact aN):BS w (qP g) n cap zs:=by
 subst hn;exact ⟨rfl,hm,hz,fun _=>⟨g,0,rfl,fun i hi=>by rw [Nat.zero_add];exact h.cell i hi⟩,hc⟩
def Blk (w:qw)(g:Nat)(cs:Array Value)(t:TypeId):Prop:=w.heap[g]?=some (.cells cs t (0,0))
theorem Blk.cell {w:qw}{t:TypeId}(h:Blk w g cs t)(i:Nat):w.cell? ⟨g,i,none⟩=cs[i]?:=cell_of_row w g i _ _ _ h
theorem Blk.frozen {w:qw}{t:TypeId}(h:Blk w g cs t)(i:Nat):w.frozen? ⟨g,i,none⟩=false:=frozen_of_row w g i _ _ h
theorem Blk.lt {w:qw}{t:TypeId}(h:Blk w g cs t):g<w.heap.size:=by
 unfold Blk at h;by_cases hg:g<w.heap.size
 .exact hg
 .simp [Array.getElem?_eq_none (Nat.le_of_not_lt hg)] at h
theorem Blk.bw {w w':qw}{t:TypeId}(h:Blk w g cs t)(hb:qY w w'):Blk w' g cs t:=by
 have:=hb.block g h.lt;unfold Blk at *;rw [this];exact h
theorem Blk.new (w:qw)(cs:Array Value)(t:TypeId):Blk (w.alloc (.cells cs t)) w.heap.size cs t:=heap_alloc_new w _
theorem nwb (w:qw)(X:Array Value)(T:TypeId):∃ U,U=w.alloc (.cells X T)/\Below w.heap.size w U/\Blk U w.heap.size X T:=⟨_,rfl,(Below.refl _ _).alloc (Nat.le_refl _) _,Blk.new _ _ _⟩
theorem Blk.z4 {w:qw}{t:TypeId}(h:Blk w b #[v0,v1,v2,v3] t):w.cell? ⟨b,0,none⟩=some v0/\w.cell? ⟨b,1,none⟩=some v1/\w.cell? ⟨b,2,none⟩=some v2/\w.cell? ⟨b,3,none⟩=some v3:=⟨h.cell 0,h.cell 1,h.cell 2,h.cell 3⟩
theorem Blk.z6 {w:qw}{t:TypeId}(h:Blk w b #[v0,v1,v2,v3,v4,v5] t):w.cell? ⟨b,0,none⟩=some v0/\w.cell? ⟨b,1,none⟩=some v1/\w.cell? ⟨b,2,none⟩=some v2/\w.cell? ⟨b,3,none⟩=some v3/\w.cell? ⟨b,4,none⟩=some v4/\w.cell? ⟨b,5,none⟩=some v5:=⟨h.cell 0,h.cell 1,h.cell 2,h.cell 3,h.cell 4,h.cell 5⟩
theorem Blk.alloc {w:qw}{t:TypeId}(h:Blk w g cs t)(o:Obj):Blk (w.alloc o) g cs t:=by
 have hl:=h.lt;unfold Blk at *;rw [Below.heap_alloc _ _ _ hl];exact h
theorem Blk.set {w:qw}{t:TypeId}(h:Blk w g cs t)(i:Nat)(v:Value):Blk (w.setCell ⟨g,i,none⟩ v) g (cs.setIfInBounds i v) t:=heap_setCell_same w g i _ _ _ h
theorem Blk.e0 {t:TypeId}(h:Blk w b (v0::l).toArray t):w.cell? ⟨b,0,none⟩=some v0:=by rw [h.cell];simp
theorem Blk.e1 {t:TypeId}(h:Blk w b (v0::v1::l).toArray t):w.cell? ⟨b,1,none⟩=some v1:=by rw [h.cell];simp
theorem Blk.e2 {t:TypeId}(h:Blk w b (v0::v1::v2::l).toArray t):w.cell? ⟨b,2,none⟩=some v2:=by rw [h.cell];simp
theorem Blk.e3 {t:TypeId}(h:Blk w b (v0::v1::v2::v3::l).toArray t):w.cell? ⟨b,3,none⟩=some v3:=by rw [h.cell];simp
theorem Blk.e4 {t:TypeId}(h:Blk w b (v0::v1::v2::v3::v4::l).toArray t):w.cell? ⟨b,4,none⟩=some v4:=by rw [h.cell];simp
theorem Blk.e5 {t:TypeId}(h:Blk w b (v0::v1::v2::v3::v4::v5::l).toArray t):w.cell? ⟨b,5,none⟩=some v5:=by rw [h.cell];simp
theorem Blk.e6 {t:TypeId}(h:Blk w b (v0::v1::v2::v3::v4::v5::v6::l).toArray t):w.cell? ⟨b,6,none⟩=some v6:=by rw [h.cell];simp
theorem Blk.e7 {t:TypeId}(h:Blk w b (v0::v1::v2::v3::v4::v5::v6::v7::l).toArray t):w.cell? ⟨b,7,none⟩=some v7:=by rw [h.cell];simp
theorem Blk.e8 {t:TypeId}(h:Blk w b (v0::v1::v2::v3::v4::v5::v6::v7::v8::l).toArray t):w.cell? ⟨b,8,none⟩=some v8:=by rw [h.cell];simp
theorem Blk.e9 {t:TypeId}(h:Blk w b (v0::v1::v2::v3::v4::v5::v6::v7::v8::v9::l).toArray t):w.cell? ⟨b,9,none⟩=some v9:=by rw [h.cell];simp
theorem Blk.e10 {t:TypeId}(h:Blk w b (v0::v1::v2::v3::v4::v5::v6::v7::v8::v9::v10::l).toArray t):w.cell? ⟨b,10,none⟩=some v10:=by rw [h.cell];simp
theorem Blk.e11 {t:TypeId}(h:Blk w b (v0::v1::v2::v3::v4::v5::v6::v7::v8::v9::v10::v11::l).toArray t):w.cell? ⟨b,11,none⟩=some v11:=by rw [h.cell];simp
theorem Blk.e12 {t:TypeId}(h:Blk w b (v0::v1::v2::v3::v4::v5::v6::v7::v8::v9::v10::v11::v12::l).toArray t):w.cell? ⟨b,12,none⟩=some v12:=by rw [h.cell];simp
theorem Blk.e13 {t:TypeId}(h:Blk w b (v0::v1::v2::v3::v4::v5::v6::v7::v8::v9::v10::v11::v12::v13::l).toArray t):w.cell? ⟨b,13,none⟩=some v13:=by rw [h.cell];simp
theorem Blk.e14 {t:TypeId}{v14:Value}(h:Blk w b (v0::v1::v2::v3::v4::v5::v6::v7::v8::v9::v10::v11::v12::v13::v14::l).toArray t):w.cell? ⟨b,14,none⟩=some v14:=by rw [h.cell];simp
theorem Blk.s0 {t:TypeId}(h:Blk w b (v0::l).toArray t)(x:Value):Blk (w.setCell ⟨b,0,none⟩ x) b (x::l).toArray t:=by have:=h.set 0 x;simpa using this
theorem Blk.s1 {t:TypeId}(h:Blk w b (v0::v1::l).toArray t)(x:Value):Blk (w.setCell ⟨b,1,none⟩ x) b (v0::x::l).toArray t:=by have:=h.set 1 x;simpa using this
theorem Blk.s2 {t:TypeId}(h:Blk w b (v0::v1::v2::l).toArray t)(x:Value):Blk (w.setCell ⟨b,2,none⟩ x) b (v0::v1::x::l).toArray t:=by have:=h.set 2 x;simpa using this
theorem Blk.s3 {t:TypeId}(h:Blk w b (v0::v1::v2::v3::l).toArray t)(x:Value):Blk (w.setCell ⟨b,3,none⟩ x) b (v0::v1::v2::x::l).toArray t:=by have:=h.set 3 x;simpa using this
theorem Blk.other {w:qw}{t:TypeId}(h:Blk w g cs t)(a:Addr)(v:Value)(hg:g≠a.block):Blk (w.setCell a v) g cs t:=by
 unfold Blk at *;rw [heap_setCell_other _ _ _ _ hg];exact h
theorem Row8.other {w:qw}{zs:qi}(h:Row8 w g zs)(a:Addr)(v:Value)(hg:g≠a.block):Row8 (w.setCell a v) g zs:=Blk.other h a v hg
theorem aL (w:qw)(a:Addr)(v:Value):(w.setCell a v).heap.size=w.heap.size:=by simp [World.setCell]
theorem dF {w w':qw}(h:Below w.drew.heap.size w.drew w'):qY w w':=⟨h.os,h.tape,h.output,h.size,h.block⟩
def mid (zs:qi)(k:Nat):List Int:=(List.range zs.length).map (fun i=>if i<k then zs.getD i 0 else 0)
theorem aAh (zs:qi)(k:Nat):(mid zs k).length=zs.length:=by simp [mid]
theorem sM (zs:qi):mid zs 0=List.replicate zs.length 0:=by
 apply List.ext_getElem
 .simp [mid]
 .intro i h1 h2;simp [mid]
theorem aAi (zs:qi):mid zs zs.length=zs:=by
 apply List.ext_getElem
 .simp [mid]
 .intro i h1 h2;simp [mid,h2]
theorem aAg (zs:qi)(k:Nat)(h:k<zs.length):(mid zs k).set k (zs.getD k 0)=mid zs (k+1):=by
 apply List.ext_getElem
 .simp [mid]
 .intro i h1 h2;simp only [mid,List.getElem_set,List.getElem_map,List.getElem_range];by_cases hik:k=i
  .subst hik;simp
  .by_cases h3:i<k
   .simp [hik,h3,show i<k+1 by omega]
   .simp [hik,h3,show ¬ i<k+1 by omega]
structure Turn (S:Nat->Prop)(w w':qw):Prop where
 os:w'.os=w.os
 tape:w'.tape=w.tape
 output:w'.output=w.output
 size:w.heap.size<=w'.heap.size
 block:∀ k,k<w.heap.size->¬ S k->w'.heap[k]?=w.heap[k]?
theorem Turn.refl (S:Nat->Prop)(w:qw):Turn S w w:=⟨rfl,rfl,rfl,aN,fun _ _ _=>rfl⟩
theorem Turn.trans {a b c:qw}(h:Turn S a b)(k:Turn S b c):Turn S a c:=
 ⟨k.os.trans h.os,k.tape.trans h.tape,k.output.trans h.output,xM h.size k.size,fun j hj hs=>(k.block j (Nat.lt_of_lt_of_le hj h.size) hs).trans (h.block j hj hs)⟩
theorem Turn.mono {S':Nat->Prop}{w w':qw}(h:Turn S w w')(hs:∀ k,S k->S' k):Turn S' w w':=⟨h.os,h.tape,h.output,h.size,fun k hk hn=>h.block k hk (fun e=>hn (hs k e))⟩
theorem aJ {w w':qw}(h:qY w w'):Turn S w w':=⟨h.os,h.tape,h.output,h.size,fun k hk _=>h.block k hk⟩
theorem iO (w:qw)(o:Obj):Turn S w (w.alloc o):=aJ bal
theorem aG {B:Nat}{a w w':qw}(h:Below B a w)(ht:Turn S w w')(hS:∀ k,S k->B<=k)(hB:B<=w.heap.size):Below B a w':=
 ⟨ht.os.trans h.os,ht.tape.trans h.tape,ht.output.trans h.output,xM h.size ht.size,fun k hk=>(ht.block k (by omega) (fun e=>by have:=hS k e;omega)).trans (h.block k hk)⟩
theorem aF {w w':qw}{k:Nat}{t:TypeId}(ht:Turn S w w')(h:Blk w k cs t)(hk:¬ S k):Blk w' k cs t:=by
 have:=ht.block k h.lt hk;unfold Blk at *;rw [this];exact h
theorem bN (b off i:Nat):(Addr.add (qR b off) i)=(qR b (off+i)):=by
 simp only [Addr.add];split
 .next h=>subst h;rfl
 .rfl
def wd (s:Int):Bool:=decide (s=1\/s=2\/s=4)
theorem gS (s:Int)(w:qw):
 qC 240 #[qI s] w fun e w'=>e=.returned (.bool (wd s))/\w=w':=by
 by_cases h1:s=1
 .subst h1;go_enter func240,ntmps240
  go_wp2;go_ret;exact ⟨rfl,rfl⟩
 .by_cases h2:s=2
  .subst h2;go_enter func240,ntmps240
   go_wp2;go_ret;exact ⟨rfl,rfl⟩
  .have hf:Zh (wd s=(s==4)):=by show _=_;unfold wd;rw [xJ];simp;omega
   have g1:(s==1)=false:=by simpa using h1
   have g2:(s==2)=false:=by simpa using h2
   clear h1 h2;go_enter func240,ntmps240
   go_wp2;go_ret;exact ⟨aA hf.o.symm,rfl⟩
def ins (p s f:Int)(n:Nat):Bool:=decide (f<=p/\p<=f+n-s)
theorem iE (a:qO)(n cap:Nat)(p s f:Int)(w:qw)(hp:p<=9223372036854775807:=by omega)(hs0:1<=s:=by omega)(hs:s<=4:=by omega)(hf0:0<=f:=by omega)(hf:f<=65536:=by omega)(hn:n<=16384:=by omega):
 qC 261 #[qS a n cap,qI f,qI p,qI s] w fun e w'=>e=.returned (.bool (ins p s f n))/\w=w':=by
 by_cases h1:f<=p
 .have hf:Zh (ins p s f n=decide (p-f<=n-s)):=by show _=_;unfold ins;rw [xJ];simp;omega
  go_enter func261,ntmps261
  go_wp2;go_ret;exact ⟨aA hf.o.symm,rfl⟩
 .have hf:Zh (ins p s f n=false):=by show _=_;unfold ins;simp;omega
  go_enter func261,ntmps261
  go_wp2;go_ret;exact ⟨aA hf.o.symm,rfl⟩
def low:List Int->Int
 | []=>0
 | z::zs=>low zs*256+z
theorem wP:∀ (zs:qi),(∀ z∈zs,0<=z/\z<=255)->0<=low zs/\low zs+1<=(256:Int)^zs.length
 | [],_=>by simp [low]
 | z::zs,h=>by
   have ih:=wP zs (fun x hx=>h x (by simp [hx]));have hz:=h z (by simp);simp only [low,List.length_cons,Int.pow_succ];omega
theorem oD (zs:qi)(h:∀ z∈zs,0<=z/\z<=255)(hl:zs.length<=4):0<=low zs/\low zs<=4294967295:=by
 have h1:=wP zs h;have h2:(256:Nat)^zs.length<=256^4:=Nat.pow_le_pow_right (by omega) hl;have h3:((256^zs.length:Nat):Int)=(256:Int)^zs.length:=by simp
 have h4:(256:Nat)^4=4294967296:=rfl;omega
theorem aJ7 (zs:qi)(j:Nat)(h:j<zs.length):low (zs.drop j)=low (zs.drop (j+1))*256+zs.getD j 0:=by
 rw [List.drop_eq_getElem_cons h];simp [low,xB,h]
theorem aHz (b off n cap:Nat)(zs:qi)(w:qw)(h:BS w (some (qR b off)) n cap zs)(hn:n<=4:=by omega):
 qC 146 #[qS (some (qR b off)) n cap] w fun e w'=>e=.returned (qI (low zs))/\w=w':=by
 obtain ⟨hl,hmx,hr,hc,_⟩:=h
 have hd:∀ i,i<n->w.cell? (qR b (off+i))=some (.int .u8 (zs.getD i 0)):=by
  intro i hi;obtain ⟨b',off',e,hd⟩:=hc (by omega);simp at e;obtain ⟨rfl,rfl⟩:=e;exact hd i hi
 clear hc;go_enter func146,ntmps146
 go_wp2;go_loop [3,4] (fun v i=>∃ (k:Nat) (p:Int),k<=n/\p+1=k/\i=qI p/\v=qI (low (zs.drop k))) (fun _ i=>(intOf i+1).toNat)
 .exact ⟨n,(n:Int)-1,aN,by omega,rfl,by rw [List.drop_of_length_le (by omega)];rfl⟩
 .obtain ⟨k,p,hk,hp,rfl,rfl⟩:=hrel;by_cases h0:k=0
  .have hp':p=-1:=by omega
   subst hp' h0;clear hp;have hfin:Zh (low (List.drop 0 zs)=low zs):=by show _=_;rw [List.drop_zero]
   generalize low (List.drop 0 zs)=L at *;go_wp2;go_ret;exact ⟨aH hfin.o,rfl⟩
  .obtain ⟨j,rfl⟩:∃ j,k=j+1:=⟨k-1,by omega⟩;have hp':p=(j:Int):=by omega
   subst hp';have hj:(0:Int)<=(j:Int):=by omega
   have hjn:(j:Int)<(n:Int):=by omega
   have hst:=aJ7 zs j (by omega);have hL:=oD (zs.drop (j+1)) (fun z hz=>hr z (List.mem_of_mem_drop hz)) (by simp;omega);have hL3:low (zs.drop (j+1))<=4294967295:=hL.2;have hcj:=hd j (by omega)
   have hz0:0<=zs.getD j 0/\zs.getD j 0<=255:=by
    have:=hr zs[j] (List.getElem_mem (by omega));simpa [xB,show j<zs.length by omega] using this
   have HS:=zh hst;clear hst hp hd h0;generalize low (zs.drop (j+1))=L at *;generalize zs.getD j 0=z at *;obtain ⟨hL1,hL2⟩:=hL;obtain ⟨hz1,hz2⟩:=hz0;go_wp2
   go_round
   .exact ⟨j,(j:Int)-1,by omega,by omega,by go_num,by rw [HS.o]⟩
   .simp [intOf]
