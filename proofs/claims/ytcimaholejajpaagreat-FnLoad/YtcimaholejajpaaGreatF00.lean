import Derived.Test.YtcimaholejajpaaGreatRows
import Derived.WalkKit
import Derived.WalkLawsBesides
import Derived.WalkSpells
import Derived.BigQuiet
import Derived.Deep.QuietTactic
import Derived.Deep.RegionWith
import Derived.Lib.Bytealg
import Derived.WideShapes
import Derived.Deep.RegionHeld3
set_option linter.all false
set_option maxHeartbeats 1000000
namespace Go.Proofs.YtcimaholejajpaaGreat
open Go.RowKit
open Go.Proofs.Tryz
set_option maxRecDepth 100000
variable {B b base cap g k n off:Nat}{S:Nat->Prop}{cs:Array Value}{l:List Value}{p:Prop}{v v0 v1 v2 v3 v4 v5 v6:Value}{w:World}
abbrev qO:=Option Addr
theorem xC (n:Nat):0<=n:=Nat.zero_le n
theorem xM {a c:Nat}(h:a<=b)(k:b<=c):a<=c:=Nat.le_trans h k
def xA:=@And.intro
def xB:=@List.getD_eq_getElem?_getD
def xD:=@World.block_lt_of_cell?
def xE:=@List.eq_nil_of_length_eq_zero
def xF:=@World.size_alloc
def xG:=@List.take_of_length_le
def xH:=@List.length_map
def xI:=@List.length_append
def xJ:=@Bool.eq_iff_iff
def xK:=@Array.getD_eq_getD_getElem?
def xL:=@Int.tmod_eq_emod_of_nonneg
def xN:=@List.getElem?_eq_getElem
def xO:=@List.getElem?_eq_none
def xP:=@IntWalk.i64_left
def xQ:=@IntWalk.wrap64_in
def xR:=@decide_eq_true
def xS:=@decide_eq_false
def xT:=@List.flatMap_cons
def xU:=@List.flatMap_append
def xW:=@Array.toList_setIfInBounds
def xX:=@List.flatMap_singleton
def xY:=@Int.toNat_natCast
def xZ:=@Classical.not_not
abbrev qI (x:Int):Value:=.int .i64 x
abbrev qS (a:Option Addr)(n c:Nat):Value:=.slice a n c
abbrev qP (b:Nat):Option Addr:=some ⟨b,0,none⟩
abbrev qZ:Array Value:=#[.slice none 0 0,.int .i64 0,.int .i64 0,.int .i64 0,.int .i64 0,.int .i64 0,.slice none 0 0,.slice none 0 0,.slice none 0 0,.slice none 0 0,.int .i64 0,.int .i64 0,.slice none 0 0,.slice none 0 0,.int .i64 0]
abbrev qz:Array Value:=#[.slice none 0 0,.int .i64 0,.slice none 0 0,.int .i64 0,.int .i64 0,.slice none 0 0]
abbrev qV (a:Option Addr)(b c:Nat)(d:Option Addr)(e f:Nat)(g:Option Addr)(h i:Nat):Array Value:=#[.slice a b c,.slice d e f,.slice g h i]
abbrev qW (a b c d:Int):Array Value:=#[.int .i64 a,.int .i64 b,.int .i64 c,.int .i64 d]
abbrev qT (a b c:Int):Array Value:=#[.int .i64 a,.int .i64 b,.int .i64 c]
abbrev qM (s:ByteArray)(a:Option Addr)(b c:Nat)(d:Option Addr)(e f:Nat)(g:Option Addr)(h i:Nat)(x:Int)(j:Option Addr)(k l:Nat)(m:Option Addr)(n o:Nat)(p:Option Addr)(q r:Nat):Array Value:=#[.string s,.slice a b c,.slice d e f,.slice g h i,.int .i64 x,.slice j k l,.slice m n o,.slice p q r]
abbrev qY (w w':World):Prop:=Below w.heap.size w w'
abbrev qB (w:World)(v:Value)(e:Ending)(w':World):Prop:=e=.returned v/\Below w.heap.size w w'
def Zh (p:Prop):Prop:=p
theorem Zh.o (h:Zh p):p:=h
theorem zh (h:p):Zh p:=h
abbrev qw:=World
abbrev qi:=List Int
theorem yB {α:Type _}{l:List α}{a b:α}:(a::l).set 0 b=b::l:=rfl
theorem yC {α:Type _}{a b:α}{l:List α}:(a::l).set (n+1) b=a::l.set n b:=rfl
def yA:=@List.setIfInBounds_toArray
def yD:=@List.getElem_toArray
def yE:=@List.getElem_cons_succ
def yF:=@List.getElem_cons_zero
abbrev qC (f:Nat)(a:Array Value)(w:World)(Q:Ending->World->Prop):Prop:=Calls prog f a w Q
theorem bal {o:Obj}:Below w.heap.size w (w.alloc o):=(Below.refl _ _).alloc (Nat.le_refl _) _
abbrev qf (n:Nat)(v:Value)(_:World):Nat:=n-(intOf v).toNat
abbrev qR (b i:Nat):Addr:=⟨b,i,none⟩
theorem eqx {α:Sort _}(t:α):∃ x,x=t:=⟨_,rfl⟩
theorem brf:Below b w w:=Below.refl _ _
theorem aL:n<=n:=Nat.le_refl _
theorem aQ {k:IntKind}{a b:Int}(h:a=b):Ending.returned (.int k a)=.returned (.int k b):=by rw [h]
theorem aB {a b:Bool}(h:a=b):Ending.returned (.bool a)=.returned (.bool b):=by rw [h]
theorem aT (h:p):Hid p:=h
theorem wG (n:Nat)(h:n<=20:=by omega):(2:Int)^n<=1048576:=by
 have h1:(2:Nat)^n<=2^20:=Nat.pow_le_pow_right (by omega) h;have h2:((2^n:Nat):Int)=(2:Int)^n:=by simp
 have h3:(2:Nat)^20=1048576:=rfl;omega
theorem pow_pos (n:Nat):0<(2:Int)^n:=by
 have h1:0<(2:Nat)^n:=Nat.pow_pos (by omega);have h2:((2^n:Nat):Int)=(2:Int)^n:=by simp
 omega
def BS (w:qw)(a:qO)(n cap:Nat)(zs:qi):Prop:=
 zs.length=n/\n<=maxLen/\(∀ z∈zs,0<=z/\z<=255)/\(n≠0->∃ b off,a=some ⟨b,off,none⟩/\∀ i,i<n->w.cell? ⟨b,off+i,none⟩=some (.int .u8 (zs.getD i 0)))/\n<=cap
theorem BS.bw {w w':qw}{a:qO}{zs:qi}(h:BS w a n cap zs)(hb:qY w w'):BS w' a n cap zs:=by
 obtain ⟨h1,h2,h3,h4,h5⟩:=h;refine ⟨h1,h2,h3,fun hn=>?_,h5⟩;obtain ⟨b,off,ha,hc⟩:=h4 hn;refine ⟨b,off,ha,fun i hi=>?_⟩;have:=hc i hi;rw [hb.cell (p:=⟨b,off+i,none⟩) (xD w _ this)];exact this
theorem BS.range {w:qw}{a:qO}{zs:qi}(h:BS w a n cap zs)(i:Nat):0<=zs.getD i 0/\zs.getD i 0<=255:=by
 by_cases hi:i<zs.length
 .have:=h.2.2.1 zs[i] (List.getElem_mem hi);simpa [xB,hi] using this
 .simp [xB,Nat.le_of_not_lt hi]
def aM8 (w:qw)(g:Nat)(zs:qi):Prop:=w.heap[g]?=some (.cells (zs.map (Value.int .u8)).toArray 5 (0,0))
def Blk (w:qw)(g:Nat)(cs:Array Value)(t:TypeId):Prop:=w.heap[g]?=some (.cells cs t (0,0))
theorem Blk.cell {w:qw}{t:TypeId}(h:Blk w g cs t)(i:Nat):w.cell? ⟨g,i,none⟩=cs[i]?:=cell_of_row w g i _ _ _ h
theorem Blk.frozen {w:qw}{t:TypeId}(h:Blk w g cs t)(i:Nat):w.frozen? ⟨g,i,none⟩=false:=frozen_of_row w g i _ _ h
theorem Blk.lt {w:qw}{t:TypeId}(h:Blk w g cs t):g<w.heap.size:=by
 unfold Blk at h;by_cases hg:g<w.heap.size
 .exact hg
 .simp [Array.getElem?_eq_none (Nat.le_of_not_lt hg)] at h
theorem Blk.bw {w w':qw}{t:TypeId}(h:Blk w g cs t)(hb:qY w w'):Blk w' g cs t:=by
 have:=hb.block g h.lt;unfold Blk at *;rw [this];exact h
theorem Blk.new (w:qw)(cs:Array Value)(t:TypeId):Blk (w.alloc (.cells cs t)) w.heap.size cs t:=heap_alloc_new w _
theorem nwb (w:qw)(X:Array Value)(T:TypeId):∃ U,U=w.alloc (.cells X T)/\Below w.heap.size w U/\Blk U w.heap.size X T:=⟨_,rfl,(Below.refl _ _).alloc (Nat.le_refl _) _,Blk.new _ _ _⟩
theorem Blk.z4 {w:qw}{t:TypeId}(h:Blk w b #[v0,v1,v2,v3] t):w.cell? ⟨b,0,none⟩=some v0/\w.cell? ⟨b,1,none⟩=some v1/\w.cell? ⟨b,2,none⟩=some v2/\w.cell? ⟨b,3,none⟩=some v3:=⟨h.cell 0,h.cell 1,h.cell 2,h.cell 3⟩
theorem Blk.z6 {w:qw}{t:TypeId}(h:Blk w b #[v0,v1,v2,v3,v4,v5] t):w.cell? ⟨b,0,none⟩=some v0/\w.cell? ⟨b,1,none⟩=some v1/\w.cell? ⟨b,2,none⟩=some v2/\w.cell? ⟨b,3,none⟩=some v3/\w.cell? ⟨b,4,none⟩=some v4/\w.cell? ⟨b,5,none⟩=some v5:=⟨h.cell 0,h.cell 1,h.cell 2,h.cell 3,h.cell 4,h.cell 5⟩
theorem Blk.alloc {w:qw}{t:TypeId}(h:Blk w g cs t)(o:Obj):Blk (w.alloc o) g cs t:=by
 have hl:=h.lt;unfold Blk at *;rw [Below.heap_alloc _ _ _ hl];exact h
theorem Blk.set {w:qw}{t:TypeId}(h:Blk w g cs t)(i:Nat)(v:Value):Blk (w.setCell ⟨g,i,none⟩ v) g (cs.setIfInBounds i v) t:=heap_setCell_same w g i _ _ _ h
theorem Blk.e0 {t:TypeId}(h:Blk w b (v0::l).toArray t):w.cell? ⟨b,0,none⟩=some v0:=by rw [h.cell];simp
theorem Blk.e1 {t:TypeId}(h:Blk w b (v0::v1::l).toArray t):w.cell? ⟨b,1,none⟩=some v1:=by rw [h.cell];simp
theorem Blk.e2 {t:TypeId}(h:Blk w b (v0::v1::v2::l).toArray t):w.cell? ⟨b,2,none⟩=some v2:=by rw [h.cell];simp
theorem Blk.e3 {t:TypeId}(h:Blk w b (v0::v1::v2::v3::l).toArray t):w.cell? ⟨b,3,none⟩=some v3:=by rw [h.cell];simp
theorem Blk.e4 {t:TypeId}(h:Blk w b (v0::v1::v2::v3::v4::l).toArray t):w.cell? ⟨b,4,none⟩=some v4:=by rw [h.cell];simp
theorem Blk.e5 {t:TypeId}(h:Blk w b (v0::v1::v2::v3::v4::v5::l).toArray t):w.cell? ⟨b,5,none⟩=some v5:=by rw [h.cell];simp
theorem Blk.e6 {t:TypeId}(h:Blk w b (v0::v1::v2::v3::v4::v5::v6::l).toArray t):w.cell? ⟨b,6,none⟩=some v6:=by rw [h.cell];simp
theorem Blk.e12 {t:TypeId}{v7 v8 v9 v10 v11 v12:Value}(h:Blk w b (v0::v1::v2::v3::v4::v5::v6::v7::v8::v9::v10::v11::v12::l).toArray t):w.cell? ⟨b,12,none⟩=some v12:=by rw [h.cell];simp
theorem Blk.s0 {t:TypeId}(h:Blk w b (v0::l).toArray t)(x:Value):Blk (w.setCell ⟨b,0,none⟩ x) b (x::l).toArray t:=by have:=h.set 0 x;simpa using this
theorem Blk.s1 {t:TypeId}(h:Blk w b (v0::v1::l).toArray t)(x:Value):Blk (w.setCell ⟨b,1,none⟩ x) b (v0::x::l).toArray t:=by have:=h.set 1 x;simpa using this
theorem Blk.s2 {t:TypeId}(h:Blk w b (v0::v1::v2::l).toArray t)(x:Value):Blk (w.setCell ⟨b,2,none⟩ x) b (v0::v1::x::l).toArray t:=by have:=h.set 2 x;simpa using this
theorem Blk.s3 {t:TypeId}(h:Blk w b (v0::v1::v2::v3::l).toArray t)(x:Value):Blk (w.setCell ⟨b,3,none⟩ x) b (v0::v1::v2::x::l).toArray t:=by have:=h.set 3 x;simpa using this
theorem Blk.other {w:qw}{t:TypeId}(h:Blk w g cs t)(a:Addr)(v:Value)(hg:g≠a.block):Blk (w.setCell a v) g cs t:=by
 unfold Blk at *;rw [heap_setCell_other _ _ _ _ hg];exact h
theorem aG (w:qw)(a:Addr)(v:Value):(w.setCell a v).heap.size=w.heap.size:=by simp [World.setCell]
theorem fE {w w':qw}(h:Below w.drew.heap.size w.drew w'):qY w w':=⟨h.os,h.tape,h.output,h.size,h.block⟩
def mid (zs:qi)(k:Nat):List Int:=(List.range zs.length).map (fun i=>if i<k then zs.getD i 0 else 0)
theorem aJ1 (zs:qi)(k:Nat):(mid zs k).length=zs.length:=by simp [mid]
theorem aG1 (zs:qi):mid zs 0=List.replicate zs.length 0:=by
 apply List.ext_getElem
 .simp [mid]
 .intro i h1 h2;simp [mid]
theorem aJ2 (zs:qi):mid zs zs.length=zs:=by
 apply List.ext_getElem
 .simp [mid]
 .intro i h1 h2;simp [mid,h2]
theorem aJ0 (zs:qi)(k:Nat)(h:k<zs.length):(mid zs k).set k (zs.getD k 0)=mid zs (k+1):=by
 apply List.ext_getElem
 .simp [mid]
 .intro i h1 h2;simp only [mid,List.getElem_set,List.getElem_map,List.getElem_range];by_cases hik:k=i
  .subst hik;simp
  .by_cases h3:i<k
   .simp [hik,h3,show i<k+1 by omega]
   .simp [hik,h3,show ¬ i<k+1 by omega]
structure Turn (S:Nat->Prop)(w w':qw):Prop where
 os:w'.os=w.os
 tape:w'.tape=w.tape
 output:w'.output=w.output
 size:w.heap.size<=w'.heap.size
 block:∀ k,k<w.heap.size->¬ S k->w'.heap[k]?=w.heap[k]?
theorem Turn.refl (S:Nat->Prop)(w:qw):Turn S w w:=⟨rfl,rfl,rfl,aL,fun _ _ _=>rfl⟩
theorem Turn.trans {a b c:qw}(h:Turn S a b)(k:Turn S b c):Turn S a c:=
 ⟨k.os.trans h.os,k.tape.trans h.tape,k.output.trans h.output,xM h.size k.size,fun j hj hs=>(k.block j (Nat.lt_of_lt_of_le hj h.size) hs).trans (h.block j hj hs)⟩
theorem Turn.mono {S':Nat->Prop}{w w':qw}(h:Turn S w w')(hs:∀ k,S k->S' k):Turn S' w w':=⟨h.os,h.tape,h.output,h.size,fun k hk hn=>h.block k hk (fun e=>hn (hs k e))⟩
theorem aJ {w w':qw}(h:qY w w'):Turn S w w':=⟨h.os,h.tape,h.output,h.size,fun k hk _=>h.block k hk⟩
theorem aD (w:qw)(o:Obj):Turn S w (w.alloc o):=aJ bal
theorem aI {a w w':qw}(h:Below B a w)(ht:Turn S w w')(hS:∀ k,S k->B<=k)(hB:B<=w.heap.size):Below B a w':=
 ⟨ht.os.trans h.os,ht.tape.trans h.tape,ht.output.trans h.output,xM h.size ht.size,fun k hk=>(ht.block k (by omega) (fun e=>by have:=hS k e;omega)).trans (h.block k hk)⟩
theorem aA {w w':qw}{t:TypeId}(ht:Turn S w w')(h:Blk w k cs t)(hk:¬ S k):Blk w' k cs t:=by
 have:=ht.block k h.lt hk;unfold Blk at *;rw [this];exact h
theorem dK {w w':qw}{a:qO}{zs:qi}(ht:Turn S w w')(h:BS w a n cap zs)(hk:∀ k,S k->∀ b off,a=some (qR b off)->b≠k):BS w' a n cap zs:=by
 obtain ⟨h1,h2,h3,h4,h5⟩:=h;refine ⟨h1,h2,h3,fun hn=>?_,h5⟩;obtain ⟨b,off,ha,hc⟩:=h4 hn;refine ⟨b,off,ha,fun i hi=>?_⟩;have:=hc i hi;have hl:=xD w _ this;rw [World.cell?_of_block (w:=w) (ht.block b hl (fun e=>hk b e b off ha rfl))];exact this
theorem bZ (b off i:Nat):(Addr.add (qR b off) i)=(qR b (off+i)):=by
 simp only [Addr.add];split
 .next h=>subst h;rfl
 .rfl
theorem gW:(prog.info? 5).map (fun i=>(i.zero,i.size,i.bytes))=some (some (.int .u8 0),1,1):=by kernel_rfl
theorem aLc (n:Nat):(madeCells (Value.cells (.int .u8 0)) (n*1))=((List.replicate n (0:Int)).map (Value.int .u8)).toArray:=by
 apply Array.ext
 .simp [size_madeCells]
 .intro i h1 h2;simp [madeCells,Value.cells,Nat.mod_one]
theorem aAa {w:qw}(h:w.ownsRow base 5 1 (qS (qP g) n n) n (madeCells (Value.cells (.int .u8 0)) (n*1)).toList):aM8 w g (List.replicate n 0):=by
 obtain ⟨hl,h|⟨g',cap,cur,hv,hb,hh,h1,h2,h3,h4⟩⟩:=h
 .simp at h
 .simp at hv;obtain ⟨rfl,rfl⟩:=hv;unfold aM8;rw [hh]
  have e:cur.toList=(madeCells (Value.cells (.int .u8 0)) (n*1)).toList:=by
   rw [<- h4,xG (by simp [h3])]
  have e2:cur=madeCells (Value.cells (.int .u8 0)) (n*1):=Array.toList_inj.1 e;rw [e2,aLc]
theorem jN {w w':qw}(h:w.grownBy w' none):qY w w':=brf.grown h aL (fun k hk=>by cases hk)
def mok (n1 n2 n3:Nat):Bool:=decide (n1<=16384/\n2<=16384/\n3<=5000)
theorem aCm (a1 a2 a3:qO)(n1 c1 n2 c2 n3 c3:Nat)(w:qw):
 qC 107 #[.agg (qV a1 n1 c1 a2 n2 c2 a3 n3 c3)] w (qB w (.bool (mok n1 n2 n3))):=by
 by_cases k1:(n1:Int)<=16384
 all_goals by_cases k2:(n2:Int)<=16384
 all_goals by_cases k3:(n3:Int)<=5000
 all_goals
  obtain ⟨r,hr⟩:=eqx (mok n1 n2 n3);have HR:Zh (r=mok n1 n2 n3):=hr;rw [<- hr];clear hr;go_enter func107,ntmps107
  go_wp2;go_ret;refine ⟨aB ?_,bal⟩;rw [HR.o];unfold mok;simp;try omega
theorem Blk.three {w:qw}{a b c:Value}{t:TypeId}(h:Blk w g #[a,b,c] t):
 w.cell? (qR g 0)=some a/\w.cell? (qR g 1)=some b/\w.cell? (qR g 2)=some c/\∀ i,w.frozen? (qR g i)=false:=
 ⟨by rw [h.cell];rfl,by rw [h.cell];rfl,by rw [h.cell];rfl,fun i=>h.frozen i⟩
abbrev Rg:=Int×Int×Int×Bool×Bool×Bool
def z6:Rg:=(0,0,0,false,false,false)
def At6 (w:qw)(b o:Nat)(g:Rg):Prop:=
 w.cell? (qR b o)=some (qI g.1)/\w.cell? (qR b (o+1))=some (qI g.2.1)/\w.cell? (qR b (o+2))=some (qI g.2.2.1) /\
 w.cell? (qR b (o+3))=some (.bool g.2.2.2.1)/\w.cell? (qR b (o+4))=some (.bool g.2.2.2.2.1)/\w.cell? (qR b (o+5))=some (.bool g.2.2.2.2.2)
def wfi (z:Int):Prop:=-9223372036854775808<=z/\z<=9223372036854775807
def RS (w:qw)(a:qO)(n cap:Nat)(rs:List Rg):Prop:=
 rs.length=n/\n<=maxLen/\(∀ g∈rs,wfi g.1/\wfi g.2.1/\wfi g.2.2.1)/\(n≠0->∃ b off,a=some (qR b off)/\∀ i,i<n->At6 w b (off+i*6) (rs.getD i z6))/\n<=cap
theorem RS.some {w:qw}{a:qO}{rs:List Rg}(h:RS w a n cap rs)(hn:n≠0):∃ b off,a=Option.some (qR b off):=by
 obtain ⟨b,off,e,_⟩:=h.2.2.2.1 hn;exact ⟨b,off,e⟩
theorem RS.at {w:qw}{b off n cap:Nat}{rs:List Rg}(h:RS w (Option.some (qR b off)) n cap rs)(i:Nat)(hi:i<n):At6 w b (off+i*6) (rs.getD i z6):=by
 obtain ⟨b',off',e,hd⟩:=h.2.2.2.1 (by omega);simp at e;obtain ⟨rfl,rfl⟩:=e;exact hd i hi
theorem aDx:(prog.info? 177).map (fun i=>(i.zero,i.size,i.bytes))=some (some (.agg #[qI 0,qI 0,qI 0,.bool false,.bool false,.bool false]),6,32):=by kernel_rfl
def IS (w:qw)(a:qO)(n cap:Nat)(zs:qi):Prop:=
 zs.length=n/\n<=maxLen/\(∀ z∈zs,wfi z)/\(n≠0->∃ b off,a=some (qR b off)/\∀ i,i<n->w.cell? (qR b (off+i))=some (qI (zs.getD i 0)))/\n<=cap
theorem IS.bw {w w':qw}{a:qO}{zs:qi}(h:IS w a n cap zs)(hb:qY w w'):IS w' a n cap zs:=by
 obtain ⟨h1,h2,h3,h4,h5⟩:=h;refine ⟨h1,h2,h3,fun hn=>?_,h5⟩;obtain ⟨b,off,ha,hc⟩:=h4 hn;refine ⟨b,off,ha,fun i hi=>?_⟩;have:=hc i hi;rw [hb.cell (p:=(qR b (off+i))) (xD w _ this)];exact this
theorem IS.range {w:qw}{a:qO}{zs:qi}(h:IS w a n cap zs)(i:Nat):wfi (zs.getD i 0):=by
 by_cases hi:i<zs.length
 .have:=h.2.2.1 zs[i] (List.getElem_mem hi);simpa [xB,hi] using this
 .simp [xB,Nat.le_of_not_lt hi,wfi]
def RowI (w:qw)(g:Nat)(zs:qi):Prop:=w.heap[g]?=some (.cells (zs.map (Value.int .i64)).toArray 3 (0,0))
theorem RowI.cell {w:qw}{zs:qi}(h:RowI w g zs)(i:Nat)(hi:i<zs.length):w.cell? (qR g i)=some (qI (zs.getD i 0)):=by
 rw [cell_of_row w g i _ _ _ h];simp [xB,hi]
theorem RowI.frozen {w:qw}{zs:qi}(h:RowI w g zs)(i:Nat):w.frozen? (qR g i)=false:=frozen_of_row w g i _ _ h
theorem RowI.set {w:qw}{zs:qi}(h:RowI w g zs)(i:Nat)(z:Int):RowI (w.setCell (qR g i) (qI z)) g (zs.set i z):=by
 unfold RowI at *;rw [heap_setCell_same w g i _ _ _ h];simp [List.map_set]
theorem gG:(prog.info? 3).map (fun i=>(i.zero,i.size,i.bytes))=some (some (qI 0),1,8):=by kernel_rfl
theorem aNm (n:Nat):(madeCells (Value.cells (qI 0)) (n*1))=((List.replicate n (0:Int)).map (Value.int .i64)).toArray:=by
 apply Array.ext
 .simp [size_madeCells]
 .intro i h1 h2;simp [madeCells,Value.cells,Nat.mod_one]
theorem vZ {w:qw}(h:w.ownsRow base 3 1 (qS (qP g) n n) n (madeCells (Value.cells (qI 0)) (n*1)).toList):RowI w g (List.replicate n 0):=by
 obtain ⟨hl,h|⟨g',cap,cur,hv,hb,hh,h1,h2,h3,h4⟩⟩:=h
 .simp at h
 .simp at hv;obtain ⟨rfl,rfl⟩:=hv;unfold RowI;rw [hh]
  have e:cur.toList=(madeCells (Value.cells (qI 0)) (n*1)).toList:=by
   rw [<- h4,xG (by simp [h3])]
  have e2:cur=madeCells (Value.cells (qI 0)) (n*1):=Array.toList_inj.1 e;rw [e2,aNm]
theorem gJ (xs ys:qi)(k:Nat)(h:xs.take k=ys.take k)(hx:k<xs.length)(hy:k<ys.length)(he:xs.getD k 0=ys.getD k 0):xs.take (k+1)=ys.take (k+1):=by
 rw [List.take_succ_eq_append_getElem hx,List.take_succ_eq_append_getElem hy,h];simp [xB,hx,hy] at he;rw [he]
def byt (s:ByteArray)(k:Nat):Int:=((s.get! k).toNat:Int)
theorem nU (s:ByteArray)(k:Nat):0<=byt s k/\byt s k<=255:=by
 unfold byt;have:=(s.get! k).toNat_lt;omega
theorem aA6 (s:ByteArray)(k:Nat)(h:k<s.size):s.get! k=s[k]'h:=by
 simp only [ByteArray.get!,getElem!_def];have:s.data[k]?=some (s.data[k]'h):=Array.getElem?_eq_getElem h;rw [this];rfl
theorem mZ (s:ByteArray)(k:Nat)(h:k<s.size)(w:qw):(Instr.index 9 (.string s) (qI (k:Int))).run prog w=.ok (.int .u8 (byt s k)) w:=by
 rw [run_index_string w 9 s .i64 (k:Int) underlying9,dif_pos (by omega)];simp only [byt,xY,aA6 s k h]
def nmo (s:ByteArray):Bool:=decide (1<=s.size/\s.size<=12)&&(List.range s.size).all fun k=>decide (97<=byt s k/\byt s k<=122)
theorem aDl (s:ByteArray)(k:Nat)(hk:k<s.size)(h:¬ (97<=byt s k/\byt s k<=122)):nmo s=false:=by
 unfold nmo;rw [Bool.and_eq_false_iff];right;rw [List.all_eq_false];exact ⟨k,by simpa using hk,by simpa using h⟩
theorem aAm (s:ByteArray)(h:∀ j,j<s.size->97<=byt s j/\byt s j<=122):nmo s=decide (1<=s.size/\s.size<=12):=by
 unfold nmo;rw [show ((List.range s.size).all fun k=>decide (97<=byt s k/\byt s k<=122))=true from List.all_eq_true.2 (fun k hk=>by simpa using h k (by simpa using hk)),Bool.and_true]
theorem eY (s:ByteArray)(w:qw)(hs:s.size<=1048576):
 qC 69 #[.string s] w fun e w'=>e=.returned (.bool (nmo s))/\w=w':=by
 obtain ⟨N,hN⟩:=eqx (s.size);go_enter func69,ntmps69
 go_wp2_with fail
 go_loop [3] (fun i=>∃ k:Nat,k<=s.size/\i=qI k/\Hid (∀ j,j<k->97<=byt s j/\byt s j<=122)) (fun i=>s.size-(intOf i).toNat)
 .exact ⟨0,xC _,rfl,zh (fun j hj=>by omega)⟩
 .obtain ⟨k,hk,rfl,HJ⟩:=hrel;by_cases hlt:k<s.size
  .have hlt':(k:Int)<(s.size:Int):=by omega
   have hix:=mZ s k hlt;obtain ⟨z0,z1⟩:=nU s k;have HZ:=zh (aDl s k hlt)
   have HG:=zh (show 97<=byt s k/\byt s k<=122->∀ j,j<k+1->97<=byt s j/\byt s j<=122 from fun h j hj=>by
    by_cases e:j=k
    .subst e;exact h
    .exact HJ.out j (by omega))
   generalize byt s k=z at *;by_cases c1:z<97
   .have c1':(z<97)=True:=by simp [c1]
    go_wp2;go_ret;exact ⟨aB (HZ.o (by omega)).symm,rfl⟩
   .by_cases c2:122<z
    .go_wp2;go_ret;exact ⟨aB (HZ.o (by omega)).symm,rfl⟩
    .go_wp2
     go_round
     .exact ⟨k+1,by omega,by go_num,zh (HG.o (by omega))⟩
     .simp [intOf];omega
  .have e:Zh (k=s.size):=by show k=s.size;omega
   have HE:=zh (aAm s (fun j hj=>HJ.out j (by rw [e.o];exact hj)));by_cases c1:1<=s.size
   .by_cases c2:s.size<=12
    .go_wp2;go_ret;exact ⟨aB (by have:=e.o;rw [HE.o,xJ];simp;omega),rfl⟩
    .go_wp2;go_ret;exact ⟨aB (by have:=e.o;rw [HE.o,xJ];simp;omega),rfl⟩
   .go_wp2;go_ret;exact ⟨aB (by have:=e.o;rw [HE.o,xJ];simp;omega),rfl⟩
theorem iO (s:ByteArray)(w:qw)(hs:s.size<=1048576):
 qC 135 #[.string s] w fun e w'=>e=.returned (.bool (nmo s))/\w=w':=by
 by_cases c1:s.size<1
 .have HF:Zh (nmo s=false):=by show _=_;unfold nmo;rw [Bool.and_eq_false_iff];left;simp;omega
  have c1':(s.size:Int)<1:=by omega
  go_enter func135,ntmps135
  go_wp2;go_ret;exact ⟨aB HF.o.symm,rfl⟩
 .by_cases c2:12<s.size
  .have HF:Zh (nmo s=false):=by show _=_;unfold nmo;rw [Bool.and_eq_false_iff];left;simp;omega
   have c1':¬ (s.size:Int)<1:=by omega
   have c2':(12:Int)<(s.size:Int):=by omega
   go_enter func135,ntmps135
   go_wp2;go_ret;exact ⟨aB HF.o.symm,rfl⟩
  .have c1':¬ (s.size:Int)<1:=by omega
   have c2':¬ (12:Int)<(s.size:Int):=by omega
   go_enter func135,ntmps135
   go_wp2_with fail
   go_loop [14] (fun i=>∃ k:Nat,k<=s.size/\i=qI k/\Hid (∀ j,j<k->97<=byt s j/\byt s j<=122)) (fun i=>s.size-(intOf i).toNat)
   .exact ⟨0,xC _,rfl,zh (fun j hj=>by omega)⟩
   .obtain ⟨k,hk,rfl,HJ⟩:=hrel;by_cases hlt:k<s.size
    .have hlt':(k:Int)<(s.size:Int):=by omega
     have hix:=mZ s k hlt;obtain ⟨z0,z1⟩:=nU s k;have HZ:=zh (aDl s k hlt)
     have HG:=zh (show 97<=byt s k/\byt s k<=122->∀ j,j<k+1->97<=byt s j/\byt s j<=122 from fun h j hj=>by
      by_cases e:j=k
      .subst e;exact h
      .exact HJ.out j (by omega))
     generalize byt s k=z at *;by_cases d1:z<97
     .go_wp2;go_ret;exact ⟨aB (HZ.o (by omega)).symm,rfl⟩
     .by_cases d2:122<z
      .go_wp2;go_ret;exact ⟨aB (HZ.o (by omega)).symm,rfl⟩
      .go_wp2
       go_round
       .exact ⟨k+1,by omega,by go_num,zh (HG.o (by omega))⟩
       .simp [intOf];omega
    .have e:Zh (k=s.size):=by show k=s.size;omega
     have HE:=zh (aAm s (fun j hj=>HJ.out j (by rw [e.o];exact hj)));go_wp2;go_ret;exact ⟨aB (by have:=e.o;rw [HE.o,xJ];simp;omega),rfl⟩
def dA (s:ByteArray):Nat->Nat->Int
 | 0,_=>-1
 | f+1,k=>if byt s k=46 then (k:Int) else dA s f (k+1)
def dot (s:ByteArray):Int:=dA s s.size 0
theorem uZ (s:ByteArray)(w:qw)(hs:s.size<=1048576):
 qC 120 #[.string s] w fun e w'=>e=.returned (qI (dot s))/\w=w':=by
 go_enter func120,ntmps120
 go_wp2_with fail
 go_loop [3] (fun i=>∃ k:Nat,k<=s.size/\i=qI k/\Hid (dot s=dA s (s.size-k) k)) (fun i=>s.size-(intOf i).toNat)
 .exact ⟨0,xC _,rfl,zh rfl⟩
 .obtain ⟨k,hk,rfl,HJ⟩:=hrel;by_cases hlt:k<s.size
  .have hlt':(k:Int)<(s.size:Int):=by omega
   have hix:=mZ s k hlt;obtain ⟨z0,z1⟩:=nU s k
   have HD:=zh (show dot s=if byt s k=46 then (k:Int) else dA s (s.size-(k+1)) (k+1) from by
    rw [HJ.out,show s.size-k=(s.size-(k+1))+1 by omega];rfl)
   clear HJ;generalize byt s k=z at *;by_cases c1:z=46
   .have HE:=zh (show dot s=(k:Int) from by rw [HD.o,if_pos c1]);subst c1;go_wp2;go_ret;exact ⟨aQ HE.o.symm,rfl⟩
   .have HE:=zh (show dot s=dA s (s.size-(k+1)) (k+1) from by rw [HD.o,if_neg c1]);have c1':(z==46)=false:=by simpa using c1
    go_wp2
    go_round
    .exact ⟨k+1,by omega,by go_num,HE⟩
    .simp [intOf];omega
  .have e:Zh (dot s=-1):=by
    show dot s=-1;rw [HJ.out,show s.size-k=0 by omega];rfl
   go_wp2;go_ret;exact ⟨aQ e.o.symm,rfl⟩
theorem dZ (s:ByteArray):∀ (f k:Nat),dA s f k=-1\/((k:Int)<=dA s f k/\dA s f k<k+f)
 | 0,k=>Or.inl rfl
 | f+1,k=>by
   unfold dA;split
   .right;omega
   .rcases dZ s f (k+1) with h|h
    .left;exact h
    .right;omega
theorem jY (s:ByteArray):dot s=-1\/(0<=dot s/\dot s<s.size):=by
 have:=dZ s s.size 0;unfold dot;omega
def dC (s:ByteArray):ByteArray:=s.extract 0 (dot s).toNat
def dU (s:ByteArray):ByteArray:=s.extract (dot s+1).toNat s.size
theorem nS (s:ByteArray)(hs:s.size<=1048576):(dC s).size<=1048576:=by
 unfold dC;rw [ByteArray.size_extract];omega
theorem nR (s:ByteArray)(hs:s.size<=1048576):(dU s).size<=1048576:=by
 unfold dU;rw [ByteArray.size_extract];omega
def eJ (s:ByteArray):Bool:=decide (0<=dot s)&&(nmo (dC s)&&nmo (dU s))
theorem mG (s:ByteArray)(w:qw)(hs:s.size<=1048576):
 qC 72 #[.string s] w fun e w'=>e=.returned (.bool (eJ s))/\w=w':=by
 have HD:=zh (fun w=>uZ s w hs);have HA:=zh (fun w=>eY (dC s) w (nS s hs));have HB:=zh (fun w=>eY (dU s) w (nR s hs));obtain ⟨r,hr⟩:=eqx (eJ s);rw [<- hr];unfold eJ at hr;unfold dC dU at *;rcases jY s with h|⟨h0,h1⟩
 .rw [h] at HD hr;have HR:=zh (show r=false from by rw [hr];rfl);clear HA HB hr h;go_enter func72,ntmps72
  go_wp2_with (go_at_call 120;refine (HD.o _).mono ?_;rintro e w1 ⟨rfl,rfl⟩)
  go_ret;exact ⟨aB HR.o.symm,rfl⟩
 .generalize dot s=p at *;generalize nmo (s.extract 0 p.toNat)=A at *;generalize nmo (s.extract (p+1).toNat s.size)=B at *;have HR:=zh (show r=(A&&B) from by rw [hr];simp [h0]);clear hr;cases A
  .go_enter func72,ntmps72
   go_wp2_with (first
    | (go_at_call 120;refine (HD.o _).mono ?_;rintro e w1 ⟨rfl,rfl⟩)
    | (go_at_call 69;refine (HA.o _).mono ?_;rintro e w1 ⟨rfl,rfl⟩))
   go_ret;exact ⟨aB HR.o.symm,rfl⟩
  .go_enter func72,ntmps72
   go_wp2_with fail
   refine (HD.o _).mono ?_;rintro e w1 ⟨rfl,rfl⟩;go_wp2_with fail
   refine (HA.o _).mono ?_;rintro e w1 ⟨rfl,rfl⟩;go_wp2_with fail
   refine (HB.o _).mono ?_;rintro e w1 ⟨rfl,rfl⟩;go_wp2;go_ret;exact ⟨aB HR.o.symm,rfl⟩
theorem aKi (l:List UInt8):∀ (s:ByteArray) (k:Nat),s.data.toList.drop k=l->Lib.indexByte l (46:Int).toNat.toUInt8=(let d:=dA s l.length k;if d=-1 then -1 else d-k):=by
 induction l with
 | nil=>intro s k h;rfl
 | cons b l ih=>
   intro s k h
   have hk:k<s.data.toList.length:=by
    by_cases e:k<s.data.toList.length
    .exact e
    .rw [List.drop_eq_nil_of_le (by omega)] at h;cases h
   have hks:k<s.size:=by simpa using hk
   have hb:s.data.toList[k]'hk=b:=by
    have h2:s.data.toList[k]?=some b:=by
     have:=congrArg (fun t=>t[0]?) h;simpa using this
    rw [xN hk] at h2;injection h2
   have hd:s.data.toList.drop (k+1)=l:=by
    have:=congrArg List.tail h;simpa using this
   have hbyt:byt s k=(b.toNat:Int):=by
    unfold byt;rw [aA6 s k hks,<- hb];rfl
   have ih':=ih s (k+1) hd;simp only [Lib.indexByte,List.length_cons,dA,hbyt];rw [ih'];have e46:(46:Int).toNat.toUInt8=46:=rfl;rw [e46];by_cases c:b=46
   .subst c;simp
   .have c1:(b==46)=false:=by simpa using c
    have c2:¬ ((b.toNat:Int)=46):=fun e=>c (UInt8.toNat_inj.1 (by simpa using (by omega:b.toNat=46)));rw [c1,if_neg c2];rcases dZ s l.length (k+1) with e|e
    .simp [e]
    .have n1:¬ dA s l.length (k+1)=-1:=by omega
     simp only [n1,if_false,Bool.false_eq_true];split
     .next h=>simp at h;omega
     .omega
theorem aHw (s:ByteArray):Lib.indexByte s.data.toList (46:Int).toNat.toUInt8=dot s:=by
 have:=aKi s.data.toList s 0 (by simp);rw [this];have e:s.data.toList.length=s.size:=Array.length_toList;unfold dot;rw [e];rcases dZ s s.size 0 with h|h
 .simp [h]
 .simp only [if_neg (show ¬ dA s s.size 0=-1 by omega)];omega
theorem uF (s:ByteArray)(w:qw):
 qC 175 #[.string s,.int .u8 46] w fun e w'=>e=.returned (qI (dot s))/\w=w':=by
 have HD:=zh (aHw s);go_enter func175,ntmps175
 go_wp2;rw [run_callFunc_extern func182 (by kernel_rfl) (by kernel_rfl) (by kernel_rfl) (e:=Extern.BytealgIndexByte.indexByte) (by kernel_rfl),Lib.run_indexByteString];simp only [Result.andThen];rw [Oper.upon_value];go_wp2;go_ret;exact ⟨aQ HD.o,rfl⟩
theorem aFe (s:ByteArray)(w:qw)(hs:s.size<=1048576):
 qC 170 #[.string s,.string ⟨#[46]⟩] w fun e w'=>e=.returned (qI (dot s))/\w=w':=by
 have HI:=zh (fun w=>uF s w);by_cases he:(⟨#[46]⟩:ByteArray)=s
 .subst he;have HD:Zh (dot ⟨#[46]⟩=0):=by show _=_;rfl
  clear HI;go_enter func170,ntmps170
  go_wp2;go_ret;exact ⟨aQ HD.o.symm,rfl⟩
 .have hne:¬ ([46]:List UInt8)=s.toList:=fun e=>he (Go.WideShapes.bytes_inj (by rw [ByteArray.toList_eq] at e;exact e));have he':(([46]:List UInt8)==s.toList)=false:=by simpa using hne
  have he2:((⟨#[46]⟩:ByteArray).toList==s.toList)=false:=by rw [ByteArray.toList_eq];exact he'
  have h46:∀ w:World,(Instr.index 9 (.string ⟨#[46]⟩) (qI 0)).run prog w=.ok (.int .u8 46) w:=fun w=>by kernel_rfl
  go_enter func170,ntmps170
  go_wp2_with (go_at_call 175;refine (HI.o _).mono ?_;rintro e w1 ⟨rfl,rfl⟩)
  go_ret;exact ⟨rfl,rfl⟩
theorem aEo (s:ByteArray)(w:qw)(hs:s.size<=1048576):
 qC 166 #[.string s,.string ⟨#[46]⟩] w (qB w (.tuple #[.string (if 0<=dot s then dC s else s),.string (if 0<=dot s then dU s else ⟨#[]⟩),.bool (decide (0<=dot s))])):=by
 have HI:=zh (fun w=>aFe s w hs);have HB:=zh (Below.refl w.heap.size w);rcases jY s with h|⟨h0,h1⟩
 .have hn:¬ (0<=dot s):=by omega
  rw [if_neg hn,if_neg hn,xS hn];rw [h] at HI;clear h hn;go_enter func166,ntmps166
  go_wp2_with (go_at_call 170;refine (HI.o _).mono ?_;rintro e w1 ⟨rfl,rfl⟩)
  all_goals (try go_region)
  all_goals (try go_wp2)
  all_goals go_ret3
  all_goals exact ⟨rfl,by first|exact HB.o|exact HB.o.drew⟩
 .rw [if_pos h0,if_pos h0,xR h0];unfold dC dU;generalize dot s=p at *;go_enter func166,ntmps166
  go_wp2_with (go_at_call 170;refine (HI.o _).mono ?_;rintro e w1 ⟨rfl,rfl⟩)
  all_goals (try go_region)
  all_goals (try go_wp2)
  all_goals go_ret3
  all_goals exact ⟨rfl,by first|exact HB.o|exact HB.o.drew⟩
theorem aKm (s:ByteArray)(w:qw)(hs:s.size<=1048576):
 qC 156 #[.string s,.string ⟨#[46]⟩] w (qB w (.tuple #[.string (if 0<=dot s then dC s else s),.string (if 0<=dot s then dU s else ⟨#[]⟩),.bool (decide (0<=dot s))])):=by
 have HC:=zh (fun w=>aEo s w hs);generalize (if 0<=dot s then dC s else s)=A at *;generalize (if 0<=dot s then dU s else ⟨#[]⟩)=B at *;generalize decide (0<=dot s)=C at *;go_enter func156,ntmps156
 go_wp2_with (go_at_call 166;refine (HC.o _).mono ?_;rintro e w1 ⟨rfl,hb1⟩)
 go_ret3
 exact ⟨rfl,hb1⟩
theorem aGw:nmo ⟨#[]⟩=false:=rfl
def aCu (s:ByteArray):Value:=if eJ s then .tuple #[.string (dC s),.string (dU s),.bool true] else .tuple #[.string ⟨#[]⟩,.string ⟨#[]⟩,.bool false]
theorem kZ (s:ByteArray)(w:qw)(hs:s.size<=1048576):
 qC 140 #[.string s] w (qB w (aCu s)):=by
 have HC:=zh (fun w=>aKm s w hs);obtain ⟨V,hV⟩:=eqx (aCu s);rw [<- hV];unfold aCu eJ at hV;have hA:(if 0<=dot s then dC s else s).size<=1048576:=by split;exact nS s hs;exact hs
 have hB:(if 0<=dot s then dU s else ⟨#[]⟩).size<=1048576:=by split;exact nR s hs;exact (by decide)
 have HA:=zh (fun w=>iO _ w hA);have HB:=zh (fun w=>iO _ w hB)
 have hV':V=if nmo (if 0<=dot s then dC s else s)&&nmo (if 0<=dot s then dU s else ⟨#[]⟩) then .tuple #[.string (if 0<=dot s then dC s else s),.string (if 0<=dot s then dU s else ⟨#[]⟩),.bool true] else .tuple #[.string ⟨#[]⟩,.string ⟨#[]⟩,.bool false]:=by
  by_cases h:0<=dot s
  .simp only [h,if_true,decide_true,Bool.true_and] at hV ⊢;exact hV
  .simp only [h,if_false,decide_false,Bool.false_and,aGw,Bool.and_false] at hV ⊢;exact hV
 clear hV hA hB;generalize (if 0<=dot s then dC s else s)=A at *;generalize (if 0<=dot s then dU s else ⟨#[]⟩)=B at *;generalize decide (0<=dot s)=C at *;generalize nmo A=a at *;generalize nmo B=b at *;have HV:=zh hV';clear hV';cases a
 .obtain rfl:V=.tuple #[.string ⟨#[]⟩,.string ⟨#[]⟩,.bool false]:=HV.o;go_enter func140,ntmps140
  go_wp2_with fail
  refine (HC.o _).mono ?_;rintro e w1 ⟨rfl,hb1⟩;go_wp2_with fail
  refine (HA.o _).mono ?_;rintro e w2 ⟨rfl,rfl⟩;go_wp2
  go_ret3
  exact ⟨rfl,hb1⟩
 .cases b
  .obtain rfl:V=.tuple #[.string ⟨#[]⟩,.string ⟨#[]⟩,.bool false]:=HV.o;go_enter func140,ntmps140
   go_wp2_with fail
   refine (HC.o _).mono ?_;rintro e w1 ⟨rfl,hb1⟩;go_wp2_with fail
   refine (HA.o _).mono ?_;rintro e w2 ⟨rfl,rfl⟩;go_wp2_with fail
   refine (HB.o _).mono ?_;rintro e w2 ⟨rfl,rfl⟩;go_wp2
   go_ret3
   exact ⟨rfl,hb1⟩
  .obtain rfl:V=.tuple #[.string A,.string B,.bool true]:=HV.o;go_enter func140,ntmps140
   go_wp2_with fail
   refine (HC.o _).mono ?_;rintro e w1 ⟨rfl,hb1⟩;go_wp2_with fail
   refine (HA.o _).mono ?_;rintro e w2 ⟨rfl,rfl⟩;go_wp2_with fail
   refine (HB.o _).mono ?_;rintro e w2 ⟨rfl,rfl⟩;go_wp2
   go_ret3
   exact ⟨rfl,hb1⟩
def ins (p s f:Int)(n:Nat):Bool:=decide (f<=p/\p<=f+n-s)
def low:List Int->Int
 | []=>0
 | z::zs=>low zs*256+z
theorem nD:∀ (zs:qi),(∀ z∈zs,0<=z/\z<=255)->0<=low zs/\low zs+1<=(256:Int)^zs.length
 | [],_=>by simp [low]
 | z::zs,h=>by
   have ih:=nD zs (fun x hx=>h x (by simp [hx]));have hz:=h z (by simp);simp only [low,List.length_cons,Int.pow_succ];omega
theorem gV (zs:qi)(h:∀ z∈zs,0<=z/\z<=255)(hl:zs.length<=4):0<=low zs/\low zs<=4294967295:=by
 have h1:=nD zs h;have h2:(256:Nat)^zs.length<=256^4:=Nat.pow_le_pow_right (by omega) hl;have h3:((256^zs.length:Nat):Int)=(256:Int)^zs.length:=by simp
 have h4:(256:Nat)^4=4294967296:=rfl;omega
theorem aG6 (zs:qi)(j:Nat)(h:j<zs.length):low (zs.drop j)=low (zs.drop (j+1))*256+zs.getD j 0:=by
 rw [List.drop_eq_getElem_cons h];simp [low,xB,h]
theorem vA (b off n cap:Nat)(zs:qi)(w:qw)(h:BS w (some (qR b off)) n cap zs)(hn:n<=4:=by omega):
 qC 67 #[qS (some (qR b off)) n cap] w fun e w'=>e=.returned (qI (low zs))/\w=w':=by
 obtain ⟨hl,hmx,hr,hc,_⟩:=h
 have hd:∀ i,i<n->w.cell? (qR b (off+i))=some (.int .u8 (zs.getD i 0)):=by
  intro i hi;obtain ⟨b',off',e,hd⟩:=hc (by omega);simp at e;obtain ⟨rfl,rfl⟩:=e;exact hd i hi
 clear hc;go_enter func67,ntmps67
 go_wp2;go_loop [3,4] (fun v i=>∃ (k:Nat) (p:Int),k<=n/\p+1=k/\i=qI p/\v=qI (low (zs.drop k))) (fun _ i=>(intOf i+1).toNat)
 .exact ⟨n,(n:Int)-1,aL,by omega,rfl,by rw [List.drop_of_length_le (by omega)];rfl⟩
 .obtain ⟨k,p,hk,hp,rfl,rfl⟩:=hrel;by_cases h0:k=0
  .have hp':p=-1:=by omega
   subst hp' h0;clear hp;have hfin:Zh (low (List.drop 0 zs)=low zs):=by show _=_;rw [List.drop_zero]
   generalize low (List.drop 0 zs)=L at *;go_wp2;go_ret;exact ⟨aQ hfin.o,rfl⟩
  .obtain ⟨j,rfl⟩:∃ j,k=j+1:=⟨k-1,by omega⟩;have hp':p=(j:Int):=by omega
   subst hp';have hj:(0:Int)<=(j:Int):=by omega
   have hjn:(j:Int)<(n:Int):=by omega
   have hst:=aG6 zs j (by omega);have hL:=gV (zs.drop (j+1)) (fun z hz=>hr z (List.mem_of_mem_drop hz)) (by simp;omega);have hL3:low (zs.drop (j+1))<=4294967295:=hL.2;have hcj:=hd j (by omega)
   have hz0:0<=zs.getD j 0/\zs.getD j 0<=255:=by
    have:=hr zs[j] (List.getElem_mem (by omega));simpa [xB,show j<zs.length by omega] using this
   have HS:=zh hst;clear hst hp hd h0;generalize low (zs.drop (j+1))=L at *;generalize zs.getD j 0=z at *;obtain ⟨hL1,hL2⟩:=hL;obtain ⟨hz1,hz2⟩:=hz0;go_wp2
   go_round
   .exact ⟨j,(j:Int)-1,by omega,by omega,by go_num,by rw [HS.o]⟩
   .simp [intOf]
theorem aEh (n:Int)(h₀:0<=n)(h₁:n<2^62):IntKind.i64.wrap n=n:=by
 have:(2:Int)^62=4611686018427387904:=rfl;simp only [IntKind.wrap,IntKind.bits,IntKind.signed];simp;omega
theorem iK (i:Nat)(x y:Int)(hx₀:0<=x:=by omega)(hx:x%2^i=0:=by omega)(hx₁:x<2^62:=by omega)(hy₀:0<=y:=by omega)(hy:y<2^i:=by omega)(hy₁:y<2^62:=by omega):bits .or .i64 x y=x+y:=
 bits_join .i64 62 (by decide) aEh i x y hx₀ hx hx₁ hy₀ hy hy₁
theorem BS.at {w:qw}{b off n cap:Nat}{zs:qi}(h:BS w (some (qR b off)) n cap zs)(i:Nat)(hi:i<n):w.cell? (qR b (off+i))=some (.int .u8 (zs.getD i 0)):=by
 obtain ⟨b',off',e,hd⟩:=h.2.2.2.1 (by omega);simp at e;obtain ⟨rfl,rfl⟩:=e;exact hd i hi
theorem or4 (z0 z1 z2 z3:Int)(p0:0<=z0)(p0':z0<=255)(p1:0<=z1)(p1':z1<=255)(p2:0<=z2)(p2':z2<=255)(p3:0<=z3)(p3':z3<=255):
 bits BinOp.or IntKind.i64 (bits BinOp.or IntKind.i64 (bits BinOp.or IntKind.i64 0 (bits BinOp.or IntKind.i64 (z3*16777216) (z2*65536))) (z1*256)) z0=low [z0,z1,z2,z3]:=by
 rw [iK 24 (z3*16777216) (z2*65536)];rw [iK 40 0 (z3*16777216+z2*65536)];rw [iK 16 (0+(z3*16777216+z2*65536)) (z1*256)];rw [iK 8 (0+(z3*16777216+z2*65536)+z1*256) z0];simp only [low];omega
theorem or2 (z0 z1:Int)(p0:0<=z0)(p0':z0<=255)(p1:0<=z1)(p1':z1<=255):
 bits BinOp.or IntKind.i64 (bits BinOp.or IntKind.i64 0 (z1*256)) z0=low [z0,z1]:=by
 rw [iK 16 0 (z1*256)];rw [iK 8 (0+z1*256) z0];simp only [low];omega
theorem or1 (z0:Int)(p0:0<=z0)(p0':z0<=255):bits BinOp.or IntKind.i64 0 z0=low [z0]:=by
 rw [iK 8 0 z0];simp only [low];omega
theorem aNf (zs:qi)(h:4<=zs.length):zs.take 4=[zs.getD 0 0,zs.getD 1 0,zs.getD 2 0,zs.getD 3 0]:=by
 match zs,h with
 | a::b::c::d::_,_=>rfl
theorem aK1 (zs:qi)(h:2<=zs.length):zs.take 2=[zs.getD 0 0,zs.getD 1 0]:=by
 match zs,h with
 | a::b::_,_=>rfl
theorem aK2 (zs:qi)(h:1<=zs.length):zs.take 1=[zs.getD 0 0]:=by
 match zs,h with
 | a::_,_=>rfl
theorem sM (b off n cap:Nat)(zs:qi)(w:qw)(h:BS w (some (qR b off)) n cap zs)(hn:4<=n):
 qC 149 #[qS (some (qR b off)) n cap,qI 4] w (qB w (qI (low (zs.take 4)))):=by
 have r0:=h.range 0;have r1:=h.range 1;have r2:=h.range 2;have r3:=h.range 3;have c0:=h.at 0 (by omega);have c1:=h.at 1 (by omega);have c2:=h.at 2 (by omega);have c3:=h.at 3 (by omega);simp only [Nat.add_zero] at c0;have hl:(3:Int)<(n:Int):=by omega
 rw [aNf zs (by rw [h.1];omega)];clear h;generalize zs.getD 0 0=z0 at *;generalize zs.getD 1 0=z1 at *;generalize zs.getD 2 0=z2 at *;generalize zs.getD 3 0=z3 at *;obtain ⟨p0,p0'⟩:=r0;obtain ⟨p1,p1'⟩:=r1;obtain ⟨p2,p2'⟩:=r2;obtain ⟨p3,p3'⟩:=r3;have HS:=zh (or4 z0 z1 z2 z3 p0 p0' p1 p1' p2 p2' p3 p3');generalize low [z0,z1,z2,z3]=L at *;go_enter func149,ntmps149
 go_wp2
 go_quiet (fail)
 go_wp2;go_ret;exact ⟨aQ HS.o,below_drewN brf _⟩
theorem aCq (b off n cap:Nat)(zs:qi)(w:qw)(h:BS w (some (qR b off)) n cap zs)(hn:2<=n):
 qC 149 #[qS (some (qR b off)) n cap,qI 2] w (qB w (qI (low (zs.take 2)))):=by
 have r0:=h.range 0;have r1:=h.range 1;have c0:=h.at 0 (by omega);have c1:=h.at 1 (by omega);simp only [Nat.add_zero] at c0;have hl:(1:Int)<(n:Int):=by omega
 rw [aK1 zs (by rw [h.1];omega)];clear h;generalize zs.getD 0 0=z0 at *;generalize zs.getD 1 0=z1 at *;obtain ⟨p0,p0'⟩:=r0;obtain ⟨p1,p1'⟩:=r1;have HS:=zh (or2 z0 z1 p0 p0' p1 p1');generalize low [z0,z1]=L at *;go_enter func149,ntmps149
 go_wp2;go_ret;exact ⟨aQ HS.o,brf⟩
theorem aCr (b off n cap:Nat)(zs:qi)(w:qw)(h:BS w (some (qR b off)) n cap zs)(hn:1<=n):
 qC 149 #[qS (some (qR b off)) n cap,qI 1] w (qB w (qI (low (zs.take 1)))):=by
 have r0:=h.range 0;have c0:=h.at 0 (by omega);simp only [Nat.add_zero] at c0;have hl:(0:Int)<(n:Int):=by omega
 rw [aK2 zs (by rw [h.1];omega)];clear h;generalize zs.getD 0 0=z0 at *;obtain ⟨p0,p0'⟩:=r0;have HS:=zh (or1 z0 p0 p0');generalize low [z0]=L at *;go_enter func149,ntmps149
 go_wp2;go_ret;exact ⟨aQ HS.o,brf⟩
theorem BS.drop {w:qw}{zs:qi}(h:BS w (some (qR b off)) n cap zs)(k:Nat)(hk:k<=n):BS w (some (qR b (off+k))) (n-k) (cap-k) (zs.drop k):=by
 have hl:=h.1;refine ⟨by simp;omega,by have:=h.2.1;omega,fun z hz=>h.2.2.1 z (List.mem_of_mem_drop hz),fun hn=>⟨b,off+k,rfl,fun i hi=>?_⟩,by have:=h.2.2.2.2;omega⟩;have:=h.at (k+i) (by omega);rw [Nat.add_assoc,this];simp [xB]
theorem BS.take {w:qw}{zs:qi}(h:BS w (some (qR b off)) n cap zs)(s:Nat)(hs:s<=n):BS w (some (qR b off)) s cap (zs.take s):=by
 have hl:=h.1;refine ⟨by simp;omega,by have:=h.2.1;omega,fun z hz=>h.2.2.1 z (List.mem_of_mem_take hz),fun hn=>⟨b,off,rfl,fun i hi=>?_⟩,by have:=h.2.2.2.2;omega⟩;have:=h.at i (by omega);rw [this];simp [xB,hi]
theorem BS.some {w:qw}{a:qO}{zs:qi}(h:BS w a n cap zs)(hn:n≠0):∃ b off,a=Option.some (qR b off):=by
 obtain ⟨b,off,e,_⟩:=h.2.2.2.1 hn;exact ⟨b,off,e⟩
def OB (w:qw)(base:Nat)(v:Value)(zs:qi):Prop:=w.ownsRow base 5 1 v zs.length (zs.map (Value.int .u8))/\∀ z∈zs,0<=z/\z<=255
theorem pG {w:qw}{zs:qi}(h:BS w (some (qR b off)) n cap zs):∀ j u,(zs.map (Value.int .u8))[j]?=some u->w.cell? (((qR b off):Addr).add j)=some u:=by
 intro j u hj;have hl:=h.1
 have hjl:j<n:=by
  by_cases e:j<n
  .exact e
  .rw [xO (by simp;omega)] at hj;simp at hj
 rw [bZ,h.at j hjl];rw [<- hj];simp [xB,show j<zs.length by omega]
theorem uW (w:qw):(w.alloc (.cells #[] 5)).ownsRow w.heap.size 5 1 (qS (qP w.heap.size) 0 0) 0 []:=
 ⟨rfl,.inr ⟨w.heap.size,0,#[],rfl,aL,heap_alloc_new w _,aL,xC _,rfl,rfl⟩⟩
theorem uV {w:qw}{t:TypeId}{xs:List Value}(h:w.ownsRow base t 1 v n xs):∃ a cap,v=qS a n cap:=by
 obtain ⟨_,⟨rfl,rfl⟩|⟨g,cap,cur,rfl,_⟩⟩:=h
 .exact ⟨_,_,rfl⟩
 .exact ⟨_,_,rfl⟩
theorem iW {a w w':qw}(h:Below B a w)(hg:w.grownBy w' (some k))(hB:B<=w.heap.size)(hk:B<=k):Below B a w':=h.grown hg hB (fun j hj=>by cases hj;exact hk)
theorem oF (b off n cap:Nat)(zs:qi)(w:qw)(h:BS w (some (qR b off)) n cap zs)(hn:n<=1048576):
 qC 68 #[qS (some (qR b off)) n cap] w fun e w'=>∃ a cap',e=.returned (qS a n cap')/\OB w' w.heap.size (qS a n cap') zs/\qY w w':=by
 obtain ⟨i0,hi,hz0,hz1,hz2⟩:=info_parts gW;have hl:=h.1;have h':=h.bw ((Below.refl w.heap.size w).alloc aL (.cells #[] 5));have hnews:=zh (pG h');have hone:=zh (ints_oneCell .u8 zs);have hown:=zh (uW w);have hlen:=zh (show (zs.map (Value.int .u8)).length=n*1 by simp;omega);go_enter func68,ntmps68
 go_wp2_with (at_builtin;refine wpList_append_own _ rfl _ _ 22 rfl w.heap.size 5 i0 (.int .u8 0) 1 1 underlying22 hi hz0 hz1 hz2 rfl (by decide) _ 0 [] rfl hown.o (qR b off) n cap (zs.map (Value.int .u8)) rfl hlen.o hnews.o hone.o (by unfold maxLen;omega) (by omega) (by simp) ?_;intro v' w1 hown1 hgr1 _)
 simp only [Nat.zero_add,List.nil_append] at hown1;have hex:=uV hown1;go_ret;obtain ⟨a',cap',he⟩:=hex;refine ⟨a',cap',by rw [<- he];rfl,⟨?_,h.2.2.1⟩,?_⟩
 .rw [hl,<- he];exact hown1
 .exact iW ((Below.refl w.heap.size w).alloc aL _) hgr1 (by simp) aL
theorem aFo (b off n cap:Nat)(zs:qi)(w:qw)(h:BS w (some (qR b off)) n cap zs)(hn:n<=1048576):
 qC 129 #[qS (some (qR b off)) n cap] w fun e w'=>∃ a cap',e=.returned (qS a n cap')/\OB w' w.heap.size (qS a n cap') zs/\qY w w':=by
 obtain ⟨i0,hi,hz0,hz1,hz2⟩:=info_parts gW;have hl:=h.1;have h':=h.bw ((Below.refl w.heap.size w).alloc aL (.cells #[] 5));have hnews:=zh (pG h');have hone:=zh (ints_oneCell .u8 zs);have hown:=zh (uW w);have hlen:=zh (show (zs.map (Value.int .u8)).length=n*1 by simp;omega);have hnil:=fun (w:qw)=>Lib.run_eql_slice_nil (P:=prog) w 22 5 (some (qR b off)) n cap 0 0 underlying22;go_enter func129,ntmps129
 go_wp2_with (at_builtin;refine wpList_append_own _ rfl _ _ 22 rfl w.heap.size 5 i0 (.int .u8 0) 1 1 underlying22 hi hz0 hz1 hz2 rfl (by decide) _ 0 [] rfl hown.o (qR b off) n cap (zs.map (Value.int .u8)) rfl hlen.o hnews.o hone.o (by unfold maxLen;omega) (by omega) (by simp) ?_;intro v' w1 hown1 hgr1 _)
 simp only [Nat.zero_add,List.nil_append] at hown1;have hex:=uV hown1;go_ret;obtain ⟨a',cap',he⟩:=hex;refine ⟨a',cap',by rw [<- he];rfl,⟨?_,h.2.2.1⟩,?_⟩
 .rw [hl,<- he];exact hown1
 .exact iW ((Below.refl w.heap.size w).alloc aL _) hgr1 (by simp) aL
theorem OB.bw {w w':qw}{zs:qi}(h:OB w base v zs)(hb:qY w w'):OB w' base v zs:=by
 refine ⟨?_,h.2⟩;obtain ⟨hl,h0|⟨g,cap,cur,hv,hg,hh,h1,h2,h3,h4⟩⟩:=h.1
 .exact ⟨hl,.inl h0⟩
 .refine ⟨hl,.inr ⟨g,cap,cur,hv,hg,?_,h1,h2,h3,h4⟩⟩;exact Blk.bw (w:=w) hh hb
theorem OB.mono {w:qw}{base':Nat}{zs:qi}(h:OB w base v zs)(hb:base'<=base):OB w base' v zs:=by
 refine ⟨?_,h.2⟩;obtain ⟨hl,h0|⟨g,cap,cur,hv,hg,hh,h1,h2,h3,h4⟩⟩:=h.1
 .exact ⟨hl,.inl h0⟩
 .exact ⟨hl,.inr ⟨g,cap,cur,hv,by omega,hh,h1,h2,h3,h4⟩⟩
theorem OB.lt {w:qw}{zs:qi}(h:OB w base v zs):∀ k,v.ownBlock=some k->base<=k/\k<w.heap.size:=h.1.lt
theorem OB.bs {w:qw}{a:qO}{zs:qi}(h:OB w base (qS a n cap) zs):BS w a n cap zs:=by
 obtain ⟨hl,⟨h0,h0'⟩|⟨g,cap',cur,hv,hg,hh,h1,h2,h3,h4⟩⟩:=h.1
 .simp at h0;obtain ⟨rfl,rfl,rfl⟩:=h0;exact ⟨h0',xC _,h.2,fun hn=>absurd rfl hn,aL⟩
 .simp at hv;obtain ⟨rfl,rfl,rfl⟩:=hv;refine ⟨rfl,by omega,h.2,fun hn=>⟨g,0,rfl,fun i hi=>?_⟩,h1⟩;rw [Nat.zero_add,Blk.cell (w:=w) hh]
  have:cur.toList[i]?=(zs.map (Value.int .u8))[i]?:=by
   rw [<- h4,List.getElem?_take,if_pos (by omega)]
  rw [Array.getElem?_toList] at this;rw [this];simp [xB,hi]
theorem aG0 (v:Int):((v.tmod 4294967296)+4294967296).tmod 4294967296=v%4294967296:=by
 have h:=Int.tmod_eq_emod (a:=v) (b:=4294967296)
 have hlt:-4294967296<v.tmod 4294967296:=by
  have:=Int.lt_tmod_of_pos v (show (0:Int)<4294967296 by omega);exact this
 rw [xL (by omega)];split at h<;>omega
theorem aCj (v:Int)(w:qw)(hv:-9223372036854775808<=v/\v<=9223372036854775807):
 qC 75 #[qI v,qI 4294967296] w fun e w'=>e=.returned (qI (v%4294967296))/\w=w':=by
 have hlt:-4294967296<v.tmod 4294967296:=Int.lt_tmod_of_pos v (by omega);have hgt:v.tmod 4294967296<4294967296:=Int.tmod_lt_of_pos v (by omega);have HM:=zh (aG0 v);go_enter func75,ntmps75
 go_wp2;go_ret;exact ⟨aQ (by have:=HM.o;rwa [xL (by omega)] at this),rfl⟩
theorem sG (v:Int)(w:qw)(hv:-9223372036854775808<=v/\v<=9223372036854775807):
 qC 85 #[qI v] w fun e w'=>e=.returned (qI (v%4294967296))/\w=w':=by
 go_enter func85,ntmps85
 go_wp2_with fail
 refine (aCj v _ hv).mono ?_;rintro e w1 ⟨rfl,rfl⟩;go_wp2;go_ret;exact ⟨rfl,rfl⟩
def bt (v:Int)(j:Nat):Int:=v/(256:Int)^j%256
def tX (w:qw)(g k:Nat)(v:Int):Nat->World
 | 0=>w
 | j+1=>(tX w g k v j).setCell (qR g (k+j)) (.int .u8 (bt v j))
def put (zs:qi)(k:Nat)(v:Int):Nat->List Int
 | 0=>zs
 | j+1=>(put zs k v j).set (k+j) (bt v j)
theorem iA (v:Int)(j:Nat):0<=bt v j/\bt v j<=255:=by unfold bt;omega
theorem aKr (v:Int)(j:Nat):v/(256:Int)^j/256=v/(256:Int)^(j+1):=by
 rw [Int.pow_succ,Int.ediv_ediv_of_nonneg (Int.le_of_lt (Int.pow_pos (by omega)))]
theorem wD (zs:qi)(k:Nat)(v:Int):∀ j,(put zs k v j).length=zs.length
 | 0=>rfl
 | j+1=>by rw [put,List.length_set,wD zs k v j]
def Room (w:qw)(g n:Nat):Prop:=∃ cur,Blk w g cur 5/\n<=cur.size
theorem Room.cell {w:qw}(h:Room w g n)(i:Nat)(hi:i<n):∃ u,w.cell? (qR g i)=some u:=by
 obtain ⟨cur,hb,hn⟩:=h;rw [hb.cell];exact ⟨cur[i],by simp⟩
theorem Room.frozen {w:qw}(h:Room w g n)(i:Nat):w.frozen? (qR g i)=false:=by
 obtain ⟨cur,hb,hn⟩:=h;exact hb.frozen i
theorem Room.set {w:qw}(h:Room w g n)(i:Nat)(u:Value):Room (w.setCell (qR g i) u) g n:=by
 obtain ⟨cur,hb,hn⟩:=h;exact ⟨_,hb.set i u,by simpa using hn⟩
theorem Room.put {w:qw}{g n:Nat}(h:Room w g n)(k:Nat)(v:Int):∀ j,Room (tX w g k v j) g n
 | 0=>h
 | j+1=>(Room.put h k v j).set (k+j) _
theorem nH (g n cap k:Nat)(s v:Int)(w:qw)(h:Room w g n)(hn:n<=16384)(hs1:1<=s)(hs:s<=4)(hk:(k:Int)+s<=n)(hv0:0<=v)(hv1:v<=4294967295):
 qC 76 #[qS (qP g) n cap,qI k,qI s,qI v] w fun e w'=>e=.returned (.tuple #[])/\w'=tX w g k v s.toNat:=by
 go_enter func76,ntmps76
 go_wp2;go_loopw [3,8] (fun x i wr=>∃ j:Nat,(j:Int)<=s/\i=qI j/\x=qI (v/(256:Int)^j)/\wr=tX w g k v j) (fun _ i _=>s.toNat-(intOf i).toNat)
 .exact ⟨0,by omega,rfl,by simp,rfl⟩
 .obtain ⟨j,hj,rfl,rfl,rfl⟩:=hrel;by_cases hlt:(j:Int)<s
  .have hR:=h.put k v j;obtain ⟨u,hu⟩:=hR.cell (k+j) (by omega);have hf:=hR.frozen (k+j);have hp:0<(256:Int)^j:=Int.pow_pos (by omega);have hq0:0<=v/(256:Int)^j:=Int.ediv_nonneg hv0 (by omega);have hq1:v/(256:Int)^j<=v:=Int.ediv_le_self _ hv0;have HS:=zh (aKr v j);have hW:tX w g k v (j+1)=(tX w g k v j).setCell (qR g (k+j)) (.int .u8 (v/(256:Int)^j%256)):=rfl;have HW:=zh hW;clear hW hR hp;generalize tX w g k v j=W at *;generalize v/(256:Int)^j=q at *;go_wp2
   go_roundw
   .exact ⟨j+1,by omega,by go_num,by rw [HS.o],HW.o.symm⟩
   .simp [intOf];omega
  .have hjs:s.toNat=j:=by omega
   have HJ:=zh hjs;clear hjs;generalize v/(256:Int)^j=q at *;go_wp2
   go_end0
   exact ⟨rfl,by rw [HJ.o]⟩
def uS (w:qw)(g k:Nat)(v:Int):World:=
 (((w.setCell (qR g (k+3)) (.int .u8 (bt v 3))).setCell (qR g (k+2)) (.int .u8 (bt v 2))).setCell (qR g (k+1)) (.int .u8 (bt v 1))).setCell (qR g k) (.int .u8 (bt v 0))
theorem bt0 (v:Int):bt v 0=v%256:=by unfold bt;simp
theorem bt1 (v:Int):bt v 1=v/256%256:=by unfold bt;simp
theorem bt2 (v:Int):bt v 2=v/65536%256:=by unfold bt;rw [show (256:Int)^2=65536 from rfl]
theorem bt3 (v:Int):bt v 3=v/16777216%256:=by unfold bt;rw [show (256:Int)^3=16777216 from rfl]
theorem qF (g n cap k:Nat)(v:Int)(w:qw)(h:Room w g (k+4))(hn:4<=n)(hv:-9223372036854775808<=v/\v<=9223372036854775807):
 qC 148 #[qS (some (qR g k)) n cap,qI 4,qI v] w fun e w'=>e=.returned (.tuple #[])/\w'=uS w g k v:=by
 obtain ⟨u0,c0⟩:=h.cell k (by omega);obtain ⟨u1,c1⟩:=h.cell (k+1) (by omega);obtain ⟨u2,c2⟩:=h.cell (k+2) (by omega);obtain ⟨u3,c3⟩:=h.cell (k+3) (by omega);have hf:∀ i,w.frozen? (qR g i)=false:=h.frozen;have hl:(3:Int)<(n:Int):=by omega
 obtain ⟨hv0,hv1⟩:=hv;have HP:Zh (uS w g k v=uS w g k v):=rfl;unfold uS;rw [bt3,bt2,bt1,bt0];go_enter func148,ntmps148
 go_wp2
 go_end0
 exact ⟨rfl,rfl⟩
theorem aKq (v:Int):bt (v%4294967296) 0=bt v 0/\bt (v%4294967296) 1=bt v 1/\bt (v%4294967296) 2=bt v 2/\bt (v%4294967296) 3=bt v 3:=by
 rw [bt0,bt1,bt2,bt3,bt0,bt1,bt2,bt3];omega
theorem aEx (zs:qi)(k:Nat)(v:Int):put zs k v 4=(((zs.set (k+3) (bt v 3)).set (k+2) (bt v 2)).set (k+1) (bt v 1)).set k (bt v 0):=by
 simp only [put,Nat.add_zero];rw [List.set_comm _ _ (show k≠k+1 by omega),List.set_comm _ _ (show k≠k+2 by omega),List.set_comm _ _ (show k≠k+3 by omega)];congr 1;rw [List.set_comm _ _ (show k+1≠k+2 by omega),List.set_comm _ _ (show k+1≠k+3 by omega)];congr 1;rw [List.set_comm _ _ (show k+2≠k+3 by omega)]
theorem rN {w:qw}{zs:qi}(h:OB w base (qS (qP g) n cap) zs)(i:Nat)(hi:i<n)(z:Int)(hz:0<=z/\z<=255):OB (w.setCell (qR g i) (.int .u8 z)) base (qS (qP g) n cap) (zs.set i z):=by
 obtain ⟨⟨hl,h0|⟨g',cap',cur,hv,hg,hh,h1,h2,h3,h4⟩⟩,hr⟩:=h
 .simp at h0
 .simp at hv;obtain ⟨rfl,rfl,rfl⟩:=hv;refine ⟨⟨by simp,.inr ⟨g,cap,cur.setIfInBounds i (.int .u8 z),by simp,hg,Blk.set (w:=w) hh i _,by simpa using h1,h2,by simpa using h3,?_⟩⟩,?_⟩
  .rw [List.length_set,xW,List.take_set,h4,List.map_set]
  .intro y hy;rcases List.mem_or_eq_of_mem_set hy with hy|rfl
   .exact hr y hy
   .exact hz
theorem wR {w:qw}{base g n cap:Nat}{zs:qi}(h:OB w base (qS (qP g) n cap) zs)(k:Nat)(v:Int):∀ j,k+j<=n->OB (tX w g k v j) base (qS (qP g) n cap) (put zs k v j)
 | 0,_=>h
 | j+1,hj=>rN (wR h k v j (by omega)) (k+j) (by omega) _ (iA v j)
theorem aAl {w:qw}{zs:qi}(h:OB w base (qS (qP g) n cap) zs)(k:Nat)(v:Int)(hk:k+4<=n:=by omega):OB (uS w g k v) base (qS (qP g) n cap) (put zs k v 4):=by
 rw [aEx];exact rN (rN (rN (rN h (k+3) (by omega) _ (iA v 3)) (k+2) (by omega) _ (iA v 2)) (k+1) (by omega) _ (iA v 1)) k (by omega) _ (iA v 0)
theorem pC {w:qw}{zs:qi}(h:OB w base (qS (qP g) n cap) zs):Room w g n:=by
 obtain ⟨⟨hl,h0|⟨g',cap',cur,hv,hg,hh,h1,h2,h3,h4⟩⟩,hr⟩:=h
 .simp at h0
 .simp at hv;obtain ⟨rfl,rfl,rfl⟩:=hv;exact ⟨cur,hh,by omega⟩
def eP (g:Nat)(w w':qw):Prop:=w'.heap.size=w.heap.size/\(∀ k,k≠g->w'.heap[k]?=w.heap[k]?)/\w'.os=w.os/\w'.tape=w.tape/\w'.output=w.output
theorem gS (g:Nat)(w:qw):eP g w w:=⟨rfl,fun _ _=>rfl,rfl,rfl,rfl⟩
theorem jF {w w':qw}(h:eP g w w')(i:Nat)(u:Value):eP g w (w'.setCell (qR g i) u):=
 ⟨by rw [aG];exact h.1,fun k hk=>by rw [heap_setCell_other _ _ _ _ hk];exact h.2.1 k hk,h.2.2.1,h.2.2.2.1,h.2.2.2.2⟩
theorem lU (g k:Nat)(v:Int)(w:qw):∀ j,eP g w (tX w g k v j)
 | 0=>gS g w
 | j+1=>jF (lU g k v w j) (k+j) _
theorem rH (g k:Nat)(v:Int)(w:qw):eP g w (uS w g k v):=jF (jF (jF (jF (gS g w) _ _) _ _) _ _) _ _
theorem cT {a w w':qw}(h:Below B a w)(ho:eP g w w')(hg:B<=g):Below B a w':=
 ⟨ho.2.2.1.trans h.os,ho.2.2.2.1.trans h.tape,ho.2.2.2.2.trans h.output,by rw [ho.1];exact h.size,fun k hk=>(ho.2.1 k (by omega)).trans (h.block k hk)⟩
theorem bY {w w':qw}{t:TypeId}(ho:eP g w w')(h:Blk w k cs t)(hk:k≠g):Blk w' k cs t:=by
 unfold Blk at *;rw [ho.2.1 k hk];exact h
theorem aDd {w w':qw}{zs:qi}(ho:eP g w w')(h:OB w base v zs)(hk:v.ownBlock≠some g):OB w' base v zs:=by
 refine ⟨?_,h.2⟩;obtain ⟨hl,h0|⟨g',cap,cur,rfl,hg,hh,h1,h2,h3,h4⟩⟩:=h.1
 .exact ⟨hl,.inl h0⟩
 .refine ⟨hl,.inr ⟨g',cap,cur,rfl,hg,?_,h1,h2,h3,h4⟩⟩;exact bY ho hh (by intro e;subst e;exact hk rfl)
theorem aGj (zs:qi)(k:Nat)(v:Int):put zs k (v%4294967296) 4=put zs k v 4/\put zs k (v%4294967296) 2=put zs k v 2/\put zs k (v%4294967296) 1=put zs k v 1:=by
 obtain ⟨e0,e1,e2,e3⟩:=aKq v;simp only [put,e0,e1,e2,e3,and_self]
theorem fD {w w':qw}{row:Option Nat}{t:TypeId}(hg:w.grownBy w' row)(h:Blk w k cs t)(hk:some k≠row):Blk w' k cs t:=by
 have:=hg.block k h.lt hk;unfold Blk at *;rw [this];exact h
theorem cC {w w':qw}{zs:qi}(ht:Turn S w w')(h:OB w base v zs)(hk:∀ k,v.ownBlock=some k->¬ S k):OB w' base v zs:=by
 refine ⟨?_,h.2⟩;obtain ⟨hl,h0|⟨g',cap,cur,rfl,hg,hh,h1,h2,h3,h4⟩⟩:=h.1
 .exact ⟨hl,.inl h0⟩
 .exact ⟨hl,.inr ⟨g',cap,cur,rfl,hg,aA ht hh (hk g' rfl),h1,h2,h3,h4⟩⟩
theorem IS.at {w:qw}{b off n cap:Nat}{zs:qi}(h:IS w (Option.some (qR b off)) n cap zs)(i:Nat)(hi:i<n):w.cell? (qR b (off+i))=Option.some (qI (zs.getD i 0)):=by
 obtain ⟨b',off',e,hd⟩:=h.2.2.2.1 (by omega);simp at e;obtain ⟨rfl,rfl⟩:=e;exact hd i hi
theorem IS.addr {w:qw}{a:qO}{zs:qi}(h:IS w a n cap zs)(hn:n≠0):∃ b off,a=some (qR b off):=by
 obtain ⟨b,off,e,_⟩:=h.2.2.2.1 hn;exact ⟨b,off,e⟩
def OI (w:qw)(base:Nat)(v:Value)(zs:qi):Prop:=w.ownsRow base 3 1 v zs.length (zs.map (Value.int .i64))/\∀ z∈zs,wfi z
theorem OI.bw {w w':qw}{zs:qi}(h:OI w base v zs)(hb:qY w w'):OI w' base v zs:=by
 refine ⟨?_,h.2⟩;obtain ⟨hl,h0|⟨g,cap,cur,hv,hg,hh,h1,h2,h3,h4⟩⟩:=h.1
 .exact ⟨hl,.inl h0⟩
 .refine ⟨hl,.inr ⟨g,cap,cur,hv,hg,?_,h1,h2,h3,h4⟩⟩;exact Blk.bw (w:=w) hh hb
theorem OI.lt {w:qw}{zs:qi}(h:OI w base v zs):∀ k,v.ownBlock=some k->base<=k/\k<w.heap.size:=h.1.lt
theorem OI.is {w:qw}{a:qO}{zs:qi}(h:OI w base (qS a n cap) zs):IS w a n cap zs:=by
 obtain ⟨hl,⟨h0,h0'⟩|⟨g,cap',cur,hv,hg,hh,h1,h2,h3,h4⟩⟩:=h.1
 .simp at h0;obtain ⟨rfl,rfl,rfl⟩:=h0;exact ⟨h0',xC _,h.2,fun hn=>absurd rfl hn,aL⟩
 .simp at hv;obtain ⟨rfl,rfl,rfl⟩:=hv;refine ⟨rfl,by omega,h.2,fun hn=>⟨g,0,rfl,fun i hi=>?_⟩,h1⟩;rw [Nat.zero_add,Blk.cell (w:=w) hh]
  have:cur.toList[i]?=(zs.map (Value.int .i64))[i]?:=by
   rw [<- h4,List.getElem?_take,if_pos (by omega)]
  rw [Array.getElem?_toList] at this;rw [this];simp [xB,hi]
theorem aIm {w w':qw}{zs:qi}(ht:Turn S w w')(h:OI w base v zs)(hk:∀ k,v.ownBlock=some k->¬ S k):OI w' base v zs:=by
 refine ⟨?_,h.2⟩;obtain ⟨hl,h0|⟨g',cap,cur,rfl,hg,hh,h1,h2,h3,h4⟩⟩:=h.1
 .exact ⟨hl,.inl h0⟩
 .exact ⟨hl,.inr ⟨g',cap,cur,rfl,hg,aA ht hh (hk g' rfl),h1,h2,h3,h4⟩⟩
