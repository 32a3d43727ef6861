import Derived.Laws.IdiomStrings
import Derived.Deep.RegionHeld3
import Derived.Laws.BitsLemmas
import Derived.Lib.Bytealg
import Derived.WideShapes
import Derived.Test.YtngdgogjlpjjpaeGreatP00
set_option maxHeartbeats 1000000
namespace Go.Proofs.YtngdgogjlpjjpaeGreat
open Go.RowKit
set_option linter.unusedVariables false
theorem info8:(Tryz.prog.info? 5).map (fun i=>(i.zero,i.size,i.bytes))=some (some (.int .u8 0),1,1):=by kernel_rfl
theorem made8 (n:Nat):(madeCells (Value.cells (.int .u8 0)) (n * 1))=((List.replicate n (0:Int)).map (Value.int .u8)).toArray:=by
 apply Array.ext
 ·simp [size_madeCells]
 ·intro i h1 h2
  simp [madeCells,Value.cells,Nat.mod_one]
theorem row_of_made {w:World}{base g n:Nat}(h:w.ownsRow base 5 1 (.slice (some ⟨g,0,none⟩) n n) n (madeCells (Value.cells (.int .u8 0)) (n * 1)).toList):Row8 w g (List.replicate n 0):=by
 obtain ⟨hl,h | ⟨g',cap,cur,hv,hb,hh,h1,h2,h3,h4⟩⟩:=h
 ·simp at h
 ·simp at hv
  obtain ⟨rfl,rfl⟩:=hv
  unfold Row8
  rw [hh]
  have e:cur.toList=(madeCells (Value.cells (.int .u8 0)) (n * 1)).toList:=by
   rw [← h4,List.take_of_length_le (by simp [h3])]
  have e2:cur=madeCells (Value.cells (.int .u8 0)) (n * 1):=Array.toList_inj.1 e
  rw [e2,made8]
theorem below_grown {w w':World}(h:w.grownBy w' none):Below w.heap.size w w':=(Below.refl _ _).grown h (Nat.le_refl _) (fun k hk=>by cases hk)
theorem Blk.three {w:World}{g:Nat}{a b c:Value}{t:TypeId}(h:Blk w g #[a,b,c] t):
 w.cell? ⟨g,0,none⟩=some a∧w.cell? ⟨g,1,none⟩=some b∧w.cell? ⟨g,2,none⟩=some c∧∀ i,w.frozen? ⟨g,i,none⟩=false:=
 ⟨by rw [h.cell];rfl,by rw [h.cell];rfl,by rw [h.cell];rfl,fun i=>h.frozen i⟩
abbrev Rg:=Int × Int × Int × Bool × Bool × Bool
def z6:Rg:=(0,0,0,false,false,false)
def At6 (w:World)(b o:Nat)(g:Rg):Prop:=
 w.cell? ⟨b,o,none⟩=some (.int .i64 g.1)∧w.cell? ⟨b,o+1,none⟩=some (.int .i64 g.2.1)∧w.cell? ⟨b,o+2,none⟩=some (.int .i64 g.2.2.1) ∧
 w.cell? ⟨b,o+3,none⟩=some (.bool g.2.2.2.1)∧w.cell? ⟨b,o+4,none⟩=some (.bool g.2.2.2.2.1)∧w.cell? ⟨b,o+5,none⟩=some (.bool g.2.2.2.2.2)
def wfi (z:Int):Prop:=-9223372036854775808≤z∧z≤9223372036854775807
def RS (w:World)(a:Option Addr)(n cap:Nat)(rs:List Rg):Prop:=
 rs.length=n∧n≤maxLen∧(∀ g ∈ rs,wfi g.1∧wfi g.2.1∧wfi g.2.2.1)∧(n≠0→∃ b off,a=some ⟨b,off,none⟩∧∀ i,i<n→At6 w b (off+i * 6) (rs.getD i z6))∧n≤cap
theorem RS.some {w:World}{a:Option Addr}{n cap:Nat}{rs:List Rg}(h:RS w a n cap rs)(hn:n≠0):∃ b off,a=Option.some ⟨b,off,none⟩:=by
 obtain ⟨b,off,e,_⟩:=h.2.2.2.1 hn
 exact ⟨b,off,e⟩
theorem RS.at {w:World}{b off n cap:Nat}{rs:List Rg}(h:RS w (Option.some ⟨b,off,none⟩) n cap rs)(i:Nat)(hi:i<n):At6 w b (off+i * 6) (rs.getD i z6):=by
 obtain ⟨b',off',e,hd⟩:=h.2.2.2.1 (by omega)
 simp at e
 obtain ⟨rfl,rfl⟩:=e
 exact hd i hi
theorem infoR:(Tryz.prog.info? 158).map (fun i=>(i.zero,i.size,i.bytes))=some (some (.agg #[.int .i64 0,.int .i64 0,.int .i64 0,.bool false,.bool false,.bool false]),6,32):=by kernel_rfl
end Go.Proofs.YtngdgogjlpjjpaeGreat
namespace Go.Proofs.YtngdgogjlpjjpaeGreat
open Go.RowKit
set_option linter.unusedVariables false
set_option maxRecDepth 100000
def IS (w:World)(a:Option Addr)(n cap:Nat)(zs:List Int):Prop:=
 zs.length=n∧n≤maxLen∧(∀ z ∈ zs,wfi z)∧(n≠0→∃ b off,a=some ⟨b,off,none⟩∧∀ i,i<n→w.cell? ⟨b,off+i,none⟩=some (.int .i64 (zs.getD i 0)))∧n≤cap
theorem IS.below {w w':World}{a:Option Addr}{n cap:Nat}{zs:List Int}(h:IS w a n cap zs)(hb:Below w.heap.size w w'):IS w' a n cap zs:=by
 obtain ⟨h1,h2,h3,h4,h5⟩:=h
 refine ⟨h1,h2,h3,fun hn=>?_,h5⟩
 obtain ⟨b,off,ha,hc⟩:=h4 hn
 refine ⟨b,off,ha,fun i hi=>?_⟩
 have:=hc i hi
 rw [hb.cell (p:=⟨b,off+i,none⟩) (World.block_lt_of_cell? w _ this)]
 exact this
theorem IS.range {w:World}{a:Option Addr}{n cap:Nat}{zs:List Int}(h:IS w a n cap zs)(i:Nat):wfi (zs.getD i 0):=by
 by_cases hi:i<zs.length
 ·have:=h.2.2.1 zs[i] (List.getElem_mem hi)
  simpa [List.getD_eq_getElem?_getD,hi] using this
 ·simp [List.getD_eq_getElem?_getD,Nat.le_of_not_lt hi,wfi]
def RowI (w:World)(g:Nat)(zs:List Int):Prop:=w.heap[g]?=some (.cells (zs.map (Value.int .i64)).toArray 3 (0,0))
theorem RowI.cell {w:World}{g:Nat}{zs:List Int}(h:RowI w g zs)(i:Nat)(hi:i<zs.length):w.cell? ⟨g,i,none⟩=some (.int .i64 (zs.getD i 0)):=by
 rw [cell_of_row w g i _ _ _ h];simp [List.getD_eq_getElem?_getD,hi]
theorem RowI.frozen {w:World}{g:Nat}{zs:List Int}(h:RowI w g zs)(i:Nat):w.frozen? ⟨g,i,none⟩=false:=frozen_of_row w g i _ _ h
theorem RowI.set {w:World}{g:Nat}{zs:List Int}(h:RowI w g zs)(i:Nat)(z:Int):RowI (w.setCell ⟨g,i,none⟩ (.int .i64 z)) g (zs.set i z):=by
 unfold RowI at *
 rw [heap_setCell_same w g i _ _ _ h]
 simp [List.map_set]
theorem infoI:(Tryz.prog.info? 3).map (fun i=>(i.zero,i.size,i.bytes))=some (some (.int .i64 0),1,8):=by kernel_rfl
theorem madeI (n:Nat):(madeCells (Value.cells (.int .i64 0)) (n * 1))=((List.replicate n (0:Int)).map (Value.int .i64)).toArray:=by
 apply Array.ext
 ·simp [size_madeCells]
 ·intro i h1 h2
  simp [madeCells,Value.cells,Nat.mod_one]
theorem rowI_of_made {w:World}{base g n:Nat}(h:w.ownsRow base 3 1 (.slice (some ⟨g,0,none⟩) n n) n (madeCells (Value.cells (.int .i64 0)) (n * 1)).toList):RowI w g (List.replicate n 0):=by
 obtain ⟨hl,h | ⟨g',cap,cur,hv,hb,hh,h1,h2,h3,h4⟩⟩:=h
 ·simp at h
 ·simp at hv
  obtain ⟨rfl,rfl⟩:=hv
  unfold RowI
  rw [hh]
  have e:cur.toList=(madeCells (Value.cells (.int .i64 0)) (n * 1)).toList:=by
   rw [← h4,List.take_of_length_le (by simp [h3])]
  have e2:cur=madeCells (Value.cells (.int .i64 0)) (n * 1):=Array.toList_inj.1 e
  rw [e2,madeI]
theorem take_eq_succI (xs ys:List Int)(k:Nat)(h:xs.take k=ys.take k)(hx:k<xs.length)(hy:k<ys.length)(he:xs.getD k 0=ys.getD k 0):xs.take (k+1)=ys.take (k+1):=by
 rw [List.take_succ_eq_append_getElem hx,List.take_succ_eq_append_getElem hy,h]
 simp [List.getD_eq_getElem?_getD,hx,hy] at he
 rw [he]
theorem eqIntS_any (a a':Option Addr)(n cap n' cap':Nat)(xs ys:List Int)(w:World)(h:IS w a n cap xs)(h':IS w a' n' cap' ys):
 Calls Tryz.prog 60 #[.slice a n cap,.slice a' n' cap'] w fun e w'=>e=.returned (.bool (decide (xs=ys)))∧Below w.heap.size w w':=by
 obtain ⟨hl,hmx,hr,hc,_⟩:=h
 obtain ⟨hl',hmx',hr',hc',_⟩:=h'
 unfold maxLen at hmx hmx'
 by_cases hn:n=n'
 ·subst hn
  have hne:((n:Int) != (n:Int))=false:=by simp
  by_cases hn0:n=0
  ·subst hn0
   obtain rfl:xs=[]:=List.eq_nil_of_length_eq_zero hl
   obtain rfl:ys=[]:=List.eq_nil_of_length_eq_zero hl'
   clear hc hc'
   go_enter Tryz.func60,Tryz.ntmps60
   go_wp2
   go_loop [5] (fun i=>i=.int .i64 0) (fun _=>0)
   case atStart=>rfl
   case round=>
    obtain rfl:=hrel
    go_wp2
    go_ret
    exact ⟨rfl,Below.refl _ _⟩
  ·obtain ⟨b,off,rfl,hd⟩:=hc hn0
   obtain ⟨b',off',rfl,hd'⟩:=hc' hn0
   clear hc hc'
   go_enter Tryz.func60,Tryz.ntmps60
   go_wp2
   go_loopw [5] (fun i wr=>∃ k:Nat,k≤n∧i=.int .i64 k∧xs.take k=ys.take k∧Below w.heap.size w wr) (fun i _=>n - (intOf i).toNat)
   case atStart=>exact ⟨0,Nat.zero_le _,rfl,by simp,Below.refl _ _⟩
   case round=>
    obtain ⟨k,hk,rfl,hT,hB⟩:=hrel
    by_cases hlt:k<n
    ·have hlt':(k:Int)<(n:Int):=by omega
     have hck:wr.cell? ⟨b,off+k,none⟩=some (.int .i64 (xs.getD k 0)):=(hB.cell (World.block_lt_of_cell? w _ (hd k hlt))).trans (hd k hlt)
     have hck':wr.cell? ⟨b',off'+k,none⟩=some (.int .i64 (ys.getD k 0)):=(hB.cell (World.block_lt_of_cell? w _ (hd' k hlt))).trans (hd' k hlt)
     by_cases he:xs.getD k 0=ys.getD k 0
     ·have hS:=take_eq_succI xs ys k hT (by omega) (by omega) he
      have HS:Hid (xs.take (k+1)=ys.take (k+1)):=hS
      rw [he] at hck
      clear hS hT hd hd' he
      generalize ys.getD k 0=z at *
      have hz:(z != z)=false:=by simp
      go_wp2
      go_quiet (fail)
      go_wp2
      go_roundw
      case rel=>exact ⟨k+1,by omega,by go_num,HS.out,below_drewN hB _⟩
      case measure=>simp [intOf];omega
     ·have hf:Hid (decide (xs=ys)=false):=by
       show _=_
       simp
       intro e
       exact he (by rw [e])
      have hz:(xs.getD k 0 != ys.getD k 0)=true:=by simpa using he
      clear hT hd hd' he
      generalize ys.getD k 0=z at *
      generalize xs.getD k 0=z' at *
      go_wp2
      go_quiet (fail)
      go_wp2
      go_ret
      exact ⟨ret_bool hf.out.symm,below_drewN hB _⟩
    ·have hf:Hid (decide (xs=ys)=true):=by
      show _=_
      simp
      rw [List.take_of_length_le (by omega),List.take_of_length_le (by omega)] at hT
      exact hT
     clear hT hd hd'
     go_wp2
     go_ret
     exact ⟨ret_bool hf.out.symm,hB⟩
 ·have hf:Hid (decide (xs=ys)=false):=by
   show _=_
   simp
   intro e
   rw [e] at hl
   omega
  have hne:((n:Int) != (n':Int))=true:=by simp;omega
  clear hc hc'
  go_enter Tryz.func60,Tryz.ntmps60
  go_wp2
  go_ret
  exact ⟨ret_bool hf.out.symm,Below.refl _ _⟩
end Go.Proofs.YtngdgogjlpjjpaeGreat
namespace Go.Proofs.YtngdgogjlpjjpaeGreat
open Go.RowKit
set_option linter.unusedVariables false
set_option linter.unusedSimpArgs false
set_option maxRecDepth 100000
theorem run_digit (w:World)(d:Int)(h0:0≤d)(h1:d≤255):(convert 41 9 (.slice (some ⟨w.heap.size,0,none⟩) 1 1)).run Tryz.prog (w.alloc (.cells #[.int .u8 d] 5))=.ok (.string ⟨#[UInt8.ofNat d.toNat]⟩) (w.alloc (.cells #[.int .u8 d] 5)):=by
 have e:((UInt8.ofNat d.toNat).toNat:Int)=d:=by
  have:(UInt8.ofNat d.toNat).toNat=d.toNat % 256:=UInt8.toNat_ofNat'
  omega
 refine run_convert_bytes_back (P:=Tryz.prog) (w.alloc (.cells #[.int .u8 d] 5)) 41 9 5 ⟨w.heap.size,0,none⟩ 1 [UInt8.ofNat d.toNat] Tryz.underlying41 Tryz.underlying5 Tryz.underlying9 ?_
 intro j hj
 obtain rfl:j=0:=by simp at hj;omega
 rw [addr_add,Blk.cell (Blk.new w _ _)]
 exact congrArg (fun z=>some (Value.int .u8 z)) e.symm
def mtf:Nat -> Nat -> ByteArray -> ByteArray
 | 0,_,s=>s
 | f+1,k,s=>if k=0 then s else mtf f (k/10) (⟨#[UInt8.ofNat ((48+(k:Int) % 10).toNat)]⟩++s)
theorem mtf_same:∀ (f g k:Nat) (s:ByteArray),k<=f -> k<=g -> mtf f k s=mtf g k s
 | 0,0,_,_,_,_=>rfl
 | 0,g+1,k,s,h,_=>by rw [show k=0 by omega];rfl
 | f+1,0,k,s,_,h=>by rw [show k=0 by omega];rfl
 | f+1,g+1,k,s,h,i=>by
  unfold mtf
  split
  · rfl
  · exact mtf_same f g _ _ (by omega) (by omega)
def mtd (k:Nat)(s:ByteArray):ByteArray:=mtf k k s
theorem mtd_zero (s:ByteArray):mtd 0 s=s:=rfl
theorem mtd_step (k:Nat)(s:ByteArray)(h:0<k):mtd k s=mtd (k / 10) (⟨#[UInt8.ofNat ((48+(k:Int) % 10).toNat)]⟩++s):=by
 obtain ⟨j,rfl⟩:∃ j,k=j+1:=⟨k-1,by omega⟩
 show mtf (j+1) (j+1) s=_
 unfold mtf
 rw [if_neg (by omega)]
 exact mtf_same _ _ _ _ (by omega) (by omega)
def mtx (k:Nat):ByteArray:=⟨#[109]⟩++mtd k ⟨#[]⟩
theorem markText_is (k:Nat)(w:World)(h0:0<k)(hk:k≤8388608):Calls Tryz.prog 89 #[.int .i64 k] w fun e w'=>e=.returned (.string (mtx k))∧Below w.heap.size w w':=by
 have hk0:0<(k:Int):=by omega
 go_enter Tryz.func89,Tryz.ntmps89
 go_wp2_with fail
 go_loopw [0,3] (fun x o wr=>∃ (m:Nat) (s:ByteArray),x=.int .i64 m∧o=.string s∧s.size+m≤8388608∧Hid (mtd m s=mtd k ⟨#[]⟩)∧Below w.heap.size w wr) (fun x _ _=>(intOf x).toNat)
 case atStart=>exact ⟨k,⟨#[]⟩,rfl,rfl,by show 0+k≤_;omega,hide rfl,Below.refl _ _⟩
 case round=>
  obtain ⟨m,s,rfl,rfl,hm,HM,hB⟩:=hrel
  clear hk hk0 h0
  by_cases hlt:0<m
  ·have hlt':0<(m:Int):=by omega
   have hcv:=fun (W:World)=>run_digit W (48+(m:Int) % 10) (by omega) (by omega)
   have HB:=hide hB
   have hBs:=hB.size
   have HS:=hide (mtd_step m s hlt)
   generalize hd:UInt8.ofNat ((48+(m:Int) % 10).toNat)=d at *
   have HD:=hide hd
   clear hB hd
   go_wp2
   go_roundw
   case rel=>
    refine ⟨m / 10,⟨#[d]⟩++s,by go_num,rfl,?_,hide (by rw [← HM.out,HS.out]),HB.out.alloc hBs _⟩
    rw [ByteArray.size_append]
    have e1:(⟨#[d]⟩:ByteArray).size=1:=rfl
    omega
   case measure=>simp [intOf];omega
  ·obtain rfl:m=0:=by omega
   have HM2:=hide (show mtx k=⟨#[109]⟩++s by unfold mtx;rw [← HM.out,mtd_zero])
   go_wp2
   go_ret
   exact ⟨by rw [HM2.out];rfl,hB⟩
end Go.Proofs.YtngdgogjlpjjpaeGreat
namespace Go.Proofs.YtngdgogjlpjjpaeGreat
open Go.RowKit
set_option linter.unusedVariables false
theorem wraps_i64 (n:Int)(h₀:0≤n)(h₁:n<2 ^ 62):IntKind.i64.wrap n=n:=by
 have:(2:Int)^62=4611686018427387904:=rfl
 simp only [IntKind.wrap,IntKind.bits,IntKind.signed]
 simp
 omega
theorem or_join (i:Nat)(x y:Int)(hx₀:0≤x)(hx:x % 2 ^ i=0)(hx₁:x<2 ^ 62)(hy₀:0≤y)(hy:y<2 ^ i)(hy₁:y<2 ^ 62):bits .or .i64 x y=x+y:=
 bits_join .i64 62 (by decide) wraps_i64 i x y hx₀ hx hx₁ hy₀ hy hy₁
theorem BS.at {w:World}{b off n cap:Nat}{zs:List Int}(h:BS w (some ⟨b,off,none⟩) n cap zs)(i:Nat)(hi:i<n):w.cell? ⟨b,off+i,none⟩=some (.int .u8 (zs.getD i 0)):=by
 obtain ⟨b',off',e,hd⟩:=h.2.2.2.1 (by omega)
 simp at e
 obtain ⟨rfl,rfl⟩:=e
 exact hd i hi
theorem or4 (z0 z1 z2 z3:Int)(p0:0≤z0)(p0':z0≤255)(p1:0≤z1)(p1':z1≤255)(p2:0≤z2)(p2':z2≤255)(p3:0≤z3)(p3':z3≤255):
 bits BinOp.or IntKind.i64 (bits BinOp.or IntKind.i64 (bits BinOp.or IntKind.i64 0 (bits BinOp.or IntKind.i64 (z3 * 16777216) (z2 * 65536))) (z1 * 256)) z0=low [z0,z1,z2,z3]:=by
 rw [or_join 24 (z3 * 16777216) (z2 * 65536) (by omega) (by omega) (by omega) (by omega) (by omega) (by omega)]
 rw [or_join 40 0 (z3 * 16777216+z2 * 65536) (by omega) (by omega) (by omega) (by omega) (by omega) (by omega)]
 rw [or_join 16 (0+(z3 * 16777216+z2 * 65536)) (z1 * 256) (by omega) (by omega) (by omega) (by omega) (by omega) (by omega)]
 rw [or_join 8 (0+(z3 * 16777216+z2 * 65536)+z1 * 256) z0 (by omega) (by omega) (by omega) (by omega) (by omega) (by omega)]
 simp only [low]
 omega
theorem or2 (z0 z1:Int)(p0:0≤z0)(p0':z0≤255)(p1:0≤z1)(p1':z1≤255):
 bits BinOp.or IntKind.i64 (bits BinOp.or IntKind.i64 0 (z1 * 256)) z0=low [z0,z1]:=by
 rw [or_join 16 0 (z1 * 256) (by omega) (by omega) (by omega) (by omega) (by omega) (by omega)]
 rw [or_join 8 (0+z1 * 256) z0 (by omega) (by omega) (by omega) (by omega) (by omega) (by omega)]
 simp only [low]
 omega
theorem or1 (z0:Int)(p0:0≤z0)(p0':z0≤255):bits BinOp.or IntKind.i64 0 z0=low [z0]:=by
 rw [or_join 8 0 z0 (by omega) (by omega) (by omega) (by omega) (by omega) (by omega)]
 simp only [low]
 omega
theorem take4 (zs:List Int)(h:4≤zs.length):zs.take 4=[zs.getD 0 0,zs.getD 1 0,zs.getD 2 0,zs.getD 3 0]:=by
 match zs,h with
 | a :: b :: c :: d :: _,_=>rfl
theorem take2 (zs:List Int)(h:2≤zs.length):zs.take 2=[zs.getD 0 0,zs.getD 1 0]:=by
 match zs,h with
 | a :: b :: _,_=>rfl
theorem take1 (zs:List Int)(h:1≤zs.length):zs.take 1=[zs.getD 0 0]:=by
 match zs,h with
 | a :: _,_=>rfl
theorem getBytes_4 (b off n cap:Nat)(zs:List Int)(w:World)(h:BS w (some ⟨b,off,none⟩) n cap zs)(hn:4≤n):
 Calls Tryz.prog 180 #[.slice (some ⟨b,off,none⟩) n cap,.int .i64 4] w fun e w'=>e=.returned (.int .i64 (low (zs.take 4)))∧Below w.heap.size w w':=by
 have r0:=h.range 0
 have r1:=h.range 1
 have r2:=h.range 2
 have r3:=h.range 3
 have c0:=h.at 0 (by omega)
 have c1:=h.at 1 (by omega)
 have c2:=h.at 2 (by omega)
 have c3:=h.at 3 (by omega)
 simp only [Nat.add_zero] at c0
 have hl:(3:Int)<(n:Int):=by omega
 rw [take4 zs (by rw [h.1];omega)]
 clear h
 generalize zs.getD 0 0=z0 at *
 generalize zs.getD 1 0=z1 at *
 generalize zs.getD 2 0=z2 at *
 generalize zs.getD 3 0=z3 at *
 obtain ⟨p0,p0'⟩:=r0
 obtain ⟨p1,p1'⟩:=r1
 obtain ⟨p2,p2'⟩:=r2
 obtain ⟨p3,p3'⟩:=r3
 have HS:=hide (or4 z0 z1 z2 z3 p0 p0' p1 p1' p2 p2' p3 p3')
 generalize low [z0,z1,z2,z3]=L at *
 go_enter Tryz.func180,Tryz.ntmps180
 go_wp2
 go_quiet (fail)
 go_wp2
 go_ret
 exact ⟨ret_int HS.out,below_drewN (Below.refl _ _) _⟩
theorem getBytes_2 (b off n cap:Nat)(zs:List Int)(w:World)(h:BS w (some ⟨b,off,none⟩) n cap zs)(hn:2≤n):
 Calls Tryz.prog 180 #[.slice (some ⟨b,off,none⟩) n cap,.int .i64 2] w fun e w'=>e=.returned (.int .i64 (low (zs.take 2)))∧Below w.heap.size w w':=by
 have r0:=h.range 0
 have r1:=h.range 1
 have c0:=h.at 0 (by omega)
 have c1:=h.at 1 (by omega)
 simp only [Nat.add_zero] at c0
 have hl:(1:Int)<(n:Int):=by omega
 rw [take2 zs (by rw [h.1];omega)]
 clear h
 generalize zs.getD 0 0=z0 at *
 generalize zs.getD 1 0=z1 at *
 obtain ⟨p0,p0'⟩:=r0
 obtain ⟨p1,p1'⟩:=r1
 have HS:=hide (or2 z0 z1 p0 p0' p1 p1')
 generalize low [z0,z1]=L at *
 go_enter Tryz.func180,Tryz.ntmps180
 go_wp2
 go_ret
 exact ⟨ret_int HS.out,Below.refl _ _⟩
theorem getBytes_1 (b off n cap:Nat)(zs:List Int)(w:World)(h:BS w (some ⟨b,off,none⟩) n cap zs)(hn:1≤n):
 Calls Tryz.prog 180 #[.slice (some ⟨b,off,none⟩) n cap,.int .i64 1] w fun e w'=>e=.returned (.int .i64 (low (zs.take 1)))∧Below w.heap.size w w':=by
 have r0:=h.range 0
 have c0:=h.at 0 (by omega)
 simp only [Nat.add_zero] at c0
 have hl:(0:Int)<(n:Int):=by omega
 rw [take1 zs (by rw [h.1];omega)]
 clear h
 generalize zs.getD 0 0=z0 at *
 obtain ⟨p0,p0'⟩:=r0
 have HS:=hide (or1 z0 p0 p0')
 generalize low [z0]=L at *
 go_enter Tryz.func180,Tryz.ntmps180
 go_wp2
 go_ret
 exact ⟨ret_int HS.out,Below.refl _ _⟩
theorem BS.drop {w:World}{b off n cap:Nat}{zs:List Int}(h:BS w (some ⟨b,off,none⟩) n cap zs)(k:Nat)(hk:k≤n):BS w (some ⟨b,off+k,none⟩) (n - k) (cap - k) (zs.drop k):=by
 have hl:=h.1
 refine ⟨by simp;omega,by have:=h.2.1;omega,fun z hz=>h.2.2.1 z (List.mem_of_mem_drop hz),fun hn=>⟨b,off+k,rfl,fun i hi=>?_⟩,by have:=h.2.2.2.2;omega⟩
 have:=h.at (k+i) (by omega)
 rw [Nat.add_assoc,this]
 simp [List.getD_eq_getElem?_getD]
theorem BS.take {w:World}{b off n cap:Nat}{zs:List Int}(h:BS w (some ⟨b,off,none⟩) n cap zs)(s:Nat)(hs:s≤n):BS w (some ⟨b,off,none⟩) s cap (zs.take s):=by
 have hl:=h.1
 refine ⟨by simp;omega,by have:=h.2.1;omega,fun z hz=>h.2.2.1 z (List.mem_of_mem_take hz),fun hn=>⟨b,off,rfl,fun i hi=>?_⟩,by have:=h.2.2.2.2;omega⟩
 have:=h.at i (by omega)
 rw [this]
 simp [List.getD_eq_getElem?_getD,hi]
theorem BS.some {w:World}{a:Option Addr}{n cap:Nat}{zs:List Int}(h:BS w a n cap zs)(hn:n≠0):∃ b off,a=Option.some ⟨b,off,none⟩:=by
 obtain ⟨b,off,e,_⟩:=h.2.2.2.1 hn
 exact ⟨b,off,e⟩
end Go.Proofs.YtngdgogjlpjjpaeGreat
namespace Go.Proofs.YtngdgogjlpjjpaeGreat
open Go.RowKit
set_option linter.unusedVariables false
set_option maxRecDepth 100000
theorem IS.at {w:World}{b off n cap:Nat}{zs:List Int}(h:IS w (Option.some ⟨b,off,none⟩) n cap zs)(i:Nat)(hi:i<n):w.cell? ⟨b,off+i,none⟩=Option.some (.int .i64 (zs.getD i 0)):=by
 obtain ⟨b',off',e,hd⟩:=h.2.2.2.1 (by omega)
 simp at e
 obtain ⟨rfl,rfl⟩:=e
 exact hd i hi
theorem IS.addr {w:World}{a:Option Addr}{n cap:Nat}{zs:List Int}(h:IS w a n cap zs)(hn:n≠0):∃ b off,a=some ⟨b,off,none⟩:=by
 obtain ⟨b,off,e,_⟩:=h.2.2.2.1 hn
 exact ⟨b,off,e⟩
def OI (w:World)(base:Nat)(v:Value)(zs:List Int):Prop:=w.ownsRow base 3 1 v zs.length (zs.map (Value.int .i64))∧∀ z ∈ zs,wfi z
theorem OI.below {w w':World}{base:Nat}{v:Value}{zs:List Int}(h:OI w base v zs)(hb:Below w.heap.size w w'):OI w' base v zs:=by
 refine ⟨?_,h.2⟩
 obtain ⟨hl,h0 | ⟨g,cap,cur,hv,hg,hh,h1,h2,h3,h4⟩⟩:=h.1
 ·exact ⟨hl,.inl h0⟩
 ·refine ⟨hl,.inr ⟨g,cap,cur,hv,hg,?_,h1,h2,h3,h4⟩⟩
  exact Blk.below (w:=w) hh hb
theorem OI.mono {w:World}{base base':Nat}{v:Value}{zs:List Int}(h:OI w base v zs)(hb:base'≤base):OI w base' v zs:=by
 refine ⟨?_,h.2⟩
 obtain ⟨hl,h0 | ⟨g,cap,cur,hv,hg,hh,h1,h2,h3,h4⟩⟩:=h.1
 ·exact ⟨hl,.inl h0⟩
 ·exact ⟨hl,.inr ⟨g,cap,cur,hv,by omega,hh,h1,h2,h3,h4⟩⟩
theorem OI.lt {w:World}{base:Nat}{v:Value}{zs:List Int}(h:OI w base v zs):∀ k,v.ownBlock=some k→base≤k∧k<w.heap.size:=h.1.lt
theorem OI.is {w:World}{base n cap:Nat}{a:Option Addr}{zs:List Int}(h:OI w base (.slice a n cap) zs):IS w a n cap zs:=by
 obtain ⟨hl,⟨h0,h0'⟩ | ⟨g,cap',cur,hv,hg,hh,h1,h2,h3,h4⟩⟩:=h.1
 ·simp at h0
  obtain ⟨rfl,rfl,rfl⟩:=h0
  exact ⟨h0',Nat.zero_le _,h.2,fun hn=>absurd rfl hn,Nat.le_refl _⟩
 ·simp at hv
  obtain ⟨rfl,rfl,rfl⟩:=hv
  refine ⟨rfl,by omega,h.2,fun hn=>⟨g,0,rfl,fun i hi=>?_⟩,h1⟩
  rw [Nat.zero_add,Blk.cell (w:=w) hh]
  have:cur.toList[i]?=(zs.map (Value.int .i64))[i]?:=by
   rw [← h4,List.getElem?_take,if_pos (by omega)]
  rw [Array.getElem?_toList] at this
  rw [this]
  simp [List.getD_eq_getElem?_getD,hi]
def RoomI (w:World)(g n:Nat):Prop:=∃ cur,Blk w g cur 3∧n≤cur.size
theorem RoomI.cell {w:World}{g n:Nat}(h:RoomI w g n)(i:Nat)(hi:i<n):∃ u,w.cell? ⟨g,i,none⟩=some u:=by
 obtain ⟨cur,hb,hn⟩:=h
 rw [hb.cell]
 exact ⟨cur[i],by simp⟩
theorem RoomI.frozen {w:World}{g n:Nat}(h:RoomI w g n)(i:Nat):w.frozen? ⟨g,i,none⟩=false:=by
 obtain ⟨cur,hb,hn⟩:=h
 exact hb.frozen i
theorem oi_set {w:World}{base g n cap:Nat}{zs:List Int}(h:OI w base (.slice (some ⟨g,0,none⟩) n cap) zs)(i:Nat)(hi:i<n)(z:Int)(hz:wfi z):OI (w.setCell ⟨g,i,none⟩ (.int .i64 z)) base (.slice (some ⟨g,0,none⟩) n cap) (zs.set i z):=by
 obtain ⟨⟨hl,h0 | ⟨g',cap',cur,hv,hg,hh,h1,h2,h3,h4⟩⟩,hr⟩:=h
 ·simp at h0
 ·simp at hv
  obtain ⟨rfl,rfl,rfl⟩:=hv
  refine ⟨⟨by simp,.inr ⟨g,cap,cur.setIfInBounds i (.int .i64 z),by simp,hg,Blk.set (w:=w) hh i _,by simpa using h1,h2,by simpa using h3,?_⟩⟩,?_⟩
  ·rw [List.length_set,Array.toList_setIfInBounds,List.take_set,h4,List.map_set]
  ·intro y hy
   rcases List.mem_or_eq_of_mem_set hy with hy | rfl
   ·exact hr y hy
   ·exact hz
theorem oi_room {w:World}{base g n cap:Nat}{zs:List Int}(h:OI w base (.slice (some ⟨g,0,none⟩) n cap) zs):RoomI w g n:=by
 obtain ⟨⟨hl,h0 | ⟨g',cap',cur,hv,hg,hh,h1,h2,h3,h4⟩⟩,hr⟩:=h
 ·simp at h0
 ·simp at hv
  obtain ⟨rfl,rfl,rfl⟩:=hv
  exact ⟨cur,hh,by omega⟩
theorem turn_oi {S:Nat→Prop}{base:Nat}{w w':World}{v:Value}{zs:List Int}(ht:Turn S w w')(h:OI w base v zs)(hk:∀ k,v.ownBlock=some k→¬ S k):OI w' base v zs:=by
 refine ⟨?_,h.2⟩
 obtain ⟨hl,h0 | ⟨g',cap,cur,rfl,hg,hh,h1,h2,h3,h4⟩⟩:=h.1
 ·exact ⟨hl,.inl h0⟩
 ·exact ⟨hl,.inr ⟨g',cap,cur,rfl,hg,turn_blk ht hh (hk g' rfl),h1,h2,h3,h4⟩⟩
def marksI (k n:Nat):List Int:=(List.range n).map fun i=>((k+i:Nat):Int)
def mixedI (zs:List Int)(k m:Nat):List Int:=(List.range zs.length).map fun i=>if i<m then ((k+i:Nat):Int) else zs.getD i 0
theorem mixedI_zero (zs:List Int)(k:Nat):mixedI zs k 0=zs:=by
 apply List.ext_getElem
 ·simp [mixedI]
 ·intro i h1 h2;simp [mixedI,h2]
theorem mixedI_all (zs:List Int)(k:Nat):mixedI zs k zs.length=marksI k zs.length:=by
 apply List.ext_getElem
 ·simp [mixedI,marksI]
 ·intro i h1 h2
  simp [marksI] at h2
  simp [mixedI,marksI,h2]
theorem mixedI_set (zs:List Int)(k m:Nat)(h:m<zs.length):(mixedI zs k m).set m (((k+m:Nat):Int))=mixedI zs k (m+1):=by
 apply List.ext_getElem
 ·simp [mixedI]
 ·intro i h1 h2
  simp only [mixedI,List.getElem_set,List.getElem_map,List.getElem_range]
  by_cases hik:m=i
  ·subst hik;simp
  ·by_cases h3:i<m
   ·simp [hik,h3,show i<m+1 by omega]
   ·simp [hik,h3,show ¬ i<m+1 by omega]
theorem markIntS_some (g n cap base:Nat)(zs:List Int)(k:Nat)(w:World)(h:OI w base (.slice (some ⟨g,0,none⟩) n cap) zs)(hn:n≤2097152)(hk:k≤4194304):
 Calls Tryz.prog 90 #[.slice (some ⟨g,0,none⟩) n cap,.int .i64 k] w fun e w'=>e=.returned (.int .i64 ((k+n:Nat):Int))∧OI w' base (.slice (some ⟨g,0,none⟩) n cap) (marksI k n)∧Turn (fun j=>j=g) w w':=by
 have hl:=h.is.1
 go_enter Tryz.func90,Tryz.ntmps90
 go_wp2
 go_loopw [1,5] (fun x i wr=>∃ m:Nat,m≤n∧i=.int .i64 m∧x=.int .i64 ((k+m:Nat):Int)∧OI wr base (.slice (some ⟨g,0,none⟩) n cap) (mixedI zs k m)∧Turn (fun j=>j=g) w wr) (fun _ i _=>n - (intOf i).toNat)
 case atStart=>exact ⟨0,Nat.zero_le _,rfl,rfl,by rw [mixedI_zero];exact h,Turn.refl _ _⟩
 case round=>
  obtain ⟨m,hm,rfl,rfl,hO,hT⟩:=hrel
  by_cases hlt:m<n
  ·have hlt':(m:Int)<(n:Int):=by omega
   obtain ⟨u,hu⟩:=(oi_room hO).cell m hlt
   have hf:=(oi_room hO).frozen m
   have hset:=oi_set hO m hlt (((k+m:Nat):Int)) (by unfold wfi;omega)
   rw [mixedI_set zs k m (by omega)] at hset
   have hT2:Turn (fun j=>j=g) w (wr.setCell ⟨g,m,none⟩ (.int .i64 (((k+m:Nat):Int)))):=
    hT.trans ⟨rfl,rfl,rfl,by rw [size_setCell];exact Nat.le_refl _,fun j hj hs=>heap_setCell_other _ _ _ _ hs⟩
   have HO:=hide hset
   have HT:=hide hT2
   clear hset hT2 hO hT
   obtain ⟨K,hK⟩:∃ K:Int,K=((k+m:Nat):Int):=⟨_,rfl⟩
   have hK0:0≤K:=by omega
   have hK1:K≤8388608:=by omega
   have HK:=hide (show K+1=((k+(m+1):Nat):Int) by omega)
   rw [← hK] at HO HT ⊢
   clear hK
   go_wp2
   go_roundw
   case rel=>exact ⟨m+1,by omega,by go_num,by rw [HK.out],HO.out,HT.out⟩
   case measure=>simp [intOf];omega
  ·have e:Hid (m=n):=by show m=n;omega
   go_wp2
   go_ret
   exact ⟨ret_int (by rw [e.out]),by rw [e.out,← hl,mixedI_all] at hO;rw [hl] at hO;exact hO,hT⟩
theorem markIntS_zero (a:Option Addr)(cap k:Nat)(w:World):
 Calls Tryz.prog 90 #[.slice a 0 cap,.int .i64 k] w fun e w'=>e=.returned (.int .i64 k)∧w=w':=by
 go_enter Tryz.func90,Tryz.ntmps90
 go_wp2
 go_loop [1,5] (fun x i=>i=.int .i64 0∧x=.int .i64 k) (fun _ _=>0)
 case atStart=>exact ⟨rfl,rfl⟩
 case round=>
  obtain ⟨rfl,rfl⟩:=hrel
  go_wp2
  go_ret
  exact ⟨rfl,rfl⟩
theorem markIntS_any (a:Option Addr)(n cap base:Nat)(zs:List Int)(k:Nat)(w:World)(h:OI w base (.slice a n cap) zs)(hn:n≤2097152)(hk:k≤4194304):
 Calls Tryz.prog 90 #[.slice a n cap,.int .i64 k] w fun e w'=>e=.returned (.int .i64 ((k+n:Nat):Int))∧OI w' base (.slice a n cap) (marksI k n)∧Turn (fun j=>(Value.slice a n cap).ownBlock=some j) w w':=by
 by_cases h0:n=0
 ·subst h0
  refine (markIntS_zero a cap k w).mono fun e w' he=>?_
  obtain ⟨rfl,rfl⟩:=he
  have hz:zs=[]:=List.eq_nil_of_length_eq_zero h.is.1
  subst hz
  exact ⟨rfl,h,Turn.refl _ _⟩
 ·obtain ⟨g,rfl⟩:∃ g,a=some ⟨g,0,none⟩:=by
   obtain ⟨hl,⟨h0',_⟩ | ⟨g,cap',cur,hv,_⟩⟩:=h.1
   ·simp at h0';exact absurd h0'.2.1 h0
   ·simp at hv;exact ⟨g,hv.1⟩
  refine (markIntS_some g n cap base zs k w h hn hk).mono fun e w' he=>⟨he.1,he.2.1,he.2.2.mono ?_⟩
  intro j hj
  subst hj
  rfl
theorem marksI_getD (k n m:Nat)(h:m<n):(marksI k n).getD m 0=((k+m:Nat):Int):=by simp [marksI,List.getD_eq_getElem?_getD,h]
theorem heldIntS_any (a:Option Addr)(n cap:Nat)(k:Nat)(w:World)(h:IS w a n cap (marksI k n))(hn:n≤2097152)(hk:k≤4194304):
 Calls Tryz.prog 190 #[.slice a n cap,.int .i64 k] w fun e w'=>e=.returned (.int .i64 ((k+n:Nat):Int))∧w=w':=by
 go_enter Tryz.func190,Tryz.ntmps190
 go_wp2
 go_loop [1,5] (fun x i=>∃ m:Nat,m≤n∧i=.int .i64 m∧x=.int .i64 ((k+m:Nat):Int)) (fun _ i=>n - (intOf i).toNat)
 case atStart=>exact ⟨0,Nat.zero_le _,rfl,rfl⟩
 case round=>
  obtain ⟨m,hm,rfl,rfl⟩:=hrel
  by_cases hlt:m<n
  ·have hlt':(m:Int)<(n:Int):=by omega
   obtain ⟨b,off,rfl⟩:=h.addr (by omega)
   have hc:=h.at m hlt
   rw [marksI_getD k n m hlt] at hc
   obtain ⟨K,hK⟩:∃ K:Int,K=((k+m:Nat):Int):=⟨_,rfl⟩
   have hK0:0≤K:=by omega
   have hK1:K≤8388608:=by omega
   have HK:=hide (show K+1=((k+(m+1):Nat):Int) by omega)
   rw [← hK] at hc ⊢
   have hne:(K != K)=false:=by simp
   clear hK
   go_wp2
   go_round
   case rel=>exact ⟨m+1,by omega,by go_num,by rw [HK.out]⟩
   case measure=>simp [intOf];omega
  ·have e:Hid (m=n):=by show m=n;omega
   go_wp2
   go_ret
   exact ⟨ret_int (by rw [e.out]),rfl⟩
end Go.Proofs.YtngdgogjlpjjpaeGreat
namespace Go.Proofs.YtngdgogjlpjjpaeGreat
open Go.RowKit
set_option linter.unusedVariables false
theorem wraps62 (n:Int)(h₀:0≤n)(h₁:n<2 ^ 62):IntKind.i64.wrap n=n:=by
 rw [IntKind.wrap_i64];omega
theorem isWord_any (v:Int)(w:World):
 Calls Tryz.prog 233 #[.int .i64 v] w fun e w'=>e=.returned (.bool (decide (0≤v∧v≤4294967295)))∧w=w':=by
 go_enter Tryz.func233,Tryz.ntmps233
 go_wp2
 all_goals
  go_ret
  refine ⟨ret_bool ?_,rfl⟩
  rw [Bool.eq_iff_iff]
  simp
  try omega
theorem isUpTo_any (v m:Int)(w:World):
 Calls Tryz.prog 165 #[.int .i64 v,.int .i64 m] w fun e w'=>e=.returned (.bool (decide (0≤v∧v≤m)))∧w=w':=by
 go_enter Tryz.func165,Tryz.ntmps165
 go_wp2
 all_goals
  go_ret
  refine ⟨ret_bool ?_,rfl⟩
  rw [Bool.eq_iff_iff]
  simp
  try omega
end Go.Proofs.YtngdgogjlpjjpaeGreat
namespace Go.Proofs.YtngdgogjlpjjpaeGreat
open Go.RowKit
set_option linter.unusedVariables false
set_option linter.unusedSimpArgs false
set_option maxRecDepth 100000
def wds (zs:List Int):Bool:=zs.all fun z=>decide (0≤z∧z≤4294967295)
theorem wds_bad (zs:List Int)(k:Nat)(hk:k<zs.length)(h:¬ (0≤zs.getD k 0∧zs.getD k 0≤4294967295)):wds zs=false:=by
 unfold wds
 rw [List.all_eq_false]
 refine ⟨zs[k],List.getElem_mem _,?_⟩
 have:zs.getD k 0=zs[k]:=by simp [List.getD_eq_getElem?_getD,hk]
 rw [this] at h
 simpa using h
theorem wds_good (zs:List Int)(h:∀ j,j<zs.length→0≤zs.getD j 0∧zs.getD j 0≤4294967295):wds zs=true:=by
 unfold wds
 rw [List.all_eq_true]
 intro z hz
 obtain ⟨i,hi,rfl⟩:=List.getElem_of_mem hz
 have:=h i hi
 rw [show zs.getD i 0=zs[i] by simp [List.getD_eq_getElem?_getD,hi]] at this
 simpa using this
theorem l4Words_any (a:Option Addr)(n cap:Nat)(zs:List Int)(w:World)(h:IS w a n cap zs):
 Calls Tryz.prog 250 #[.slice a n cap] w fun e w'=>e=.returned (.bool (wds zs))∧w=w':=by
 have hl:=h.1
 have hmx:=h.2.1
 unfold maxLen at hmx
 go_enter Tryz.func250,Tryz.ntmps250
 go_wp2_with fail
 go_loop [3] (fun i=>∃ k:Nat,k≤n∧i=.int .i64 k∧Hid (∀ j,j<k→0≤zs.getD j 0∧zs.getD j 0≤4294967295)) (fun i=>n - (intOf i).toNat)
 case atStart=>exact ⟨0,Nat.zero_le _,rfl,hide (fun j hj=>by omega)⟩
 case round=>
  obtain ⟨k,hk,rfl,HJ⟩:=hrel
  by_cases hlt:k<n
  ·have hlt':(k:Int)<(n:Int):=by omega
   obtain ⟨b,off,rfl⟩:=h.addr (by omega)
   have hck:=h.at k hlt
   have HZ:=hide (wds_bad zs k (by omega))
   have HG:=hide (show 0≤zs.getD k 0∧zs.getD k 0≤4294967295→∀ j,j<k+1→0≤zs.getD j 0∧zs.getD j 0≤4294967295 from fun h j hj=>by
    by_cases e:j=k
    ·subst e;exact h
    ·exact HJ.out j (by omega))
   generalize zs.getD k 0=z at *
   by_cases c1:z<0
   ·go_wp2
    go_ret
    exact ⟨ret_bool (HZ.out (by omega)).symm,rfl⟩
   ·by_cases c2:4294967295<z
    ·go_wp2
     go_ret
     exact ⟨ret_bool (HZ.out (by omega)).symm,rfl⟩
    ·go_wp2
     go_round
     case rel=>exact ⟨k+1,by omega,by go_num,hide (HG.out (by omega))⟩
     case measure=>simp [intOf];omega
  ·have HE:=hide (wds_good zs (fun j hj=>HJ.out j (by omega)))
   go_wp2
   go_ret
   exact ⟨ret_bool HE.out.symm,rfl⟩
theorem areWords_any (a:Option Addr)(n cap:Nat)(zs:List Int)(w:World)(h:IS w a n cap zs):
 Calls Tryz.prog 280 #[.slice a n cap] w fun e w'=>e=.returned (.bool (wds zs))∧w=w':=by
 have hl:=h.1
 have hmx:=h.2.1
 unfold maxLen at hmx
 have HIW:=hide (fun v w=>isWord_any v w)
 go_enter Tryz.func280,Tryz.ntmps280
 go_wp2_with fail
 go_loop [7] (fun i=>∃ k:Nat,k≤n∧i=.int .i64 k∧Hid (∀ j,j<k→0≤zs.getD j 0∧zs.getD j 0≤4294967295)) (fun i=>n - (intOf i).toNat)
 case atStart=>exact ⟨0,Nat.zero_le _,rfl,hide (fun j hj=>by omega)⟩
 case round=>
  obtain ⟨k,hk,rfl,HJ⟩:=hrel
  by_cases hlt:k<n
  ·have hlt':(k:Int)<(n:Int):=by omega
   obtain ⟨b,off,rfl⟩:=h.addr (by omega)
   have hck:=h.at k hlt
   have HZ:=hide (wds_bad zs k (by omega))
   have HG:=hide (show 0≤zs.getD k 0∧zs.getD k 0≤4294967295→∀ j,j<k+1→0≤zs.getD j 0∧zs.getD j 0≤4294967295 from fun h j hj=>by
    by_cases e:j=k
    ·subst e;exact h
    ·exact HJ.out j (by omega))
   generalize zs.getD k 0=z at *
   have HW:=hide (HIW.out z)
   by_cases c1:0≤z∧z≤4294967295
   ·rw [decide_eq_true c1] at HW
    go_wp2_with (go_at_call 233;refine (HW.out _).mono ?_;rintro e w1 ⟨rfl,rfl⟩)
    go_round
    case rel=>exact ⟨k+1,by omega,by go_num,hide (HG.out c1)⟩
    case measure=>simp [intOf];omega
   ·rw [decide_eq_false c1] at HW
    go_wp2_with (go_at_call 233;refine (HW.out _).mono ?_;rintro e w1 ⟨rfl,rfl⟩)
    go_ret
    exact ⟨ret_bool (HZ.out c1).symm,rfl⟩
  ·have HE:=hide (wds_good zs (fun j hj=>HJ.out j (by omega)))
   go_wp2
   go_ret
   exact ⟨ret_bool HE.out.symm,rfl⟩
end Go.Proofs.YtngdgogjlpjjpaeGreat
