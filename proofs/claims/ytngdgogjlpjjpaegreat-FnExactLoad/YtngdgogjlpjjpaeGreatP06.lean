import Derived.Deep.RegionHeld3
import Derived.Laws.EntriesVeiled
import Derived.Below
import Derived.Orders
import Derived.ChangeOld
import Derived.OpenShut
import Derived.ProofKit
import Derived.ShutString
import Derived.Test.YtngdgogjlpjjpaeGreatP00
set_option maxHeartbeats 4000000
namespace Go.Proofs.YtngdgogjlpjjpaeGreat
open Go.RowKit
set_option linter.unusedVariables false
def popc (x:Nat):Nat:=x % 2+x / 2 % 2+x / 4 % 2+x / 8 % 2+x / 16 % 2+x / 32 % 2+x / 64 % 2+x / 128 % 2
set_option maxRecDepth 100000 in
theorem onesCount8_any (x:Nat)(w:World)(h1:x<256):
 Calls Tryz.prog 288 #[.int .u8 x] w fun e w'=>e=.returned (.int .i64 (popc x))∧w=w':=by
 go_enter Tryz.func288,Tryz.ntmps288
 go_wp2
 go_ret
 refine ⟨ret_int ?_,rfl⟩
 clear w
 revert x
 decide +kernel
theorem cv_xor255:∀ o:Fin 256,(255 ^^^ (255 - o.val))=o.val:=by decide +kernel
theorem cv_xor (q:Nat)(h:q<256):bits BinOp.xor IntKind.u8 IntKind.u8.max (255 - (q:Int))=(q:Int):=by
 have hm:IntKind.u8.max=255:=by decide
 rw [hm,u8_xor 255 (255 - (q:Int)) (by omega) (by omega) (by omega) (by omega)]
 have:=cv_xor255 ⟨q,h⟩
 simp only at this
 have e:(255:Int).toNat=255:=rfl
 have e2:(255 - (q:Int)).toNat=255 - q:=by omega
 rw [e,e2,this]
theorem popc_le:∀ q,q<256→popc q≤8:=by decide +kernel
theorem cvParts_any (b l:Int)(q:Nat)(r x y:Bool)(w:World)(h:q<256):
 Calls Tryz.prog 289 #[.agg #[.int .i64 b,.int .i64 l,.int .i64 (255 - (q:Int)),.bool r,.bool x,.bool y]] w fun e w'=>e=.returned (.int .u8 q)∧Below w.heap.size w w':=by
 have hx:=hide (cv_xor q h)
 have h0:0≤255 - (q:Int):=by omega
 have h1:255 - (q:Int)≤255:=by omega
 generalize 255 - (q:Int)=o at *
 go_enter Tryz.func289,Tryz.ntmps289
 go_wp2
 go_ret
 exact ⟨ret_int hx.out,(Below.refl _ _).alloc (Nat.le_refl _) _⟩
theorem Blk.six' {w:World}{g:Nat}{a b c d e f:Value}{t:TypeId}(h:Blk w g #[a,b,c,d,e,f] t):
 w.cell? ⟨g,0,none⟩=some a∧w.cell? ⟨g,1,none⟩=some b∧w.cell? ⟨g,2,none⟩=some c∧w.cell? ⟨g,3,none⟩=some d∧w.cell? ⟨g,4,none⟩=some e∧w.cell? ⟨g,5,none⟩=some f∧∀ i,w.frozen? ⟨g,i,none⟩=false:=
 ⟨by rw [h.cell];rfl,by rw [h.cell];rfl,by rw [h.cell];rfl,by rw [h.cell];rfl,by rw [h.cell];rfl,by rw [h.cell];rfl,fun i=>h.frozen i⟩
theorem cv_wrap {n:Int}(h0:-9223372036854775808≤n)(h1:n≤9223372036854775807):IntKind.i64.wrap n=n:=by
 simp only [IntKind.wrap,IntKind.bits,IntKind.signed]
 simp
 omega
def cnt (l:Int)(q:Nat):Int:=(popc q:Int) * (2:Int)^(l - 3).toNat
theorem addressCount_any (b l:Int)(q:Nat)(r x y:Bool)(w:World)(h:q<256)(hl:5≤l)(hl':l≤14):
 Calls Tryz.prog 283 #[.agg #[.int .i64 b,.int .i64 l,.int .i64 (255 - (q:Int)),.bool r,.bool x,.bool y]] w fun e w'=>e=.returned (.int .i64 (cnt l q))∧Below w.heap.size w w':=by
 have hp:=popc_le q h
 have hpw:=pow_lt (l - 3).toNat (by omega)
 have hpw0:=pow_pos (l - 3).toNat
 have hmul:(popc q:Int) * (2:Int)^(l - 3).toNat≤8 * 1048576:=by
  have h1:(popc q:Int) * (2:Int)^(l - 3).toNat≤8 * (2:Int)^(l - 3).toNat:=Int.mul_le_mul_of_nonneg_right (by omega) (by omega)
  omega
 have hmul0:0≤(popc q:Int) * (2:Int)^(l - 3).toNat:=Int.mul_nonneg (by omega) (by omega)
 have hw2:IntKind.i64.wrap (l - 3)=l - 3:=cv_wrap (by omega) (by omega)
 have HC:=hide (show cnt l q=(popc q:Int) * (2:Int)^(l - 3).toNat from rfl)
 have kb:=Blk.new w #[.int .i64 b,.int .i64 l,.int .i64 (255 - (q:Int)),.bool r,.bool x,.bool y] 158
 have hB0:Below w.heap.size w (w.alloc (.cells #[.int .i64 b,.int .i64 l,.int .i64 (255 - (q:Int)),.bool r,.bool x,.bool y] 158)):=(Below.refl _ _).alloc (Nat.le_refl _) _
 have HM:=hide (And.intro hmul0 hmul)
 clear hmul hmul0
 have HP:=hide (onesCount8_any q)
 go_enter Tryz.func283,Tryz.ntmps283
 go_wp2
 go_region_held3 (fun w'=>w'.cell? ⟨w.heap.size,0,none⟩=some (.int .i64 b)∧w'.cell? ⟨w.heap.size,1,none⟩=some (.int .i64 l)∧w'.cell? ⟨w.heap.size,2,none⟩=some (.int .i64 (255 - (q:Int)))∧w'.cell? ⟨w.heap.size,3,none⟩=some (.bool r)∧w'.cell? ⟨w.heap.size,4,none⟩=some (.bool x)∧w'.cell? ⟨w.heap.size,5,none⟩=some (.bool y)) (go_keep)
  (first
    | (go_at_call 289;refine (cvParts_any b l q r x y _ h).mono ?_;rintro e w1 ⟨rfl,hb1⟩;obtain ⟨q1,q2,q3,q4,q5,q6,q7⟩:=(Blk.below (by exact kb) hb1).six')
    | (go_at_call 288;refine (HP.out _ h).mono ?_;rintro e w2 ⟨rfl,rfl⟩))
 go_wp2
 go_ret
 refine ⟨ret_int ?_,hB0.drew.trans (hb1.mono (by simp))⟩
 rw [HC.out]
 exact cv_wrap (by have:=HM.out;omega) (by have:=HM.out;omega)
theorem cv_or:∀ (q i:Nat),q<256→i<8→(q ||| 2 ^ i)<256:=by
 intro q i hq hi
 exact Nat.or_lt_two_pow (n:=8) hq (Nat.pow_lt_pow_right (by omega) hi)
theorem with_any (q i:Nat)(w:World)(h:q<256)(hi:i<8):
 Calls Tryz.prog 292 #[.int .u8 q,.int .i64 i] w fun e w'=>e=.returned (.int .u8 ((q ||| 2 ^ i:Nat):Int))∧w=w':=by
 go_enter Tryz.func292,Tryz.ntmps292
 go_wp2
 go_ret
 refine ⟨ret_int ?_,rfl⟩
 have hp:(2:Nat)^i<256:=Nat.pow_lt_pow_right (by omega) hi
 have e:(2:Int)^i % 256=((2^i:Nat):Int):=by
  have:((2^i:Nat):Int)=(2:Int)^i:=by simp
  have:=pow_pos i
  omega
 rw [e]
 exact u8_or_nat q (2^i) h hp
def cm (l:Int)(q:Nat)(l':Int)(q':Nat):Bool:=decide (cnt l' q'<cnt l q∨(cnt l q=cnt l' q'∧l<l'))
theorem coversMore_any (b l b' l':Int)(q q':Nat)(w:World)(h:q<256)(h':q'<256)(hl:5≤l)(hl2:l≤14)(hl':5≤l')(hl2':l'≤14):
 Calls Tryz.prog 286 #[.agg #[.int .i64 b,.int .i64 l,.int .i64 (255 - (q:Int)),.bool false,.bool false,.bool false],.agg #[.int .i64 b',.int .i64 l',.int .i64 (255 - (q':Int)),.bool false,.bool false,.bool false]] w fun e w'=>e=.returned (.bool (cm l q l' q'))∧Below w.heap.size w w':=by
 have ka:=(Blk.new w #[.int .i64 b,.int .i64 l,.int .i64 (255 - (q:Int)),.bool false,.bool false,.bool false] 158).alloc (.cells #[.int .i64 b',.int .i64 l',.int .i64 (255 - (q':Int)),.bool false,.bool false,.bool false] 158)
 have kb:=Blk.new (w.alloc (.cells #[.int .i64 b,.int .i64 l,.int .i64 (255 - (q:Int)),.bool false,.bool false,.bool false] 158)) #[.int .i64 b',.int .i64 l',.int .i64 (255 - (q':Int)),.bool false,.bool false,.bool false] 158
 simp only [World.size_alloc] at kb
 have hB0:Below w.heap.size w ((w.alloc (.cells #[.int .i64 b,.int .i64 l,.int .i64 (255 - (q:Int)),.bool false,.bool false,.bool false] 158)).alloc (.cells #[.int .i64 b',.int .i64 l',.int .i64 (255 - (q':Int)),.bool false,.bool false,.bool false] 158)):=((Below.refl _ _).alloc (Nat.le_refl _) _).alloc (by simp) _
 have A1:=hide (addressCount_any b l q false false false)
 have A2:=hide (addressCount_any b' l' q' false false false)
 obtain ⟨o,ho⟩:∃ o,o=255 - (q:Int):=⟨_,rfl⟩
 obtain ⟨o',ho'⟩:∃ o',o'=255 - (q':Int):=⟨_,rfl⟩
 have HM:=hide (show cm l q l' q'=decide (cnt l' q'<cnt l q∨(cnt l q=cnt l' q'∧l<l')) from rfl)
 rw [← ho] at A1 ka kb hB0 ⊢
 rw [← ho'] at A2 ka kb hB0 ⊢
 clear ho ho'
 generalize cnt l q=c1 at *
 generalize cnt l' q'=c2 at *
 go_enter Tryz.func286,Tryz.ntmps286
 go_wp2
 go_region_held3 (fun w'=>w'.cell? ⟨w.heap.size,0,none⟩=some (.int .i64 b)∧w'.cell? ⟨w.heap.size,1,none⟩=some (.int .i64 l)∧w'.cell? ⟨w.heap.size,2,none⟩=some (.int .i64 o)∧w'.cell? ⟨w.heap.size,3,none⟩=some (.bool false)∧w'.cell? ⟨w.heap.size,4,none⟩=some (.bool false)∧w'.cell? ⟨w.heap.size,5,none⟩=some (.bool false)∧w'.cell? ⟨w.heap.size+1,0,none⟩=some (.int .i64 b')∧w'.cell? ⟨w.heap.size+1,1,none⟩=some (.int .i64 l')∧w'.cell? ⟨w.heap.size+1,2,none⟩=some (.int .i64 o')∧w'.cell? ⟨w.heap.size+1,3,none⟩=some (.bool false)∧w'.cell? ⟨w.heap.size+1,4,none⟩=some (.bool false)∧w'.cell? ⟨w.heap.size+1,5,none⟩=some (.bool false)) (go_keep)
  (first
    | (go_at_call_of 283 (Value.int .i64 l);refine (A1.out _ h hl hl2).mono ?_;rintro e w1 ⟨rfl,hb1⟩;replace hb1:=undrew hb1;obtain ⟨q1,q2,q3,q4,q5,q6,q7⟩:=(ka.below hb1).six';obtain ⟨p1,p2,p3,p4,p5,p6,p7⟩:=(kb.below hb1).six')
    | (go_at_call_of 283 (Value.int .i64 l');refine (A2.out _ h' hl' hl2').mono ?_;rintro e w2 ⟨rfl,hb2⟩;replace hb2:=hb1.trans (hb2.mono hb1.size);obtain ⟨q1,q2,q3,q4,q5,q6,q7⟩:=(ka.below hb2).six';obtain ⟨p1,p2,p3,p4,p5,p6,p7⟩:=(kb.below hb2).six'))
 have ka2:=ka.below hb2
 have kb2:=kb.below hb2
 have hB2:=hB0.trans (hb2.mono hB0.size)
 clear hb1 hb2 ka kb hB0
 by_cases hc:c1=c2
 ·subst hc
  have hne:(c1 != c1)=false:=by simp
  have HF:=hide (show decide (c1<c1∨(c1=c1∧l<l'))=decide (l<l') from by simp)
  obtain ⟨q1,q2,q3,q4,q5,q6,q7⟩:=ka2.six'
  obtain ⟨p1,p2,p3,p4,p5,p6,p7⟩:=kb2.six'
  go_wp2
  go_ret
  exact ⟨ret_bool (by rw [HM.out,HF.out]),hB2⟩
 ·have hne:(c1 != c2)=true:=by simpa using hc
  have HF:=hide (show decide (c2<c1∨(c1=c2∧l<l'))=decide (c2<c1) from by simp [hc])
  clear hc
  obtain ⟨q1,q2,q3,q4,q5,q6,q7⟩:=ka2.six'
  obtain ⟨p1,p2,p3,p4,p5,p6,p7⟩:=kb2.six'
  go_wp2
  go_region_held3 (fun w'=>w'.cell? ⟨w.heap.size,0,none⟩=some (.int .i64 b)∧w'.cell? ⟨w.heap.size,1,none⟩=some (.int .i64 l)∧w'.cell? ⟨w.heap.size,2,none⟩=some (.int .i64 o)∧w'.cell? ⟨w.heap.size,3,none⟩=some (.bool false)∧w'.cell? ⟨w.heap.size,4,none⟩=some (.bool false)∧w'.cell? ⟨w.heap.size,5,none⟩=some (.bool false)∧w'.cell? ⟨w.heap.size+1,0,none⟩=some (.int .i64 b')∧w'.cell? ⟨w.heap.size+1,1,none⟩=some (.int .i64 l')∧w'.cell? ⟨w.heap.size+1,2,none⟩=some (.int .i64 o')∧w'.cell? ⟨w.heap.size+1,3,none⟩=some (.bool false)∧w'.cell? ⟨w.heap.size+1,4,none⟩=some (.bool false)∧w'.cell? ⟨w.heap.size+1,5,none⟩=some (.bool false)) (go_keep)
   (first
     | (go_at_call_of 283 (Value.int .i64 l);refine (A1.out _ h hl hl2).mono ?_;rintro e w3 ⟨rfl,hb1⟩;replace hb1:=undrew hb1;obtain ⟨q1,q2,q3,q4,q5,q6,q7⟩:=(ka2.below hb1).six';obtain ⟨p1,p2,p3,p4,p5,p6,p7⟩:=(kb2.below hb1).six')
     | (go_at_call_of 283 (Value.int .i64 l');refine (A2.out _ h' hl' hl2').mono ?_;rintro e w4 ⟨rfl,hb2⟩;replace hb2:=hb1.trans (hb2.mono hb1.size);obtain ⟨q1,q2,q3,q4,q5,q6,q7⟩:=(ka2.below hb2).six';obtain ⟨p1,p2,p3,p4,p5,p6,p7⟩:=(kb2.below hb2).six'))
  have hB4:=hB2.trans (hb2.mono hB2.size)
  clear hb1 hb2 q1 q2 q3 q4 q5 q6 q7 p1 p2 p3 p4 p5 p6 p7
  go_wp2
  go_ret
  exact ⟨ret_bool (by rw [HM.out,HF.out]),hB4⟩
def Bst (w:World)(B:Nat)(fd:Bool)(b l o:Int):Prop:=
 Blk w B #[.func (Fn.func 286) #[] #[],.bool fd,.int .i64 b,.int .i64 l,.int .i64 o,.bool false,.bool false,.bool false] 308
theorem Bst.cells {w:World}{B:Nat}{fd:Bool}{b l o:Int}(h:Bst w B fd b l o):
 w.cell? ⟨B,0,none⟩=some (.func (Fn.func 286) #[] #[])∧w.cell? ⟨B,1,none⟩=some (.bool fd)∧w.cell? ⟨B,2,none⟩=some (.int .i64 b)∧w.cell? ⟨B,3,none⟩=some (.int .i64 l)∧w.cell? ⟨B,4,none⟩=some (.int .i64 o)∧w.cell? ⟨B,5,none⟩=some (.bool false)∧w.cell? ⟨B,6,none⟩=some (.bool false)∧w.cell? ⟨B,7,none⟩=some (.bool false)∧∀ i,w.frozen? ⟨B,i,none⟩=false:=
 ⟨by rw [Blk.cell h];rfl,by rw [Blk.cell h];rfl,by rw [Blk.cell h];rfl,by rw [Blk.cell h];rfl,by rw [Blk.cell h];rfl,by rw [Blk.cell h];rfl,by rw [Blk.cell h];rfl,by rw [Blk.cell h];rfl,fun i=>Blk.frozen h i⟩
theorem turn_drew {S:Nat→Prop}{a W:World}(h:Turn S a W)(n:Nat):Turn S a (W.drewN n):=⟨h.os,h.tape,h.output,h.size,h.block⟩
def taken (W:World)(B:Nat)(b l o:Int):World:=
 ((((((W.setCell ⟨B,1,none⟩ (.bool true)).setCell ⟨B,2,none⟩ (.int .i64 b)).setCell ⟨B,3,none⟩ (.int .i64 l)).setCell ⟨B,4,none⟩ (.int .i64 o)).setCell ⟨B,5,none⟩ (.bool false)).setCell ⟨B,6,none⟩ (.bool false)).setCell ⟨B,7,none⟩ (.bool false)
theorem taken_bst {W:World}{B:Nat}{fd:Bool}{b' l' o':Int}(h:Bst W B fd b' l' o')(b l o:Int):Bst (taken W B b l o) B true b l o:=by
 have:=((((((Blk.set h 1 (.bool true)).set 2 (.int .i64 b)).set 3 (.int .i64 l)).set 4 (.int .i64 o)).set 5 (.bool false)).set 6 (.bool false)).set 7 (.bool false)
 unfold Bst taken
 simpa using this
theorem taken_turn (W:World)(B:Nat)(b l o:Int):Turn (fun j=>j=B) W (taken W B b l o):=by
 have T:∀ (X:World) (i:Nat) (v:Value),Turn (fun j=>j=B) X (X.setCell ⟨B,i,none⟩ v):=fun X i v=>⟨rfl,rfl,rfl,by rw [size_setCell];exact Nat.le_refl _,fun j hj hn=>heap_setCell_other _ _ _ _ hn⟩
 unfold taken
 exact ((((((T _ _ _).trans (T _ _ _)).trans (T _ _ _)).trans (T _ _ _)).trans (T _ _ _)).trans (T _ _ _)).trans (T _ _ _)
theorem offer_new (B:Nat)(b l o b' l' o':Int)(w:World)(h:Bst w B false b' l' o'):
 Calls Tryz.prog 294 #[.pointer (some ⟨B,0,none⟩),.agg #[.int .i64 b,.int .i64 l,.int .i64 o,.bool false,.bool false,.bool false]] w fun e w'=>e=.returned (.tuple #[])∧Bst w' B true b l o∧Turn (fun j=>j=B) w w':=by
 have hlt:=Blk.lt h
 obtain ⟨q1,q2,q3,q4,q5,q6,q7,q8,q9⟩:=h.cells
 have HF:=hide (show Bst (w.alloc (.cells #[.int .i64 b,.int .i64 l,.int .i64 o,.bool false,.bool false,.bool false] 158)) B false b' l' o' from Blk.alloc h _)
 have HT:=hide (turn_alloc (S:=fun j=>j=B) w (.cells #[.int .i64 b,.int .i64 l,.int .i64 o,.bool false,.bool false,.bool false] 158))
 clear h
 go_enter Tryz.func294,Tryz.ntmps294
 go_wp2
 go_quiet (fail)
 go_wp2
 go_end0
 exact ⟨rfl,taken_bst (W:=(w.alloc (.cells #[.int .i64 b,.int .i64 l,.int .i64 o,.bool false,.bool false,.bool false] 158)).drewN _) HF.out b l o,(turn_drew HT.out _).trans (taken_turn _ B b l o)⟩
def bstIf (w:World)(B:Nat)(t:Bool)(b l o b' l' o':Int):Prop:=Bst w B true (if t then b else b') (if t then l else l') (if t then o else o')
theorem offer_cmp (B:Nat)(b l b' l':Int)(q q':Nat)(w:World)(h:Bst w B true b' l' (255 - (q':Int)))(hq:q<256)(hq':q'<256)(hl:5≤l)(hl2:l≤14)(hl':5≤l')(hl2':l'≤14):
 Calls Tryz.prog 294 #[.pointer (some ⟨B,0,none⟩),.agg #[.int .i64 b,.int .i64 l,.int .i64 (255 - (q:Int)),.bool false,.bool false,.bool false]] w fun e w'=>e=.returned (.tuple #[])∧bstIf w' B (cm l q l' q') b l (255 - (q:Int)) b' l' (255 - (q':Int))∧Turn (fun j=>j=B) w w':=by
 have hlt:=Blk.lt h
 have C1:=hide (coversMore_any b l b' l' q q')
 have kb:=Blk.new w #[.int .i64 b,.int .i64 l,.int .i64 (255 - (q:Int)),.bool false,.bool false,.bool false] 158
 have hb:Bst (w.alloc (.cells #[.int .i64 b,.int .i64 l,.int .i64 (255 - (q:Int)),.bool false,.bool false,.bool false] 158)) B true b' l' (255 - (q':Int)):=Blk.alloc h _
 have HT:=hide (turn_alloc (S:=fun j=>j=B) w (.cells #[.int .i64 b,.int .i64 l,.int .i64 (255 - (q:Int)),.bool false,.bool false,.bool false] 158))
 obtain ⟨o,ho⟩:∃ o,o=255 - (q:Int):=⟨_,rfl⟩
 obtain ⟨o',ho'⟩:∃ o',o'=255 - (q':Int):=⟨_,rfl⟩
 rw [← ho] at C1 kb hb HT ⊢
 rw [← ho'] at C1 hb ⊢
 clear ho ho' h
 obtain ⟨q1,q2,q3,q4,q5,q6,q7,q8,q9⟩:=hb.cells
 generalize cm l q l' q'=t at *
 go_enter Tryz.func294,Tryz.ntmps294
 go_wp2
 go_region_held3 (fun w'=>w'.cell? ⟨w.heap.size,0,none⟩=some (.int .i64 b)∧w'.cell? ⟨w.heap.size,1,none⟩=some (.int .i64 l)∧w'.cell? ⟨w.heap.size,2,none⟩=some (.int .i64 o)∧w'.cell? ⟨w.heap.size,3,none⟩=some (.bool false)∧w'.cell? ⟨w.heap.size,4,none⟩=some (.bool false)∧w'.cell? ⟨w.heap.size,5,none⟩=some (.bool false)∧w'.cell? ⟨B,0,none⟩=some (.func (Fn.func 286) #[] #[])∧w'.cell? ⟨B,1,none⟩=some (.bool true)∧w'.cell? ⟨B,2,none⟩=some (.int .i64 b')∧w'.cell? ⟨B,3,none⟩=some (.int .i64 l')∧w'.cell? ⟨B,4,none⟩=some (.int .i64 o')∧w'.cell? ⟨B,5,none⟩=some (.bool false)∧w'.cell? ⟨B,6,none⟩=some (.bool false)∧w'.cell? ⟨B,7,none⟩=some (.bool false)) (go_keep)
  (first
    | (go_at_call 286;refine (C1.out _ hq hq' hl hl2 hl' hl2').mono ?_;rintro e w1 ⟨rfl,hb1⟩;replace hb1:=undrew hb1;obtain ⟨p1,p2,p3,p4,p5,p6,p7⟩:=(kb.below hb1).six';obtain ⟨q1,q2,q3,q4,q5,q6,q7,q8,q9⟩:=Bst.cells (show Bst w1 B true b' l' o' from Blk.below hb hb1)))
 have hb':Bst w1 B true b' l' o':=Blk.below hb hb1
 have T1:=HT.out.trans (turn_below (S:=fun j=>j=B) hb1)
 cases t
 ·go_wp2
  go_end0
  exact ⟨rfl,hb',T1⟩
 ·go_wp2
  go_end0
  exact ⟨rfl,taken_bst hb' b l o,T1.trans (taken_turn _ B b l o)⟩
end Go.Proofs.YtngdgogjlpjjpaeGreat
namespace Go.Proofs.YtngdgogjlpjjpaeGreat
open Go
set_option linter.unusedSimpArgs false
def leftOf (n:Nat)(listed:Array Bool):Nat:=((List.range n).filter fun i=>!listed.getD i true).length
theorem filter_lt {l:List Nat}{p q:Nat→Bool}(h:∀ x ∈ l,q x=true→p x=true){i:Nat}(hi:i ∈ l)(hp:p i=true)(hq:q i=false):(l.filter q).length<(l.filter p).length:=by
 induction l with
 | nil=>cases hi
 | cons x xs ih=>
   have hle:(xs.filter q).length≤(xs.filter p).length:=by
    clear ih hi
    induction xs with
    | nil=>simp
    | cons y ys ih2=>
      have h2:=ih2 (fun z hz=>h z (by simp only [List.mem_cons] at hz ⊢;rcases hz with e | e;exact .inl e;exact .inr (.inr e)))
      have h3:=h y (by simp)
      cases hq':q y with
      | false=>cases hp':p y <;> simp [List.filter_cons,hq',hp'] <;> omega
      | true=>simp [List.filter_cons,hq',h3 hq'];omega
   have h1:=h x (by simp)
   rcases List.mem_cons.1 hi with e | e
   ·subst e
    simp [List.filter_cons,hp,hq]
    omega
   ·have h4:=ih (fun z hz=>h z (by simp [hz])) e
    cases hq':q x with
    | false=>cases hp':p x <;> simp [List.filter_cons,hq',hp'] <;> omega
    | true=>simp [List.filter_cons,hq',h1 hq'];omega
theorem leftOf_lt {n:Nat}{listed:Array Bool}{i:Nat}(hi:i<n)(h:listed.getD i true=false):leftOf n (listed.setIfInBounds i true)<leftOf n listed:=by
 have hs:i<listed.size:=by
  rcases Nat.lt_or_ge i listed.size with h' | h'
  ·exact h'
  ·simp [Array.getElem?_eq_none h'] at h
 refine filter_lt (i:=i) (fun x _ hx=>?_) (by simpa using hi) (by rw [h];rfl) (by simp [hs])
 by_cases hxi:i=x
 ·subst hxi;rw [h];rfl
 ·rw [getD_set_ne true hxi] at hx;exact hx
theorem wpAny_inv {P:Program}{ops:Array Oper}{Q:Exit→Act→World→Prop}{md:Region.Mode}(Inv:Array Bool→Act→World→Prop)
 (hstep:∀ (listed:Array Bool) (a:Act) (w:World) (i:Nat) (K:Act→World→Prop),Inv listed a w→i ∈ Region.ready md ops listed→(∀ a' w',Inv (listed.setIfInBounds i true) a' w'→K a' w')→wpOp P ops Q i K a w)
 (hend:∀ (listed:Array Bool) (a:Act) (w:World),Inv listed a w→Region.ready md ops listed=[]→Q .normal a w):
 ∀ (fuel:Nat) (listed:Array Bool) (a:Act) (w:World),leftOf ops.size listed≤fuel→Inv listed a w→wpAny P md ops Q fuel listed a w:=by
 intro fuel
 induction fuel with
 | zero=>
   intro listed a w hf h
   have hr:Region.ready md ops listed=[]:=by
    rw [List.eq_nil_iff_forall_not_mem]
    intro i hi
    obtain ⟨h0,o,ho,_⟩:=mem_ready.1 hi
    have:=leftOf_lt (n:=ops.size) (Array.getElem?_eq_some_iff.1 ho).1 h0
    omega
   exact ⟨hr,hend _ _ _ h hr⟩
 | succ fuel ih=>
   intro listed a w hf h
   refine ⟨fun hr=>hend _ _ _ h hr,fun i hi=>hstep listed a w i _ h hi fun a' w' h'=>ih _ a' w' ?_ h'⟩
   obtain ⟨h0,o,ho,_⟩:=mem_ready.1 hi
   have:=leftOf_lt (n:=ops.size) (Array.getElem?_eq_some_iff.1 ho).1 h0
   omega
theorem leftOf_le (n:Nat)(listed:Array Bool):leftOf n listed≤n:=by
 unfold leftOf
 exact Nat.le_trans (List.length_filter_le _ _) (by simp)
theorem wp_region_inv {P:Program}{ops:Array Oper}{Q:Exit→Act→World→Prop}{id:Nat}{a:Act}{w:World}(hm:P.follows .mixedOrders=true)(Inv:Array Bool→Act→World→Prop)
 (h0:Inv (Array.replicate ops.size false) a { w with drawn:=w.drawn+1 })
 (hstep:∀ (listed:Array Bool) (a:Act) (w:World) (i:Nat) (K:Act→World→Prop),Inv listed a w→i ∈ Region.ready .any ops listed→(∀ a' w',Inv (listed.setIfInBounds i true) a' w'→K a' w')→wpOp P ops Q i K a w)
 (hend:∀ (listed:Array Bool) (a:Act) (w:World),Inv listed a w→Region.ready .any ops listed=[]→Q .normal a w):(Code.region id ops true).wp P Q a w:=
 wp_region_any hm (wpAny_inv Inv hstep hend _ _ _ _ (leftOf_le _ _) h0)
theorem wp_region_inv0 {P:Program}{ops:Array Oper}{Q:Exit→Act→World→Prop}{id:Nat}{A:Act}{w:World}(hm:P.follows .mixedOrders=true)(Inv:Act→Array Bool→Act→World→Prop)
 (h0:Inv A (Array.replicate ops.size false) A w.drew)
 (hstep:∀ (listed:Array Bool) (a:Act) (w:World) (i:Nat) (K:Act→World→Prop),Inv A listed a w→i ∈ Region.ready .any ops listed→(∀ a' w',Inv A (listed.setIfInBounds i true) a' w'→K a' w')→wpOp P ops Q i K a w)
 (hend:∀ (listed:Array Bool) (a:Act) (w:World),Inv A listed a w→Region.ready .any ops listed=[]→Q .normal a w):(Code.region id ops true).wp P Q A w:=
 wp_region_inv hm (Inv A) h0 hstep hend
end Go.Proofs.YtngdgogjlpjjpaeGreat
namespace Go.Proofs.YtngdgogjlpjjpaeGreat
open Go.ChangeShapes Go.WideShapes Go.ChangeAt Go.RowKit
set_option linter.unusedVariables false
theorem own:ownKnob Tryz.prog.godebug=none:=by kernel_rfl
theorem laidOut:laidOutB Tryz.prog=true:=by kernel_rfl
theorem wf_u8 {z:Int}(h:(Lit.int .u8 z).wf=true):0≤z∧z≤255:=by
 simp [Lit.wf,IntKind.min,IntKind.max,IntKind.signed,IntKind.bits] at h
 omega
set_option maxRecDepth 100000 in
theorem bs_of_trod {H:Type}{enc:TypeId × Value→H}{w:World}{base:Nat}{held:Bool}{fuel:Nat}{cs:List Value}{x:DataW H × List MemPlace}
 (h:DataW.trod enc Tryz.prog w base (fun _=>true) held fuel 41 cs=some x):∃ a n cap zs,cs=[.slice a n cap]∧BS w a n cap zs:=by
 rcases open_ints Tryz.underlying41 Tryz.underlying5 (by kernel_rfl) h with ⟨hcs,_⟩ | ⟨x,l,c,zs,hcs,_,hl,hm,hz,_,hcell,hwz⟩
 ·exact ⟨none,0,0,[],hcs,rfl,Nat.zero_le _,by simp,fun h=>absurd rfl h,Nat.le_refl _⟩
 ·simp at hz
  refine ⟨some x,l,c,zs.take l,hcs,by simp;omega,by omega,fun z hz'=>wf_u8 (hwz z (List.mem_of_mem_take hz')),fun hl0=>?_,hl⟩
  obtain ⟨b,off,spot⟩:=x
  have hspot:spot=none:=by simpa [Addr.add] using World.cell?_spot (hcell 0 (by omega))
  subst hspot
  refine ⟨b,off,rfl,fun i hi=>?_⟩
  have:=hcell i (by omega)
  have ea:(Addr.add ⟨b,off,none⟩ i)=⟨b,off+i,none⟩:=by
   simp only [Addr.add]
   split
   ·next h=>subst h;rfl
   ·rfl
  rw [ea] at this
  rw [this]
  simp [List.getD_eq_getElem?_getD,hi]
theorem array4c {α:Type}{cs:Array α}(h:cs.size=4):∃ c0 c1 c2 c3,cs=#[c0,c1,c2,c3]:=by
 obtain ⟨l⟩:=cs
 match l,h with
 | [c0,c1,c2,c3],_=>exact ⟨c0,c1,c2,c3,rfl⟩
set_option maxRecDepth 100000 in
theorem open_config {H:Type}{enc:TypeId × Value→H}{w:World}{base b0:Nat}{spare:Nat→Bool}{held:Bool}{r:Reach}{v:Value}{d:DataW H}{p:List MemPlace}
 (hv:Value.okWide Tryz.prog w r b0 76 v) (h:DataW.Trod enc Tryz.prog w base spare held 76 v d p):
 ∃ (o d a i:Int),v=.agg #[.int .i64 o,.int .i64 d,.int .i64 a,.int .i64 i]:=by
 obtain ⟨cs,rfl,hsz⟩:=okWide_struct Tryz.underlying76 hv
 obtain ⟨c0,c1,c2,c3,rfl⟩:=array4c (hsz.trans (by kernel_rfl))
 obtain ⟨fuel,hf⟩:=h
 obtain ⟨xs,n,_,_,hl,hlen,hf⟩:=DataW.trod_struct Tryz.underlying76 hf
 match xs,hlen with
 | [y0,y1,y2,y3],_=>
 have k0:=hf 0 _ rfl
 have k1:=hf 1 _ rfl
 have k2:=hf 2 _ rfl
 have k3:=hf 3 _ rfl
 have e3:Tryz.prog.cellsOf 3=1:=by kernel_rfl
 simp [Value.cells,e3] at k0 k1 k2 k3
 obtain ⟨a0,h0,_,wa⟩:=DataW.trod_int Tryz.underlying3 k0
 obtain ⟨a1,h1,_,wb⟩:=DataW.trod_int Tryz.underlying3 k1
 obtain ⟨a2,h2,_,wc⟩:=DataW.trod_int Tryz.underlying3 k2
 obtain ⟨a3,h3,_,wd⟩:=DataW.trod_int Tryz.underlying3 k3
 simp at h0 h1 h2 h3
 subst h0 h1 h2 h3
 exact ⟨a0,a1,a2,a3,rfl⟩
end Go.Proofs.YtngdgogjlpjjpaeGreat
