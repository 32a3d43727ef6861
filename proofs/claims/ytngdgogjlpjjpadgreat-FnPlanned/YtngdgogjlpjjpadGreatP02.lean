import Derived.Test.YtngdgogjlpjjpadGreatP00
import Derived.Test.YtngdgogjlpjjpadGreatP01
namespace Go.Proofs.YtngdgogjlpjjpadGreat
open Go.RowKit
set_option linter.unusedVariables false
def hs (b l o a:Int):Bool:=decide (b≤a∧a<b+(2:Int)^l.toNat∧(o / (2:Int)^((a - b) / ((2:Int)^l.toNat / 8)).toNat) % 2=0)
theorem rok_parts {b l o:Int} (h:rok b l o=true):5≤l∧l≤14∧0≤o∧o≤255∧(8≤l∨o=0)∧0≤b∧b≤262144 - (2:Int)^l.toNat:=by
 simp [rok] at h
 omega
theorem pow8 (l:Int) (h:3≤l):(2:Int)^l.toNat=8 * (2:Int)^(l - 3).toNat:=by
 obtain ⟨k,hk⟩:=Int.eq_ofNat_of_zero_le (show 0≤l - 3 by omega)
 have e:l.toNat=k+3:=by omega
 have e2:(l - 3).toNat=k:=by omega
 rw [e,e2,Int.pow_add]
 omega
theorem div_part (d q:Int) (hq:0<q) (h0:0≤d) (h:d<8 * q):0≤d / q∧d / q≤7:=by
 refine ⟨Int.ediv_nonneg h0 (by omega),?_⟩
 have:=Int.ediv_lt_of_lt_mul hq h
 omega
theorem xor255:∀ o:Fin 256,(255 ^^^ o.val)=255 - o.val:=by decide +kernel
theorem xor_u8 (o:Int) (h0:0≤o) (h1:o≤255):bits BinOp.xor IntKind.u8 IntKind.u8.max o=255 - o:=by
 have hm:IntKind.u8.max=255:=by decide
 rw [hm,u8_xor 255 o (by omega) (by omega) h0 (by omega)]
 have:=xor255 ⟨o.toNat,by omega⟩
 simp only at this
 have e:(255:Int).toNat=255:=rfl
 rw [e,this]
 omega
theorem and1_u8 (t:Int) (h0:0≤t) (h1:t≤255):bits BinOp.and IntKind.u8 t 1=t % 2:=by
 rw [u8_and t 1 h0 (by omega) (by omega) (by omega)]
 have e:(1:Int).toNat=1:=rfl
 rw [e,Nat.and_one_is_mod]
 omega
set_option maxHeartbeats 1000000 in
theorem partsOf_any (b l o:Int) (r x y:Bool) (w:World) (h0:0≤o) (h1:o≤255):
 Calls Tryz.prog 260 #[.agg #[.int .i64 b,.int .i64 l,.int .i64 o,.bool r,.bool x,.bool y]] w fun e w'=>e=.returned (.int .u8 (255 - o))∧Below w.heap.size w w':=by
 have hx:=hide (xor_u8 o h0 h1)
 go_enter Tryz.func260,Tryz.ntmps260
 go_wp2
 go_ret
 exact ⟨ret_int hx.out,(Below.refl _ _).alloc (Nat.le_refl _) _⟩
set_option maxHeartbeats 1000000 in
theorem has_any (s i:Int) (w:World) (h0:0≤s) (h1:s≤255) (h2:0≤i) (h3:i≤7):
 Calls Tryz.prog 261 #[.int .u8 s,.int .i64 i] w fun e w'=>e=.returned (.bool ((s / (2:Int)^i.toNat) % 2 == 1))∧w=w':=by
 have hq:0≤s / (2:Int)^i.toNat∧s / (2:Int)^i.toNat≤255:=by
  have hp:=pow_pos i.toNat
  exact ⟨Int.ediv_nonneg h0 (by omega),Int.le_trans (Int.ediv_le_self _ h0) h1⟩
 have hx:=hide (and1_u8 (s / (2:Int)^i.toNat) hq.1 hq.2)
 clear hq
 go_enter Tryz.func261,Tryz.ntmps261
 go_wp2
 go_ret
 exact ⟨ret_bool (by rw [hx.out]),rfl⟩
theorem bit_flip:∀ (o:Fin 256) (i:Fin 8),((255 - o.val) / 2 ^ i.val % 2 == 1)=(o.val / 2 ^ i.val % 2 == 0):=by decide +kernel
theorem flip_int (o i:Int) (h0:0≤o) (h1:o≤255) (h2:0≤i) (h3:i≤7):((255 - o) / (2:Int)^i.toNat % 2 == 1)=(o / (2:Int)^i.toNat % 2 == 0):=by
 obtain ⟨a,rfl⟩:=Int.eq_ofNat_of_zero_le h0
 obtain ⟨k,rfl⟩:=Int.eq_ofNat_of_zero_le h2
 have:=bit_flip ⟨a,by omega⟩ ⟨k,by omega⟩
 simp only at this
 have e1:(255 - (a:Int))=((255 - a:Nat):Int):=by omega
 have e2:(2:Int)^((k:Int).toNat)=((2^k:Nat):Int):=by simp
 rw [e1,e2]
 rw [Bool.eq_iff_iff] at this ⊢
 simp only [beq_iff_eq] at this ⊢
 omega
theorem Blk.six {w:World} {g:Nat} {a b c d e f:Value} {t:TypeId} (h:Blk w g #[a,b,c,d,e,f] t):
 w.cell? ⟨g,0,none⟩=some a∧w.cell? ⟨g,1,none⟩=some b∧w.cell? ⟨g,2,none⟩=some c∧w.cell? ⟨g,3,none⟩=some d∧w.cell? ⟨g,4,none⟩=some e∧w.cell? ⟨g,5,none⟩=some f∧∀ i,w.frozen? ⟨g,i,none⟩=false:=
 ⟨by rw [h.cell];rfl,by rw [h.cell];rfl,by rw [h.cell];rfl,by rw [h.cell];rfl,by rw [h.cell];rfl,by rw [h.cell];rfl,fun i=>h.frozen i⟩
theorem wrap_i64 {n:Int} (h0:-9223372036854775808≤n) (h1:n≤9223372036854775807):IntKind.i64.wrap n=n:=by
 simp only [IntKind.wrap,IntKind.bits,IntKind.signed]
 simp
 omega
set_option maxHeartbeats 1000000 in
theorem regionHas_any (b l o a:Int) (r x y:Bool) (w:World) (h:rok b l o=true) (ha:-9223372036854775808≤a∧a≤9223372036854775807):
 Calls Tryz.prog 181 #[.agg #[.int .i64 b,.int .i64 l,.int .i64 o,.bool r,.bool x,.bool y],.int .i64 a] w fun e w'=>e=.returned (.bool (hs b l o a))∧Below w.heap.size w w':=by
 obtain ⟨h1,h2,h3,h4,h5,h6,h7⟩:=rok_parts h
 obtain ⟨ha0,ha1⟩:=ha
 have hp:=pow_lt l.toNat (by omega)
 have hp0:=pow_pos l.toNat
 have hp8:=pow8 l (by omega)
 have hq0:=pow_pos (l - 3).toNat
 have hq:(2:Int)^l.toNat / 8=(2:Int)^(l - 3).toNat:=by omega
 by_cases ka:a<b
 ·have hf:Hid (hs b l o a=false):=by show _=_;unfold hs;simp;omega
  clear h h5 hp8 hq
  have hd:decide (a<b)=true:=by simpa using ka
  go_enter Tryz.func181,Tryz.ntmps181
  go_wp2
  go_quiet (fail)
  go_wp2
  go_ret
  exact ⟨ret_bool hf.out.symm,below_drewN ((Below.refl _ _).alloc (Nat.le_refl _) _) _⟩
 ·have hd:decide (a<b)=false:=by simpa using ka
  by_cases kb:(2:Int)^l.toNat≤a - b
  ·have hf:Hid (hs b l o a=false):=by show _=_;unfold hs;simp;omega
   clear h h5 hp8 hq
   go_enter Tryz.func181,Tryz.ntmps181
   go_wp2
   go_quiet (fail)
   go_wp2
   go_ret
   exact ⟨ret_bool hf.out.symm,below_drewN ((Below.refl _ _).alloc (Nat.le_refl _) _) _⟩
  ·have hdv:=div_part (a - b) ((2:Int)^(l - 3).toNat) hq0 (by omega) (by omega)
   have hf:Hid (hs b l o a=(((255 - o) / (2:Int)^((a - b) / ((2:Int)^(l-3).toNat)).toNat) % 2 == 1)):=by
    show _=_
    rw [flip_int o _ h3 h4 hdv.1 hdv.2,← hq]
    unfold hs;rw [Bool.eq_iff_iff];simp;omega
   clear h h5 hp8 hq
   obtain ⟨hd0,hd7⟩:=hdv
   go_enter Tryz.func181,Tryz.ntmps181
   go_wp2
   go_quiet (fail)
   go_wp2_with fail
   have kb:=Blk.new w #[.int .i64 b,.int .i64 l,.int .i64 o,.bool r,.bool x,.bool y] 135
   have hB0:Below w.heap.size w (w.alloc (.cells #[.int .i64 b,.int .i64 l,.int .i64 o,.bool r,.bool x,.bool y] 135)):=(Below.refl _ _).alloc (Nat.le_refl _) _
   have hw1:IntKind.i64.wrap (a - b)=a - b:=wrap_i64 (by omega) (by omega)
   have hw2:IntKind.i64.wrap (l - 3)=l - 3:=wrap_i64 (by omega) (by omega)
   have hsh:Op.shift .shr .i64 (a - b) .i64 (l - 3)=pure (.int .i64 ((a - b) / (2:Int)^(l-3).toNat)):=by
    rw [shift_shr_any _ _ _ _ (by omega),Nat.min_eq_left (by simp [IntKind.bits];omega)]
   go_region_held3 (fun w'=>w'.cell? ⟨w.heap.size,0,none⟩=some (.int .i64 b)∧w'.cell? ⟨w.heap.size,1,none⟩=some (.int .i64 l)∧w'.cell? ⟨w.heap.size,2,none⟩=some (.int .i64 o)∧w'.cell? ⟨w.heap.size,3,none⟩=some (.bool r)∧w'.cell? ⟨w.heap.size,4,none⟩=some (.bool x)∧w'.cell? ⟨w.heap.size,5,none⟩=some (.bool y)) (go_keep)
    (first
      | (go_at_call 260;refine (partsOf_any b l o r x y _ h3 h4).mono ?_;rintro e w1 ⟨rfl,hb1⟩;obtain ⟨q1,q2,q3,q4,q5,q6,q7⟩:=(Blk.below (by exact kb) hb1).six)
      | (go_at_call 261;refine (has_any _ _ _ ?_ ?_ ?_ ?_).mono ?_;omega;omega;omega;omega;rintro e w2 ⟨rfl,rfl⟩))
   go_wp2
   go_ret
   exact ⟨ret_bool hf.out.symm,(below_drewN hB0 _).trans (hb1.mono (by simp))⟩
def lets (r x y:Bool) (k:Int):Bool:=if k=1 then r else if k=2 then x else if k=3 then y else false
set_option maxHeartbeats 1000000 in
theorem regionAllows_any (b l o k:Int) (r x y:Bool) (w:World):
 Calls Tryz.prog 182 #[.agg #[.int .i64 b,.int .i64 l,.int .i64 o,.bool r,.bool x,.bool y],.int .i64 k] w fun e w'=>e=.returned (.bool (lets r x y k))∧Below w.heap.size w w':=by
 by_cases h1:k=1
 ·subst h1
  go_enter Tryz.func182,Tryz.ntmps182
  go_wp2
  go_ret
  exact ⟨rfl,(Below.refl _ _).alloc (Nat.le_refl _) _⟩
 ·by_cases h2:k=2
  ·subst h2
   go_enter Tryz.func182,Tryz.ntmps182
   go_wp2
   go_ret
   exact ⟨rfl,(Below.refl _ _).alloc (Nat.le_refl _) _⟩
  ·by_cases h3:k=3
   ·subst h3
    go_enter Tryz.func182,Tryz.ntmps182
    go_wp2
    go_ret
    exact ⟨rfl,(Below.refl _ _).alloc (Nat.le_refl _) _⟩
   ·have hf:Hid (lets r x y k=false):=by show _=_;simp [lets,h1,h2,h3]
    have g1:(k == 1)=false:=by simpa using h1
    have g2:(k == 2)=false:=by simpa using h2
    have g3:(k == 3)=false:=by simpa using h3
    clear h1 h2 h3
    go_enter Tryz.func182,Tryz.ntmps182
    go_wp2
    go_ret
    exact ⟨ret_bool hf.out.symm,(Below.refl _ _).alloc (Nat.le_refl _) _⟩
def gok (g:Rg):Bool:=rok g.1 g.2.1 g.2.2.1
def ghas (g:Rg) (a:Int):Bool:=hs g.1 g.2.1 g.2.2.1 a
def glets (g:Rg) (k:Int):Bool:=lets g.2.2.2.1 g.2.2.2.2.1 g.2.2.2.2.2 k
def oneTo (rs:List Rg) (a k:Int):Nat→Bool
 | 0=>false
 | j+1=>if ghas (rs.getD j z6) a then glets (rs.getD j z6) k else oneTo rs a k j
set_option maxHeartbeats 1000000 in
theorem addr_some (b off n cap:Nat) (rs:List Rg) (a k:Int) (w:World) (h:RS w (some ⟨b,off,none⟩) n cap rs) (hok:∀ g ∈ rs,gok g=true) (hk:wfi a) (hn:n≤8):
 Calls Tryz.prog 121 #[.slice (some ⟨b,off,none⟩) n cap,.int .i64 a,.int .i64 k] w fun e w'=>e=.returned (.bool (oneTo rs a k n))∧Below w.heap.size w w':=by
 have hl:=h.1
 go_enter Tryz.func121,Tryz.ntmps121
 go_wp2
 go_loopw [7] (fun i wr=>∃ (j:Nat) (p:Int),j≤n∧p+1=j∧i=.int .i64 p∧oneTo rs a k j=oneTo rs a k n∧Below w.heap.size w wr) (fun i _=>(intOf i+1).toNat)
 case atStart=>exact ⟨n,(n:Int) - 1,Nat.le_refl _,by omega,rfl,rfl,Below.refl _ _⟩
 case round=>
  obtain ⟨j,p,hj,hp,rfl,hone,hB⟩:=hrel
  by_cases h0:j=0
  ·have hp':p=-1:=by omega
   subst hp' h0
   have HO:=hide hone
   clear hp hone
   have HK:=hide hk
   clear hk
   go_wp2
   go_ret
   exact ⟨ret_bool (by rw [← HO.out];rfl),hB⟩
  ·obtain ⟨i,rfl⟩:∃ i,j=i+1:=⟨j - 1,by omega⟩
   have hp':p=(i:Int):=by omega
   subst hp'
   have hi0:(0:Int)≤(i:Int):=by omega
   have hin:(i:Int)<(n:Int):=by omega
   have hat:=(h.below hB).at i (by omega)
   have hg:=hok (rs.getD i z6) (by simp [List.getD_eq_getElem?_getD,show i<rs.length by omega])
   have hstep:oneTo rs a k (i+1)=if ghas (rs.getD i z6) a then glets (rs.getD i z6) k else oneTo rs a k i:=rfl
   rw [hone] at hstep
   have HK:=hide hk
   clear hp hone hk h0
   generalize rs.getD i z6=g at *
   obtain ⟨g1,g2,g3,g4,g5,g6⟩:=g
   have HS:=hide hstep
   clear hstep
   have hga:rok g1 g2 g3=true:=hg
   clear hg
   have q1:=hat.1
   have q2:=hat.2.1
   have q3:=hat.2.2.1
   have q4:=hat.2.2.2.1
   have q5:=hat.2.2.2.2.1
   have q6:=hat.2.2.2.2.2
   simp only at q1 q2 q3 q4 q5 q6
   go_wp2_with fail
   refine (regionHas_any g1 g2 g3 a g4 g5 g6 _ hga HK.out).mono ?_
   rintro e w1 ⟨rfl,hb1⟩
   have hB1:=hB.trans (hb1.mono hB.size)
   cases hh:hs g1 g2 g3 a
   ·have HH:=hide hh
    clear hh
    go_wp2
    go_roundw
    case rel=>exact ⟨i,(i:Int) - 1,by omega,by omega,by go_num,by rw [HS.out];rw [show ghas (g1,g2,g3,g4,g5,g6) a=false from HH.out];rfl,hB1⟩
    case measure=>simp [intOf]
   ·have HH:=hide hh
    clear hh
    have hat1:=hat.below hb1
    have q1:=hat1.1
    have q2:=hat1.2.1
    have q3:=hat1.2.2.1
    have q4:=hat1.2.2.2.1
    have q5:=hat1.2.2.2.2.1
    have q6:=hat1.2.2.2.2.2
    simp only at q1 q2 q3 q4 q5 q6
    go_wp2_with fail
    refine (regionAllows_any g1 g2 g3 k g4 g5 g6 _).mono ?_
    rintro e w2 ⟨rfl,hb2⟩
    go_wp2
    go_ret
    exact ⟨ret_bool (by rw [HS.out];rw [show ghas (g1,g2,g3,g4,g5,g6) a=true from HH.out];rfl),hB1.trans (hb2.mono hB1.size)⟩
set_option maxHeartbeats 1000000 in
theorem addr_nil (x:Option Addr) (cap:Nat) (a k:Int) (w:World):
 Calls Tryz.prog 121 #[.slice x 0 cap,.int .i64 a,.int .i64 k] w fun e w'=>e=.returned (.bool false)∧Below w.heap.size w w':=by
 go_enter Tryz.func121,Tryz.ntmps121
 go_wp2
 go_loop [7] (fun i=>i=.int .i64 (-1)) (fun _=>0)
 case atStart=>rfl
 case round=>
  obtain rfl:=hrel
  go_wp2
  go_ret
  exact ⟨rfl,Below.refl _ _⟩
theorem addr_any (x:Option Addr) (n cap:Nat) (rs:List Rg) (a k:Int) (w:World) (h:RS w x n cap rs) (hok:∀ g ∈ rs,gok g=true) (hk:wfi a) (hn:n≤8):
 Calls Tryz.prog 121 #[.slice x n cap,.int .i64 a,.int .i64 k] w fun e w'=>e=.returned (.bool (oneTo rs a k n))∧Below w.heap.size w w':=by
 by_cases h0:n=0
 ·subst h0
  exact addr_nil x cap a k w
 ·obtain ⟨b,off,rfl⟩:=h.some h0
  exact addr_some b off n cap rs a k w h hok hk hn
def wd (s:Int):Bool:=decide (s=1∨s=2∨s=4)
set_option maxHeartbeats 400000 in
theorem isWidth_any (s:Int) (w:World):
 Calls Tryz.prog 119 #[.int .i64 s] w fun e w'=>e=.returned (.bool (wd s))∧w=w':=by
 by_cases h1:s=1
 ·subst h1
  go_enter Tryz.func119,Tryz.ntmps119
  go_wp2
  go_ret
  exact ⟨rfl,rfl⟩
 ·by_cases h2:s=2
  ·subst h2
   go_enter Tryz.func119,Tryz.ntmps119
   go_wp2
   go_ret
   exact ⟨rfl,rfl⟩
  ·have hf:Hid (wd s=(s == 4)):=by show _=_;unfold wd;rw [Bool.eq_iff_iff];simp;omega
   have g1:(s == 1)=false:=by simpa using h1
   have g2:(s == 2)=false:=by simpa using h2
   clear h1 h2
   go_enter Tryz.func119,Tryz.ntmps119
   go_wp2
   go_ret
   exact ⟨ret_bool hf.out.symm,rfl⟩
def ins (p s f:Int) (n:Nat):Bool:=decide (f≤p∧p≤f+n - s)
def low:List Int→Int
 | []=>0
 | z :: zs=>low zs * 256+z
end Go.Proofs.YtngdgogjlpjjpadGreat
namespace Go.Proofs.YtngdgogjlpjjpadGreat
open Go.RowKit
set_option linter.unusedVariables false
set_option linter.unusedSimpArgs false
set_option maxRecDepth 100000
def byt (s:ByteArray) (k:Nat):Int:=((s.get! k).toNat:Int)
theorem byt_range (s:ByteArray) (k:Nat):0≤byt s k∧byt s k≤255:=by
 unfold byt
 have:=(s.get! k).toNat_lt
 omega
theorem get_bang (s:ByteArray) (k:Nat) (h:k<s.size):s.get! k=s[k]'h:=by
 simp only [ByteArray.get!,getElem!_def]
 have:s.data[k]?=some (s.data[k]'h):=Array.getElem?_eq_getElem h
 rw [this]
 rfl
theorem str_index (s:ByteArray) (k:Nat) (h:k<s.size) (w:World):(Instr.index 9 (.string s) (.int .i64 (k:Int))).run Tryz.prog w=.ok (.int .u8 (byt s k)) w:=by
 rw [run_index_string w 9 s .i64 (k:Int) Tryz.underlying9,dif_pos (by omega)]
 simp only [byt,Int.toNat_natCast,get_bang s k h]
def nmo (s:ByteArray):Bool:=decide (1≤s.size∧s.size≤12) && (List.range s.size).all fun k=>decide (97≤byt s k∧byt s k≤122)
theorem nmo_bad (s:ByteArray) (k:Nat) (hk:k<s.size) (h:¬ (97≤byt s k∧byt s k≤122)):nmo s=false:=by
 unfold nmo
 rw [Bool.and_eq_false_iff]
 right
 rw [List.all_eq_false]
 exact ⟨k,by simpa using hk,by simpa using h⟩
theorem nmo_good (s:ByteArray) (h:∀ j,j<s.size→97≤byt s j∧byt s j≤122):nmo s=decide (1≤s.size∧s.size≤12):=by
 unfold nmo
 rw [show ((List.range s.size).all fun k=>decide (97≤byt s k∧byt s k≤122))=true from List.all_eq_true.2 (fun k hk=>by simpa using h k (by simpa using hk)),Bool.and_true]
set_option maxHeartbeats 1000000 in
theorem l4NameOk_any (s:ByteArray) (w:World) (hs:s.size≤1048576):
 Calls Tryz.prog 199 #[.string s] w fun e w'=>e=.returned (.bool (nmo s))∧w=w':=by
 obtain ⟨N,hN⟩:∃ N,N=s.size:=⟨_,rfl⟩
 go_enter Tryz.func199,Tryz.ntmps199
 go_wp2_with fail
 go_loop [3] (fun i=>∃ k:Nat,k≤s.size∧i=.int .i64 k∧Hid (∀ j,j<k→97≤byt s j∧byt s j≤122)) (fun i=>s.size - (intOf i).toNat)
 case atStart=>exact ⟨0,Nat.zero_le _,rfl,hide (fun j hj=>by omega)⟩
 case round=>
  obtain ⟨k,hk,rfl,HJ⟩:=hrel
  by_cases hlt:k<s.size
  ·have hlt':(k:Int)<(s.size:Int):=by omega
   have hix:=str_index s k hlt
   obtain ⟨z0,z1⟩:=byt_range s k
   have HZ:=hide (nmo_bad s k hlt)
   have HG:=hide (show 97≤byt s k∧byt s k≤122→∀ j,j<k+1→97≤byt s j∧byt s j≤122 from fun h j hj=>by
    by_cases e:j=k
    ·subst e;exact h
    ·exact HJ.out j (by omega))
   generalize byt s k=z at *
   by_cases c1:z<97
   ·have c1':(z<97)=True:=by simp [c1]
    go_wp2
    go_ret
    exact ⟨ret_bool (HZ.out (by omega)).symm,rfl⟩
   ·by_cases c2:122<z
    ·go_wp2
     go_ret
     exact ⟨ret_bool (HZ.out (by omega)).symm,rfl⟩
    ·go_wp2
     go_round
     case rel=>exact ⟨k+1,by omega,by go_num,hide (HG.out (by omega))⟩
     case measure=>simp [intOf];omega
  ·have e:Hid (k=s.size):=by show k=s.size;omega
   have HE:=hide (nmo_good s (fun j hj=>HJ.out j (by rw [e.out];exact hj)))
   by_cases c1:1≤s.size
   ·by_cases c2:s.size≤12
    ·go_wp2
     go_ret
     exact ⟨ret_bool (by have:=e.out;rw [HE.out,Bool.eq_iff_iff];simp;omega),rfl⟩
    ·go_wp2
     go_ret
     exact ⟨ret_bool (by have:=e.out;rw [HE.out,Bool.eq_iff_iff];simp;omega),rfl⟩
   ·go_wp2
    go_ret
    exact ⟨ret_bool (by have:=e.out;rw [HE.out,Bool.eq_iff_iff];simp;omega),rfl⟩
set_option maxHeartbeats 1000000 in
theorem isName_any (s:ByteArray) (w:World) (hs:s.size≤1048576):
 Calls Tryz.prog 205 #[.string s] w fun e w'=>e=.returned (.bool (nmo s))∧w=w':=by
 by_cases c1:s.size<1
 ·have HF:Hid (nmo s=false):=by show _=_;unfold nmo;rw [Bool.and_eq_false_iff];left;simp;omega
  have c1':(s.size:Int)<1:=by omega
  go_enter Tryz.func205,Tryz.ntmps205
  go_wp2
  go_ret
  exact ⟨ret_bool HF.out.symm,rfl⟩
 ·by_cases c2:12<s.size
  ·have HF:Hid (nmo s=false):=by show _=_;unfold nmo;rw [Bool.and_eq_false_iff];left;simp;omega
   have c1':¬ (s.size:Int)<1:=by omega
   have c2':(12:Int)<(s.size:Int):=by omega
   go_enter Tryz.func205,Tryz.ntmps205
   go_wp2
   go_ret
   exact ⟨ret_bool HF.out.symm,rfl⟩
  ·have c1':¬ (s.size:Int)<1:=by omega
   have c2':¬ (12:Int)<(s.size:Int):=by omega
   go_enter Tryz.func205,Tryz.ntmps205
   go_wp2_with fail
   go_loop [14] (fun i=>∃ k:Nat,k≤s.size∧i=.int .i64 k∧Hid (∀ j,j<k→97≤byt s j∧byt s j≤122)) (fun i=>s.size - (intOf i).toNat)
   case atStart=>exact ⟨0,Nat.zero_le _,rfl,hide (fun j hj=>by omega)⟩
   case round=>
    obtain ⟨k,hk,rfl,HJ⟩:=hrel
    by_cases hlt:k<s.size
    ·have hlt':(k:Int)<(s.size:Int):=by omega
     have hix:=str_index s k hlt
     obtain ⟨z0,z1⟩:=byt_range s k
     have HZ:=hide (nmo_bad s k hlt)
     have HG:=hide (show 97≤byt s k∧byt s k≤122→∀ j,j<k+1→97≤byt s j∧byt s j≤122 from fun h j hj=>by
      by_cases e:j=k
      ·subst e;exact h
      ·exact HJ.out j (by omega))
     generalize byt s k=z at *
     by_cases d1:z<97
     ·go_wp2
      go_ret
      exact ⟨ret_bool (HZ.out (by omega)).symm,rfl⟩
     ·by_cases d2:122<z
      ·go_wp2
       go_ret
       exact ⟨ret_bool (HZ.out (by omega)).symm,rfl⟩
      ·go_wp2
       go_round
       case rel=>exact ⟨k+1,by omega,by go_num,hide (HG.out (by omega))⟩
       case measure=>simp [intOf];omega
    ·have e:Hid (k=s.size):=by show k=s.size;omega
     have HE:=hide (nmo_good s (fun j hj=>HJ.out j (by rw [e.out];exact hj)))
     go_wp2
     go_ret
     exact ⟨ret_bool (by have:=e.out;rw [HE.out,Bool.eq_iff_iff];simp;omega),rfl⟩
def dotFrom (s:ByteArray):Nat→Nat→Int
 | 0,_=>-1
 | f+1,k=>if byt s k=46 then (k:Int) else dotFrom s f (k+1)
def dot (s:ByteArray):Int:=dotFrom s s.size 0
set_option maxHeartbeats 1000000 in
theorem l4Dot_any (s:ByteArray) (w:World) (hs:s.size≤1048576):
 Calls Tryz.prog 204 #[.string s] w fun e w'=>e=.returned (.int .i64 (dot s))∧w=w':=by
 go_enter Tryz.func204,Tryz.ntmps204
 go_wp2_with fail
 go_loop [3] (fun i=>∃ k:Nat,k≤s.size∧i=.int .i64 k∧Hid (dot s=dotFrom s (s.size - k) k)) (fun i=>s.size - (intOf i).toNat)
 case atStart=>exact ⟨0,Nat.zero_le _,rfl,hide rfl⟩
 case round=>
  obtain ⟨k,hk,rfl,HJ⟩:=hrel
  by_cases hlt:k<s.size
  ·have hlt':(k:Int)<(s.size:Int):=by omega
   have hix:=str_index s k hlt
   obtain ⟨z0,z1⟩:=byt_range s k
   have HD:=hide (show dot s=if byt s k=46 then (k:Int) else dotFrom s (s.size - (k+1)) (k+1) from by
    rw [HJ.out,show s.size - k=(s.size - (k+1))+1 by omega];rfl)
   clear HJ
   generalize byt s k=z at *
   by_cases c1:z=46
   ·have HE:=hide (show dot s=(k:Int) from by rw [HD.out,if_pos c1])
    subst c1
    go_wp2
    go_ret
    exact ⟨ret_int HE.out.symm,rfl⟩
   ·have HE:=hide (show dot s=dotFrom s (s.size - (k+1)) (k+1) from by rw [HD.out,if_neg c1])
    have c1':(z == 46)=false:=by simpa using c1
    go_wp2
    go_round
    case rel=>exact ⟨k+1,by omega,by go_num,HE⟩
    case measure=>simp [intOf];omega
  ·have e:Hid (dot s=-1):=by
    show dot s=-1
    rw [HJ.out,show s.size - k=0 by omega];rfl
   go_wp2
   go_ret
   exact ⟨ret_int e.out.symm,rfl⟩
theorem dotFrom_range (s:ByteArray):∀ (f k:Nat),dotFrom s f k=-1∨((k:Int)≤dotFrom s f k∧dotFrom s f k<k+f)
 | 0,k=>Or.inl rfl
 | f+1,k=>by
   unfold dotFrom
   split
   ·right;omega
   ·rcases dotFrom_range s f (k+1) with h | h
    ·left;exact h
    ·right;omega
theorem dot_range (s:ByteArray):dot s=-1∨(0≤dot s∧dot s<s.size):=by
 have:=dotFrom_range s s.size 0
 unfold dot
 omega
def cutA (s:ByteArray):ByteArray:=s.extract 0 (dot s).toNat
def cutB (s:ByteArray):ByteArray:=s.extract (dot s+1).toNat s.size
theorem cutA_size (s:ByteArray) (hs:s.size≤1048576):(cutA s).size≤1048576:=by
 unfold cutA
 rw [ByteArray.size_extract]
 omega
theorem cutB_size (s:ByteArray) (hs:s.size≤1048576):(cutB s).size≤1048576:=by
 unfold cutB
 rw [ByteArray.size_extract]
 omega
def full (s:ByteArray):Bool:=decide (0≤dot s) && (nmo (cutA s) && nmo (cutB s))
set_option maxHeartbeats 1000000 in
theorem l4FullOk_any (s:ByteArray) (w:World) (hs:s.size≤1048576):
 Calls Tryz.prog 202 #[.string s] w fun e w'=>e=.returned (.bool (full s))∧w=w':=by
 have HD:=hide (fun w=>l4Dot_any s w hs)
 have HA:=hide (fun w=>l4NameOk_any (cutA s) w (cutA_size s hs))
 have HB:=hide (fun w=>l4NameOk_any (cutB s) w (cutB_size s hs))
 obtain ⟨r,hr⟩:∃ r,r=full s:=⟨_,rfl⟩
 rw [← hr]
 unfold full at hr
 unfold cutA cutB at *
 rcases dot_range s with h | ⟨h0,h1⟩
 ·rw [h] at HD hr
  have HR:=hide (show r=false from by rw [hr];rfl)
  clear HA HB hr h
  go_enter Tryz.func202,Tryz.ntmps202
  go_wp2_with (go_at_call 204;refine (HD.out _).mono ?_;rintro e w1 ⟨rfl,rfl⟩)
  go_ret
  exact ⟨ret_bool HR.out.symm,rfl⟩
 ·generalize dot s=p at *
  generalize nmo (s.extract 0 p.toNat)=A at *
  generalize nmo (s.extract (p+1).toNat s.size)=B at *
  have HR:=hide (show r=(A && B) from by rw [hr];simp [h0])
  clear hr
  cases A
  ·go_enter Tryz.func202,Tryz.ntmps202
   go_wp2_with (first
    | (go_at_call 204;refine (HD.out _).mono ?_;rintro e w1 ⟨rfl,rfl⟩)
    | (go_at_call 199;refine (HA.out _).mono ?_;rintro e w1 ⟨rfl,rfl⟩))
   go_ret
   exact ⟨ret_bool HR.out.symm,rfl⟩
  ·go_enter Tryz.func202,Tryz.ntmps202
   go_wp2_with fail
   refine (HD.out _).mono ?_
   rintro e w1 ⟨rfl,rfl⟩
   go_wp2_with fail
   refine (HA.out _).mono ?_
   rintro e w1 ⟨rfl,rfl⟩
   go_wp2_with fail
   refine (HB.out _).mono ?_
   rintro e w1 ⟨rfl,rfl⟩
   go_wp2
   go_ret
   exact ⟨ret_bool HR.out.symm,rfl⟩
end Go.Proofs.YtngdgogjlpjjpadGreat
namespace Go.Proofs.YtngdgogjlpjjpadGreat
open Go.RowKit
set_option linter.unusedVariables false
theorem BS.at {w:World} {b off n cap:Nat} {zs:List Int} (h:BS w (some ⟨b,off,none⟩) n cap zs) (i:Nat) (hi:i<n):w.cell? ⟨b,off+i,none⟩=some (.int .u8 (zs.getD i 0)):=by
 obtain ⟨b',off',e,hd⟩:=h.2.2.2.1 (by omega)
 simp at e
 obtain ⟨rfl,rfl⟩:=e
 exact hd i hi
end Go.Proofs.YtngdgogjlpjjpadGreat
