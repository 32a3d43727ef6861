import Derived.BigQuiet
import Derived.Deep.QuietTactic
import Derived.Deep.RegionHeld3
import Derived.Laws.EntriesVeiled
import Derived.Deep.RegionWith
import Derived.Test.YtngdgogjlpjjpadGreatP00
namespace Go.Proofs.YtngdgogjlpjjpadGreat
open Go.RowKit
set_option linter.unusedVariables false
def rok (b l o:Int):Bool:=
 decide (5≤l∧l≤14∧0≤o∧o≤255∧(8≤l∨o=0)∧0≤b∧b≤262144 - (2:Int)^l.toNat∧b % (2:Int)^l.toNat=0)
set_option maxHeartbeats 1000000 in
theorem sRegionOk_any (b l o:Int) (r x y:Bool) (w:World) (hb:(Lit.int .i64 b).wf=true):
 Calls Tryz.prog 162 #[.agg #[.int .i64 b,.int .i64 l,.int .i64 o,.bool r,.bool x,.bool y]] w fun e w'=>e=.returned (.bool (rok b l o))∧Below w.heap.size w w':=by
 by_cases h1:l<5
 ·have hf:Hid (rok b l o=false):=by show _=_;unfold rok;simp;omega
  go_enter Tryz.func162,Tryz.ntmps162
  go_wp2
  go_ret
  exact ⟨ret_bool hf.out.symm,(Below.refl _ _).alloc (Nat.le_refl _) _⟩
 ·by_cases h2:14<l
  ·have hf:Hid (rok b l o=false):=by show _=_;unfold rok;simp;omega
   go_enter Tryz.func162,Tryz.ntmps162
   go_wp2
   go_ret
   exact ⟨ret_bool hf.out.symm,(Below.refl _ _).alloc (Nat.le_refl _) _⟩
  ·by_cases h3:o<0
   ·have hf:Hid (rok b l o=false):=by show _=_;unfold rok;simp;omega
    go_enter Tryz.func162,Tryz.ntmps162
    go_wp2
    go_ret
    exact ⟨ret_bool hf.out.symm,(Below.refl _ _).alloc (Nat.le_refl _) _⟩
   ·by_cases h4:255<o
    ·have hf:Hid (rok b l o=false):=by show _=_;unfold rok;simp;omega
     go_enter Tryz.func162,Tryz.ntmps162
     go_wp2
     go_ret
     exact ⟨ret_bool hf.out.symm,(Below.refl _ _).alloc (Nat.le_refl _) _⟩
    ·by_cases h5:l<8∧o≠0
     ·obtain ⟨h5a,h5b⟩:=h5
      have hf:Hid (rok b l o=false):=by show _=_;unfold rok;simp;omega
      have h5c:(o != 0)=true:=by simpa using h5b
      clear h5b
      go_enter Tryz.func162,Tryz.ntmps162
      go_wp2
      go_ret
      exact ⟨ret_bool hf.out.symm,(Below.refl _ _).alloc (Nat.le_refl _) _⟩
     ·have hp:=pow_lt l.toNat (by omega)
      have hp0:=pow_pos l.toNat
      have hf:Hid (rok b l o=decide (0≤b∧b≤262144 - (2:Int)^l.toNat∧b % (2:Int)^l.toNat=0)):=by
       show _=_;unfold rok;congr 1;apply propext;constructor
       ·rintro ⟨_,_,_,_,_,h⟩;exact h
       ·intro h;exact ⟨by omega,by omega,by omega,by omega,by omega,h⟩
      by_cases h8:l<8
      ·have h0:o=0:=by omega
       subst h0
       clear h5 h3 h4
       go_enter Tryz.func162,Tryz.ntmps162
       go_wp2_with (go_at_call 167;refine (l2Power_any _ (by omega) (by omega) _).mono ?_;rintro e w' ⟨rfl,rfl⟩)
       all_goals
        go_ret
        refine ⟨ret_bool ?_,(Below.refl _ _).alloc (Nat.le_refl _) _⟩
        rw [hf.out,Bool.eq_iff_iff]
        simp
        try omega
      ·clear h5
       go_enter Tryz.func162,Tryz.ntmps162
       go_wp2_with (go_at_call 167;refine (l2Power_any _ (by omega) (by omega) _).mono ?_;rintro e w' ⟨rfl,rfl⟩)
       all_goals
        go_ret
        refine ⟨ret_bool ?_,(Below.refl _ _).alloc (Nat.le_refl _) _⟩
        rw [hf.out,Bool.eq_iff_iff]
        simp
        try omega
set_option maxHeartbeats 1000000 in
theorem iRegionOk_any (b l o:Int) (r x y:Bool) (w:World) (hb:(Lit.int .i64 b).wf=true):
 Calls Tryz.prog 180 #[.agg #[.int .i64 b,.int .i64 l,.int .i64 o,.bool r,.bool x,.bool y]] w fun e w'=>e=.returned (.bool (rok b l o))∧Below w.heap.size w w':=by
 by_cases h1:l<5
 ·have hf:Hid (rok b l o=false):=by show _=_;unfold rok;simp;omega
  go_enter Tryz.func180,Tryz.ntmps180
  go_wp2
  go_ret
  exact ⟨ret_bool hf.out.symm,(Below.refl _ _).alloc (Nat.le_refl _) _⟩
 ·by_cases h2:14<l
  ·have hf:Hid (rok b l o=false):=by show _=_;unfold rok;simp;omega
   go_enter Tryz.func180,Tryz.ntmps180
   go_wp2
   go_ret
   exact ⟨ret_bool hf.out.symm,(Below.refl _ _).alloc (Nat.le_refl _) _⟩
  ·by_cases h3:o<0
   ·have hf:Hid (rok b l o=false):=by show _=_;unfold rok;simp;omega
    go_enter Tryz.func180,Tryz.ntmps180
    go_wp2
    go_ret
    exact ⟨ret_bool hf.out.symm,(Below.refl _ _).alloc (Nat.le_refl _) _⟩
   ·by_cases h4:255<o
    ·have hf:Hid (rok b l o=false):=by show _=_;unfold rok;simp;omega
     go_enter Tryz.func180,Tryz.ntmps180
     go_wp2
     go_ret
     exact ⟨ret_bool hf.out.symm,(Below.refl _ _).alloc (Nat.le_refl _) _⟩
    ·by_cases h5:l<8∧o≠0
     ·obtain ⟨h5a,h5b⟩:=h5
      have hf:Hid (rok b l o=false):=by show _=_;unfold rok;simp;omega
      have h5c:(o != 0)=true:=by simpa using h5b
      clear h5b
      go_enter Tryz.func180,Tryz.ntmps180
      go_wp2
      go_ret
      exact ⟨ret_bool hf.out.symm,(Below.refl _ _).alloc (Nat.le_refl _) _⟩
     ·have hp:=pow_lt l.toNat (by omega)
      have hp0:=pow_pos l.toNat
      have hf:Hid (rok b l o=decide (0≤b∧b≤262144 - (2:Int)^l.toNat∧b % (2:Int)^l.toNat=0)):=by
       show _=_;unfold rok;congr 1;apply propext;constructor
       ·rintro ⟨_,_,_,_,_,h⟩;exact h
       ·intro h;exact ⟨by omega,by omega,by omega,by omega,by omega,h⟩
      by_cases h8:l<8
      ·have h0:o=0:=by omega
       subst h0
       clear h5 h3 h4
       go_enter Tryz.func180,Tryz.ntmps180
       go_wp2
       all_goals
        go_ret
        refine ⟨ret_bool ?_,(Below.refl _ _).alloc (Nat.le_refl _) _⟩
        rw [hf.out,Bool.eq_iff_iff]
        simp [*]
        try omega
      ·clear h5
       by_cases ho:o=0
       ·subst ho
        clear h3 h4
        go_enter Tryz.func180,Tryz.ntmps180
        go_wp2
        all_goals
         go_ret
         refine ⟨ret_bool ?_,(Below.refl _ _).alloc (Nat.le_refl _) _⟩
         rw [hf.out,Bool.eq_iff_iff]
         simp [*]
         try omega
       ·have ho':(o != 0)=true:=by simpa using ho
        clear ho
        go_enter Tryz.func180,Tryz.ntmps180
        go_wp2
        all_goals
         go_ret
         refine ⟨ret_bool ?_,(Below.refl _ _).alloc (Nat.le_refl _) _⟩
         rw [hf.out,Bool.eq_iff_iff]
         simp [*]
         try omega
def BS (w:World) (a:Option Addr) (n cap:Nat) (zs:List Int):Prop:=
 zs.length=n∧n≤maxLen∧(∀ z ∈ zs,0≤z∧z≤255)∧(n≠0→∃ b off,a=some ⟨b,off,none⟩∧∀ i,i<n→w.cell? ⟨b,off+i,none⟩=some (.int .u8 (zs.getD i 0)))∧n≤cap
theorem BS.below {w w':World} {a:Option Addr} {n cap:Nat} {zs:List Int} (h:BS w a n cap zs) (hb:Below w.heap.size w w'):BS w' a n cap zs:=by
 obtain ⟨h1,h2,h3,h4,h5⟩:=h
 refine ⟨h1,h2,h3,fun hn=>?_,h5⟩
 obtain ⟨b,off,ha,hc⟩:=h4 hn
 refine ⟨b,off,ha,fun i hi=>?_⟩
 have:=hc i hi
 rw [hb.cell (p:=⟨b,off+i,none⟩) (World.block_lt_of_cell? w _ this)]
 exact this
theorem BS.range {w:World} {a:Option Addr} {n cap:Nat} {zs:List Int} (h:BS w a n cap zs) (i:Nat):0≤zs.getD i 0∧zs.getD i 0≤255:=by
 by_cases hi:i<zs.length
 ·have:=h.2.2.1 zs[i] (List.getElem_mem hi)
  simpa [List.getD_eq_getElem?_getD,hi] using this
 ·simp [List.getD_eq_getElem?_getD,Nat.le_of_not_lt hi]
def Row8 (w:World) (g:Nat) (zs:List Int):Prop:=w.heap[g]?=some (.cells (zs.map (Value.int .u8)).toArray 5 (0,0))
theorem Row8.cell {w:World} {g:Nat} {zs:List Int} (h:Row8 w g zs) (i:Nat) (hi:i<zs.length):w.cell? ⟨g,i,none⟩=some (.int .u8 (zs.getD i 0)):=by
 rw [cell_of_row w g i _ _ _ h];simp [List.getD_eq_getElem?_getD,hi]
theorem Row8.frozen {w:World} {g:Nat} {zs:List Int} (h:Row8 w g zs) (i:Nat):w.frozen? ⟨g,i,none⟩=false:=frozen_of_row w g i _ _ h
theorem Row8.set {w:World} {g:Nat} {zs:List Int} (h:Row8 w g zs) (i:Nat) (z:Int):Row8 (w.setCell ⟨g,i,none⟩ (.int .u8 z)) g (zs.set i z):=by
 unfold Row8 at *
 rw [heap_setCell_same w g i _ _ _ h]
 simp [List.map_set]
theorem Row8.lt {w:World} {g:Nat} {zs:List Int} (h:Row8 w g zs):g<w.heap.size:=by
 unfold Row8 at h
 by_cases hg:g<w.heap.size
 ·exact hg
 ·simp [Array.getElem?_eq_none (Nat.le_of_not_lt hg)] at h
theorem Row8.below {w w':World} {g:Nat} {zs:List Int} (h:Row8 w g zs) (hb:Below w.heap.size w w'):Row8 w' g zs:=by
 have:=hb.block g h.lt
 unfold Row8 at *
 rw [this];exact h
theorem Row8.bs {w:World} {g:Nat} {zs:List Int} (h:Row8 w g zs) (hm:zs.length≤maxLen) (hz:∀ z ∈ zs,0≤z∧z≤255) (n cap:Nat) (hn:zs.length=n) (hc:n≤cap:=by exact Nat.le_refl _):BS w (some ⟨g,0,none⟩) n cap zs:=by
 subst hn
 exact ⟨rfl,hm,hz,fun _=>⟨g,0,rfl,fun i hi=>by rw [Nat.zero_add];exact h.cell i hi⟩,hc⟩
def Blk (w:World) (g:Nat) (cs:Array Value) (t:TypeId):Prop:=w.heap[g]?=some (.cells cs t (0,0))
theorem Blk.cell {w:World} {g:Nat} {cs:Array Value} {t:TypeId} (h:Blk w g cs t) (i:Nat):w.cell? ⟨g,i,none⟩=cs[i]?:=cell_of_row w g i _ _ _ h
theorem Blk.frozen {w:World} {g:Nat} {cs:Array Value} {t:TypeId} (h:Blk w g cs t) (i:Nat):w.frozen? ⟨g,i,none⟩=false:=frozen_of_row w g i _ _ h
theorem Blk.lt {w:World} {g:Nat} {cs:Array Value} {t:TypeId} (h:Blk w g cs t):g<w.heap.size:=by
 unfold Blk at h
 by_cases hg:g<w.heap.size
 ·exact hg
 ·simp [Array.getElem?_eq_none (Nat.le_of_not_lt hg)] at h
theorem Blk.below {w w':World} {g:Nat} {cs:Array Value} {t:TypeId} (h:Blk w g cs t) (hb:Below w.heap.size w w'):Blk w' g cs t:=by
 have:=hb.block g h.lt
 unfold Blk at *
 rw [this];exact h
theorem Blk.new (w:World) (cs:Array Value) (t:TypeId):Blk (w.alloc (.cells cs t)) w.heap.size cs t:=heap_alloc_new w _
theorem Blk.alloc {w:World} {g:Nat} {cs:Array Value} {t:TypeId} (h:Blk w g cs t) (o:Obj):Blk (w.alloc o) g cs t:=by
 have hl:=h.lt;unfold Blk at *;rw [Below.heap_alloc _ _ _ hl];exact h
theorem Blk.set {w:World} {g:Nat} {cs:Array Value} {t:TypeId} (h:Blk w g cs t) (i:Nat) (v:Value):Blk (w.setCell ⟨g,i,none⟩ v) g (cs.setIfInBounds i v) t:=heap_setCell_same w g i _ _ _ h
theorem Blk.other {w:World} {g:Nat} {cs:Array Value} {t:TypeId} (h:Blk w g cs t) (a:Addr) (v:Value) (hg:g≠a.block):Blk (w.setCell a v) g cs t:=by
 unfold Blk at *;rw [heap_setCell_other _ _ _ _ hg];exact h
theorem Row8.blk {w:World} {g:Nat} {zs:List Int}:Row8 w g zs=Blk w g (zs.map (Value.int .u8)).toArray 5:=rfl
theorem Row8.other {w:World} {g:Nat} {zs:List Int} (h:Row8 w g zs) (a:Addr) (v:Value) (hg:g≠a.block):Row8 (w.setCell a v) g zs:=Blk.other h a v hg
theorem Row8.alloc {w:World} {g:Nat} {zs:List Int} (h:Row8 w g zs) (o:Obj):Row8 (w.alloc o) g zs:=Blk.alloc h o
theorem size_setCell (w:World) (a:Addr) (v:Value):(w.setCell a v).heap.size=w.heap.size:=by simp [World.setCell]
theorem undrew {w w':World} (h:Below w.drew.heap.size w.drew w'):Below w.heap.size w w':=⟨h.os,h.tape,h.output,h.size,h.block⟩
def mid (zs:List Int) (k:Nat):List Int:=(List.range zs.length).map (fun i=>if i<k then zs.getD i 0 else 0)
theorem mid_len (zs:List Int) (k:Nat):(mid zs k).length=zs.length:=by simp [mid]
theorem mid_zero (zs:List Int):mid zs 0=List.replicate zs.length 0:=by
 apply List.ext_getElem
 ·simp [mid]
 ·intro i h1 h2;simp [mid]
theorem mid_all (zs:List Int):mid zs zs.length=zs:=by
 apply List.ext_getElem
 ·simp [mid]
 ·intro i h1 h2;simp [mid,h2]
theorem mid_set (zs:List Int) (k:Nat) (h:k<zs.length):(mid zs k).set k (zs.getD k 0)=mid zs (k+1):=by
 apply List.ext_getElem
 ·simp [mid]
 ·intro i h1 h2
  simp only [mid,List.getElem_set,List.getElem_map,List.getElem_range]
  by_cases hik:k=i
  ·subst hik;simp
  ·by_cases h3:i<k
   ·simp [hik,h3,show i<k+1 by omega]
   ·simp [hik,h3,show ¬ i<k+1 by omega]
def popc (x:Nat):Nat:=x % 2+x / 2 % 2+x / 4 % 2+x / 8 % 2+x / 16 % 2+x / 32 % 2+x / 64 % 2+x / 128 % 2
set_option maxRecDepth 100000 in
set_option maxHeartbeats 1000000 in
theorem onesCount8_any (x:Nat) (w:World) (h1:x<256):
 Calls Tryz.prog 287 #[.int .u8 x] w fun e w'=>e=.returned (.int .i64 (popc x))∧w=w':=by
 go_enter Tryz.func287,Tryz.ntmps287
 go_wp2
 go_ret
 refine ⟨ret_int ?_,rfl⟩
 clear w
 revert x
 decide +kernel
theorem cv_xor255:∀ o:Fin 256,(255 ^^^ (255 - o.val))=o.val:=by decide +kernel
theorem cv_xor (q:Nat) (h:q<256):bits BinOp.xor IntKind.u8 IntKind.u8.max (255 - (q:Int))=(q:Int):=by
 have hm:IntKind.u8.max=255:=by decide
 rw [hm,u8_xor 255 (255 - (q:Int)) (by omega) (by omega) (by omega) (by omega)]
 have:=cv_xor255 ⟨q,h⟩
 simp only at this
 have e:(255:Int).toNat=255:=rfl
 have e2:(255 - (q:Int)).toNat=255 - q:=by omega
 rw [e,e2,this]
theorem popc_le:∀ q,q<256→popc q≤8:=by decide +kernel
set_option maxHeartbeats 1000000 in
theorem cvParts_any (b l:Int) (q:Nat) (r x y:Bool) (w:World) (h:q<256):
 Calls Tryz.prog 260 #[.agg #[.int .i64 b,.int .i64 l,.int .i64 (255 - (q:Int)),.bool r,.bool x,.bool y]] w fun e w'=>e=.returned (.int .u8 q)∧Below w.heap.size w w':=by
 have hx:=hide (cv_xor q h)
 have h0:0≤255 - (q:Int):=by omega
 have h1:255 - (q:Int)≤255:=by omega
 generalize 255 - (q:Int)=o at *
 go_enter Tryz.func260,Tryz.ntmps260
 go_wp2
 go_ret
 exact ⟨ret_int hx.out,(Below.refl _ _).alloc (Nat.le_refl _) _⟩
theorem Blk.six' {w:World} {g:Nat} {a b c d e f:Value} {t:TypeId} (h:Blk w g #[a,b,c,d,e,f] t):
 w.cell? ⟨g,0,none⟩=some a∧w.cell? ⟨g,1,none⟩=some b∧w.cell? ⟨g,2,none⟩=some c∧w.cell? ⟨g,3,none⟩=some d∧w.cell? ⟨g,4,none⟩=some e∧w.cell? ⟨g,5,none⟩=some f∧∀ i,w.frozen? ⟨g,i,none⟩=false:=
 ⟨by rw [h.cell];rfl,by rw [h.cell];rfl,by rw [h.cell];rfl,by rw [h.cell];rfl,by rw [h.cell];rfl,by rw [h.cell];rfl,fun i=>h.frozen i⟩
theorem cv_wrap {n:Int} (h0:-9223372036854775808≤n) (h1:n≤9223372036854775807):IntKind.i64.wrap n=n:=by
 simp only [IntKind.wrap,IntKind.bits,IntKind.signed]
 simp
 omega
def cnt (l:Int) (q:Nat):Int:=(popc q:Int) * (2:Int)^(l - 3).toNat
set_option maxHeartbeats 1000000 in
theorem addressCount_any (b l:Int) (q:Nat) (r x y:Bool) (w:World) (h:q<256) (hl:5≤l) (hl':l≤14):
 Calls Tryz.prog 281 #[.agg #[.int .i64 b,.int .i64 l,.int .i64 (255 - (q:Int)),.bool r,.bool x,.bool y]] w fun e w'=>e=.returned (.int .i64 (cnt l q))∧Below w.heap.size w w':=by
 have hp:=popc_le q h
 have hpw:=pow_lt (l - 3).toNat (by omega)
 have hpw0:=pow_pos (l - 3).toNat
 have hmul:(popc q:Int) * (2:Int)^(l - 3).toNat≤8 * 1048576:=by
  have h1:(popc q:Int) * (2:Int)^(l - 3).toNat≤8 * (2:Int)^(l - 3).toNat:=Int.mul_le_mul_of_nonneg_right (by omega) (by omega)
  omega
 have hmul0:0≤(popc q:Int) * (2:Int)^(l - 3).toNat:=Int.mul_nonneg (by omega) (by omega)
 have hw2:IntKind.i64.wrap (l - 3)=l - 3:=cv_wrap (by omega) (by omega)
 have HC:=hide (show cnt l q=(popc q:Int) * (2:Int)^(l - 3).toNat from rfl)
 have kb:=Blk.new w #[.int .i64 b,.int .i64 l,.int .i64 (255 - (q:Int)),.bool r,.bool x,.bool y] 135
 have hB0:Below w.heap.size w (w.alloc (.cells #[.int .i64 b,.int .i64 l,.int .i64 (255 - (q:Int)),.bool r,.bool x,.bool y] 135)):=(Below.refl _ _).alloc (Nat.le_refl _) _
 have HM:=hide (And.intro hmul0 hmul)
 clear hmul hmul0
 have HP:=hide (onesCount8_any q)
 go_enter Tryz.func281,Tryz.ntmps281
 go_wp2
 go_region_held3 (fun w'=>w'.cell? ⟨w.heap.size,0,none⟩=some (.int .i64 b)∧w'.cell? ⟨w.heap.size,1,none⟩=some (.int .i64 l)∧w'.cell? ⟨w.heap.size,2,none⟩=some (.int .i64 (255 - (q:Int)))∧w'.cell? ⟨w.heap.size,3,none⟩=some (.bool r)∧w'.cell? ⟨w.heap.size,4,none⟩=some (.bool x)∧w'.cell? ⟨w.heap.size,5,none⟩=some (.bool y)) (go_keep)
  (first
    | (go_at_call 260;refine (cvParts_any b l q r x y _ h).mono ?_;rintro e w1 ⟨rfl,hb1⟩;obtain ⟨q1,q2,q3,q4,q5,q6,q7⟩:=(Blk.below (by exact kb) hb1).six')
    | (go_at_call 287;refine (HP.out _ h).mono ?_;rintro e w2 ⟨rfl,rfl⟩))
 go_wp2
 go_ret
 refine ⟨ret_int ?_,hB0.drew.trans (hb1.mono (by simp))⟩
 rw [HC.out]
 exact cv_wrap (by have:=HM.out;omega) (by have:=HM.out;omega)
set_option maxHeartbeats 1000000 in
theorem with_any (q i:Nat) (w:World) (h:q<256) (hi:i<8):
 Calls Tryz.prog 292 #[.int .u8 q,.int .i64 i] w fun e w'=>e=.returned (.int .u8 ((q ||| 2 ^ i:Nat):Int))∧w=w':=by
 go_enter Tryz.func292,Tryz.ntmps292
 go_wp2
 go_ret
 refine ⟨ret_int ?_,rfl⟩
 have hp:(2:Nat)^i<256:=Nat.pow_lt_pow_right (by omega) hi
 have e:(2:Int)^i % 256=((2^i:Nat):Int):=by
  have:((2^i:Nat):Int)=(2:Int)^i:=by simp
  have:=pow_pos i
  omega
 rw [e]
 exact u8_or_nat q (2^i) h hp
def cm (l:Int) (q:Nat) (l':Int) (q':Nat):Bool:=decide (cnt l' q'<cnt l q∨(cnt l q=cnt l' q'∧l<l'))
set_option maxHeartbeats 2000000 in
theorem coversMore_any (b l b' l':Int) (q q':Nat) (w:World) (h:q<256) (h':q'<256) (hl:5≤l) (hl2:l≤14) (hl':5≤l') (hl2':l'≤14):
 Calls Tryz.prog 285 #[.agg #[.int .i64 b,.int .i64 l,.int .i64 (255 - (q:Int)),.bool false,.bool false,.bool false],.agg #[.int .i64 b',.int .i64 l',.int .i64 (255 - (q':Int)),.bool false,.bool false,.bool false]] w fun e w'=>e=.returned (.bool (cm l q l' q'))∧Below w.heap.size w w':=by
 have ka:=(Blk.new w #[.int .i64 b,.int .i64 l,.int .i64 (255 - (q:Int)),.bool false,.bool false,.bool false] 135).alloc (.cells #[.int .i64 b',.int .i64 l',.int .i64 (255 - (q':Int)),.bool false,.bool false,.bool false] 135)
 have kb:=Blk.new (w.alloc (.cells #[.int .i64 b,.int .i64 l,.int .i64 (255 - (q:Int)),.bool false,.bool false,.bool false] 135)) #[.int .i64 b',.int .i64 l',.int .i64 (255 - (q':Int)),.bool false,.bool false,.bool false] 135
 simp only [World.size_alloc] at kb
 have hB0:Below w.heap.size w ((w.alloc (.cells #[.int .i64 b,.int .i64 l,.int .i64 (255 - (q:Int)),.bool false,.bool false,.bool false] 135)).alloc (.cells #[.int .i64 b',.int .i64 l',.int .i64 (255 - (q':Int)),.bool false,.bool false,.bool false] 135)):=((Below.refl _ _).alloc (Nat.le_refl _) _).alloc (by simp) _
 have A1:=hide (addressCount_any b l q false false false)
 have A2:=hide (addressCount_any b' l' q' false false false)
 obtain ⟨o,ho⟩:∃ o,o=255 - (q:Int):=⟨_,rfl⟩
 obtain ⟨o',ho'⟩:∃ o',o'=255 - (q':Int):=⟨_,rfl⟩
 have HM:=hide (show cm l q l' q'=decide (cnt l' q'<cnt l q∨(cnt l q=cnt l' q'∧l<l')) from rfl)
 rw [← ho] at A1 ka kb hB0 ⊢
 rw [← ho'] at A2 ka kb hB0 ⊢
 clear ho ho'
 generalize cnt l q=c1 at *
 generalize cnt l' q'=c2 at *
 go_enter Tryz.func285,Tryz.ntmps285
 go_wp2
 go_region_held3 (fun w'=>w'.cell? ⟨w.heap.size,0,none⟩=some (.int .i64 b)∧w'.cell? ⟨w.heap.size,1,none⟩=some (.int .i64 l)∧w'.cell? ⟨w.heap.size,2,none⟩=some (.int .i64 o)∧w'.cell? ⟨w.heap.size,3,none⟩=some (.bool false)∧w'.cell? ⟨w.heap.size,4,none⟩=some (.bool false)∧w'.cell? ⟨w.heap.size,5,none⟩=some (.bool false)∧w'.cell? ⟨w.heap.size+1,0,none⟩=some (.int .i64 b')∧w'.cell? ⟨w.heap.size+1,1,none⟩=some (.int .i64 l')∧w'.cell? ⟨w.heap.size+1,2,none⟩=some (.int .i64 o')∧w'.cell? ⟨w.heap.size+1,3,none⟩=some (.bool false)∧w'.cell? ⟨w.heap.size+1,4,none⟩=some (.bool false)∧w'.cell? ⟨w.heap.size+1,5,none⟩=some (.bool false)) (go_keep)
  (first
    | (go_at_call_of 281 (Value.int .i64 l);refine (A1.out _ h hl hl2).mono ?_;rintro e w1 ⟨rfl,hb1⟩;replace hb1:=undrew hb1;obtain ⟨q1,q2,q3,q4,q5,q6,q7⟩:=(ka.below hb1).six';obtain ⟨p1,p2,p3,p4,p5,p6,p7⟩:=(kb.below hb1).six')
    | (go_at_call_of 281 (Value.int .i64 l');refine (A2.out _ h' hl' hl2').mono ?_;rintro e w2 ⟨rfl,hb2⟩;replace hb2:=hb1.trans (hb2.mono hb1.size);obtain ⟨q1,q2,q3,q4,q5,q6,q7⟩:=(ka.below hb2).six';obtain ⟨p1,p2,p3,p4,p5,p6,p7⟩:=(kb.below hb2).six'))
 have ka2:=ka.below hb2
 have kb2:=kb.below hb2
 have hB2:=hB0.trans (hb2.mono hB0.size)
 clear hb1 hb2 ka kb hB0
 by_cases hc:c1=c2
 ·subst hc
  have hne:(c1 != c1)=false:=by simp
  have HF:=hide (show decide (c1<c1∨(c1=c1∧l<l'))=decide (l<l') from by simp)
  obtain ⟨q1,q2,q3,q4,q5,q6,q7⟩:=ka2.six'
  obtain ⟨p1,p2,p3,p4,p5,p6,p7⟩:=kb2.six'
  go_wp2
  go_ret
  exact ⟨ret_bool (by rw [HM.out,HF.out]),hB2⟩
 ·have hne:(c1 != c2)=true:=by simpa using hc
  have HF:=hide (show decide (c2<c1∨(c1=c2∧l<l'))=decide (c2<c1) from by simp [hc])
  clear hc
  obtain ⟨q1,q2,q3,q4,q5,q6,q7⟩:=ka2.six'
  obtain ⟨p1,p2,p3,p4,p5,p6,p7⟩:=kb2.six'
  go_wp2
  go_region_held3 (fun w'=>w'.cell? ⟨w.heap.size,0,none⟩=some (.int .i64 b)∧w'.cell? ⟨w.heap.size,1,none⟩=some (.int .i64 l)∧w'.cell? ⟨w.heap.size,2,none⟩=some (.int .i64 o)∧w'.cell? ⟨w.heap.size,3,none⟩=some (.bool false)∧w'.cell? ⟨w.heap.size,4,none⟩=some (.bool false)∧w'.cell? ⟨w.heap.size,5,none⟩=some (.bool false)∧w'.cell? ⟨w.heap.size+1,0,none⟩=some (.int .i64 b')∧w'.cell? ⟨w.heap.size+1,1,none⟩=some (.int .i64 l')∧w'.cell? ⟨w.heap.size+1,2,none⟩=some (.int .i64 o')∧w'.cell? ⟨w.heap.size+1,3,none⟩=some (.bool false)∧w'.cell? ⟨w.heap.size+1,4,none⟩=some (.bool false)∧w'.cell? ⟨w.heap.size+1,5,none⟩=some (.bool false)) (go_keep)
   (first
     | (go_at_call_of 281 (Value.int .i64 l);refine (A1.out _ h hl hl2).mono ?_;rintro e w3 ⟨rfl,hb1⟩;replace hb1:=undrew hb1;obtain ⟨q1,q2,q3,q4,q5,q6,q7⟩:=(ka2.below hb1).six';obtain ⟨p1,p2,p3,p4,p5,p6,p7⟩:=(kb2.below hb1).six')
     | (go_at_call_of 281 (Value.int .i64 l');refine (A2.out _ h' hl' hl2').mono ?_;rintro e w4 ⟨rfl,hb2⟩;replace hb2:=hb1.trans (hb2.mono hb1.size);obtain ⟨q1,q2,q3,q4,q5,q6,q7⟩:=(ka2.below hb2).six';obtain ⟨p1,p2,p3,p4,p5,p6,p7⟩:=(kb2.below hb2).six'))
  have hB4:=hB2.trans (hb2.mono hB2.size)
  clear hb1 hb2 q1 q2 q3 q4 q5 q6 q7 p1 p2 p3 p4 p5 p6 p7
  go_wp2
  go_ret
  exact ⟨ret_bool (by rw [HM.out,HF.out]),hB4⟩
structure Turn (S:Nat→Prop) (w w':World):Prop where
 os:w'.os=w.os
 tape:w'.tape=w.tape
 output:w'.output=w.output
 size:w.heap.size≤w'.heap.size
 block:∀ k,k<w.heap.size→¬ S k→w'.heap[k]?=w.heap[k]?
theorem Turn.refl (S:Nat→Prop) (w:World):Turn S w w:=⟨rfl,rfl,rfl,Nat.le_refl _,fun _ _ _=>rfl⟩
theorem Turn.trans {S:Nat→Prop} {a b c:World} (h:Turn S a b) (k:Turn S b c):Turn S a c:=
 ⟨k.os.trans h.os,k.tape.trans h.tape,k.output.trans h.output,Nat.le_trans h.size k.size,fun j hj hs=>(k.block j (Nat.lt_of_lt_of_le hj h.size) hs).trans (h.block j hj hs)⟩
theorem Turn.mono {S S':Nat→Prop} {w w':World} (h:Turn S w w') (hs:∀ k,S k→S' k):Turn S' w w':=⟨h.os,h.tape,h.output,h.size,fun k hk hn=>h.block k hk (fun e=>hn (hs k e))⟩
theorem turn_below {S:Nat→Prop} {w w':World} (h:Below w.heap.size w w'):Turn S w w':=⟨h.os,h.tape,h.output,h.size,fun k hk _=>h.block k hk⟩
theorem turn_alloc {S:Nat→Prop} (w:World) (o:Obj):Turn S w (w.alloc o):=turn_below ((Below.refl _ _).alloc (Nat.le_refl _) _)
theorem below_turn {B:Nat} {S:Nat→Prop} {a w w':World} (h:Below B a w) (ht:Turn S w w') (hS:∀ k,S k→B≤k) (hB:B≤w.heap.size):Below B a w':=
 ⟨ht.os.trans h.os,ht.tape.trans h.tape,ht.output.trans h.output,Nat.le_trans h.size ht.size,fun k hk=>(ht.block k (by omega) (fun e=>by have:=hS k e;omega)).trans (h.block k hk)⟩
theorem turn_blk {S:Nat→Prop} {w w':World} {k:Nat} {cs:Array Value} {t:TypeId} (ht:Turn S w w') (h:Blk w k cs t) (hk:¬ S k):Blk w' k cs t:=by
 have:=ht.block k h.lt hk
 unfold Blk at *;rw [this];exact h
theorem turn_bs {S:Nat→Prop} {w w':World} {a:Option Addr} {n cap:Nat} {zs:List Int} (ht:Turn S w w') (h:BS w a n cap zs) (hk:∀ k,S k→∀ b off,a=some ⟨b,off,none⟩→b≠k):BS w' a n cap zs:=by
 obtain ⟨h1,h2,h3,h4,h5⟩:=h
 refine ⟨h1,h2,h3,fun hn=>?_,h5⟩
 obtain ⟨b,off,ha,hc⟩:=h4 hn
 refine ⟨b,off,ha,fun i hi=>?_⟩
 have:=hc i hi
 have hl:=World.block_lt_of_cell? w _ this
 rw [World.cell?_of_block (w:=w) (ht.block b hl (fun e=>hk b e b off ha rfl))]
 exact this
theorem addr_add (b off i:Nat):(Addr.add ⟨b,off,none⟩ i)=⟨b,off+i,none⟩:=by
 simp only [Addr.add]
 split
 ·next h=>subst h;rfl
 ·rfl
def Bst (w:World) (B:Nat) (fd:Bool) (b l o:Int):Prop:=
 Blk w B #[.func (Fn.func 285) #[] #[],.bool fd,.int .i64 b,.int .i64 l,.int .i64 o,.bool false,.bool false,.bool false] 277
theorem Bst.cells {w:World} {B:Nat} {fd:Bool} {b l o:Int} (h:Bst w B fd b l o):
 w.cell? ⟨B,0,none⟩=some (.func (Fn.func 285) #[] #[])∧w.cell? ⟨B,1,none⟩=some (.bool fd)∧w.cell? ⟨B,2,none⟩=some (.int .i64 b)∧w.cell? ⟨B,3,none⟩=some (.int .i64 l)∧w.cell? ⟨B,4,none⟩=some (.int .i64 o)∧w.cell? ⟨B,5,none⟩=some (.bool false)∧w.cell? ⟨B,6,none⟩=some (.bool false)∧w.cell? ⟨B,7,none⟩=some (.bool false)∧∀ i,w.frozen? ⟨B,i,none⟩=false:=
 ⟨by rw [Blk.cell h];rfl,by rw [Blk.cell h];rfl,by rw [Blk.cell h];rfl,by rw [Blk.cell h];rfl,by rw [Blk.cell h];rfl,by rw [Blk.cell h];rfl,by rw [Blk.cell h];rfl,by rw [Blk.cell h];rfl,fun i=>Blk.frozen h i⟩
theorem turn_drew {S:Nat→Prop} {a W:World} (h:Turn S a W) (n:Nat):Turn S a (W.drewN n):=⟨h.os,h.tape,h.output,h.size,h.block⟩
def taken (W:World) (B:Nat) (b l o:Int):World:=
 ((((((W.setCell ⟨B,1,none⟩ (.bool true)).setCell ⟨B,2,none⟩ (.int .i64 b)).setCell ⟨B,3,none⟩ (.int .i64 l)).setCell ⟨B,4,none⟩ (.int .i64 o)).setCell ⟨B,5,none⟩ (.bool false)).setCell ⟨B,6,none⟩ (.bool false)).setCell ⟨B,7,none⟩ (.bool false)
theorem taken_bst {W:World} {B:Nat} {fd:Bool} {b' l' o':Int} (h:Bst W B fd b' l' o') (b l o:Int):Bst (taken W B b l o) B true b l o:=by
 have:=((((((Blk.set h 1 (.bool true)).set 2 (.int .i64 b)).set 3 (.int .i64 l)).set 4 (.int .i64 o)).set 5 (.bool false)).set 6 (.bool false)).set 7 (.bool false)
 unfold Bst taken
 simpa using this
theorem taken_turn (W:World) (B:Nat) (b l o:Int):Turn (fun j=>j=B) W (taken W B b l o):=by
 have T:∀ (X:World) (i:Nat) (v:Value),Turn (fun j=>j=B) X (X.setCell ⟨B,i,none⟩ v):=fun X i v=>⟨rfl,rfl,rfl,by rw [size_setCell];exact Nat.le_refl _,fun j hj hn=>heap_setCell_other _ _ _ _ hn⟩
 unfold taken
 exact ((((((T _ _ _).trans (T _ _ _)).trans (T _ _ _)).trans (T _ _ _)).trans (T _ _ _)).trans (T _ _ _)).trans (T _ _ _)
set_option maxHeartbeats 2000000 in
theorem offer_new (B:Nat) (b l o b' l' o':Int) (w:World) (h:Bst w B false b' l' o'):
 Calls Tryz.prog 293 #[.pointer (some ⟨B,0,none⟩),.agg #[.int .i64 b,.int .i64 l,.int .i64 o,.bool false,.bool false,.bool false]] w fun e w'=>e=.returned (.tuple #[])∧Bst w' B true b l o∧Turn (fun j=>j=B) w w':=by
 have hlt:=Blk.lt h
 obtain ⟨q1,q2,q3,q4,q5,q6,q7,q8,q9⟩:=h.cells
 have HF:=hide (show Bst (w.alloc (.cells #[.int .i64 b,.int .i64 l,.int .i64 o,.bool false,.bool false,.bool false] 135)) B false b' l' o' from Blk.alloc h _)
 have HT:=hide (turn_alloc (S:=fun j=>j=B) w (.cells #[.int .i64 b,.int .i64 l,.int .i64 o,.bool false,.bool false,.bool false] 135))
 clear h
 go_enter Tryz.func293,Tryz.ntmps293
 go_wp2
 go_quiet (fail)
 go_wp2
 go_end0
 exact ⟨rfl,taken_bst (W:=(w.alloc (.cells #[.int .i64 b,.int .i64 l,.int .i64 o,.bool false,.bool false,.bool false] 135)).drewN _) HF.out b l o,(turn_drew HT.out _).trans (taken_turn _ B b l o)⟩
def bstIf (w:World) (B:Nat) (t:Bool) (b l o b' l' o':Int):Prop:=Bst w B true (if t then b else b') (if t then l else l') (if t then o else o')
set_option maxHeartbeats 4000000 in
theorem offer_cmp (B:Nat) (b l b' l':Int) (q q':Nat) (w:World) (h:Bst w B true b' l' (255 - (q':Int))) (hq:q<256) (hq':q'<256) (hl:5≤l) (hl2:l≤14) (hl':5≤l') (hl2':l'≤14):
 Calls Tryz.prog 293 #[.pointer (some ⟨B,0,none⟩),.agg #[.int .i64 b,.int .i64 l,.int .i64 (255 - (q:Int)),.bool false,.bool false,.bool false]] w fun e w'=>e=.returned (.tuple #[])∧bstIf w' B (cm l q l' q') b l (255 - (q:Int)) b' l' (255 - (q':Int))∧Turn (fun j=>j=B) w w':=by
 have hlt:=Blk.lt h
 have C1:=hide (coversMore_any b l b' l' q q')
 have kb:=Blk.new w #[.int .i64 b,.int .i64 l,.int .i64 (255 - (q:Int)),.bool false,.bool false,.bool false] 135
 have hb:Bst (w.alloc (.cells #[.int .i64 b,.int .i64 l,.int .i64 (255 - (q:Int)),.bool false,.bool false,.bool false] 135)) B true b' l' (255 - (q':Int)):=Blk.alloc h _
 have HT:=hide (turn_alloc (S:=fun j=>j=B) w (.cells #[.int .i64 b,.int .i64 l,.int .i64 (255 - (q:Int)),.bool false,.bool false,.bool false] 135))
 obtain ⟨o,ho⟩:∃ o,o=255 - (q:Int):=⟨_,rfl⟩
 obtain ⟨o',ho'⟩:∃ o',o'=255 - (q':Int):=⟨_,rfl⟩
 rw [← ho] at C1 kb hb HT ⊢
 rw [← ho'] at C1 hb ⊢
 clear ho ho' h
 obtain ⟨q1,q2,q3,q4,q5,q6,q7,q8,q9⟩:=hb.cells
 generalize cm l q l' q'=t at *
 go_enter Tryz.func293,Tryz.ntmps293
 go_wp2
 go_region_held3 (fun w'=>w'.cell? ⟨w.heap.size,0,none⟩=some (.int .i64 b)∧w'.cell? ⟨w.heap.size,1,none⟩=some (.int .i64 l)∧w'.cell? ⟨w.heap.size,2,none⟩=some (.int .i64 o)∧w'.cell? ⟨w.heap.size,3,none⟩=some (.bool false)∧w'.cell? ⟨w.heap.size,4,none⟩=some (.bool false)∧w'.cell? ⟨w.heap.size,5,none⟩=some (.bool false)∧w'.cell? ⟨B,0,none⟩=some (.func (Fn.func 285) #[] #[])∧w'.cell? ⟨B,1,none⟩=some (.bool true)∧w'.cell? ⟨B,2,none⟩=some (.int .i64 b')∧w'.cell? ⟨B,3,none⟩=some (.int .i64 l')∧w'.cell? ⟨B,4,none⟩=some (.int .i64 o')∧w'.cell? ⟨B,5,none⟩=some (.bool false)∧w'.cell? ⟨B,6,none⟩=some (.bool false)∧w'.cell? ⟨B,7,none⟩=some (.bool false)) (go_keep)
  (first
    | (go_at_call 285;refine (C1.out _ hq hq' hl hl2 hl' hl2').mono ?_;rintro e w1 ⟨rfl,hb1⟩;replace hb1:=undrew hb1;obtain ⟨p1,p2,p3,p4,p5,p6,p7⟩:=(kb.below hb1).six';obtain ⟨q1,q2,q3,q4,q5,q6,q7,q8,q9⟩:=Bst.cells (show Bst w1 B true b' l' o' from Blk.below hb hb1)))
 have hb':Bst w1 B true b' l' o':=Blk.below hb hb1
 have T1:=HT.out.trans (turn_below (S:=fun j=>j=B) hb1)
 cases t
 ·go_wp2
  go_end0
  exact ⟨rfl,hb',T1⟩
 ·go_wp2
  go_end0
  exact ⟨rfl,taken_bst hb' b l o,T1.trans (taken_turn _ B b l o)⟩
def runq (i0 j:Nat):Nat:=2 ^ (i0+j) - 2 ^ i0
theorem runq_zero (i0:Nat):runq i0 0=0:=by simp [runq]
theorem runq_step:∀ i0,i0<8→∀ j,j<8→i0+j<8→(runq i0 j ||| 2 ^ (i0+j))=runq i0 (j+1):=by decide +kernel
theorem runq_lt:∀ i0,i0<8→∀ j,j<9→i0+j≤8→runq i0 j<256:=by decide +kernel
theorem runq_pop:∀ i0,i0<8→∀ j,j<9→i0+j≤8→popc (runq i0 j)=j:=by decide +kernel
theorem runq_full:∀ i0,i0<8→∀ j,j<9→i0+j≤8→(runq i0 j=255 ↔ j=8):=by decide +kernel
abbrev CSt:=Option (Int × Int × Nat)
def sCnt:CSt→Int
 | none=>0
 | some (b,l,q)=>cnt l q
def StOk (s:CSt) (L:Int):Prop:=∀ b l q,s=some (b,l,q)→5≤l∧l<L∧q<256∧0<cnt l q
def Holds (w:World) (B:Nat):CSt→Prop
 | none=>Bst w B false 0 0 0
 | some (b,l,q)=>Bst w B true b l (255 - (q:Int))
def keep (s:CSt) (b L:Int) (q:Nat):CSt:=if sCnt s<cnt L q then some (b,L,q) else s
theorem cnt_run (l:Int) (P:Int) (hP:(2:Int)^(l - 3).toNat=P) (i0 j:Nat) (h0:i0<8) (h:i0+j≤8):cnt l (runq i0 j)=j * P:=by
 unfold cnt
 rw [hP,runq_pop i0 h0 j (by omega) h]
theorem offer_none (B:Nat) (b l:Int) (q:Nat) (w:World) (h:Holds w B none):
 Calls Tryz.prog 293 #[.pointer (some ⟨B,0,none⟩),.agg #[.int .i64 b,.int .i64 l,.int .i64 (255 - (q:Int)),.bool false,.bool false,.bool false]] w fun e w'=>e=.returned (.tuple #[])∧Holds w' B (some (b,l,q))∧Turn (fun j=>j=B) w w':=
 offer_new B b l (255 - (q:Int)) 0 0 0 w h
theorem offer_some (B:Nat) (b l b' l':Int) (q q':Nat) (w:World) (h:Holds w B (some (b',l',q'))) (hq:q<256) (hq':q'<256) (hl:5≤l) (hl2:l≤14) (hl':5≤l') (hl2':l'≤14):
 Calls Tryz.prog 293 #[.pointer (some ⟨B,0,none⟩),.agg #[.int .i64 b,.int .i64 l,.int .i64 (255 - (q:Int)),.bool false,.bool false,.bool false]] w fun e w'=>e=.returned (.tuple #[])∧Holds w' B (if cm l q l' q' then some (b,l,q) else some (b',l',q'))∧Turn (fun j=>j=B) w w':=
 (offer_cmp B b l b' l' q q' w h hq hq' hl hl2 hl' hl2').mono fun e w' he=>⟨he.1,by
   have:=he.2.1
   cases hc:cm l q l' q'
   ·rw [hc] at this;exact this
   ·rw [hc] at this;exact this,he.2.2⟩
def stJ (s:CSt) (b l:Int) (i0 j:Nat):CSt:=if 8≤l∨j=8 then keep s b l (runq i0 j) else s
theorem stJ_zero (s:CSt) (b l P:Int) (hP:(2:Int)^(l - 3).toNat=P) (i0:Nat) (h0:i0<8) (hs:0≤sCnt s):stJ s b l i0 0=s:=by
 unfold stJ keep
 rw [cnt_run l P hP i0 0 h0 (by omega)]
 simp
 omega
theorem offer_step (B:Nat) (s:CSt) (b l P:Int) (hP:(2:Int)^(l - 3).toNat=P) (hP0:0<P) (i0 j:Nat) (w:World) (h0:i0<8) (hj:i0+j<8) (hl:5≤l) (hl2:l≤14) (hs:StOk s l) (hs0:0≤sCnt s) (h8:8≤l∨j+1=8) (h:Holds w B (stJ s b l i0 j)):
 Calls Tryz.prog 293 #[.pointer (some ⟨B,0,none⟩),.agg #[.int .i64 b,.int .i64 l,.int .i64 (255 - (runq i0 (j+1):Int)),.bool false,.bool false,.bool false]] w fun e w'=>e=.returned (.tuple #[])∧Holds w' B (stJ s b l i0 (j+1))∧Turn (fun j=>j=B) w w':=by
 have hq1:=runq_lt i0 h0 (j+1) (by omega) (by omega)
 have hc1:=cnt_run l P hP i0 (j+1) h0 (by omega)
 have hc0:=cnt_run l P hP i0 j h0 (by omega)
 have hmul:((j+1:Nat):Int) * P=(j:Int) * P+P:=by rw [Int.natCast_add,Int.add_mul];simp
 have hjP:0≤(j:Int) * P:=Int.mul_nonneg (by omega) (by omega)
 have e1:stJ s b l i0 (j+1)=keep s b l (runq i0 (j+1)):=by unfold stJ;rw [if_pos h8]
 rw [e1]
 by_cases hk:8≤l∧sCnt s<cnt l (runq i0 j)
 ·have e0:stJ s b l i0 j=some (b,l,runq i0 j):=by unfold stJ keep;rw [if_pos (Or.inl hk.1),if_pos hk.2]
  rw [e0] at h
  refine (offer_some B b l b l (runq i0 (j+1)) (runq i0 j) w h hq1 (runq_lt i0 h0 j (by omega) (by omega)) hl hl2 hl hl2).mono fun e w' he=>?_
  have hcm:cm l (runq i0 (j+1)) l (runq i0 j)=true:=by unfold cm;rw [hc1,hc0,hmul];simp;omega
  have ek:keep s b l (runq i0 (j+1))=some (b,l,runq i0 (j+1)):=by unfold keep;rw [if_pos (by rw [hc1,hmul];rw [hc0] at hk;omega)]
  rw [hcm] at he
  rw [ek]
  exact he
 ·have e0:stJ s b l i0 j=s:=by
   unfold stJ
   by_cases h8':8≤l
   ·rw [if_pos (Or.inl h8')]
    unfold keep
    rw [if_neg (fun e=>hk ⟨h8',e⟩)]
   ·rw [if_neg (by omega)]
  rw [e0] at h
  match s,h,hs,hs0,hk with
  | none,h,_,_,_=>
    have ek:keep none b l (runq i0 (j+1))=some (b,l,runq i0 (j+1)):=by unfold keep;rw [if_pos (by rw [hc1,hmul];simp [sCnt];omega)]
    rw [ek]
    exact offer_none B b l (runq i0 (j+1)) w h
  | some (b',l',q'),h,hs,hs0,hk=>
    obtain ⟨g1,g2,g3,g4⟩:=hs b' l' q' rfl
    refine (offer_some B b l b' l' (runq i0 (j+1)) q' w h hq1 g3 hl hl2 g1 (by omega)).mono fun e w' he=>?_
    have hcm:cm l (runq i0 (j+1)) l' q'=decide (cnt l' q'<cnt l (runq i0 (j+1))):=by
     unfold cm
     rw [Bool.eq_iff_iff]
     simp
     intro _ h
     omega
    rw [hcm] at he
    by_cases hlt:cnt l' q'<cnt l (runq i0 (j+1))
    ·have ek:keep (some (b',l',q')) b l (runq i0 (j+1))=some (b,l,runq i0 (j+1)):=by
      show (if cnt l' q'<cnt l (runq i0 (j+1)) then some (b,l,runq i0 (j+1)) else some (b',l',q'))=_
      rw [if_pos hlt]
     rw [ek]
     simp only [decide_eq_true hlt,if_true] at he
     exact he
    ·have ek:keep (some (b',l',q')) b l (runq i0 (j+1))=some (b',l',q'):=by
      show (if cnt l' q'<cnt l (runq i0 (j+1)) then some (b,l,runq i0 (j+1)) else some (b',l',q'))=_
      rw [if_neg hlt]
     rw [ek]
     simp only [decide_eq_false hlt] at he
     exact he
theorem holds_turn {S:Nat→Prop} {w w':World} {B:Nat} {s:CSt} (t:Turn S w w') (h:Holds w B s) (hk:¬ S B):Holds w' B s:=by
 match s,h with
 | none,h=>exact turn_blk t h hk
 | some (b,l,q),h=>exact turn_blk t h hk
theorem base_ok (a l N:Int) (hl:5≤l) (hl2:l≤14) (hN:(2:Int)^l.toNat=N) (h0:0≤a) (h1:a<262144):0≤a - a % N∧a - a % N≤262144 - N∧(a - a % N) % N=0∧0≤a % N∧a % N<N:=by
 have:l=5∨l=6∨l=7∨l=8∨l=9∨l=10∨l=11∨l=12∨l=13∨l=14:=by omega
 rcases this with rfl | rfl | rfl | rfl | rfl | rfl | rfl | rfl | rfl | rfl <;> (subst hN;simp;omega)
theorem pow_split (l:Int) (hl:5≤l):(2:Int)^l.toNat=8 * (2:Int)^(l - 3).toNat:=by
 have:l.toNat=(l - 3).toNat+3:=by omega
 rw [this,Int.pow_add]
 omega
theorem pow_four (l:Int) (hl:5≤l) (hl2:l≤14):4≤(2:Int)^(l - 3).toNat∧(2:Int)^(l - 3).toNat≤2048:=by
 have:l=5∨l=6∨l=7∨l=8∨l=9∨l=10∨l=11∨l=12∨l=13∨l=14:=by omega
 rcases this with rfl | rfl | rfl | rfl | rfl | rfl | rfl | rfl | rfl | rfl <;> simp
theorem not_run (q:Nat) (h:q<256):bits BinOp.xor IntKind.u8 IntKind.u8.max (q:Int)=255 - (q:Int):=by
 have:=cv_xor (255 - q) (by omega)
 have e:(255 - ((255 - q:Nat):Int))=(q:Int):=by omega
 rw [e] at this
 rw [this]
 omega
def BehindP (s:CSt) (a en l P b:Int) (i0:Nat) (s':CSt):Prop:=
 (a % P≠0∧s'=s) ∨
 (a % P=0∧∃ j:Nat,i0+j≤8∧(b+((i0+j:Nat):Int) * P≤en∨j=0)∧(i0+j=8∨en<b+(((i0+j:Nat):Int)+1) * P)∧s'=stJ s b l i0 j)
theorem cv_in {S:Nat→Prop} {a w w':World} (h:Turn S a w) (hb:Below w.heap.size w w'):Turn S a w':=h.trans (turn_below hb)
set_option maxHeartbeats 2000000 in
theorem offerRuns_any (B:Nat) (s:CSt) (a en l P N b:Int) (i0:Nat) (w:World) (hl:5≤l) (hl2:l≤14) (ha:0≤a) (hae:a<en) (hen:en≤262144) (hs:StOk s l) (hs0:0≤sCnt s) (hP:(2:Int)^(l - 3).toNat=P) (hN:(2:Int)^l.toNat=N) (hb:a - a % N=b) (hi:(a - b) / P=(i0:Int)) (h:Holds w B s):
 Calls Tryz.prog 286 #[.pointer (some ⟨B,0,none⟩),.int .i64 a,.int .i64 en,.int .i64 l] w fun e w'=>e=.returned (.tuple #[])∧(∃ s',Holds w' B s'∧BehindP s a en l P b i0 s')∧Turn (fun j=>j=B) w w':=by
 obtain ⟨p4,p5⟩:=pow_four l hl hl2
 obtain ⟨b0,b1,b2,b3,b4⟩:=base_ok a l N hl hl2 hN ha (by omega)
 have hNP:=pow_split l hl
 rw [hP,hN] at hNP
 have hN1:N≤16384:=by rw [hP] at p5;omega
 have hN0:0<N:=by rw [hP] at p4;omega
 rw [hb] at b0 b1 b2
 rw [hP] at p4 p5
 have hP':=hide hP
 have hN':=hide hN
 have hab:a - b=a % N:=by omega
 have hi8:i0<8:=by
  have:(a - b) / P<8:=by
   apply Int.ediv_lt_of_lt_mul (by omega)
   omega
  omega
 by_cases hm:a % P=0
 ·have hab2:a=b+(i0:Int) * P:=by
   have e1:(a % N) % P=0:=by
    rw [hNP,Int.emod_emod_of_dvd a (Int.dvd_mul_left 8 P)]
    exact hm
   have e2:=Int.mul_ediv_add_emod (a - b) P
   rw [hi,hab,e1,Int.mul_comm] at e2
   omega
  have HK:=hide (stJ_zero s b l P hP i0 hi8 hs0)
  have HS:=hide hs
  have HNP:=hide hNP
  have HAB:=hide hab2
  have HAB1:=hide hab
  have HH:=hide h
  have HB2:=hide b2
  have HM:=hide hm
  clear hNP hs hab2 hab h b2
  go_enter Tryz.func286,Tryz.ntmps286
  go_wp2
  go_loopw [10,11] (fun r i wr=>∃ j:Nat,i0+j≤8∧r=.int .u8 (runq i0 j:Nat)∧i=.int .i64 ((i0+j:Nat):Int)∧(b+((i0+j:Nat):Int) * P≤en∨j=0)∧Holds wr B (stJ s b l i0 j)∧Turn (fun j=>j=B) w wr) (fun _ i _=>8 - (intOf i).toNat)
  case atStart=>exact ⟨0,by omega,by rw [runq_zero];rfl,by rw [hi];rfl,Or.inr rfl,by rw [HK.out];exact HH.out,Turn.refl _ _⟩
  case round=>
   obtain ⟨j,hj,rfl,rfl,hq,hH,hT⟩:=hrel
   obtain ⟨k,hk⟩:∃ k:Nat,k=i0+j:=⟨_,rfl⟩
   have hkP:((k:Int)+1) * P=(k:Int) * P+P:=by rw [Int.add_mul];simp
   have hkP0:0≤(k:Int) * P:=Int.mul_nonneg (by omega) (by omega)
   have hkP1:(k:Int) * P≤8 * P:=Int.mul_le_mul_of_nonneg_right (by omega) (by omega)
   have hm0:0≤((k:Int)+1) * P:=by omega
   have hm1:((k:Int)+1) * P≤18432:=by omega
   rw [← hk] at hj hq ⊢
   have HKP:=hide hkP
   have HQ:=hide hq
   have HHH:=hide hH
   have HT:=hide hT
   have HKK:=hide hk
   have HI:=hide hi
   have HBB:=hide hb
   clear hkP hkP0 hkP1 hq hH hT hk hi hb hP hN b3 b4 hm
   by_cases h8:k<8
   ·by_cases hle:b+((k:Int)+1) * P≤en
    ·have HLE:=hide hle
     have hq0:=runq_lt i0 hi8 j (by have:=HKK.out;omega) (by have:=HKK.out;omega)
     have hq1:=runq_lt i0 hi8 (j+1) (by have:=HKK.out;omega) (by have:=HKK.out;omega)
     have HST:=hide (runq_step i0 hi8 j (by have:=HKK.out;omega) (by have:=HKK.out;omega))
     rw [← HKK.out] at HST
     have HNR:=hide (not_run (runq i0 (j+1)) hq1)
     have HROK:=hide (show rok b l (255 - (runq i0 (j+1):Int))=decide (8≤l∨j+1=8) from by
      have hf:=runq_full i0 hi8 (j+1) (by have:=HKK.out;omega) (by have:=HKK.out;omega)
      unfold rok
      rw [hN'.out]
      have:=HB2.out
      rw [Bool.eq_iff_iff]
      simp only [decide_eq_true_eq]
      constructor
      ·rintro ⟨_,_,_,_,h | h,_⟩
       ·exact Or.inl h
       ·exact Or.inr (hf.1 (by omega))
      ·intro h
       refine ⟨hl,hl2,by omega,by omega,?_,by omega,by omega,HB2.out⟩
       rcases h with h | h
       ·exact Or.inl h
       ·exact Or.inr (by have:=hf.2 h;omega))
     go_wp2_with fail
     refine (with_any (runq i0 j) k _ hq0 h8).mono ?_
     rintro e w1 ⟨rfl,rfl⟩
     rw [HST.out]
     obtain ⟨q,hq⟩:∃ q,q=runq i0 (j+1):=⟨_,rfl⟩
     rw [← hq] at HNR HROK hq1 ⊢
     have HQQ:=hide hq
     clear hq
     have hwf:(Lit.int .i64 b).wf=true:=by simp [Lit.wf,IntKind.min,IntKind.max,IntKind.bits,IntKind.signed];omega
     go_wp2_with fail
     rw [HNR.out]
     rw [show wrap64 (255 - (q:Int))=255 - (q:Int) from by unfold wrap64;omega]
     refine (iRegionOk_any b l (255 - (q:Int)) false false false _ hwf).mono ?_
     rintro e w2 ⟨rfl,hb2⟩
     obtain ⟨q1,q2,q3,q4,q5,q6,q7⟩:=(Blk.below (Blk.new wr #[.int .i64 b,.int .i64 l,.int .i64 (255 - (q:Int)),.bool false,.bool false,.bool false] 135) hb2).six'
     have HT2:=hide (cv_in (cv_in HT.out ((Below.refl _ _).alloc (Nat.le_refl _) (.cells #[.int .i64 b,.int .i64 l,.int .i64 (255 - (q:Int)),.bool false,.bool false,.bool false] 135))) hb2)
     have HH2:=hide (holds_turn (S:=fun _=>False) (turn_below hb2) (holds_turn (S:=fun _=>False) (turn_alloc wr (.cells #[.int .i64 b,.int .i64 l,.int .i64 (255 - (q:Int)),.bool false,.bool false,.bool false] 135)) HHH.out id) id)
     rw [HROK.out]
     clear hb2
     by_cases hc:8≤l∨j+1=8
     ·simp only [hc,decide_true]
      have HOF:=hide (offer_step B s b l P hP'.out (by omega) i0 j w2 hi8 (by have:=HKK.out;omega) hl hl2 HS.out hs0 hc HH2.out)
      rw [← HQQ.out] at HOF
      go_wp2_with fail
      refine HOF.out.mono ?_
      rintro e w3 ⟨rfl,hH3,hT3⟩
      have HH3:=hide hH3
      have HT3:=hide (HT2.out.trans hT3)
      clear hH3 hT3
      go_wp2_with fail
      go_roundw
      case rel=>exact ⟨j+1,by have:=HKK.out;omega,by rw [HQQ.out],by rw [HKK.out];go_num,Or.inl (by have:=HLE.out;have e:=HKK.out;rw [show ((i0+(j+1):Nat):Int)=(k:Int)+1 by omega];exact this),HH3.out,HT3.out⟩
      case measure=>simp [intOf];omega
     ·simp only [hc,decide_false]
      have HH3:=hide (show Holds w2 B (stJ s b l i0 (j+1)) from by
       have e1:stJ s b l i0 (j+1)=s:=by unfold stJ;rw [if_neg hc]
       have e2:stJ s b l i0 j=s:=by unfold stJ;rw [if_neg (by have:=HKK.out;omega)]
       rw [e1,← e2]
       exact HH2.out)
      go_wp2_with fail
      go_roundw
      case rel=>exact ⟨j+1,by have:=HKK.out;omega,by rw [HQQ.out],by rw [HKK.out];go_num,Or.inl (by have:=HLE.out;have e:=HKK.out;rw [show ((i0+(j+1):Nat):Int)=(k:Int)+1 by omega];exact this),HH3.out,HT2.out⟩
      case measure=>simp [intOf];omega
    ·have HLE:=hide hle
     go_wp2
     go_end0
     exact ⟨rfl,⟨_,HHH.out,Or.inr ⟨HM.out,j,by have:=HKK.out;omega,by rw [← HKK.out];exact HQ.out,by rw [← HKK.out];exact Or.inr (by have:=HLE.out;omega),rfl⟩⟩,HT.out⟩
   ·go_wp2
    go_end0
    exact ⟨rfl,⟨_,HHH.out,Or.inr ⟨HM.out,j,by have:=HKK.out;omega,by rw [← HKK.out];exact HQ.out,Or.inl (by have:=HKK.out;omega),rfl⟩⟩,HT.out⟩
 ·have hm':(a % P != 0)=true:=by simpa using hm
  have HN:=hide hm
  clear hm
  go_enter Tryz.func286,Tryz.ntmps286
  go_wp2
  (try simp only [Exit.inBlock,Exit.then]);refine bodyPost_ret (results_none rfl _ _ _) rfl ?_
  exact ⟨rfl,⟨s,h,Or.inl ⟨HN.out,rfl⟩⟩,Turn.refl _ _⟩
def baseOf (a l:Int):Int:=a - a % (2:Int)^l.toNat
def i0Of (a l:Int):Nat:=((a % (2:Int)^l.toNat) / (2:Int)^(l - 3).toNat).toNat
def jOf (a en l:Int):Nat:=min (8 - i0Of a l) ((en - a) / (2:Int)^(l - 3).toNat).toNat
def qOf (a en l:Int):Nat:=
 if l<8 then (if a % (2:Int)^l.toNat=0∧a+(2:Int)^l.toNat≤en then 255 else 0)
 else if a % (2:Int)^(l - 3).toNat=0 then runq (i0Of a l) (jOf a en l) else 0
theorem cnt_zero (l:Int):cnt l 0=0:=by simp [cnt,popc]
theorem keep_zero (s:CSt) (b l:Int) (h:0≤sCnt s):keep s b l 0=s:=by
 unfold keep
 rw [cnt_zero,if_neg (by omega)]
theorem parts (a l P N:Int) (hl:5≤l) (hl2:l≤14) (hP:(2:Int)^(l - 3).toNat=P) (hN:(2:Int)^l.toNat=N) (ha:0≤a) (ha2:a<262144):
 N=8 * P∧4≤P∧P≤2048∧(a % N) % P=a % P∧i0Of a l<8∧(a % P=0→a % N=(i0Of a l:Int) * P)∧(a - baseOf a l) / P=(i0Of a l:Int):=by
 obtain ⟨p4,p5⟩:=pow_four l hl hl2
 have hNP:=pow_split l hl
 rw [hP,hN] at hNP
 rw [hP] at p4 p5
 obtain ⟨b0,b1,b2,b3,b4⟩:=base_ok a l N hl hl2 hN ha ha2
 have hd:(a % N) % P=a % P:=by rw [hNP,Int.emod_emod_of_dvd a (Int.dvd_mul_left 8 P)]
 have h0:0≤(a % N) / P:=Int.ediv_nonneg b3 (by omega)
 have h8:(a % N) / P<8:=Int.ediv_lt_of_lt_mul (by omega) (by omega)
 have hi:((i0Of a l:Nat):Int)=(a % N) / P:=by unfold i0Of;rw [hP,hN];omega
 refine ⟨hNP,p4,p5,hd,by omega,fun hm=>?_,?_⟩
 ·have e2:=Int.mul_ediv_add_emod (a % N) P
  rw [hd,hm,← hi,Int.mul_comm] at e2
  omega
 ·unfold baseOf
  rw [hN,hi]
  congr 1
  omega
theorem j_is (a en l P N:Int) (hl:5≤l) (hl2:l≤14) (hP:(2:Int)^(l - 3).toNat=P) (hN:(2:Int)^l.toNat=N) (ha:0≤a) (hae:a<en) (hen:en≤262144) (hm:a % P=0) (j:Nat) (h1:i0Of a l+j≤8)
 (h2:baseOf a l+((i0Of a l+j:Nat):Int) * P≤en∨j=0) (h3:i0Of a l+j=8∨en<baseOf a l+(((i0Of a l+j:Nat):Int)+1) * P):j=jOf a en l∧a+(j:Int) * P≤en:=by
 obtain ⟨g1,g2,g3,g4,g5,g6,g7⟩:=parts a l P N hl hl2 hP hN ha (by omega)
 have hb:baseOf a l=a - a % N:=by unfold baseOf;rw [hN]
 have e1:((i0Of a l+j:Nat):Int) * P=(i0Of a l:Int) * P+(j:Int) * P:=by rw [Int.natCast_add,Int.add_mul]
 have e2:(((i0Of a l+j:Nat):Int)+1) * P=(i0Of a l:Int) * P+(j:Int) * P+P:=by rw [Int.add_mul,e1];omega
 rw [hb,g6 hm,e1] at h2
 rw [hb,g6 hm,e2] at h3
 have hjP:a+(j:Int) * P≤en:=by
  rcases h2 with h | h
  ·omega
  ·subst h;simp;omega
 have hd:(j:Int)≤(en - a) / P:=Int.le_ediv_of_mul_le (by omega) (by omega)
 refine ⟨?_,hjP⟩
 unfold jOf
 rw [hP]
 rcases h3 with h | h
 ·omega
 ·have:(en - a) / P<(j:Int)+1:=Int.ediv_lt_of_lt_mul (by omega) (by rw [Int.add_mul];omega)
  omega
theorem behind_keep (s s':CSt) (a en l P N:Int) (hl:5≤l) (hl2:l≤14) (hP:(2:Int)^(l - 3).toNat=P) (hN:(2:Int)^l.toNat=N) (ha:0≤a) (hae:a<en) (hen:en≤262144) (hs:0≤sCnt s)
 (h:BehindP s a en l P (baseOf a l) (i0Of a l) s'):s'=keep s (baseOf a l) l (qOf a en l):=by
 obtain ⟨g1,g2,g3,g4,g5,g6,g7⟩:=parts a l P N hl hl2 hP hN ha (by omega)
 rcases h with ⟨hm,rfl⟩ | ⟨hm,j,h1,h2,h3,rfl⟩
 ·have hq:qOf a en l=0:=by
   unfold qOf
   rw [hP,hN]
   by_cases h8:l<8
   ·rw [if_pos h8,if_neg]
    rintro ⟨h,_⟩
    rw [h] at g4
    simp at g4
    exact hm g4.symm
   ·rw [if_neg h8,if_neg hm]
  rw [hq,keep_zero _ _ _ hs]
 ·obtain ⟨hj,hjP⟩:=j_is a en l P N hl hl2 hP hN ha hae hen hm j h1 h2 h3
  have g6':=g6 hm
  unfold stJ qOf
  rw [hP,hN]
  by_cases h8:l<8
  ·rw [if_pos h8]
   by_cases h88:j=8
   ·have:i0Of a l=0:=by omega
    rw [this] at g6'
    simp at g6'
    subst h88
    rw [if_pos (Or.inr rfl),if_pos ⟨g6',by omega⟩,this]
    rfl
   ·rw [if_neg (by omega),if_neg,keep_zero _ _ _ hs]
    rintro ⟨k1,k2⟩
    rw [k1] at g6'
    have hi0:i0Of a l=0:=by
     have:(i0Of a l:Int)=0:=by
      rcases Int.mul_eq_zero.1 g6'.symm with h | h
      ·exact h
      ·omega
     omega
    have hd:(8:Int)≤(en - a) / P:=Int.le_ediv_of_mul_le (by omega) (by omega)
    unfold jOf at hj
    rw [hP] at hj
    omega
  ·rw [if_pos (Or.inl (by omega)),if_neg h8,if_pos hm,← hj]
def cvFold (a en:Int) (n:Nat):CSt:=
 if h:n=0 then none else keep (cvFold a en (n - 1)) (baseOf a (5+((n - 1:Nat):Int))) (5+((n - 1:Nat):Int)) (qOf a en (5+((n - 1:Nat):Int)))
theorem cvFold_none (a en:Int):cvFold a en 0=none:=by rw [cvFold,dif_pos rfl]
theorem cvFold_succ (a en:Int) (n:Nat):cvFold a en (n+1)=keep (cvFold a en n) (baseOf a (5+n)) (5+n) (qOf a en (5+n)):=by
 rw [cvFold,dif_neg (by omega)]
 rfl
theorem cnt_nonneg (l:Int) (q:Nat):0≤cnt l q:=by
 unfold cnt
 exact Int.mul_nonneg (by omega) (Int.le_of_lt (pow_pos _))
theorem sCnt_nonneg (s:CSt):0≤sCnt s:=by
 match s with
 | none=>exact Int.le_refl _
 | some (b,l,q)=>exact cnt_nonneg l q
theorem qOf_lt (a en l:Int) (hl:5≤l) (hl2:l≤14) (ha:0≤a) (ha2:a<262144):qOf a en l<256:=by
 obtain ⟨g1,g2,g3,g4,g5,g6,g7⟩:=parts a l _ _ hl hl2 rfl rfl ha ha2
 unfold qOf
 split
 ·split <;> omega
 ·split
  ·apply runq_lt _ g5 <;> (unfold jOf;omega)
  ·omega
theorem cvFold_ok (a en:Int) (ha:0≤a) (ha2:a<262144):∀ n:Nat,n≤10→StOk (cvFold a en n) (5+n)
 | 0,_=>fun b l q h=>by rw [cvFold_none] at h;cases h
 | n+1,hn=>by
   have ih:=cvFold_ok a en ha ha2 n (by omega)
   intro b l q h
   rw [cvFold_succ] at h
   unfold keep at h
   split at h
   ·rename_i hlt
    simp at h
    obtain ⟨rfl,rfl,rfl⟩:=h
    refine ⟨by omega,by omega,qOf_lt a en _ (by omega) (by omega) ha ha2,?_⟩
    have:=sCnt_nonneg (cvFold a en n)
    omega
   ·obtain ⟨k1,k2,k3,k4⟩:=ih b l q h
    exact ⟨k1,by omega,k3,k4⟩
set_option maxHeartbeats 2000000 in
theorem widest_any (a en:Int) (w:World) (ha:0≤a) (hae:a<en) (hen:en≤262144) (b l:Int) (q:Nat) (hF:cvFold a en 10=some (b,l,q)):
 Calls Tryz.prog 280 #[.int .i64 a,.int .i64 en] w fun e w'=>e=.returned (.agg #[.int .i64 b,.int .i64 l,.int .i64 (255 - (q:Int)),.bool false,.bool false,.bool false])∧Below w.heap.size w w':=by
 have HF:=hide hF
 clear hF
 have HA:=hide (And.intro ha (And.intro hae hen))
 go_enter Tryz.func280,Tryz.ntmps280
 go_wp2
 go_loopw [6] (fun x wr=>∃ n:Nat,n≤10∧x=.int .i64 (5+(n:Int))∧Holds wr (w.heap.size+1) (cvFold a en n)∧Blk wr w.heap.size #[.int .i64 0,.int .i64 0,.int .i64 0,.bool false,.bool false,.bool false] 135∧Below w.heap.size w wr) (fun x _=>15 - (intOf x).toNat)
 case atStart=>
  refine ⟨0,by omega,rfl,?_,?_,?_⟩
  ·rw [cvFold_none]
   have:=Blk.new (w.alloc (.cells #[.int .i64 0,.int .i64 0,.int .i64 0,.bool false,.bool false,.bool false] 135)) #[.func (Fn.func 285) #[] #[],.bool false,.int .i64 0,.int .i64 0,.int .i64 0,.bool false,.bool false,.bool false] 277
   simp only [World.size_alloc] at this
   exact this
  ·exact (Blk.new w _ _).alloc _
  ·exact ((Below.refl _ _).alloc (Nat.le_refl _) _).alloc (by simp) _
 case round=>
  obtain ⟨n,hn,rfl,hH,hZ,hB⟩:=hrel
  have HH:=hide hH
  have HB:=hide hB
  have HZ:=hide hZ
  clear hH hB hZ
  by_cases hlt:n<10
  ·have hsz:=HB.out.size
   have HC:=hide (offerRuns_any (w.heap.size+1) (cvFold a en n) a en (5+(n:Int)) _ _ _ (i0Of a (5+(n:Int))) wr (by omega) (by omega) ha hae hen (cvFold_ok a en ha (by omega) n (by omega)) (sCnt_nonneg _) rfl rfl rfl (parts a (5+(n:Int)) _ _ (by omega) (by omega) rfl rfl ha (by omega)).2.2.2.2.2.2 HH.out)
   go_wp2_with fail
   refine HC.out.mono ?_
   rintro e w1 ⟨rfl,⟨s',hs',hb'⟩,t1⟩
   have hk:=behind_keep _ _ a en (5+(n:Int)) _ _ (by omega) (by omega) rfl rfl ha hae hen (sCnt_nonneg _) hb'
   have H1:=hide (show Holds w1 (w.heap.size+1) (cvFold a en (n+1)) from by rw [hk] at hs';rw [cvFold_succ];exact hs')
   have Z1:=hide (turn_blk t1 HZ.out (by omega))
   have B1:=hide (below_turn HB.out t1 (fun k e=>by omega) hsz)
   clear hk hs' hb' t1 HC
   go_wp2_with fail
   go_roundw
   case rel=>exact ⟨n+1,by omega,by go_num,H1.out,Z1.out,B1.out⟩
   case measure=>simp [intOf];omega
  ·have hn10:n=10:=by omega
   subst hn10
   rw [HF.out] at HH
   have HC:=hide (Bst.cells HH.out)
   obtain ⟨q1,q2,q3,q4,q5,q6,q7,q8,q9⟩:=HC.out
   obtain ⟨p1,p2,p3,p4,p5,p6,p7⟩:=HZ.out.six'
   have HK:=hide (Blk.set (Blk.set (Blk.set (Blk.set (Blk.set (Blk.set HZ.out 0 (.int .i64 b)) 1 (.int .i64 l)) 2 (.int .i64 (255 - (q:Int)))) 3 (.bool false)) 4 (.bool false)) 5 (.bool false))
   go_wp2
   refine bodyPost_ret (results_cell_row rfl _ _ w.heap.size 135 #[.int .i64 b,.int .i64 l,.int .i64 (255 - (q:Int)),.bool false,.bool false,.bool false] (0,0) _ rfl (by exact HK.out) Tryz.underlying135 rfl (by kernel_rfl)) rfl ⟨rfl,?_⟩
   exact (((((HB.out.setCell (Nat.le_refl _) _).setCell (Nat.le_refl _) _).setCell (Nat.le_refl _) _).setCell (Nat.le_refl _) _).setCell (Nat.le_refl _) _).setCell (Nat.le_refl _) _
abbrev Rg:=Int × Int × Int × Bool × Bool × Bool
def z6:Rg:=(0,0,0,false,false,false)
def At6 (w:World) (b o:Nat) (g:Rg):Prop:=
 w.cell? ⟨b,o,none⟩=some (.int .i64 g.1)∧w.cell? ⟨b,o+1,none⟩=some (.int .i64 g.2.1)∧w.cell? ⟨b,o+2,none⟩=some (.int .i64 g.2.2.1) ∧
 w.cell? ⟨b,o+3,none⟩=some (.bool g.2.2.2.1)∧w.cell? ⟨b,o+4,none⟩=some (.bool g.2.2.2.2.1)∧w.cell? ⟨b,o+5,none⟩=some (.bool g.2.2.2.2.2)
def wfi (z:Int):Prop:=-9223372036854775808≤z∧z≤9223372036854775807
def RS (w:World) (a:Option Addr) (n cap:Nat) (rs:List Rg):Prop:=
 rs.length=n∧n≤maxLen∧(∀ g ∈ rs,wfi g.1∧wfi g.2.1∧wfi g.2.2.1)∧(n≠0→∃ b off,a=some ⟨b,off,none⟩∧∀ i,i<n→At6 w b (off+i * 6) (rs.getD i z6))∧n≤cap
theorem At6.below {w w':World} {b o:Nat} {g:Rg} (h:At6 w b o g) (hb:Below w.heap.size w w'):At6 w' b o g:=by
 obtain ⟨h1,h2,h3,h4,h5,h6⟩:=h
 have hl:b<w.heap.size:=World.block_lt_of_cell? w _ h1
 unfold At6
 rw [hb.cell (p:=⟨b,o,none⟩) hl,hb.cell (p:=⟨b,o+1,none⟩) hl,hb.cell (p:=⟨b,o+2,none⟩) hl,hb.cell (p:=⟨b,o+3,none⟩) hl,hb.cell (p:=⟨b,o+4,none⟩) hl,hb.cell (p:=⟨b,o+5,none⟩) hl]
 exact ⟨h1,h2,h3,h4,h5,h6⟩
theorem RS.below {w w':World} {a:Option Addr} {n cap:Nat} {rs:List Rg} (h:RS w a n cap rs) (hb:Below w.heap.size w w'):RS w' a n cap rs:=by
 obtain ⟨h1,h2,h3,h4,h5⟩:=h
 refine ⟨h1,h2,h3,fun hn=>?_,h5⟩
 obtain ⟨b,off,ha,hc⟩:=h4 hn
 exact ⟨b,off,ha,fun i hi=>(hc i hi).below hb⟩
theorem RS.some {w:World} {a:Option Addr} {n cap:Nat} {rs:List Rg} (h:RS w a n cap rs) (hn:n≠0):∃ b off,a=Option.some ⟨b,off,none⟩:=by
 obtain ⟨b,off,e,_⟩:=h.2.2.2.1 hn
 exact ⟨b,off,e⟩
theorem RS.at {w:World} {b off n cap:Nat} {rs:List Rg} (h:RS w (Option.some ⟨b,off,none⟩) n cap rs) (i:Nat) (hi:i<n):At6 w b (off+i * 6) (rs.getD i z6):=by
 obtain ⟨b',off',e,hd⟩:=h.2.2.2.1 (by omega)
 simp at e
 obtain ⟨rfl,rfl⟩:=e
 exact hd i hi
theorem infoR:(Tryz.prog.info? 135).map (fun i=>(i.zero,i.size,i.bytes))=some (some (.agg #[.int .i64 0,.int .i64 0,.int .i64 0,.bool false,.bool false,.bool false]),6,32):=by kernel_rfl
def cells6 (g:Rg):List Value:=[.int .i64 g.1,.int .i64 g.2.1,.int .i64 g.2.2.1,.bool g.2.2.2.1,.bool g.2.2.2.2.1,.bool g.2.2.2.2.2]
def flat (rs:List Rg):List Value:=rs.flatMap cells6
theorem flat6_len:∀ rs:List Rg,(flat rs).length=rs.length * 6
 | []=>rfl
 | g :: rs=>by simp only [flat,List.flatMap_cons,List.length_append];have:=flat6_len rs;simp only [flat] at this;rw [this];simp [cells6];omega
theorem flat6_get:∀ (rs:List Rg) (i j:Nat),i<rs.length→j<6→(flat rs)[i * 6+j]?=(cells6 (rs.getD i z6))[j]?
 | [],i,j,h,_=>absurd h (by simp)
 | g :: rs,0,j,_,hj=>by
   simp only [flat,List.flatMap_cons]
   rw [List.getElem?_append_left (by simp [cells6];omega)]
   simp
 | g :: rs,i+1,j,h,hj=>by
   have hh:=flat6_get rs i j (by simpa using h) hj
   simp only [flat,List.flatMap_cons] at hh ⊢
   rw [List.getElem?_append_right (by simp [cells6];omega)]
   have e:(i+1) * 6+j - (cells6 g).length=i * 6+j:=by simp [cells6];omega
   rw [e,hh]
   simp
def ORg (w:World) (base:Nat) (v:Value) (rs:List Rg):Prop:=w.ownsRow base 135 6 v rs.length (flat rs)∧∀ g ∈ rs,wfi g.1∧wfi g.2.1∧wfi g.2.2.1
theorem or_rs {w:World} {base n cap:Nat} {a:Option Addr} {rs:List Rg} (h:ORg w base (.slice a n cap) rs):RS w a n cap rs:=by
 obtain ⟨hl,⟨h0,h0'⟩ | ⟨g,cap',cur,hv,hg,hh,h1,h2,h3,h4⟩⟩:=h.1
 ·simp at h0
  obtain ⟨rfl,rfl,rfl⟩:=h0
  exact ⟨h0',Nat.zero_le _,h.2,fun hn=>absurd rfl hn,Nat.le_refl _⟩
 ·simp at hv
  obtain ⟨rfl,rfl,rfl⟩:=hv
  refine ⟨rfl,by omega,h.2,fun hn=>⟨g,0,rfl,fun i hi=>?_⟩,h1⟩
  have hc:∀ j,j<6→w.cell? ⟨g,0+i * 6+j,none⟩=(cells6 (rs.getD i z6))[j]?:=by
   intro j hj
   rw [Blk.cell (w:=w) hh]
   have:cur.toList[0+i * 6+j]?=(flat rs)[i * 6+j]?:=by
    rw [← h4,List.getElem?_take,if_pos (by omega),Nat.zero_add]
   rw [Array.getElem?_toList] at this
   rw [this,flat6_get rs i j hi hj]
  exact ⟨hc 0 (by omega),hc 1 (by omega),hc 2 (by omega),hc 3 (by omega),hc 4 (by omega),hc 5 (by omega)⟩
theorem turn_or {S:Nat→Prop} {base:Nat} {w w':World} {v:Value} {rs:List Rg} (t:Turn S w w') (h:ORg w base v rs) (hk:∀ k,base≤k→¬ S k):ORg w' base v rs:=by
 refine ⟨?_,h.2⟩
 obtain ⟨hl,h0 | ⟨g',cap,cur,hv,hg,hh,h1,h2,h3,h4⟩⟩:=h.1
 ·exact ⟨hl,.inl h0⟩
 ·exact ⟨hl,.inr ⟨g',cap,cur,hv,hg,turn_blk t hh (hk g' hg),h1,h2,h3,h4⟩⟩
theorem or_empty (w:World) (base:Nat) (hb:base≤w.heap.size):ORg (w.alloc (.cells #[] 135)) base (.slice (some ⟨w.heap.size,0,none⟩) 0 0) []:=
 ⟨⟨rfl,.inr ⟨w.heap.size,0,#[],rfl,hb,heap_alloc_new w _,Nat.le_refl _,Nat.zero_le _,rfl,rfl⟩⟩,fun _ h=>by cases h⟩
theorem or_shape {w:World} {base n:Nat} {t:TypeId} {sz:Nat} {v:Value} {xs:List Value} (h:w.ownsRow base t sz v n xs):∃ a cap,v=.slice a n cap:=by
 obtain ⟨_,⟨rfl,rfl⟩ | ⟨g,cap,cur,rfl,_⟩⟩:=h
 ·exact ⟨_,_,rfl⟩
 ·exact ⟨_,_,rfl⟩
theorem news6 (w:World) (g:Rg):∀ j u,(cells6 g)[j]?=some u→(w.alloc (.cells #[.int .i64 g.1,.int .i64 g.2.1,.int .i64 g.2.2.1,.bool g.2.2.2.1,.bool g.2.2.2.2.1,.bool g.2.2.2.2.2] 135)).cell? ((⟨w.heap.size,0,none⟩:Addr).add j)=some u:=by
 intro j u hj
 rw [addr_add,Nat.zero_add,Blk.cell (Blk.new w _ _),← hj]
 match j with
 | 0=>rfl
 | 1=>rfl
 | 2=>rfl
 | 3=>rfl
 | 4=>rfl
 | 5=>rfl
 | j+6=>rfl
theorem one6 (g:Rg):∀ u ∈ cells6 g,u.oneCell'=true:=by
 intro u hu
 simp [cells6] at hu
 rcases hu with rfl | rfl | rfl | rfl | rfl | rfl <;> rfl
theorem or_more {W W':World} {base:Nat} {v v':Value} {rs:List Rg} {g:Rg} (hr:∀ g ∈ rs,wfi g.1∧wfi g.2.1∧wfi g.2.2.1) (hw:wfi g.1∧wfi g.2.1∧wfi g.2.2.1) (h:W'.ownsRow base 135 6 v' (rs.length+1) (flat rs++cells6 g)):ORg W' base v' (rs++[g]):=by
 refine ⟨by simpa [flat] using h,fun y hy=>?_⟩
 rcases List.mem_append.1 hy with hy | hy
 ·exact hr y hy
 ·simp at hy;subst hy;exact hw
theorem grown_turn {W W':World} {row:Option Nat} (h:W.grownBy W' row):Turn (fun j=>row=some j) W W':=⟨h.os,h.tape,h.output,h.size,fun k hk hn=>h.block k hk (fun e=>hn e.symm)⟩
theorem pow_32 (l:Int) (hl:8≤l) (hl2:l≤14):(32:Int) ∣ (2:Int)^(l - 3).toNat:=by
 have:l=8∨l=9∨l=10∨l=11∨l=12∨l=13∨l=14:=by omega
 rcases this with rfl | rfl | rfl | rfl | rfl | rfl | rfl <;> decide
theorem pow_32' (l:Int) (hl:5≤l) (hl2:l≤14):(32:Int) ∣ (2:Int)^l.toNat:=by
 have:l=5∨l=6∨l=7∨l=8∨l=9∨l=10∨l=11∨l=12∨l=13∨l=14:=by omega
 rcases this with rfl | rfl | rfl | rfl | rfl | rfl | rfl | rfl | rfl | rfl <;> decide
theorem qOf_cnt (a en l:Int) (hl:5≤l) (hl2:l≤14) (ha:0≤a) (hae:a<en) (hen:en≤262144):a+cnt l (qOf a en l)≤en∧(32:Int) ∣ cnt l (qOf a en l):=by
 obtain ⟨P,hP⟩:∃ P,(2:Int)^(l - 3).toNat=P:=⟨_,rfl⟩
 obtain ⟨N,hN⟩:∃ N,(2:Int)^l.toNat=N:=⟨_,rfl⟩
 obtain ⟨g1,g2,g3,g4,g5,g6,g7⟩:=parts a l P N hl hl2 hP hN ha (by omega)
 have h0:a+cnt l 0≤en∧(32:Int) ∣ cnt l 0:=by rw [cnt_zero];exact ⟨by omega,Int.dvd_zero _⟩
 by_cases h8:l<8
 ·by_cases hc:a % N=0∧a+N≤en
  ·have e:qOf a en l=255:=by unfold qOf;rw [if_pos h8,hN,if_pos hc]
   have e2:cnt l 255=N:=by unfold cnt;rw [hP,show popc 255=8 from rfl,g1];rfl
   rw [e,e2]
   refine ⟨hc.2,?_⟩
   rw [← hN]
   exact pow_32' l hl hl2
  ·have e:qOf a en l=0:=by unfold qOf;rw [if_pos h8,hN,if_neg hc]
   rw [e]
   exact h0
 ·by_cases hm:a % P=0
  ·have e:qOf a en l=runq (i0Of a l) (jOf a en l):=by unfold qOf;rw [if_neg h8,hP,if_pos hm]
   have hj:((jOf a en l:Nat):Int)≤(en - a) / P∧i0Of a l+jOf a en l≤8:=by
    have:0≤(en - a) / P:=Int.ediv_nonneg (by omega) (by omega)
    unfold jOf
    rw [hP]
    omega
   rw [e,cnt_run l P hP _ _ g5 hj.2]
   have:=Int.mul_le_of_le_ediv (by omega) hj.1
   refine ⟨by omega,?_⟩
   rw [← hP]
   exact Int.dvd_mul_of_dvd_right (pow_32 l (by omega) hl2)
  ·have e:qOf a en l=0:=by unfold qOf;rw [if_neg h8,hP,if_neg hm]
   rw [e]
   exact h0
theorem cvFold_gives (a en:Int) (ha:0≤a) (hae:a<en) (hen:en≤262144):∀ n:Nat,n≤10→∀ b l q,cvFold a en n=some (b,l,q)→5≤l∧l≤14∧b=baseOf a l∧q=qOf a en l
 | 0,_=>fun b l q h=>by rw [cvFold_none] at h;cases h
 | n+1,hn=>by
   have ih:=cvFold_gives a en ha hae hen n (by omega)
   intro b l q h
   rw [cvFold_succ] at h
   unfold keep at h
   split at h
   ·simp at h
    obtain ⟨rfl,rfl,rfl⟩:=h
    exact ⟨by omega,by omega,rfl,rfl⟩
   ·exact ih b l q h
theorem cvFold_some (a en:Int) (ha:0≤a) (hae:a+32≤en) (ha32:a % 32=0):∀ n:Nat,∃ x,cvFold a en (n+1)=some x
 | 0=>by
   have e:qOf a en 5=255:=by
    unfold qOf
    rw [if_pos (by omega),if_pos]
    exact ⟨ha32,hae⟩
   refine ⟨(baseOf a 5,5,255),?_⟩
   rw [cvFold_succ,cvFold_none]
   show keep none (baseOf a 5) 5 (qOf a en 5)=_
   rw [e]
   rfl
 | n+1=>by
   obtain ⟨x,hx⟩:=cvFold_some a en ha hae ha32 n
   rw [cvFold_succ]
   unfold keep
   split
   ·exact ⟨_,rfl⟩
   ·exact ⟨x,hx⟩
theorem chosen (a en:Int) (ha:0≤a) (hae:a<en) (hen:en≤262144) (ha32:a % 32=0) (he32:en % 32=0):
 ∃ b l q,cvFold a en 10=some (b,l,q)∧5≤l∧l≤14∧q<256∧32≤cnt l q∧a+cnt l q≤en∧cnt l q % 32=0∧b=baseOf a l∧q=qOf a en l:=by
 obtain ⟨⟨b,l,q⟩,hx⟩:=cvFold_some a en ha (by omega) ha32 9
 obtain ⟨k1,k2,k3,k4⟩:=cvFold_gives a en ha hae hen 10 (Nat.le_refl _) b l q hx
 obtain ⟨m1,m2,m3,m4⟩:=cvFold_ok a en ha (by omega) 10 (Nat.le_refl _) b l q hx
 obtain ⟨c1,c2⟩:=qOf_cnt a en l k1 k2 ha hae hen
 rw [← k4] at c1 c2
 exact ⟨b,l,q,hx,k1,k2,m3,by omega,c1,by omega,k3,k4⟩
def cvTurn (s:CSt) (next:Int→List Rg) (a:Int):List Rg:=
 match s with
 | some (b,l,q)=>(b,l,255 - (q:Int),false,false,false) :: next (a+cnt l q)
 | none=>[]
def cvList (en:Int):Nat→Int→List Rg
 | 0,_=>[]
 | n+1,a=>if a<en then cvTurn (cvFold a en 10) (cvList en n) a else []
theorem cvList_end (en:Int) (n:Nat) (a:Int) (h:¬ a<en):cvList en n a=[]:=by
 cases n with
 | zero=>rfl
 | succ n=>exact if_neg h
theorem cvList_step (en:Int) (n:Nat) (a b l:Int) (q:Nat) (h:a<en) (hF:cvFold a en 10=some (b,l,q)):cvList en (n+1) a=(b,l,255 - (q:Int),false,false,false) :: cvList en n (a+cnt l q):=by
 have e:cvList en (n+1) a=cvTurn (cvFold a en 10) (cvList en n) a:=if_pos h
 rw [e,hF]
 rfl
def grn (x:Int):Bool:=decide (0≤x∧x % 32=0)
set_option maxHeartbeats 1000000 in
theorem isGrained_any (x:Int) (w:World):
 Calls Tryz.prog 62 #[.int .i64 x] w fun e w'=>e=.returned (.bool (grn x))∧w=w':=by
 by_cases h:0≤x
 ·have HG:=hide (show grn x=decide (x % 32=0) from by unfold grn;simp [h])
  go_enter Tryz.func62,Tryz.ntmps62
  go_wp2
  go_ret
  refine ⟨ret_bool ?_,rfl⟩
  rw [HG.out]
  rw [Bool.eq_iff_iff]
  simp
 ·have HG:=hide (show grn x=false from by unfold grn;simp;omega)
  go_enter Tryz.func62,Tryz.ntmps62
  go_wp2
  go_ret
  exact ⟨ret_bool HG.out.symm,rfl⟩
def CvPost (w:World) (ok:Bool) (L:List Rg) (e:Ending) (w':World):Prop:=
 ∃ (x:Option Addr) (m cap:Nat),e=.returned (.tuple #[.slice x m cap,.bool ok])∧ORg w' w.heap.size (.slice x m cap) L∧Below w.heap.size w w'
theorem org_nil (w:World) (base:Nat):ORg w base (.slice none 0 0) []:=⟨⟨rfl,.inl ⟨rfl,rfl⟩⟩,fun _ h=>by cases h⟩
def cvOk (f s:Int):Bool:=grn f && grn s && decide (s≤262144 - f)
def cvAll (f s:Int):List Rg:=cvList (f+s) (s / 32).toNat f
set_option maxRecDepth 100000 in
set_option maxHeartbeats 2000000 in
theorem iCover_good (f s:Int) (w:World) (hf:0≤f) (hf32:f % 32=0) (hs:0≤s) (hs32:s % 32=0) (hfs:s≤262144 - f):
 Calls Tryz.prog 275 #[.int .i64 f,.int .i64 s] w (CvPost w true (cvAll f s)):=by
 obtain ⟨i0,hi,hz0,hz1,hz2⟩:=info_parts infoR
 have G1:=hide (isGrained_any f)
 have G2:=hide (isGrained_any s)
 have e1:grn f=true:=by unfold grn;simp;omega
 have e2:grn s=true:=by unfold grn;simp;omega
 rw [e1] at G1
 rw [e2] at G2
 clear e1 e2
 obtain ⟨L,hL⟩:∃ L,L=cvAll f s:=⟨_,rfl⟩
 rw [← hL]
 unfold cvAll at hL
 have HL:=hide hL
 clear hL
 go_enter Tryz.func275,Tryz.ntmps275
 go_wp2_with fail
 refine (G1.out w).mono ?_
 rintro e w1 ⟨rfl,rfl⟩
 go_wp2_with fail
 refine (G2.out w).mono ?_
 rintro e w1 ⟨rfl,rfl⟩
 go_wp2_with fail
 go_loopw [6,8] (fun r x wr=>∃ (A:Option Addr) (m cap:Nat) (rs:List Rg) (n:Nat) (a:Int),r=.slice A m cap∧x=.int .i64 a∧f≤a∧a≤f+s∧a % 32=0∧f+s - a≤32 * (n:Int)∧m+n≤8192∧ORg wr w.heap.size (.slice A m cap) rs∧L=rs++cvList (f+s) n a∧Below w.heap.size w wr) (fun _ x _=>(f+s - intOf x).toNat)
 case atStart=>exact ⟨none,0,0,[],(s / 32).toNat,f,rfl,rfl,by omega,by omega,hf32,by omega,by omega,org_nil _ _,by rw [HL.out];rfl,Below.refl _ _⟩
 case round=>
  obtain ⟨A,m,cap,rs,n,a,rfl,rfl,ha,ha2,ha32,hn,hmn,hO,hLL,hB⟩:=hrel
  have hlen:=(or_rs hO).1
  by_cases hlt:a<f+s
  ·obtain ⟨b,l,q,hF,hl,hl2,hq,hc1,hc2,hc3,hb,_⟩:=chosen a (f+s) (by omega) hlt (by omega) ha32 (by omega)
   obtain ⟨n,rfl⟩:∃ n',n=n'+1:=⟨n - 1,by omega⟩
   rw [cvList_step (f+s) n a b l q hlt hF] at hLL
   have hbw:0≤b∧b≤262144:=by
    have:=base_ok a l _ hl hl2 rfl (by omega) (by omega)
    have:=pow_pos l.toNat
    rw [hb]
    unfold baseOf
    omega
   clear hb
   have HW:=hide (widest_any a (f+s) wr (by omega) hlt (by omega) b l q hF)
   have HLL:=hide hLL
   have HO:=hide hO
   have HB:=hide hB
   have HC:=hide (addressCount_any b l q false false false)
   have HLEN0:=hide hlen
   have hsz:=hB.size
   obtain ⟨c,hcc⟩:∃ c,c=cnt l q:=⟨_,rfl⟩
   rw [← hcc] at hc1 hc2 hc3 HC HLL
   have HCC:=hide hcc
   have HWF:=hide (show wfi b∧wfi l∧wfi (255 - (q:Int)) from by unfold wfi;omega)
   have HQ:=hide hq
   clear hLL hO hB hF hlen hcc
   go_wp2_with fail
   refine HW.out.mono ?_
   rintro e w2 ⟨rfl,hb2⟩
   have HB2:=hide (HB.out.trans (hb2.mono hsz))
   obtain ⟨o,ho⟩:∃ o,o=255 - (q:Int):=⟨_,rfl⟩
   rw [← ho] at HC HLL HWF ⊢
   have hO2:=turn_or (S:=fun _=>False) (turn_below hb2) HO.out (fun _ _=>id)
   have hO3:=hO2.1.alloc (.cells #[.int .i64 b,.int .i64 l,.int .i64 o,.bool false,.bool false,.bool false] 135)
   have HOWN:=hide (hO3.alloc (.cells #[.int .i64 b,.int .i64 l,.int .i64 o,.bool false,.bool false,.bool false] 135))
   rw [HLEN0.out] at HOWN
   have HLEN:=hide (show (cells6 (b,l,o,false,false,false)).length=1 * 6 from rfl)
   have HNEWS:=hide (news6 (w2.alloc (.cells #[.int .i64 b,.int .i64 l,.int .i64 o,.bool false,.bool false,.bool false] 135)) (b,l,o,false,false,false))
   have HONE:=hide (one6 (b,l,o,false,false,false))
   have HRS:=hide hO2.2
   have HLT:=hide hO2.1.lt
   have KB:=hide ((Blk.new w2 #[.int .i64 b,.int .i64 l,.int .i64 o,.bool false,.bool false,.bool false] 135).alloc (.cells #[.int .i64 b,.int .i64 l,.int .i64 o,.bool false,.bool false,.bool false] 135))
   have hsz2:=hb2.size
   have HB3:=hide ((HB2.out.alloc (by omega) (.cells #[.int .i64 b,.int .i64 l,.int .i64 o,.bool false,.bool false,.bool false] 135)).alloc (by simp;omega) (.cells #[.int .i64 b,.int .i64 l,.int .i64 o,.bool false,.bool false,.bool false] 135))
   simp only [World.size_alloc] at HNEWS
   clear hO2 hO3 hb2 ho
   go_wp2_with (at_builtin;refine wpList_append_own _ rfl _ _ 63 rfl w.heap.size 135 i0 (.agg #[.int .i64 0,.int .i64 0,.int .i64 0,.bool false,.bool false,.bool false]) 6 32 Tryz.underlying63 hi hz0 hz1 hz2 rfl (by decide) (.slice A m cap) m (flat rs) rfl HOWN.out ⟨w2.heap.size+1,0,none⟩ 1 1 (cells6 (b,l,o,false,false,false)) rfl HLEN.out HNEWS.out HONE.out (by unfold maxLen;omega) (by omega) (by simp;omega) ?_;intro v' w3 hown3 hgr3 _;obtain ⟨A',cap',he⟩:=or_shape hown3;subst he;have hO3:=or_more (W:=w2) (v:=.slice A m cap) (g:=(b,l,o,false,false,false)) HRS.out HWF.out (by rw [HLEN0.out];exact hown3);have t3:=grown_turn hgr3;have hfar:∀ j,(Value.slice A m cap).ownBlock=some j→w.heap.size≤j:=fun j hj=>(HLT.out j hj).1;have hnot:∀ j,(Value.slice A m cap).ownBlock=some j→j<w2.heap.size:=fun j hj=>(HLT.out j hj).2;have hK3:=turn_blk t3 KB.out (fun e=>by have:=hnot _ e;omega);have hsz3:=t3.size;simp only [World.size_alloc] at hsz3;have HB4:=hide (below_turn HB3.out t3 hfar (by simp;omega));have HO3:=hide hO3;have HK3:=hide hK3;obtain ⟨q1,q2,q3,q4,q5,q6,q7⟩:=hK3.six';clear hO3 t3 hfar hnot hown3 hgr3 hK3)
   refine (HC.out w3 HQ.out hl hl2).mono ?_
   rintro e w4 ⟨rfl,hb4⟩
   have HB5:=hide (HB4.out.trans (hb4.mono (by omega)))
   have HO5:=hide (turn_or (S:=fun _=>False) (turn_below hb4) HO3.out (fun _ _=>id))
   clear hb4
   go_wp2_with fail
   go_roundw
   case rel=>exact ⟨A',m+1,cap',rs++[(b,l,o,false,false,false)],n,a+c,rfl,by go_num,by omega,by omega,by omega,by omega,by omega,HO5.out,by rw [HLL.out];simp,HB5.out⟩
   case measure=>simp [intOf];omega
  ·have hLe:L=rs:=by rw [hLL,cvList_end _ _ _ hlt,List.append_nil]
   subst hLe
   have HO:=hide hO
   have HB:=hide hB
   clear hLL hO hB
   go_wp2
   go_ret2
   exact ⟨A,m,cap,rfl,HO.out,HB.out⟩
set_option maxHeartbeats 1000000 in
theorem iCover_bad (f s:Int) (w:World) (hs0:-9223372036854775808≤f∧f≤9223372036854775807) (h:cvOk f s=false):
 Calls Tryz.prog 275 #[.int .i64 f,.int .i64 s] w (CvPost w false []):=by
 have G1:=hide (isGrained_any f)
 have G2:=hide (isGrained_any s)
 have HN:=hide (org_nil w w.heap.size)
 unfold cvOk at h
 cases e1:grn f
 ·rw [e1] at G1
  clear h e1
  go_enter Tryz.func275,Tryz.ntmps275
  go_wp2_with fail
  refine (G1.out w).mono ?_
  rintro e w1 ⟨rfl,rfl⟩
  go_wp2_with fail
  go_ret2
  exact ⟨none,0,0,rfl,HN.out,Below.refl _ _⟩
 ·rw [e1] at G1 h
  have hf:0≤f:=by unfold grn at e1;simp at e1;omega
  cases e2:grn s
  ·rw [e2] at G2
   clear h e1 e2
   go_enter Tryz.func275,Tryz.ntmps275
   go_wp2_with fail
   refine (G1.out w).mono ?_
   rintro e w1 ⟨rfl,rfl⟩
   go_wp2_with fail
   refine (G2.out w).mono ?_
   rintro e w1 ⟨rfl,rfl⟩
   go_wp2_with fail
   go_ret2
   exact ⟨none,0,0,rfl,HN.out,Below.refl _ _⟩
  ·rw [e2] at G2 h
   have hlt:262144 - f<s:=by simp at h;omega
   clear h e1 e2
   go_enter Tryz.func275,Tryz.ntmps275
   go_wp2_with fail
   refine (G1.out w).mono ?_
   rintro e w1 ⟨rfl,rfl⟩
   go_wp2_with fail
   refine (G2.out w).mono ?_
   rintro e w1 ⟨rfl,rfl⟩
   go_wp2_with fail
   go_ret2
   exact ⟨none,0,0,rfl,HN.out,Below.refl _ _⟩
def cvL (f s:Int):List Rg:=if cvOk f s then cvAll f s else []
theorem iCover_any (f s:Int) (w:World) (hs0:-9223372036854775808≤f∧f≤9223372036854775807):
 Calls Tryz.prog 275 #[.int .i64 f,.int .i64 s] w (CvPost w (cvOk f s) (cvL f s)):=by
 unfold cvL
 cases e:cvOk f s
 ·exact iCover_bad f s w hs0 e
 ·unfold cvOk grn at e
  simp at e
  exact iCover_good f s w (by omega) (by omega) (by omega) (by omega) (by omega)
def ci (i0 j i:Nat):Nat:=min (i - i0) j
theorem ci_in':∀ (i0:Fin 8) (j:Fin 9) (i:Fin 8),(i0.val≤i.val∧i.val<i0.val+j.val)→(ci i0 j (i.val+1)=ci i0 j i+1∧2 ^ i.val - 1 - runq i0 (ci i0 j i)=2 ^ (i.val+1) - 1 - runq i0 (ci i0 j (i.val+1))):=by decide +kernel
theorem ci_out':∀ (i0:Fin 8) (j:Fin 9) (i:Fin 8),((i.val<i0.val∨i0.val+j.val≤i.val)∧i0.val+j.val≤8)→(ci i0 j (i.val+1)=ci i0 j i∧2 ^ i.val - 1 - runq i0 (ci i0 j i)+2 ^ i.val=2 ^ (i.val+1) - 1 - runq i0 (ci i0 j (i.val+1))):=by decide +kernel
theorem ci_in (i0:Nat) (h0:i0<8) (j:Nat) (hj:j<9) (i:Nat) (hi:i<8) (h:i0≤i∧i<i0+j):ci i0 j (i+1)=ci i0 j i+1∧2 ^ i - 1 - runq i0 (ci i0 j i)=2 ^ (i+1) - 1 - runq i0 (ci i0 j (i+1)):=ci_in' ⟨i0,h0⟩ ⟨j,hj⟩ ⟨i,hi⟩ h
theorem ci_out (i0:Nat) (h0:i0<8) (j:Nat) (hj:j<9) (i:Nat) (hi:i<8) (h:(i<i0∨i0+j≤i)∧i0+j≤8):ci i0 j (i+1)=ci i0 j i∧2 ^ i - 1 - runq i0 (ci i0 j i)+2 ^ i=2 ^ (i+1) - 1 - runq i0 (ci i0 j (i+1)):=ci_out' ⟨i0,h0⟩ ⟨j,hj⟩ ⟨i,hi⟩ h
theorem ci_end:∀ i0,i0<8→∀ j,j<9→i0+j≤8→ci i0 j 8=j:=by decide +kernel
def jj (a en l:Int):Nat:=if a % (2:Int)^(l - 3).toNat=0 then jOf a en l else 0
theorem qOf_wide (a en l:Int) (h:8≤l):qOf a en l=runq (i0Of a l) (jj a en l):=by
 unfold qOf jj
 rw [if_neg (by omega)]
 split
 ·rfl
 ·rw [runq_zero]
theorem jj_le (a en l:Int) (hi:i0Of a l<8):i0Of a l+jj a en l≤8:=by
 unfold jj
 split
 ·unfold jOf;omega
 ·omega
theorem part_in (a en l P N:Int) (hl:5≤l) (hl2:l≤14) (hP:(2:Int)^(l - 3).toNat=P) (hN:(2:Int)^l.toNat=N) (ha:0≤a) (hae:a<en) (hen:en≤262144) (i:Nat) (hi:i<8):
 (a≤baseOf a l+(i:Int) * P∧baseOf a l+(i:Int) * P+P≤en∧a % P=0) ↔ (i0Of a l≤i∧i<i0Of a l+jj a en l):=by
 obtain ⟨g1,g2,g3,g4,g5,g6,g7⟩:=parts a l P N hl hl2 hP hN ha (by omega)
 unfold jj
 rw [hP]
 by_cases hm:a % P=0
 ·rw [if_pos hm]
  have hb:baseOf a l=a - a % N:=by unfold baseOf;rw [hN]
  have g6':=g6 hm
  have hd0:0≤(en - a) / P:=Int.ediv_nonneg (by omega) (by omega)
  have e1:(a≤baseOf a l+(i:Int) * P) ↔ i0Of a l≤i:=by
   rw [hb,g6']
   constructor
   ·intro h
    have:(i0Of a l:Int) * P≤(i:Int) * P:=by omega
    have:=Int.le_of_mul_le_mul_right this (by omega)
    omega
   ·intro h
    have:(i0Of a l:Int) * P≤(i:Int) * P:=Int.mul_le_mul_of_nonneg_right (by omega) (by omega)
    omega
  have e2:i0Of a l≤i→((baseOf a l+(i:Int) * P+P≤en) ↔ ((i - i0Of a l:Nat):Int)<(en - a) / P):=by
   intro h
   rw [hb,g6']
   have e3:((i - i0Of a l:Nat):Int)=(i:Int) - (i0Of a l:Int):=by omega
   have e4:(((i:Int) - (i0Of a l:Int))+1) * P=(i:Int) * P - (i0Of a l:Int) * P+P:=by rw [Int.add_mul,Int.sub_mul];omega
   rw [e3]
   constructor
   ·intro h
    have:=Int.le_ediv_of_mul_le (c:=P) (a:=(i:Int) - (i0Of a l:Int)+1) (b:=en - a) (by omega) (by omega)
    omega
   ·intro h
    have:(i:Int) - (i0Of a l:Int)+1≤(en - a) / P:=by omega
    have:=Int.mul_le_of_le_ediv (by omega) this
    omega
  have e5:jOf a en l=min (8 - i0Of a l) ((en - a) / P).toNat:=by unfold jOf;rw [hP]
  rw [e5,e1]
  constructor
  ·rintro ⟨h1,h2,_⟩
   have:=(e2 h1).1 h2
   omega
  ·rintro ⟨h1,h2⟩
   exact ⟨h1,(e2 h1).2 (by omega),hm⟩
 ·rw [if_neg hm]
  constructor
  ·rintro ⟨_,_,h⟩
   exact absurd h hm
  ·intro h
   omega
theorem div_mul_base (a N:Int) (h0:0≤a) (hN:0<N):a / N * N=a - a % N:=by
 have:=Int.mul_ediv_add_emod a N
 rw [Int.mul_comm]
 omega
theorem info8:(Tryz.prog.info? 5).map (fun i=>(i.zero,i.size,i.bytes))=some (some (.int .u8 0),1,1):=by kernel_rfl
theorem below_grown {w w':World} (h:w.grownBy w' none):Below w.heap.size w w':=(Below.refl _ _).grown h (Nat.le_refl _) (fun k hk=>by cases hk)
def mok (n1 n2 n3:Nat):Bool:=decide (n1≤16384∧n2≤16384∧n3≤5000)
theorem Blk.three {w:World} {g:Nat} {a b c:Value} {t:TypeId} (h:Blk w g #[a,b,c] t):
 w.cell? ⟨g,0,none⟩=some a∧w.cell? ⟨g,1,none⟩=some b∧w.cell? ⟨g,2,none⟩=some c∧∀ i,w.frozen? ⟨g,i,none⟩=false:=
 ⟨by rw [h.cell];rfl,by rw [h.cell];rfl,by rw [h.cell];rfl,fun i=>h.frozen i⟩
end Go.Proofs.YtngdgogjlpjjpadGreat
