import Derived.Lib.Bytealg
import Derived.WideShapes
import Derived.Maps.OwnSet
import Derived.Deep.AppendLies
import Derived.Deep.RegionLaw
import Derived.Laws.BitsLemmas
import Derived.Laws.IdiomStrings
import Derived.Test.YtngdgogjlpjjpadGreatP01
import Derived.Test.YtngdgogjlpjjpadGreatP02
namespace Go.Proofs.YtngdgogjlpjjpadGreat
open Go.RowKit
set_option linter.unusedVariables false
set_option linter.unusedSimpArgs false
set_option maxRecDepth 100000
theorem idx_dot (l:List UInt8):∀ (s:ByteArray) (k:Nat),s.data.toList.drop k=l→Lib.indexByte l (46:Int).toNat.toUInt8=(let d:=dotFrom s l.length k;if d=-1 then -1 else d - k):=by
 induction l with
 | nil=>intro s k h;rfl
 | cons b l ih=>
   intro s k h
   have hk:k<s.data.toList.length:=by
    by_cases e:k<s.data.toList.length
    ·exact e
    ·rw [List.drop_eq_nil_of_le (by omega)] at h;cases h
   have hks:k<s.size:=by simpa using hk
   have hb:s.data.toList[k]'hk=b:=by
    have h2:s.data.toList[k]?=some b:=by
     have:=congrArg (fun t=>t[0]?) h
     simpa using this
    rw [List.getElem?_eq_getElem hk] at h2
    injection h2
   have hd:s.data.toList.drop (k+1)=l:=by
    have:=congrArg List.tail h
    simpa using this
   have hbyt:byt s k=(b.toNat:Int):=by
    unfold byt
    rw [get_bang s k hks,← hb]
    rfl
   have ih':=ih s (k+1) hd
   simp only [Lib.indexByte,List.length_cons,dotFrom,hbyt]
   rw [ih']
   have e46:(46:Int).toNat.toUInt8=46:=rfl
   rw [e46]
   by_cases c:b=46
   ·subst c
    simp
   ·have c1:(b == 46)=false:=by simpa using c
    have c2:¬ ((b.toNat:Int)=46):=fun e=>c (UInt8.toNat_inj.1 (by simpa using (by omega:b.toNat=46)))
    rw [c1,if_neg c2]
    rcases dotFrom_range s l.length (k+1) with e | e
    ·simp [e]
    ·have n1:¬ dotFrom s l.length (k+1)=-1:=by omega
     simp only [n1,if_false,Bool.false_eq_true]
     split
     ·next h=>simp at h;omega
     ·omega
theorem idx_dot' (s:ByteArray):Lib.indexByte s.data.toList (46:Int).toNat.toUInt8=dot s:=by
 have:=idx_dot s.data.toList s 0 (by simp)
 rw [this]
 have e:s.data.toList.length=s.size:=Array.length_toList
 unfold dot
 rw [e]
 rcases dotFrom_range s s.size 0 with h | h
 ·simp [h]
 ·simp only [if_neg (show ¬ dotFrom s s.size 0=-1 by omega)]
  omega
set_option maxHeartbeats 1000000 in
theorem indexByte_any (s:ByteArray) (w:World):
 Calls Tryz.prog 288 #[.string s,.int .u8 46] w fun e w'=>e=.returned (.int .i64 (dot s))∧w=w':=by
 have HD:=hide (idx_dot' s)
 go_enter Tryz.func288,Tryz.ntmps288
 go_wp2
 rw [run_callFunc_extern Tryz.func294 (by kernel_rfl) (by kernel_rfl) (by kernel_rfl) (e:=Extern.BytealgIndexByte.indexByte) (by kernel_rfl),Lib.run_indexByteString]
 simp only [Result.andThen]
 rw [Oper.upon_value]
 go_wp2
 go_ret
 exact ⟨ret_int HD.out,rfl⟩
set_option maxHeartbeats 1000000 in
theorem index_dot (s:ByteArray) (w:World) (hs:s.size≤1048576):
 Calls Tryz.prog 283 #[.string s,.string ⟨#[46]⟩] w fun e w'=>e=.returned (.int .i64 (dot s))∧w=w':=by
 have HI:=hide (fun w=>indexByte_any s w)
 by_cases he:(⟨#[46]⟩:ByteArray)=s
 ·subst he
  have HD:Hid (dot ⟨#[46]⟩=0):=by show _=_;rfl
  clear HI
  go_enter Tryz.func283,Tryz.ntmps283
  go_wp2
  go_ret
  exact ⟨ret_int HD.out.symm,rfl⟩
 ·have hne:¬ ([46]:List UInt8)=s.toList:=fun e=>he (Go.WideShapes.bytes_inj (by rw [ByteArray.toList_eq] at e;exact e))
  have he':(([46]:List UInt8) == s.toList)=false:=by simpa using hne
  have he2:((⟨#[46]⟩:ByteArray).toList == s.toList)=false:=by rw [ByteArray.toList_eq];exact he'
  have h46:∀ w:World,(Instr.index 9 (.string ⟨#[46]⟩) (.int .i64 0)).run Tryz.prog w=.ok (.int .u8 46) w:=fun w=>by kernel_rfl
  go_enter Tryz.func283,Tryz.ntmps283
  go_wp2_with (go_at_call 288;refine (HI.out _).mono ?_;rintro e w1 ⟨rfl,rfl⟩)
  go_ret
  exact ⟨rfl,rfl⟩
set_option maxHeartbeats 1000000 in
theorem slCut_any (s:ByteArray) (w:World) (hs:s.size≤1048576):
 Calls Tryz.prog 277 #[.string s,.string ⟨#[46]⟩] w fun e w'=>e=.returned (.tuple #[.string (if 0≤dot s then cutA s else s),.string (if 0≤dot s then cutB s else ⟨#[]⟩),.bool (decide (0≤dot s))])∧Below w.heap.size w w':=by
 have HI:=hide (fun w=>index_dot s w hs)
 have HB:=hide (Below.refl w.heap.size w)
 rcases dot_range s with h | ⟨h0,h1⟩
 ·have hn:¬ (0≤dot s):=by omega
  rw [if_neg hn,if_neg hn,decide_eq_false hn]
  rw [h] at HI
  clear h hn
  go_enter Tryz.func277,Tryz.ntmps277
  go_wp2_with (go_at_call 283;refine (HI.out _).mono ?_;rintro e w1 ⟨rfl,rfl⟩)
  all_goals (try go_region)
  all_goals (try go_wp2)
  all_goals go_ret3
  all_goals exact ⟨rfl,by first | exact HB.out | exact HB.out.drew⟩
 ·rw [if_pos h0,if_pos h0,decide_eq_true h0]
  unfold cutA cutB
  generalize dot s=p at *
  go_enter Tryz.func277,Tryz.ntmps277
  go_wp2_with (go_at_call 283;refine (HI.out _).mono ?_;rintro e w1 ⟨rfl,rfl⟩)
  all_goals (try go_region)
  all_goals (try go_wp2)
  all_goals go_ret3
  all_goals exact ⟨rfl,by first | exact HB.out | exact HB.out.drew⟩
set_option maxHeartbeats 1000000 in
theorem cut_any (s:ByteArray) (w:World) (hs:s.size≤1048576):
 Calls Tryz.prog 269 #[.string s,.string ⟨#[46]⟩] w fun e w'=>e=.returned (.tuple #[.string (if 0≤dot s then cutA s else s),.string (if 0≤dot s then cutB s else ⟨#[]⟩),.bool (decide (0≤dot s))])∧Below w.heap.size w w':=by
 have HC:=hide (fun w=>slCut_any s w hs)
 generalize (if 0≤dot s then cutA s else s)=A at *
 generalize (if 0≤dot s then cutB s else ⟨#[]⟩)=B at *
 generalize decide (0≤dot s)=C at *
 go_enter Tryz.func269,Tryz.ntmps269
 go_wp2_with (go_at_call 277;refine (HC.out _).mono ?_;rintro e w1 ⟨rfl,hb1⟩)
 go_ret3
 exact ⟨rfl,hb1⟩
theorem nmo_none:nmo ⟨#[]⟩=false:=rfl
def cutV (s:ByteArray):Value:=if full s then .tuple #[.string (cutA s),.string (cutB s),.bool true] else .tuple #[.string ⟨#[]⟩,.string ⟨#[]⟩,.bool false]
set_option maxHeartbeats 1000000 in
theorem cutImport_any (s:ByteArray) (w:World) (hs:s.size≤1048576):
 Calls Tryz.prog 210 #[.string s] w fun e w'=>e=.returned (cutV s)∧Below w.heap.size w w':=by
 have HC:=hide (fun w=>cut_any s w hs)
 obtain ⟨V,hV⟩:∃ V,V=cutV s:=⟨_,rfl⟩
 rw [← hV]
 unfold cutV full at hV
 have hA:(if 0≤dot s then cutA s else s).size≤1048576:=by split;exact cutA_size s hs;exact hs
 have hB:(if 0≤dot s then cutB s else ⟨#[]⟩).size≤1048576:=by split;exact cutB_size s hs;exact (by decide)
 have HA:=hide (fun w=>isName_any _ w hA)
 have HB:=hide (fun w=>isName_any _ w hB)
 have hV':V=if nmo (if 0≤dot s then cutA s else s) && nmo (if 0≤dot s then cutB s else ⟨#[]⟩) then .tuple #[.string (if 0≤dot s then cutA s else s),.string (if 0≤dot s then cutB s else ⟨#[]⟩),.bool true] else .tuple #[.string ⟨#[]⟩,.string ⟨#[]⟩,.bool false]:=by
  by_cases h:0≤dot s
  ·simp only [h,if_true,decide_true,Bool.true_and] at hV ⊢
   exact hV
  ·simp only [h,if_false,decide_false,Bool.false_and,nmo_none,Bool.and_false] at hV ⊢
   exact hV
 clear hV hA hB
 generalize (if 0≤dot s then cutA s else s)=A at *
 generalize (if 0≤dot s then cutB s else ⟨#[]⟩)=B at *
 generalize decide (0≤dot s)=C at *
 generalize nmo A=a at *
 generalize nmo B=b at *
 have HV:=hide hV'
 clear hV'
 cases a
 ·obtain rfl:V=.tuple #[.string ⟨#[]⟩,.string ⟨#[]⟩,.bool false]:=HV.out
  go_enter Tryz.func210,Tryz.ntmps210
  go_wp2_with fail
  refine (HC.out _).mono ?_
  rintro e w1 ⟨rfl,hb1⟩
  go_wp2_with fail
  refine (HA.out _).mono ?_
  rintro e w2 ⟨rfl,rfl⟩
  go_wp2
  go_ret3
  exact ⟨rfl,hb1⟩
 ·cases b
  ·obtain rfl:V=.tuple #[.string ⟨#[]⟩,.string ⟨#[]⟩,.bool false]:=HV.out
   go_enter Tryz.func210,Tryz.ntmps210
   go_wp2_with fail
   refine (HC.out _).mono ?_
   rintro e w1 ⟨rfl,hb1⟩
   go_wp2_with fail
   refine (HA.out _).mono ?_
   rintro e w2 ⟨rfl,rfl⟩
   go_wp2_with fail
   refine (HB.out _).mono ?_
   rintro e w2 ⟨rfl,rfl⟩
   go_wp2
   go_ret3
   exact ⟨rfl,hb1⟩
  ·obtain rfl:V=.tuple #[.string A,.string B,.bool true]:=HV.out
   go_enter Tryz.func210,Tryz.ntmps210
   go_wp2_with fail
   refine (HC.out _).mono ?_
   rintro e w1 ⟨rfl,hb1⟩
   go_wp2_with fail
   refine (HA.out _).mono ?_
   rintro e w2 ⟨rfl,rfl⟩
   go_wp2_with fail
   refine (HB.out _).mono ?_
   rintro e w2 ⟨rfl,rfl⟩
   go_wp2
   go_ret3
   exact ⟨rfl,hb1⟩
end Go.Proofs.YtngdgogjlpjjpadGreat
namespace Go.Proofs.YtngdgogjlpjjpadGreat
open Go.RowKit
set_option linter.unusedVariables false
set_option maxRecDepth 100000
def IS (w:World) (a:Option Addr) (n cap:Nat) (zs:List Int):Prop:=
 zs.length=n∧n≤maxLen∧(∀ z ∈ zs,wfi z)∧(n≠0→∃ b off,a=some ⟨b,off,none⟩∧∀ i,i<n→w.cell? ⟨b,off+i,none⟩=some (.int .i64 (zs.getD i 0)))∧n≤cap
theorem IS.below {w w':World} {a:Option Addr} {n cap:Nat} {zs:List Int} (h:IS w a n cap zs) (hb:Below w.heap.size w w'):IS w' a n cap zs:=by
 obtain ⟨h1,h2,h3,h4,h5⟩:=h
 refine ⟨h1,h2,h3,fun hn=>?_,h5⟩
 obtain ⟨b,off,ha,hc⟩:=h4 hn
 refine ⟨b,off,ha,fun i hi=>?_⟩
 have:=hc i hi
 rw [hb.cell (p:=⟨b,off+i,none⟩) (World.block_lt_of_cell? w _ this)]
 exact this
theorem IS.range {w:World} {a:Option Addr} {n cap:Nat} {zs:List Int} (h:IS w a n cap zs) (i:Nat):wfi (zs.getD i 0):=by
 by_cases hi:i<zs.length
 ·have:=h.2.2.1 zs[i] (List.getElem_mem hi)
  simpa [List.getD_eq_getElem?_getD,hi] using this
 ·simp [List.getD_eq_getElem?_getD,Nat.le_of_not_lt hi,wfi]
def RowI (w:World) (g:Nat) (zs:List Int):Prop:=w.heap[g]?=some (.cells (zs.map (Value.int .i64)).toArray 3 (0,0))
theorem RowI.cell {w:World} {g:Nat} {zs:List Int} (h:RowI w g zs) (i:Nat) (hi:i<zs.length):w.cell? ⟨g,i,none⟩=some (.int .i64 (zs.getD i 0)):=by
 rw [cell_of_row w g i _ _ _ h];simp [List.getD_eq_getElem?_getD,hi]
theorem RowI.frozen {w:World} {g:Nat} {zs:List Int} (h:RowI w g zs) (i:Nat):w.frozen? ⟨g,i,none⟩=false:=frozen_of_row w g i _ _ h
theorem RowI.set {w:World} {g:Nat} {zs:List Int} (h:RowI w g zs) (i:Nat) (z:Int):RowI (w.setCell ⟨g,i,none⟩ (.int .i64 z)) g (zs.set i z):=by
 unfold RowI at *
 rw [heap_setCell_same w g i _ _ _ h]
 simp [List.map_set]
theorem RowI.lt {w:World} {g:Nat} {zs:List Int} (h:RowI w g zs):g<w.heap.size:=by
 unfold RowI at h
 by_cases hg:g<w.heap.size
 ·exact hg
 ·simp [Array.getElem?_eq_none (Nat.le_of_not_lt hg)] at h
theorem RowI.below {w w':World} {g:Nat} {zs:List Int} (h:RowI w g zs) (hb:Below w.heap.size w w'):RowI w' g zs:=by
 have:=hb.block g h.lt
 unfold RowI at *
 rw [this];exact h
theorem RowI.is {w:World} {g:Nat} {zs:List Int} (h:RowI w g zs) (hm:zs.length≤maxLen) (hz:∀ z ∈ zs,wfi z) (n cap:Nat) (hn:zs.length=n) (hc:n≤cap:=by exact Nat.le_refl _):IS w (some ⟨g,0,none⟩) n cap zs:=by
 subst hn
 exact ⟨rfl,hm,hz,fun _=>⟨g,0,rfl,fun i hi=>by rw [Nat.zero_add];exact h.cell i hi⟩,hc⟩
theorem infoI:(Tryz.prog.info? 3).map (fun i=>(i.zero,i.size,i.bytes))=some (some (.int .i64 0),1,8):=by kernel_rfl
theorem madeI (n:Nat):(madeCells (Value.cells (.int .i64 0)) (n * 1))=((List.replicate n (0:Int)).map (Value.int .i64)).toArray:=by
 apply Array.ext
 ·simp [size_madeCells]
 ·intro i h1 h2
  simp [madeCells,Value.cells,Nat.mod_one]
theorem rowI_of_made {w:World} {base g n:Nat} (h:w.ownsRow base 3 1 (.slice (some ⟨g,0,none⟩) n n) n (madeCells (Value.cells (.int .i64 0)) (n * 1)).toList):RowI w g (List.replicate n 0):=by
 obtain ⟨hl,h | ⟨g',cap,cur,hv,hb,hh,h1,h2,h3,h4⟩⟩:=h
 ·simp at h
 ·simp at hv
  obtain ⟨rfl,rfl⟩:=hv
  unfold RowI
  rw [hh]
  have e:cur.toList=(madeCells (Value.cells (.int .i64 0)) (n * 1)).toList:=by
   rw [← h4,List.take_of_length_le (by simp [h3])]
  have e2:cur=madeCells (Value.cells (.int .i64 0)) (n * 1):=Array.toList_inj.1 e
  rw [e2,madeI]
theorem take_eq_succI (xs ys:List Int) (k:Nat) (h:xs.take k=ys.take k) (hx:k<xs.length) (hy:k<ys.length) (he:xs.getD k 0=ys.getD k 0):xs.take (k+1)=ys.take (k+1):=by
 rw [List.take_succ_eq_append_getElem hx,List.take_succ_eq_append_getElem hy,h]
 simp [List.getD_eq_getElem?_getD,hx,hy] at he
 rw [he]
end Go.Proofs.YtngdgogjlpjjpadGreat
namespace Go.Proofs.YtngdgogjlpjjpadGreat
open Go Go.Maps Go.WideShapes
set_option linter.unusedSimpArgs false
def fd (f:Nat→List UInt8):Nat→DataW Unit
 | 0=>.map []
 | k+1=>if has (fd f k) (.string (f k)) then fd f k else (fd f k).put (.string (f k)) (.lit (.int .i64 k))
theorem fd_succ (f:Nat→List UInt8) (k:Nat):fd f (k+1)=if has (fd f k) (.string (f k)) then fd f k else (fd f k).put (.string (f k)) (.lit (.int .i64 k)):=rfl
theorem key_str (s:List UInt8):WideAt.IsKeyLit (.string s):=by simp [WideAt.IsKeyLit]
theorem fd_tidy (f:Nat→List UInt8):∀ k,Tidy (fd f k)
 | 0=>tidy_empty
 | k+1=>by
   rw [fd_succ]
   split
   ·exact fd_tidy f k
   ·exact (fd_tidy f k).put (key_str _) _
theorem fd_has (f:Nat→List UInt8) (s:List UInt8):∀ k,has (fd f k) (.string s)=(List.range k).any (fun j=>f j == s)
 | 0=>rfl
 | k+1=>by
   rw [List.range_succ,List.any_append,← fd_has f s k]
   rw [fd_succ]
   by_cases e:f k=s
   ·subst e
    split
    ·rename_i h;rw [h];rfl
    ·rw [has_put_same (fd_tidy f k).isMap (key_str _)];simp
   ·have e':(Lit.string s)≠.string (f k):=by intro h;injection h with h;exact e h.symm
    split
    ·simp [e]
    ·rw [has_put_other e'];simp [e]
theorem fd_size_le (f:Nat→List UInt8):∀ k,size (fd f k)≤k
 | 0=>Nat.le_refl _
 | k+1=>by
   have:=fd_size_le f k
   rw [fd_succ]
   split
   ·omega
   ·rename_i h
    rw [size_put (fd_tidy f k),if_neg h]
    omega
theorem fd_size (f:Nat→List UInt8):∀ k,decide (size (fd f k)=k)=(List.range k).all (fun i=>(List.range i).all fun j=>!(f j == f i))
 | 0=>rfl
 | k+1=>by
   have h1:=fd_size_le f k
   rw [List.range_succ,List.all_append,← fd_size f k]
   have hh:=fd_has f (f k) k
   have e:(List.range k).all (fun j=>!(f j == f k))=!(has (fd f k) (.string (f k))):=by rw [hh];induction List.range k with | nil=>rfl | cons a l ih=>simp [ih]
   simp only [List.all_cons,List.all_nil,Bool.and_true,e]
   rw [fd_succ]
   cases hb:has (fd f k) (.string (f k))
   ·rw [if_neg (by simp),size_put (fd_tidy f k),hb,if_neg (by simp)]
    simp
   ·rw [if_pos rfl]
    simp
    omega
def fst? (f:Nat→List UInt8) (s:List UInt8):Nat→Option Nat
 | 0=>none
 | k+1=>match fst? f s k with | some j=>some j | none=>if f k=s then some k else none
theorem fst_succ (f:Nat→List UInt8) (s:List UInt8) (k:Nat):fst? f s (k+1)=match fst? f s k with | some j=>some j | none=>if f k=s then some k else none:=rfl
theorem fst_has (f:Nat→List UInt8) (s:List UInt8):∀ k,(fst? f s k).isSome=has (fd f k) (.string s)
 | 0=>rfl
 | k+1=>by
   rw [fd_has,List.range_succ,List.any_append,← fd_has,← fst_has f s k]
   rw [fst_succ]
   cases fst? f s k with
   | some j=>simp
   | none=>by_cases e:f k=s <;> simp [e]
theorem fd_at (f:Nat→List UInt8) (s:List UInt8) (z:DataW Unit):∀ k,(fd f k).atKey (.string s) z=match fst? f s k with | some j=>.lit (.int .i64 j) | none=>z
 | 0=>rfl
 | k+1=>by
   have ih:=fd_at f s z k
   have hh:=fst_has f s k
   rw [fst_succ,fd_succ]
   by_cases e:f k=s
   ·subst e
    cases hf:fst? f (f k) k with
    | some j=>rw [hf] at hh ih;simp only [Option.isSome_some] at hh;rw [if_pos hh.symm];simpa using ih
    | none=>rw [hf] at hh;simp only [Option.isSome_none] at hh;rw [if_neg (by rw [← hh];simp),atKey_put_same (fd_tidy f k).isMap (key_str _)];simp
   ·have e':(Lit.string s)≠.string (f k):=by intro h;injection h with h;exact e h.symm
    split <;> (cases hf:fst? f s k with
     | some j=>rw [hf] at ih;simpa [atKey_put_other e'] using ih
     | none=>rw [hf] at ih;simpa [atKey_put_other e',e] using ih)
end Go.Proofs.YtngdgogjlpjjpadGreat
namespace Go.Proofs.YtngdgogjlpjjpadGreat
open Go.RowKit
set_option linter.unusedVariables false
set_option linter.unusedSimpArgs false
set_option maxRecDepth 100000
theorem mem_getD {zs:List Int} {v:Int} (h:v ∈ zs):∃ k,k<zs.length∧zs.getD k 0=v:=by
 obtain ⟨k,hk,e⟩:=List.mem_iff_getElem.1 h
 exact ⟨k,hk,by simp [List.getD_eq_getElem?_getD,hk,e]⟩
theorem getD_mem' {zs:List Int} {k:Nat} (h:k<zs.length):zs.getD k 0 ∈ zs:=by
 simp [List.getD_eq_getElem?_getD,h]
set_option maxHeartbeats 1000000 in
theorem sliceIndexI_any (a:Option Addr) (n cap:Nat) (zs:List Int) (v:Int) (w:World) (h:IS w a n cap zs):
 Calls Tryz.prog 176 #[.slice a n cap,.int .i64 v] w fun e w'=>∃ r:Int,e=.returned (.int .i64 r)∧(0≤r ↔ v ∈ zs)∧Below w.heap.size w w':=by
 obtain ⟨hl,hmx,hr,hc,_⟩:=h
 unfold maxLen at hmx
 have HL:=hide hl
 clear hr
 by_cases hn0:n=0
 ·subst hn0
  obtain rfl:zs=[]:=List.eq_nil_of_length_eq_zero hl
  clear hc hl
  go_enter Tryz.func176,Tryz.ntmps176
  go_wp2
  go_loop [8] (fun i=>i=.int .i64 0) (fun _=>0)
  case atStart=>rfl
  case round=>
   obtain rfl:=hrel
   go_wp2
   go_ret
   exact ⟨-1,rfl,by simp,Below.refl _ _⟩
 ·obtain ⟨b,off,rfl,hd⟩:=hc hn0
  clear hc hl
  go_enter Tryz.func176,Tryz.ntmps176
  go_wp2
  go_loopw [5,8] (fun _ i wr=>∃ k:Nat,k≤n∧i=.int .i64 k∧(∀ j,j<k→¬ zs.getD j 0=v)∧Below w.heap.size w wr) (fun _ i _=>n - (intOf i).toNat)
  case atStart=>exact ⟨0,Nat.zero_le _,rfl,fun j hj=>absurd hj (Nat.not_lt_zero _),Below.refl _ _⟩
  case round=>
   obtain ⟨k,hk,rfl,hT,hB⟩:=hrel
   by_cases hlt:k<n
   ·have hlt':(k:Int)<(n:Int):=by omega
    have hck:wr.cell? ⟨b,off+k,none⟩=some (.int .i64 (zs.getD k 0)):=(hB.cell (World.block_lt_of_cell? w _ (hd k hlt))).trans (hd k hlt)
    have HB:=hide hB
    by_cases he:zs.getD k 0=v
    ·have HM:=hide (show v ∈ zs from he ▸ getD_mem' (by rw [HL.out];exact hlt))
     rw [he] at hck
     clear hT hd he hB
     have hz:(v == v)=true:=by simp
     go_wp2
     go_ret
     exact ⟨k,rfl,by simp [HM.out],HB.out⟩
    ·have HS:=hide (show ∀ j,j<k+1→¬ zs.getD j 0=v from fun j hj=>by
      by_cases e:j=k
      ·rw [e];exact he
      ·exact hT j (by omega))
     have hz:(v == zs.getD k 0)=false:=by simpa using fun e:v=zs.getD k 0=>he e.symm
     clear hT hd he hB
     generalize zs.getD k 0=z at *
     go_wp2
     go_roundw
     case rel=>exact ⟨k+1,by omega,by go_num,HS.out,HB.out⟩
     case measure=>simp [intOf];omega
   ·have HN:=hide (show ¬ v ∈ zs from fun hm=>by
     obtain ⟨j,hj,e⟩:=mem_getD hm
     exact hT j (by rw [HL.out] at hj;omega) e)
    have HB:=hide hB
    clear hT hd hB
    go_wp2
    go_ret
    exact ⟨-1,rfl,by simp [HN.out],HB.out⟩
set_option maxHeartbeats 1000000 in
theorem sliceHasI_any (a:Option Addr) (n cap:Nat) (zs:List Int) (v:Int) (w:World) (h:IS w a n cap zs):
 Calls Tryz.prog 112 #[.slice a n cap,.int .i64 v] w fun e w'=>e=.returned (.bool (decide (v ∈ zs)))∧Below w.heap.size w w':=by
 have HI:=hide (sliceIndexI_any a n cap zs v w h)
 clear h
 go_enter Tryz.func112,Tryz.ntmps112
 go_wp2_with fail
 refine HI.out.mono ?_
 rintro e w' ⟨r,rfl,hr,hB⟩
 have HR:=hide hr
 have HB:=hide hB
 clear hr hB
 go_wp2
 all_goals go_ret
 all_goals exact ⟨ret_bool (by simp [← HR.out]),HB.out⟩
end Go.Proofs.YtngdgogjlpjjpadGreat
