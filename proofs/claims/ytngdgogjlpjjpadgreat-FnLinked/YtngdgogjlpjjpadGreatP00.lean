import Derived.Test.YtngdgogjlpjjpadGreatRows
import Derived.WalkKit
import Derived.WalkLawsBesides
import Derived.WalkSpells
import Derived.Lib.Bytealg
import Derived.WideShapes
import Derived.BigQuiet
import Derived.Deep.QuietTactic
import Derived.Deep.RegionWith
namespace Go.Proofs.YtngdgogjlpjjpadGreat
open Go.RowKit
set_option linter.unusedVariables false
theorem ret_int {k:IntKind} {a b:Int} (h:a=b):Ending.returned (.int k a)=.returned (.int k b):=by rw [h]
theorem ret_bool {a b:Bool} (h:a=b):Ending.returned (.bool a)=.returned (.bool b):=by rw [h]
theorem hide {p:Prop} (h:p):Hid p:=h
theorem pow_pos (n:Nat):0<(2:Int)^n:=by
 have h1:0<(2:Nat)^n:=Nat.pow_pos (by omega)
 have h2:((2^n:Nat):Int)=(2:Int)^n:=by simp
 omega
end Go.Proofs.YtngdgogjlpjjpadGreat
namespace Go.Proofs.YtngdgogjlpjjpadGreat
open Go.RowKit
set_option linter.unusedVariables false
set_option linter.unusedSimpArgs false
set_option maxRecDepth 100000
def byt (s:ByteArray) (k:Nat):Int:=((s.get! k).toNat:Int)
theorem byt_range (s:ByteArray) (k:Nat):0≤byt s k∧byt s k≤255:=by
 unfold byt
 have:=(s.get! k).toNat_lt
 omega
theorem get_bang (s:ByteArray) (k:Nat) (h:k<s.size):s.get! k=s[k]'h:=by
 simp only [ByteArray.get!,getElem!_def]
 have:s.data[k]?=some (s.data[k]'h):=Array.getElem?_eq_getElem h
 rw [this]
 rfl
theorem str_index (s:ByteArray) (k:Nat) (h:k<s.size) (w:World):(Instr.index 9 (.string s) (.int .i64 (k:Int))).run Tryz.prog w=.ok (.int .u8 (byt s k)) w:=by
 rw [run_index_string w 9 s .i64 (k:Int) Tryz.underlying9,dif_pos (by omega)]
 simp only [byt,Int.toNat_natCast,get_bang s k h]
def nmo (s:ByteArray):Bool:=decide (1≤s.size∧s.size≤12) && (List.range s.size).all fun k=>decide (97≤byt s k∧byt s k≤122)
theorem nmo_bad (s:ByteArray) (k:Nat) (hk:k<s.size) (h:¬ (97≤byt s k∧byt s k≤122)):nmo s=false:=by
 unfold nmo
 rw [Bool.and_eq_false_iff]
 right
 rw [List.all_eq_false]
 exact ⟨k,by simpa using hk,by simpa using h⟩
theorem nmo_good (s:ByteArray) (h:∀ j,j<s.size→97≤byt s j∧byt s j≤122):nmo s=decide (1≤s.size∧s.size≤12):=by
 unfold nmo
 rw [show ((List.range s.size).all fun k=>decide (97≤byt s k∧byt s k≤122))=true from List.all_eq_true.2 (fun k hk=>by simpa using h k (by simpa using hk)),Bool.and_true]
set_option maxHeartbeats 1000000 in
theorem l4NameOk_any (s:ByteArray) (w:World) (hs:s.size≤1048576):
 Calls Tryz.prog 199 #[.string s] w fun e w'=>e=.returned (.bool (nmo s))∧w=w':=by
 obtain ⟨N,hN⟩:∃ N,N=s.size:=⟨_,rfl⟩
 go_enter Tryz.func199,Tryz.ntmps199
 go_wp2_with fail
 go_loop [3] (fun i=>∃ k:Nat,k≤s.size∧i=.int .i64 k∧Hid (∀ j,j<k→97≤byt s j∧byt s j≤122)) (fun i=>s.size - (intOf i).toNat)
 case atStart=>exact ⟨0,Nat.zero_le _,rfl,hide (fun j hj=>by omega)⟩
 case round=>
  obtain ⟨k,hk,rfl,HJ⟩:=hrel
  by_cases hlt:k<s.size
  ·have hlt':(k:Int)<(s.size:Int):=by omega
   have hix:=str_index s k hlt
   obtain ⟨z0,z1⟩:=byt_range s k
   have HZ:=hide (nmo_bad s k hlt)
   have HG:=hide (show 97≤byt s k∧byt s k≤122→∀ j,j<k+1→97≤byt s j∧byt s j≤122 from fun h j hj=>by
    by_cases e:j=k
    ·subst e;exact h
    ·exact HJ.out j (by omega))
   generalize byt s k=z at *
   by_cases c1:z<97
   ·have c1':(z<97)=True:=by simp [c1]
    go_wp2
    go_ret
    exact ⟨ret_bool (HZ.out (by omega)).symm,rfl⟩
   ·by_cases c2:122<z
    ·go_wp2
     go_ret
     exact ⟨ret_bool (HZ.out (by omega)).symm,rfl⟩
    ·go_wp2
     go_round
     case rel=>exact ⟨k+1,by omega,by go_num,hide (HG.out (by omega))⟩
     case measure=>simp [intOf];omega
  ·have e:Hid (k=s.size):=by show k=s.size;omega
   have HE:=hide (nmo_good s (fun j hj=>HJ.out j (by rw [e.out];exact hj)))
   by_cases c1:1≤s.size
   ·by_cases c2:s.size≤12
    ·go_wp2
     go_ret
     exact ⟨ret_bool (by have:=e.out;rw [HE.out,Bool.eq_iff_iff];simp;omega),rfl⟩
    ·go_wp2
     go_ret
     exact ⟨ret_bool (by have:=e.out;rw [HE.out,Bool.eq_iff_iff];simp;omega),rfl⟩
   ·go_wp2
    go_ret
    exact ⟨ret_bool (by have:=e.out;rw [HE.out,Bool.eq_iff_iff];simp;omega),rfl⟩
set_option maxHeartbeats 1000000 in
theorem isName_any (s:ByteArray) (w:World) (hs:s.size≤1048576):
 Calls Tryz.prog 205 #[.string s] w fun e w'=>e=.returned (.bool (nmo s))∧w=w':=by
 by_cases c1:s.size<1
 ·have HF:Hid (nmo s=false):=by show _=_;unfold nmo;rw [Bool.and_eq_false_iff];left;simp;omega
  have c1':(s.size:Int)<1:=by omega
  go_enter Tryz.func205,Tryz.ntmps205
  go_wp2
  go_ret
  exact ⟨ret_bool HF.out.symm,rfl⟩
 ·by_cases c2:12<s.size
  ·have HF:Hid (nmo s=false):=by show _=_;unfold nmo;rw [Bool.and_eq_false_iff];left;simp;omega
   have c1':¬ (s.size:Int)<1:=by omega
   have c2':(12:Int)<(s.size:Int):=by omega
   go_enter Tryz.func205,Tryz.ntmps205
   go_wp2
   go_ret
   exact ⟨ret_bool HF.out.symm,rfl⟩
  ·have c1':¬ (s.size:Int)<1:=by omega
   have c2':¬ (12:Int)<(s.size:Int):=by omega
   go_enter Tryz.func205,Tryz.ntmps205
   go_wp2_with fail
   go_loop [14] (fun i=>∃ k:Nat,k≤s.size∧i=.int .i64 k∧Hid (∀ j,j<k→97≤byt s j∧byt s j≤122)) (fun i=>s.size - (intOf i).toNat)
   case atStart=>exact ⟨0,Nat.zero_le _,rfl,hide (fun j hj=>by omega)⟩
   case round=>
    obtain ⟨k,hk,rfl,HJ⟩:=hrel
    by_cases hlt:k<s.size
    ·have hlt':(k:Int)<(s.size:Int):=by omega
     have hix:=str_index s k hlt
     obtain ⟨z0,z1⟩:=byt_range s k
     have HZ:=hide (nmo_bad s k hlt)
     have HG:=hide (show 97≤byt s k∧byt s k≤122→∀ j,j<k+1→97≤byt s j∧byt s j≤122 from fun h j hj=>by
      by_cases e:j=k
      ·subst e;exact h
      ·exact HJ.out j (by omega))
     generalize byt s k=z at *
     by_cases d1:z<97
     ·go_wp2
      go_ret
      exact ⟨ret_bool (HZ.out (by omega)).symm,rfl⟩
     ·by_cases d2:122<z
      ·go_wp2
       go_ret
       exact ⟨ret_bool (HZ.out (by omega)).symm,rfl⟩
      ·go_wp2
       go_round
       case rel=>exact ⟨k+1,by omega,by go_num,hide (HG.out (by omega))⟩
       case measure=>simp [intOf];omega
    ·have e:Hid (k=s.size):=by show k=s.size;omega
     have HE:=hide (nmo_good s (fun j hj=>HJ.out j (by rw [e.out];exact hj)))
     go_wp2
     go_ret
     exact ⟨ret_bool (by have:=e.out;rw [HE.out,Bool.eq_iff_iff];simp;omega),rfl⟩
def dotFrom (s:ByteArray):Nat→Nat→Int
 | 0,_=>-1
 | f+1,k=>if byt s k=46 then (k:Int) else dotFrom s f (k+1)
def dot (s:ByteArray):Int:=dotFrom s s.size 0
set_option maxHeartbeats 1000000 in
theorem l4Dot_any (s:ByteArray) (w:World) (hs:s.size≤1048576):
 Calls Tryz.prog 204 #[.string s] w fun e w'=>e=.returned (.int .i64 (dot s))∧w=w':=by
 go_enter Tryz.func204,Tryz.ntmps204
 go_wp2_with fail
 go_loop [3] (fun i=>∃ k:Nat,k≤s.size∧i=.int .i64 k∧Hid (dot s=dotFrom s (s.size - k) k)) (fun i=>s.size - (intOf i).toNat)
 case atStart=>exact ⟨0,Nat.zero_le _,rfl,hide rfl⟩
 case round=>
  obtain ⟨k,hk,rfl,HJ⟩:=hrel
  by_cases hlt:k<s.size
  ·have hlt':(k:Int)<(s.size:Int):=by omega
   have hix:=str_index s k hlt
   obtain ⟨z0,z1⟩:=byt_range s k
   have HD:=hide (show dot s=if byt s k=46 then (k:Int) else dotFrom s (s.size - (k+1)) (k+1) from by
    rw [HJ.out,show s.size - k=(s.size - (k+1))+1 by omega];rfl)
   clear HJ
   generalize byt s k=z at *
   by_cases c1:z=46
   ·have HE:=hide (show dot s=(k:Int) from by rw [HD.out,if_pos c1])
    subst c1
    go_wp2
    go_ret
    exact ⟨ret_int HE.out.symm,rfl⟩
   ·have HE:=hide (show dot s=dotFrom s (s.size - (k+1)) (k+1) from by rw [HD.out,if_neg c1])
    have c1':(z == 46)=false:=by simpa using c1
    go_wp2
    go_round
    case rel=>exact ⟨k+1,by omega,by go_num,HE⟩
    case measure=>simp [intOf];omega
  ·have e:Hid (dot s=-1):=by
    show dot s=-1
    rw [HJ.out,show s.size - k=0 by omega];rfl
   go_wp2
   go_ret
   exact ⟨ret_int e.out.symm,rfl⟩
theorem dotFrom_range (s:ByteArray):∀ (f k:Nat),dotFrom s f k=-1∨((k:Int)≤dotFrom s f k∧dotFrom s f k<k+f)
 | 0,k=>Or.inl rfl
 | f+1,k=>by
   unfold dotFrom
   split
   ·right;omega
   ·rcases dotFrom_range s f (k+1) with h | h
    ·left;exact h
    ·right;omega
theorem dot_range (s:ByteArray):dot s=-1∨(0≤dot s∧dot s<s.size):=by
 have:=dotFrom_range s s.size 0
 unfold dot
 omega
def cutA (s:ByteArray):ByteArray:=s.extract 0 (dot s).toNat
def cutB (s:ByteArray):ByteArray:=s.extract (dot s+1).toNat s.size
theorem cutA_size (s:ByteArray) (hs:s.size≤1048576):(cutA s).size≤1048576:=by
 unfold cutA
 rw [ByteArray.size_extract]
 omega
theorem cutB_size (s:ByteArray) (hs:s.size≤1048576):(cutB s).size≤1048576:=by
 unfold cutB
 rw [ByteArray.size_extract]
 omega
def full (s:ByteArray):Bool:=decide (0≤dot s) && (nmo (cutA s) && nmo (cutB s))
set_option maxHeartbeats 1000000 in
theorem l4FullOk_any (s:ByteArray) (w:World) (hs:s.size≤1048576):
 Calls Tryz.prog 202 #[.string s] w fun e w'=>e=.returned (.bool (full s))∧w=w':=by
 have HD:=hide (fun w=>l4Dot_any s w hs)
 have HA:=hide (fun w=>l4NameOk_any (cutA s) w (cutA_size s hs))
 have HB:=hide (fun w=>l4NameOk_any (cutB s) w (cutB_size s hs))
 obtain ⟨r,hr⟩:∃ r,r=full s:=⟨_,rfl⟩
 rw [← hr]
 unfold full at hr
 unfold cutA cutB at *
 rcases dot_range s with h | ⟨h0,h1⟩
 ·rw [h] at HD hr
  have HR:=hide (show r=false from by rw [hr];rfl)
  clear HA HB hr h
  go_enter Tryz.func202,Tryz.ntmps202
  go_wp2_with (go_at_call 204;refine (HD.out _).mono ?_;rintro e w1 ⟨rfl,rfl⟩)
  go_ret
  exact ⟨ret_bool HR.out.symm,rfl⟩
 ·generalize dot s=p at *
  generalize nmo (s.extract 0 p.toNat)=A at *
  generalize nmo (s.extract (p+1).toNat s.size)=B at *
  have HR:=hide (show r=(A && B) from by rw [hr];simp [h0])
  clear hr
  cases A
  ·go_enter Tryz.func202,Tryz.ntmps202
   go_wp2_with (first
    | (go_at_call 204;refine (HD.out _).mono ?_;rintro e w1 ⟨rfl,rfl⟩)
    | (go_at_call 199;refine (HA.out _).mono ?_;rintro e w1 ⟨rfl,rfl⟩))
   go_ret
   exact ⟨ret_bool HR.out.symm,rfl⟩
  ·go_enter Tryz.func202,Tryz.ntmps202
   go_wp2_with fail
   refine (HD.out _).mono ?_
   rintro e w1 ⟨rfl,rfl⟩
   go_wp2_with fail
   refine (HA.out _).mono ?_
   rintro e w1 ⟨rfl,rfl⟩
   go_wp2_with fail
   refine (HB.out _).mono ?_
   rintro e w1 ⟨rfl,rfl⟩
   go_wp2
   go_ret
   exact ⟨ret_bool HR.out.symm,rfl⟩
theorem idx_dot (l:List UInt8):∀ (s:ByteArray) (k:Nat),s.data.toList.drop k=l→Lib.indexByte l (46:Int).toNat.toUInt8=(let d:=dotFrom s l.length k;if d=-1 then -1 else d - k):=by
 induction l with
 | nil=>intro s k h;rfl
 | cons b l ih=>
   intro s k h
   have hk:k<s.data.toList.length:=by
    by_cases e:k<s.data.toList.length
    ·exact e
    ·rw [List.drop_eq_nil_of_le (by omega)] at h;cases h
   have hks:k<s.size:=by simpa using hk
   have hb:s.data.toList[k]'hk=b:=by
    have h2:s.data.toList[k]?=some b:=by
     have:=congrArg (fun t=>t[0]?) h
     simpa using this
    rw [List.getElem?_eq_getElem hk] at h2
    injection h2
   have hd:s.data.toList.drop (k+1)=l:=by
    have:=congrArg List.tail h
    simpa using this
   have hbyt:byt s k=(b.toNat:Int):=by
    unfold byt
    rw [get_bang s k hks,← hb]
    rfl
   have ih':=ih s (k+1) hd
   simp only [Lib.indexByte,List.length_cons,dotFrom,hbyt]
   rw [ih']
   have e46:(46:Int).toNat.toUInt8=46:=rfl
   rw [e46]
   by_cases c:b=46
   ·subst c
    simp
   ·have c1:(b == 46)=false:=by simpa using c
    have c2:¬ ((b.toNat:Int)=46):=fun e=>c (UInt8.toNat_inj.1 (by simpa using (by omega:b.toNat=46)))
    rw [c1,if_neg c2]
    rcases dotFrom_range s l.length (k+1) with e | e
    ·simp [e]
    ·have n1:¬ dotFrom s l.length (k+1)=-1:=by omega
     simp only [n1,if_false,Bool.false_eq_true]
     split
     ·next h=>simp at h;omega
     ·omega
theorem idx_dot' (s:ByteArray):Lib.indexByte s.data.toList (46:Int).toNat.toUInt8=dot s:=by
 have:=idx_dot s.data.toList s 0 (by simp)
 rw [this]
 have e:s.data.toList.length=s.size:=Array.length_toList
 unfold dot
 rw [e]
 rcases dotFrom_range s s.size 0 with h | h
 ·simp [h]
 ·simp only [if_neg (show ¬ dotFrom s s.size 0=-1 by omega)]
  omega
set_option maxHeartbeats 1000000 in
theorem indexByte_any (s:ByteArray) (w:World):
 Calls Tryz.prog 288 #[.string s,.int .u8 46] w fun e w'=>e=.returned (.int .i64 (dot s))∧w=w':=by
 have HD:=hide (idx_dot' s)
 go_enter Tryz.func288,Tryz.ntmps288
 go_wp2
 rw [run_callFunc_extern Tryz.func294 (by kernel_rfl) (by kernel_rfl) (by kernel_rfl) (e:=Extern.BytealgIndexByte.indexByte) (by kernel_rfl),Lib.run_indexByteString]
 simp only [Result.andThen]
 rw [Oper.upon_value]
 go_wp2
 go_ret
 exact ⟨ret_int HD.out,rfl⟩
set_option maxHeartbeats 1000000 in
theorem index_dot (s:ByteArray) (w:World) (hs:s.size≤1048576):
 Calls Tryz.prog 283 #[.string s,.string ⟨#[46]⟩] w fun e w'=>e=.returned (.int .i64 (dot s))∧w=w':=by
 have HI:=hide (fun w=>indexByte_any s w)
 by_cases he:(⟨#[46]⟩:ByteArray)=s
 ·subst he
  have HD:Hid (dot ⟨#[46]⟩=0):=by show _=_;rfl
  clear HI
  go_enter Tryz.func283,Tryz.ntmps283
  go_wp2
  go_ret
  exact ⟨ret_int HD.out.symm,rfl⟩
 ·have hne:¬ ([46]:List UInt8)=s.toList:=fun e=>he (Go.WideShapes.bytes_inj (by rw [ByteArray.toList_eq] at e;exact e))
  have he':(([46]:List UInt8) == s.toList)=false:=by simpa using hne
  have he2:((⟨#[46]⟩:ByteArray).toList == s.toList)=false:=by rw [ByteArray.toList_eq];exact he'
  have h46:∀ w:World,(Instr.index 9 (.string ⟨#[46]⟩) (.int .i64 0)).run Tryz.prog w=.ok (.int .u8 46) w:=fun w=>by kernel_rfl
  go_enter Tryz.func283,Tryz.ntmps283
  go_wp2_with (go_at_call 288;refine (HI.out _).mono ?_;rintro e w1 ⟨rfl,rfl⟩)
  go_ret
  exact ⟨rfl,rfl⟩
set_option maxHeartbeats 1000000 in
theorem slCut_any (s:ByteArray) (w:World) (hs:s.size≤1048576):
 Calls Tryz.prog 277 #[.string s,.string ⟨#[46]⟩] w fun e w'=>e=.returned (.tuple #[.string (if 0≤dot s then cutA s else s),.string (if 0≤dot s then cutB s else ⟨#[]⟩),.bool (decide (0≤dot s))])∧Below w.heap.size w w':=by
 have HI:=hide (fun w=>index_dot s w hs)
 have HB:=hide (Below.refl w.heap.size w)
 rcases dot_range s with h | ⟨h0,h1⟩
 ·have hn:¬ (0≤dot s):=by omega
  rw [if_neg hn,if_neg hn,decide_eq_false hn]
  rw [h] at HI
  clear h hn
  go_enter Tryz.func277,Tryz.ntmps277
  go_wp2_with (go_at_call 283;refine (HI.out _).mono ?_;rintro e w1 ⟨rfl,rfl⟩)
  all_goals (try go_region)
  all_goals (try go_wp2)
  all_goals go_ret3
  all_goals exact ⟨rfl,by first | exact HB.out | exact HB.out.drew⟩
 ·rw [if_pos h0,if_pos h0,decide_eq_true h0]
  unfold cutA cutB
  generalize dot s=p at *
  go_enter Tryz.func277,Tryz.ntmps277
  go_wp2_with (go_at_call 283;refine (HI.out _).mono ?_;rintro e w1 ⟨rfl,rfl⟩)
  all_goals (try go_region)
  all_goals (try go_wp2)
  all_goals go_ret3
  all_goals exact ⟨rfl,by first | exact HB.out | exact HB.out.drew⟩
set_option maxHeartbeats 1000000 in
theorem cut_any (s:ByteArray) (w:World) (hs:s.size≤1048576):
 Calls Tryz.prog 269 #[.string s,.string ⟨#[46]⟩] w fun e w'=>e=.returned (.tuple #[.string (if 0≤dot s then cutA s else s),.string (if 0≤dot s then cutB s else ⟨#[]⟩),.bool (decide (0≤dot s))])∧Below w.heap.size w w':=by
 have HC:=hide (fun w=>slCut_any s w hs)
 generalize (if 0≤dot s then cutA s else s)=A at *
 generalize (if 0≤dot s then cutB s else ⟨#[]⟩)=B at *
 generalize decide (0≤dot s)=C at *
 go_enter Tryz.func269,Tryz.ntmps269
 go_wp2_with (go_at_call 277;refine (HC.out _).mono ?_;rintro e w1 ⟨rfl,hb1⟩)
 go_ret3
 exact ⟨rfl,hb1⟩
theorem nmo_none:nmo ⟨#[]⟩=false:=rfl
def cutV (s:ByteArray):Value:=if full s then .tuple #[.string (cutA s),.string (cutB s),.bool true] else .tuple #[.string ⟨#[]⟩,.string ⟨#[]⟩,.bool false]
set_option maxHeartbeats 1000000 in
theorem cutImport_any (s:ByteArray) (w:World) (hs:s.size≤1048576):
 Calls Tryz.prog 210 #[.string s] w fun e w'=>e=.returned (cutV s)∧Below w.heap.size w w':=by
 have HC:=hide (fun w=>cut_any s w hs)
 obtain ⟨V,hV⟩:∃ V,V=cutV s:=⟨_,rfl⟩
 rw [← hV]
 unfold cutV full at hV
 have hA:(if 0≤dot s then cutA s else s).size≤1048576:=by split;exact cutA_size s hs;exact hs
 have hB:(if 0≤dot s then cutB s else ⟨#[]⟩).size≤1048576:=by split;exact cutB_size s hs;exact (by decide)
 have HA:=hide (fun w=>isName_any _ w hA)
 have HB:=hide (fun w=>isName_any _ w hB)
 have hV':V=if nmo (if 0≤dot s then cutA s else s) && nmo (if 0≤dot s then cutB s else ⟨#[]⟩) then .tuple #[.string (if 0≤dot s then cutA s else s),.string (if 0≤dot s then cutB s else ⟨#[]⟩),.bool true] else .tuple #[.string ⟨#[]⟩,.string ⟨#[]⟩,.bool false]:=by
  by_cases h:0≤dot s
  ·simp only [h,if_true,decide_true,Bool.true_and] at hV ⊢
   exact hV
  ·simp only [h,if_false,decide_false,Bool.false_and,nmo_none,Bool.and_false] at hV ⊢
   exact hV
 clear hV hA hB
 generalize (if 0≤dot s then cutA s else s)=A at *
 generalize (if 0≤dot s then cutB s else ⟨#[]⟩)=B at *
 generalize decide (0≤dot s)=C at *
 generalize nmo A=a at *
 generalize nmo B=b at *
 have HV:=hide hV'
 clear hV'
 cases a
 ·obtain rfl:V=.tuple #[.string ⟨#[]⟩,.string ⟨#[]⟩,.bool false]:=HV.out
  go_enter Tryz.func210,Tryz.ntmps210
  go_wp2_with fail
  refine (HC.out _).mono ?_
  rintro e w1 ⟨rfl,hb1⟩
  go_wp2_with fail
  refine (HA.out _).mono ?_
  rintro e w2 ⟨rfl,rfl⟩
  go_wp2
  go_ret3
  exact ⟨rfl,hb1⟩
 ·cases b
  ·obtain rfl:V=.tuple #[.string ⟨#[]⟩,.string ⟨#[]⟩,.bool false]:=HV.out
   go_enter Tryz.func210,Tryz.ntmps210
   go_wp2_with fail
   refine (HC.out _).mono ?_
   rintro e w1 ⟨rfl,hb1⟩
   go_wp2_with fail
   refine (HA.out _).mono ?_
   rintro e w2 ⟨rfl,rfl⟩
   go_wp2_with fail
   refine (HB.out _).mono ?_
   rintro e w2 ⟨rfl,rfl⟩
   go_wp2
   go_ret3
   exact ⟨rfl,hb1⟩
  ·obtain rfl:V=.tuple #[.string A,.string B,.bool true]:=HV.out
   go_enter Tryz.func210,Tryz.ntmps210
   go_wp2_with fail
   refine (HC.out _).mono ?_
   rintro e w1 ⟨rfl,hb1⟩
   go_wp2_with fail
   refine (HA.out _).mono ?_
   rintro e w2 ⟨rfl,rfl⟩
   go_wp2_with fail
   refine (HB.out _).mono ?_
   rintro e w2 ⟨rfl,rfl⟩
   go_wp2
   go_ret3
   exact ⟨rfl,hb1⟩
end Go.Proofs.YtngdgogjlpjjpadGreat
namespace Go.Proofs.YtngdgogjlpjjpadGreat
open Go.RowKit
set_option linter.unusedVariables false
def BS (w:World) (a:Option Addr) (n cap:Nat) (zs:List Int):Prop:=
 zs.length=n∧n≤maxLen∧(∀ z ∈ zs,0≤z∧z≤255)∧(n≠0→∃ b off,a=some ⟨b,off,none⟩∧∀ i,i<n→w.cell? ⟨b,off+i,none⟩=some (.int .u8 (zs.getD i 0)))∧n≤cap
theorem BS.below {w w':World} {a:Option Addr} {n cap:Nat} {zs:List Int} (h:BS w a n cap zs) (hb:Below w.heap.size w w'):BS w' a n cap zs:=by
 obtain ⟨h1,h2,h3,h4,h5⟩:=h
 refine ⟨h1,h2,h3,fun hn=>?_,h5⟩
 obtain ⟨b,off,ha,hc⟩:=h4 hn
 refine ⟨b,off,ha,fun i hi=>?_⟩
 have:=hc i hi
 rw [hb.cell (p:=⟨b,off+i,none⟩) (World.block_lt_of_cell? w _ this)]
 exact this
theorem BS.range {w:World} {a:Option Addr} {n cap:Nat} {zs:List Int} (h:BS w a n cap zs) (i:Nat):0≤zs.getD i 0∧zs.getD i 0≤255:=by
 by_cases hi:i<zs.length
 ·have:=h.2.2.1 zs[i] (List.getElem_mem hi)
  simpa [List.getD_eq_getElem?_getD,hi] using this
 ·simp [List.getD_eq_getElem?_getD,Nat.le_of_not_lt hi]
def Row8 (w:World) (g:Nat) (zs:List Int):Prop:=w.heap[g]?=some (.cells (zs.map (Value.int .u8)).toArray 5 (0,0))
theorem Row8.cell {w:World} {g:Nat} {zs:List Int} (h:Row8 w g zs) (i:Nat) (hi:i<zs.length):w.cell? ⟨g,i,none⟩=some (.int .u8 (zs.getD i 0)):=by
 rw [cell_of_row w g i _ _ _ h];simp [List.getD_eq_getElem?_getD,hi]
theorem Row8.frozen {w:World} {g:Nat} {zs:List Int} (h:Row8 w g zs) (i:Nat):w.frozen? ⟨g,i,none⟩=false:=frozen_of_row w g i _ _ h
theorem Row8.set {w:World} {g:Nat} {zs:List Int} (h:Row8 w g zs) (i:Nat) (z:Int):Row8 (w.setCell ⟨g,i,none⟩ (.int .u8 z)) g (zs.set i z):=by
 unfold Row8 at *
 rw [heap_setCell_same w g i _ _ _ h]
 simp [List.map_set]
theorem Row8.lt {w:World} {g:Nat} {zs:List Int} (h:Row8 w g zs):g<w.heap.size:=by
 unfold Row8 at h
 by_cases hg:g<w.heap.size
 ·exact hg
 ·simp [Array.getElem?_eq_none (Nat.le_of_not_lt hg)] at h
theorem Row8.below {w w':World} {g:Nat} {zs:List Int} (h:Row8 w g zs) (hb:Below w.heap.size w w'):Row8 w' g zs:=by
 have:=hb.block g h.lt
 unfold Row8 at *
 rw [this];exact h
theorem Row8.bs {w:World} {g:Nat} {zs:List Int} (h:Row8 w g zs) (hm:zs.length≤maxLen) (hz:∀ z ∈ zs,0≤z∧z≤255) (n cap:Nat) (hn:zs.length=n) (hc:n≤cap:=by exact Nat.le_refl _):BS w (some ⟨g,0,none⟩) n cap zs:=by
 subst hn
 exact ⟨rfl,hm,hz,fun _=>⟨g,0,rfl,fun i hi=>by rw [Nat.zero_add];exact h.cell i hi⟩,hc⟩
def Blk (w:World) (g:Nat) (cs:Array Value) (t:TypeId):Prop:=w.heap[g]?=some (.cells cs t (0,0))
theorem Blk.cell {w:World} {g:Nat} {cs:Array Value} {t:TypeId} (h:Blk w g cs t) (i:Nat):w.cell? ⟨g,i,none⟩=cs[i]?:=cell_of_row w g i _ _ _ h
theorem Blk.frozen {w:World} {g:Nat} {cs:Array Value} {t:TypeId} (h:Blk w g cs t) (i:Nat):w.frozen? ⟨g,i,none⟩=false:=frozen_of_row w g i _ _ h
theorem Blk.lt {w:World} {g:Nat} {cs:Array Value} {t:TypeId} (h:Blk w g cs t):g<w.heap.size:=by
 unfold Blk at h
 by_cases hg:g<w.heap.size
 ·exact hg
 ·simp [Array.getElem?_eq_none (Nat.le_of_not_lt hg)] at h
theorem Blk.below {w w':World} {g:Nat} {cs:Array Value} {t:TypeId} (h:Blk w g cs t) (hb:Below w.heap.size w w'):Blk w' g cs t:=by
 have:=hb.block g h.lt
 unfold Blk at *
 rw [this];exact h
theorem Blk.new (w:World) (cs:Array Value) (t:TypeId):Blk (w.alloc (.cells cs t)) w.heap.size cs t:=heap_alloc_new w _
theorem Blk.alloc {w:World} {g:Nat} {cs:Array Value} {t:TypeId} (h:Blk w g cs t) (o:Obj):Blk (w.alloc o) g cs t:=by
 have hl:=h.lt;unfold Blk at *;rw [Below.heap_alloc _ _ _ hl];exact h
theorem Blk.set {w:World} {g:Nat} {cs:Array Value} {t:TypeId} (h:Blk w g cs t) (i:Nat) (v:Value):Blk (w.setCell ⟨g,i,none⟩ v) g (cs.setIfInBounds i v) t:=heap_setCell_same w g i _ _ _ h
theorem Blk.other {w:World} {g:Nat} {cs:Array Value} {t:TypeId} (h:Blk w g cs t) (a:Addr) (v:Value) (hg:g≠a.block):Blk (w.setCell a v) g cs t:=by
 unfold Blk at *;rw [heap_setCell_other _ _ _ _ hg];exact h
theorem Row8.blk {w:World} {g:Nat} {zs:List Int}:Row8 w g zs=Blk w g (zs.map (Value.int .u8)).toArray 5:=rfl
theorem Row8.other {w:World} {g:Nat} {zs:List Int} (h:Row8 w g zs) (a:Addr) (v:Value) (hg:g≠a.block):Row8 (w.setCell a v) g zs:=Blk.other h a v hg
theorem Row8.alloc {w:World} {g:Nat} {zs:List Int} (h:Row8 w g zs) (o:Obj):Row8 (w.alloc o) g zs:=Blk.alloc h o
theorem size_setCell (w:World) (a:Addr) (v:Value):(w.setCell a v).heap.size=w.heap.size:=by simp [World.setCell]
theorem undrew {w w':World} (h:Below w.drew.heap.size w.drew w'):Below w.heap.size w w':=⟨h.os,h.tape,h.output,h.size,h.block⟩
theorem info8:(Tryz.prog.info? 5).map (fun i=>(i.zero,i.size,i.bytes))=some (some (.int .u8 0),1,1):=by kernel_rfl
theorem made8 (n:Nat):(madeCells (Value.cells (.int .u8 0)) (n * 1))=((List.replicate n (0:Int)).map (Value.int .u8)).toArray:=by
 apply Array.ext
 ·simp [size_madeCells]
 ·intro i h1 h2
  simp [madeCells,Value.cells,Nat.mod_one]
theorem below_grown {w w':World} (h:w.grownBy w' none):Below w.heap.size w w':=(Below.refl _ _).grown h (Nat.le_refl _) (fun k hk=>by cases hk)
def mok (n1 n2 n3:Nat):Bool:=decide (n1≤16384∧n2≤16384∧n3≤5000)
set_option maxHeartbeats 400000 in
theorem iMemOk_any (a1 a2 a3:Option Addr) (n1 c1 n2 c2 n3 c3:Nat) (w:World):
 Calls Tryz.prog 94 #[.agg #[.slice a1 n1 c1,.slice a2 n2 c2,.slice a3 n3 c3]] w fun e w'=>e=.returned (.bool (mok n1 n2 n3))∧Below w.heap.size w w':=by
 by_cases k1:(n1:Int)≤16384
 all_goals by_cases k2:(n2:Int)≤16384
 all_goals by_cases k3:(n3:Int)≤5000
 all_goals
  obtain ⟨r,hr⟩:∃ r,r=mok n1 n2 n3:=⟨_,rfl⟩
  have HR:Hid (r=mok n1 n2 n3):=hr
  rw [← hr]
  clear hr
  go_enter Tryz.func94,Tryz.ntmps94
  go_wp2
  go_ret
  refine ⟨ret_bool ?_,(Below.refl _ _).alloc (Nat.le_refl _) _⟩
  rw [HR.out]
  unfold mok
  simp
  try omega
theorem Blk.three {w:World} {g:Nat} {a b c:Value} {t:TypeId} (h:Blk w g #[a,b,c] t):
 w.cell? ⟨g,0,none⟩=some a∧w.cell? ⟨g,1,none⟩=some b∧w.cell? ⟨g,2,none⟩=some c∧∀ i,w.frozen? ⟨g,i,none⟩=false:=
 ⟨by rw [h.cell];rfl,by rw [h.cell];rfl,by rw [h.cell];rfl,fun i=>h.frozen i⟩
abbrev Rg:=Int × Int × Int × Bool × Bool × Bool
def z6:Rg:=(0,0,0,false,false,false)
def At6 (w:World) (b o:Nat) (g:Rg):Prop:=
 w.cell? ⟨b,o,none⟩=some (.int .i64 g.1)∧w.cell? ⟨b,o+1,none⟩=some (.int .i64 g.2.1)∧w.cell? ⟨b,o+2,none⟩=some (.int .i64 g.2.2.1) ∧
 w.cell? ⟨b,o+3,none⟩=some (.bool g.2.2.2.1)∧w.cell? ⟨b,o+4,none⟩=some (.bool g.2.2.2.2.1)∧w.cell? ⟨b,o+5,none⟩=some (.bool g.2.2.2.2.2)
def wfi (z:Int):Prop:=-9223372036854775808≤z∧z≤9223372036854775807
def RS (w:World) (a:Option Addr) (n cap:Nat) (rs:List Rg):Prop:=
 rs.length=n∧n≤maxLen∧(∀ g ∈ rs,wfi g.1∧wfi g.2.1∧wfi g.2.2.1)∧(n≠0→∃ b off,a=some ⟨b,off,none⟩∧∀ i,i<n→At6 w b (off+i * 6) (rs.getD i z6))∧n≤cap
theorem At6.below {w w':World} {b o:Nat} {g:Rg} (h:At6 w b o g) (hb:Below w.heap.size w w'):At6 w' b o g:=by
 obtain ⟨h1,h2,h3,h4,h5,h6⟩:=h
 have hl:b<w.heap.size:=World.block_lt_of_cell? w _ h1
 unfold At6
 rw [hb.cell (p:=⟨b,o,none⟩) hl,hb.cell (p:=⟨b,o+1,none⟩) hl,hb.cell (p:=⟨b,o+2,none⟩) hl,hb.cell (p:=⟨b,o+3,none⟩) hl,hb.cell (p:=⟨b,o+4,none⟩) hl,hb.cell (p:=⟨b,o+5,none⟩) hl]
 exact ⟨h1,h2,h3,h4,h5,h6⟩
theorem RS.below {w w':World} {a:Option Addr} {n cap:Nat} {rs:List Rg} (h:RS w a n cap rs) (hb:Below w.heap.size w w'):RS w' a n cap rs:=by
 obtain ⟨h1,h2,h3,h4,h5⟩:=h
 refine ⟨h1,h2,h3,fun hn=>?_,h5⟩
 obtain ⟨b,off,ha,hc⟩:=h4 hn
 exact ⟨b,off,ha,fun i hi=>(hc i hi).below hb⟩
theorem RS.some {w:World} {a:Option Addr} {n cap:Nat} {rs:List Rg} (h:RS w a n cap rs) (hn:n≠0):∃ b off,a=Option.some ⟨b,off,none⟩:=by
 obtain ⟨b,off,e,_⟩:=h.2.2.2.1 hn
 exact ⟨b,off,e⟩
theorem RS.at {w:World} {b off n cap:Nat} {rs:List Rg} (h:RS w (Option.some ⟨b,off,none⟩) n cap rs) (i:Nat) (hi:i<n):At6 w b (off+i * 6) (rs.getD i z6):=by
 obtain ⟨b',off',e,hd⟩:=h.2.2.2.1 (by omega)
 simp at e
 obtain ⟨rfl,rfl⟩:=e
 exact hd i hi
end Go.Proofs.YtngdgogjlpjjpadGreat
namespace Go.Proofs.YtngdgogjlpjjpadGreat
open Go.RowKit
set_option linter.unusedVariables false
set_option maxRecDepth 100000
def IS (w:World) (a:Option Addr) (n cap:Nat) (zs:List Int):Prop:=
 zs.length=n∧n≤maxLen∧(∀ z ∈ zs,wfi z)∧(n≠0→∃ b off,a=some ⟨b,off,none⟩∧∀ i,i<n→w.cell? ⟨b,off+i,none⟩=some (.int .i64 (zs.getD i 0)))∧n≤cap
theorem IS.below {w w':World} {a:Option Addr} {n cap:Nat} {zs:List Int} (h:IS w a n cap zs) (hb:Below w.heap.size w w'):IS w' a n cap zs:=by
 obtain ⟨h1,h2,h3,h4,h5⟩:=h
 refine ⟨h1,h2,h3,fun hn=>?_,h5⟩
 obtain ⟨b,off,ha,hc⟩:=h4 hn
 refine ⟨b,off,ha,fun i hi=>?_⟩
 have:=hc i hi
 rw [hb.cell (p:=⟨b,off+i,none⟩) (World.block_lt_of_cell? w _ this)]
 exact this
theorem IS.range {w:World} {a:Option Addr} {n cap:Nat} {zs:List Int} (h:IS w a n cap zs) (i:Nat):wfi (zs.getD i 0):=by
 by_cases hi:i<zs.length
 ·have:=h.2.2.1 zs[i] (List.getElem_mem hi)
  simpa [List.getD_eq_getElem?_getD,hi] using this
 ·simp [List.getD_eq_getElem?_getD,Nat.le_of_not_lt hi,wfi]
def RowI (w:World) (g:Nat) (zs:List Int):Prop:=w.heap[g]?=some (.cells (zs.map (Value.int .i64)).toArray 3 (0,0))
theorem RowI.cell {w:World} {g:Nat} {zs:List Int} (h:RowI w g zs) (i:Nat) (hi:i<zs.length):w.cell? ⟨g,i,none⟩=some (.int .i64 (zs.getD i 0)):=by
 rw [cell_of_row w g i _ _ _ h];simp [List.getD_eq_getElem?_getD,hi]
theorem RowI.frozen {w:World} {g:Nat} {zs:List Int} (h:RowI w g zs) (i:Nat):w.frozen? ⟨g,i,none⟩=false:=frozen_of_row w g i _ _ h
theorem RowI.set {w:World} {g:Nat} {zs:List Int} (h:RowI w g zs) (i:Nat) (z:Int):RowI (w.setCell ⟨g,i,none⟩ (.int .i64 z)) g (zs.set i z):=by
 unfold RowI at *
 rw [heap_setCell_same w g i _ _ _ h]
 simp [List.map_set]
theorem RowI.lt {w:World} {g:Nat} {zs:List Int} (h:RowI w g zs):g<w.heap.size:=by
 unfold RowI at h
 by_cases hg:g<w.heap.size
 ·exact hg
 ·simp [Array.getElem?_eq_none (Nat.le_of_not_lt hg)] at h
theorem RowI.below {w w':World} {g:Nat} {zs:List Int} (h:RowI w g zs) (hb:Below w.heap.size w w'):RowI w' g zs:=by
 have:=hb.block g h.lt
 unfold RowI at *
 rw [this];exact h
theorem RowI.is {w:World} {g:Nat} {zs:List Int} (h:RowI w g zs) (hm:zs.length≤maxLen) (hz:∀ z ∈ zs,wfi z) (n cap:Nat) (hn:zs.length=n) (hc:n≤cap:=by exact Nat.le_refl _):IS w (some ⟨g,0,none⟩) n cap zs:=by
 subst hn
 exact ⟨rfl,hm,hz,fun _=>⟨g,0,rfl,fun i hi=>by rw [Nat.zero_add];exact h.cell i hi⟩,hc⟩
theorem infoI:(Tryz.prog.info? 3).map (fun i=>(i.zero,i.size,i.bytes))=some (some (.int .i64 0),1,8):=by kernel_rfl
theorem take_eq_succI (xs ys:List Int) (k:Nat) (h:xs.take k=ys.take k) (hx:k<xs.length) (hy:k<ys.length) (he:xs.getD k 0=ys.getD k 0):xs.take (k+1)=ys.take (k+1):=by
 rw [List.take_succ_eq_append_getElem hx,List.take_succ_eq_append_getElem hy,h]
 simp [List.getD_eq_getElem?_getD,hx,hy] at he
 rw [he]
end Go.Proofs.YtngdgogjlpjjpadGreat
namespace Go.Proofs.YtngdgogjlpjjpadGreat
open Go.RowKit
set_option linter.unusedVariables false
structure Turn (S:Nat→Prop) (w w':World):Prop where
 os:w'.os=w.os
 tape:w'.tape=w.tape
 output:w'.output=w.output
 size:w.heap.size≤w'.heap.size
 block:∀ k,k<w.heap.size→¬ S k→w'.heap[k]?=w.heap[k]?
theorem Turn.refl (S:Nat→Prop) (w:World):Turn S w w:=⟨rfl,rfl,rfl,Nat.le_refl _,fun _ _ _=>rfl⟩
theorem Turn.trans {S:Nat→Prop} {a b c:World} (h:Turn S a b) (k:Turn S b c):Turn S a c:=
 ⟨k.os.trans h.os,k.tape.trans h.tape,k.output.trans h.output,Nat.le_trans h.size k.size,fun j hj hs=>(k.block j (Nat.lt_of_lt_of_le hj h.size) hs).trans (h.block j hj hs)⟩
theorem Turn.mono {S S':Nat→Prop} {w w':World} (h:Turn S w w') (hs:∀ k,S k→S' k):Turn S' w w':=⟨h.os,h.tape,h.output,h.size,fun k hk hn=>h.block k hk (fun e=>hn (hs k e))⟩
theorem turn_below {S:Nat→Prop} {w w':World} (h:Below w.heap.size w w'):Turn S w w':=⟨h.os,h.tape,h.output,h.size,fun k hk _=>h.block k hk⟩
theorem turn_alloc {S:Nat→Prop} (w:World) (o:Obj):Turn S w (w.alloc o):=turn_below ((Below.refl _ _).alloc (Nat.le_refl _) _)
theorem below_turn {B:Nat} {S:Nat→Prop} {a w w':World} (h:Below B a w) (ht:Turn S w w') (hS:∀ k,S k→B≤k) (hB:B≤w.heap.size):Below B a w':=
 ⟨ht.os.trans h.os,ht.tape.trans h.tape,ht.output.trans h.output,Nat.le_trans h.size ht.size,fun k hk=>(ht.block k (by omega) (fun e=>by have:=hS k e;omega)).trans (h.block k hk)⟩
theorem turn_blk {S:Nat→Prop} {w w':World} {k:Nat} {cs:Array Value} {t:TypeId} (ht:Turn S w w') (h:Blk w k cs t) (hk:¬ S k):Blk w' k cs t:=by
 have:=ht.block k h.lt hk
 unfold Blk at *;rw [this];exact h
theorem turn_bs {S:Nat→Prop} {w w':World} {a:Option Addr} {n cap:Nat} {zs:List Int} (ht:Turn S w w') (h:BS w a n cap zs) (hk:∀ k,S k→∀ b off,a=some ⟨b,off,none⟩→b≠k):BS w' a n cap zs:=by
 obtain ⟨h1,h2,h3,h4,h5⟩:=h
 refine ⟨h1,h2,h3,fun hn=>?_,h5⟩
 obtain ⟨b,off,ha,hc⟩:=h4 hn
 refine ⟨b,off,ha,fun i hi=>?_⟩
 have:=hc i hi
 have hl:=World.block_lt_of_cell? w _ this
 rw [World.cell?_of_block (w:=w) (ht.block b hl (fun e=>hk b e b off ha rfl))]
 exact this
theorem addr_add (b off i:Nat):(Addr.add ⟨b,off,none⟩ i)=⟨b,off+i,none⟩:=by
 simp only [Addr.add]
 split
 ·next h=>subst h;rfl
 ·rfl
def wd (s:Int):Bool:=decide (s=1∨s=2∨s=4)
set_option maxHeartbeats 400000 in
theorem isWidth_any (s:Int) (w:World):
 Calls Tryz.prog 119 #[.int .i64 s] w fun e w'=>e=.returned (.bool (wd s))∧w=w':=by
 by_cases h1:s=1
 ·subst h1
  go_enter Tryz.func119,Tryz.ntmps119
  go_wp2
  go_ret
  exact ⟨rfl,rfl⟩
 ·by_cases h2:s=2
  ·subst h2
   go_enter Tryz.func119,Tryz.ntmps119
   go_wp2
   go_ret
   exact ⟨rfl,rfl⟩
  ·have hf:Hid (wd s=(s == 4)):=by show _=_;unfold wd;rw [Bool.eq_iff_iff];simp;omega
   have g1:(s == 1)=false:=by simpa using h1
   have g2:(s == 2)=false:=by simpa using h2
   clear h1 h2
   go_enter Tryz.func119,Tryz.ntmps119
   go_wp2
   go_ret
   exact ⟨ret_bool hf.out.symm,rfl⟩
def ins (p s f:Int) (n:Nat):Bool:=decide (f≤p∧p≤f+n - s)
set_option maxHeartbeats 400000 in
theorem holds_any (a:Option Addr) (n cap:Nat) (p s f:Int) (w:World) (hp:p≤9223372036854775807) (hs0:1≤s) (hs:s≤4) (hf0:0≤f) (hf:f≤65536) (hn:n≤16384):
 Calls Tryz.prog 159 #[.slice a n cap,.int .i64 f,.int .i64 p,.int .i64 s] w fun e w'=>e=.returned (.bool (ins p s f n))∧w=w':=by
 by_cases h1:f≤p
 ·have hf:Hid (ins p s f n=decide (p - f≤n - s)):=by show _=_;unfold ins;rw [Bool.eq_iff_iff];simp;omega
  go_enter Tryz.func159,Tryz.ntmps159
  go_wp2
  go_ret
  exact ⟨ret_bool hf.out.symm,rfl⟩
 ·have hf:Hid (ins p s f n=false):=by show _=_;unfold ins;simp;omega
  go_enter Tryz.func159,Tryz.ntmps159
  go_wp2
  go_ret
  exact ⟨ret_bool hf.out.symm,rfl⟩
def low:List Int→Int
 | []=>0
 | z :: zs=>low zs * 256+z
theorem low_range:∀ (zs:List Int),(∀ z ∈ zs,0≤z∧z≤255)→0≤low zs∧low zs+1≤(256:Int)^zs.length
 | [],_=>by simp [low]
 | z :: zs,h=>by
   have ih:=low_range zs (fun x hx=>h x (by simp [hx]))
   have hz:=h z (by simp)
   simp only [low,List.length_cons,Int.pow_succ]
   omega
theorem low_small (zs:List Int) (h:∀ z ∈ zs,0≤z∧z≤255) (hl:zs.length≤4):0≤low zs∧low zs≤4294967295:=by
 have h1:=low_range zs h
 have h2:(256:Nat)^zs.length≤256^4:=Nat.pow_le_pow_right (by omega) hl
 have h3:((256^zs.length:Nat):Int)=(256:Int)^zs.length:=by simp
 have h4:(256:Nat)^4=4294967296:=rfl
 omega
theorem low_drop (zs:List Int) (j:Nat) (h:j<zs.length):low (zs.drop j)=low (zs.drop (j+1)) * 256+zs.getD j 0:=by
 rw [List.drop_eq_getElem_cons h]
 simp [low,List.getD_eq_getElem?_getD,h]
set_option maxHeartbeats 1000000 in
theorem l1Low_any (b off n cap:Nat) (zs:List Int) (w:World) (h:BS w (some ⟨b,off,none⟩) n cap zs) (hn:n≤4):
 Calls Tryz.prog 73 #[.slice (some ⟨b,off,none⟩) n cap] w fun e w'=>e=.returned (.int .i64 (low zs))∧w=w':=by
 obtain ⟨hl,hmx,hr,hc,_⟩:=h
 have hd:∀ i,i<n→w.cell? ⟨b,off+i,none⟩=some (.int .u8 (zs.getD i 0)):=by
  intro i hi
  obtain ⟨b',off',e,hd⟩:=hc (by omega)
  simp at e
  obtain ⟨rfl,rfl⟩:=e
  exact hd i hi
 clear hc
 go_enter Tryz.func73,Tryz.ntmps73
 go_wp2
 go_loop [3,4] (fun v i=>∃ (k:Nat) (p:Int),k≤n∧p+1=k∧i=.int .i64 p∧v=.int .i64 (low (zs.drop k))) (fun _ i=>(intOf i+1).toNat)
 case atStart=>exact ⟨n,(n:Int) - 1,Nat.le_refl _,by omega,rfl,by rw [List.drop_of_length_le (by omega)];rfl⟩
 case round=>
  obtain ⟨k,p,hk,hp,rfl,rfl⟩:=hrel
  by_cases h0:k=0
  ·have hp':p=-1:=by omega
   subst hp' h0
   clear hp
   have hfin:Hid (low (List.drop 0 zs)=low zs):=by show _=_;rw [List.drop_zero]
   generalize low (List.drop 0 zs)=L at *
   go_wp2
   go_ret
   exact ⟨ret_int hfin.out,rfl⟩
  ·obtain ⟨j,rfl⟩:∃ j,k=j+1:=⟨k - 1,by omega⟩
   have hp':p=(j:Int):=by omega
   subst hp'
   have hj:(0:Int)≤(j:Int):=by omega
   have hjn:(j:Int)<(n:Int):=by omega
   have hst:=low_drop zs j (by omega)
   have hL:=low_small (zs.drop (j+1)) (fun z hz=>hr z (List.mem_of_mem_drop hz)) (by simp;omega)
   have hL3:low (zs.drop (j+1))≤4294967295:=hL.2
   have hcj:=hd j (by omega)
   have hz0:0≤zs.getD j 0∧zs.getD j 0≤255:=by
    have:=hr zs[j] (List.getElem_mem (by omega))
    simpa [List.getD_eq_getElem?_getD,show j<zs.length by omega] using this
   have HS:=hide hst
   clear hst hp hd h0
   generalize low (zs.drop (j+1))=L at *
   generalize zs.getD j 0=z at *
   obtain ⟨hL1,hL2⟩:=hL
   obtain ⟨hz1,hz2⟩:=hz0
   go_wp2
   go_round
   case rel=>exact ⟨j,(j:Int) - 1,by omega,by omega,by go_num,by rw [HS.out]⟩
   case measure=>simp [intOf]
theorem wraps_i64 (n:Int) (h₀:0≤n) (h₁:n<2 ^ 62):IntKind.i64.wrap n=n:=by
 have:(2:Int)^62=4611686018427387904:=rfl
 simp only [IntKind.wrap,IntKind.bits,IntKind.signed]
 simp
 omega
theorem or_join (i:Nat) (x y:Int) (hx₀:0≤x) (hx:x % 2 ^ i=0) (hx₁:x<2 ^ 62) (hy₀:0≤y) (hy:y<2 ^ i) (hy₁:y<2 ^ 62):bits .or .i64 x y=x+y:=
 bits_join .i64 62 (by decide) wraps_i64 i x y hx₀ hx hx₁ hy₀ hy hy₁
theorem BS.at {w:World} {b off n cap:Nat} {zs:List Int} (h:BS w (some ⟨b,off,none⟩) n cap zs) (i:Nat) (hi:i<n):w.cell? ⟨b,off+i,none⟩=some (.int .u8 (zs.getD i 0)):=by
 obtain ⟨b',off',e,hd⟩:=h.2.2.2.1 (by omega)
 simp at e
 obtain ⟨rfl,rfl⟩:=e
 exact hd i hi
theorem or4 (z0 z1 z2 z3:Int) (p0:0≤z0) (p0':z0≤255) (p1:0≤z1) (p1':z1≤255) (p2:0≤z2) (p2':z2≤255) (p3:0≤z3) (p3':z3≤255):
 bits BinOp.or IntKind.i64 (bits BinOp.or IntKind.i64 (bits BinOp.or IntKind.i64 0 (bits BinOp.or IntKind.i64 (z3 * 16777216) (z2 * 65536))) (z1 * 256)) z0=low [z0,z1,z2,z3]:=by
 rw [or_join 24 (z3 * 16777216) (z2 * 65536) (by omega) (by omega) (by omega) (by omega) (by omega) (by omega)]
 rw [or_join 40 0 (z3 * 16777216+z2 * 65536) (by omega) (by omega) (by omega) (by omega) (by omega) (by omega)]
 rw [or_join 16 (0+(z3 * 16777216+z2 * 65536)) (z1 * 256) (by omega) (by omega) (by omega) (by omega) (by omega) (by omega)]
 rw [or_join 8 (0+(z3 * 16777216+z2 * 65536)+z1 * 256) z0 (by omega) (by omega) (by omega) (by omega) (by omega) (by omega)]
 simp only [low]
 omega
theorem or2 (z0 z1:Int) (p0:0≤z0) (p0':z0≤255) (p1:0≤z1) (p1':z1≤255):
 bits BinOp.or IntKind.i64 (bits BinOp.or IntKind.i64 0 (z1 * 256)) z0=low [z0,z1]:=by
 rw [or_join 16 0 (z1 * 256) (by omega) (by omega) (by omega) (by omega) (by omega) (by omega)]
 rw [or_join 8 (0+z1 * 256) z0 (by omega) (by omega) (by omega) (by omega) (by omega) (by omega)]
 simp only [low]
 omega
theorem or1 (z0:Int) (p0:0≤z0) (p0':z0≤255):bits BinOp.or IntKind.i64 0 z0=low [z0]:=by
 rw [or_join 8 0 z0 (by omega) (by omega) (by omega) (by omega) (by omega) (by omega)]
 simp only [low]
 omega
theorem take4 (zs:List Int) (h:4≤zs.length):zs.take 4=[zs.getD 0 0,zs.getD 1 0,zs.getD 2 0,zs.getD 3 0]:=by
 match zs,h with
 | a :: b :: c :: d :: _,_=>rfl
theorem take2 (zs:List Int) (h:2≤zs.length):zs.take 2=[zs.getD 0 0,zs.getD 1 0]:=by
 match zs,h with
 | a :: b :: _,_=>rfl
theorem take1 (zs:List Int) (h:1≤zs.length):zs.take 1=[zs.getD 0 0]:=by
 match zs,h with
 | a :: _,_=>rfl
set_option maxHeartbeats 1000000 in
theorem getBytes_4 (b off n cap:Nat) (zs:List Int) (w:World) (h:BS w (some ⟨b,off,none⟩) n cap zs) (hn:4≤n):
 Calls Tryz.prog 156 #[.slice (some ⟨b,off,none⟩) n cap,.int .i64 4] w fun e w'=>e=.returned (.int .i64 (low (zs.take 4)))∧Below w.heap.size w w':=by
 have r0:=h.range 0
 have r1:=h.range 1
 have r2:=h.range 2
 have r3:=h.range 3
 have c0:=h.at 0 (by omega)
 have c1:=h.at 1 (by omega)
 have c2:=h.at 2 (by omega)
 have c3:=h.at 3 (by omega)
 simp only [Nat.add_zero] at c0
 have hl:(3:Int)<(n:Int):=by omega
 rw [take4 zs (by rw [h.1];omega)]
 clear h
 generalize zs.getD 0 0=z0 at *
 generalize zs.getD 1 0=z1 at *
 generalize zs.getD 2 0=z2 at *
 generalize zs.getD 3 0=z3 at *
 obtain ⟨p0,p0'⟩:=r0
 obtain ⟨p1,p1'⟩:=r1
 obtain ⟨p2,p2'⟩:=r2
 obtain ⟨p3,p3'⟩:=r3
 have HS:=hide (or4 z0 z1 z2 z3 p0 p0' p1 p1' p2 p2' p3 p3')
 generalize low [z0,z1,z2,z3]=L at *
 go_enter Tryz.func156,Tryz.ntmps156
 go_wp2
 go_quiet (fail)
 go_wp2
 go_ret
 exact ⟨ret_int HS.out,below_drewN (Below.refl _ _) _⟩
set_option maxHeartbeats 1000000 in
theorem getBytes_2 (b off n cap:Nat) (zs:List Int) (w:World) (h:BS w (some ⟨b,off,none⟩) n cap zs) (hn:2≤n):
 Calls Tryz.prog 156 #[.slice (some ⟨b,off,none⟩) n cap,.int .i64 2] w fun e w'=>e=.returned (.int .i64 (low (zs.take 2)))∧Below w.heap.size w w':=by
 have r0:=h.range 0
 have r1:=h.range 1
 have c0:=h.at 0 (by omega)
 have c1:=h.at 1 (by omega)
 simp only [Nat.add_zero] at c0
 have hl:(1:Int)<(n:Int):=by omega
 rw [take2 zs (by rw [h.1];omega)]
 clear h
 generalize zs.getD 0 0=z0 at *
 generalize zs.getD 1 0=z1 at *
 obtain ⟨p0,p0'⟩:=r0
 obtain ⟨p1,p1'⟩:=r1
 have HS:=hide (or2 z0 z1 p0 p0' p1 p1')
 generalize low [z0,z1]=L at *
 go_enter Tryz.func156,Tryz.ntmps156
 go_wp2
 go_ret
 exact ⟨ret_int HS.out,Below.refl _ _⟩
set_option maxHeartbeats 1000000 in
theorem getBytes_1 (b off n cap:Nat) (zs:List Int) (w:World) (h:BS w (some ⟨b,off,none⟩) n cap zs) (hn:1≤n):
 Calls Tryz.prog 156 #[.slice (some ⟨b,off,none⟩) n cap,.int .i64 1] w fun e w'=>e=.returned (.int .i64 (low (zs.take 1)))∧Below w.heap.size w w':=by
 have r0:=h.range 0
 have c0:=h.at 0 (by omega)
 simp only [Nat.add_zero] at c0
 have hl:(0:Int)<(n:Int):=by omega
 rw [take1 zs (by rw [h.1];omega)]
 clear h
 generalize zs.getD 0 0=z0 at *
 obtain ⟨p0,p0'⟩:=r0
 have HS:=hide (or1 z0 p0 p0')
 generalize low [z0]=L at *
 go_enter Tryz.func156,Tryz.ntmps156
 go_wp2
 go_ret
 exact ⟨ret_int HS.out,Below.refl _ _⟩
theorem BS.drop {w:World} {b off n cap:Nat} {zs:List Int} (h:BS w (some ⟨b,off,none⟩) n cap zs) (k:Nat) (hk:k≤n):BS w (some ⟨b,off+k,none⟩) (n - k) (cap - k) (zs.drop k):=by
 have hl:=h.1
 refine ⟨by simp;omega,by have:=h.2.1;omega,fun z hz=>h.2.2.1 z (List.mem_of_mem_drop hz),fun hn=>⟨b,off+k,rfl,fun i hi=>?_⟩,by have:=h.2.2.2.2;omega⟩
 have:=h.at (k+i) (by omega)
 rw [Nat.add_assoc,this]
 simp [List.getD_eq_getElem?_getD]
theorem BS.take {w:World} {b off n cap:Nat} {zs:List Int} (h:BS w (some ⟨b,off,none⟩) n cap zs) (s:Nat) (hs:s≤n):BS w (some ⟨b,off,none⟩) s cap (zs.take s):=by
 have hl:=h.1
 refine ⟨by simp;omega,by have:=h.2.1;omega,fun z hz=>h.2.2.1 z (List.mem_of_mem_take hz),fun hn=>⟨b,off,rfl,fun i hi=>?_⟩,by have:=h.2.2.2.2;omega⟩
 have:=h.at i (by omega)
 rw [this]
 simp [List.getD_eq_getElem?_getD,hi]
theorem wd4:wd 4=true:=by decide
theorem wd2:wd 2=true:=by decide
theorem wd1:wd 1=true:=by decide
theorem mok1 {n1 n2 n3:Nat} (h:mok n1 n2 n3=true):n1≤16384∧n2≤16384∧n3≤5000:=by simpa [mok] using h
end Go.Proofs.YtngdgogjlpjjpadGreat
