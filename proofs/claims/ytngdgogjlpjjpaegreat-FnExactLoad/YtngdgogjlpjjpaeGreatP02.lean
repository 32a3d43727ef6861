import Derived.Maps.OwnSet
import Derived.Below
import Derived.Orders
import Derived.Test.YtngdgogjlpjjpaeGreatP00
import Derived.Test.YtngdgogjlpjjpaeGreatP01
set_option maxHeartbeats 2000000
namespace Go.Proofs.YtngdgogjlpjjpaeGreat
open Go.RowKit
set_option linter.unusedVariables false
set_option linter.unusedSimpArgs false
set_option maxRecDepth 100000
def Shp (w w':World):Prop:=∀ g cs t,Blk w g cs t→∃ cs':Array Value,Blk w' g cs' t∧cs'.size=cs.size
theorem Shp.refl (w:World):Shp w w:=fun g cs t h=>⟨cs,h,rfl⟩
theorem Shp.trans {a b c:World}(h:Shp a b)(k:Shp b c):Shp a c:=fun g cs t hb=>by
 obtain ⟨c1,h1,e1⟩:=h g cs t hb
 obtain ⟨c2,h2,e2⟩:=k g c1 t h1
 exact ⟨c2,h2,e2.trans e1⟩
theorem Shp.set (w:World)(k i:Nat)(v:Value):Shp w (w.setCell ⟨k,i,none⟩ v):=fun g cs t hb=>by
 by_cases e:g=k
 ·subst e
  exact ⟨_,hb.set i v,by simp⟩
 ·exact ⟨cs,hb.other _ _ e,rfl⟩
structure Mkd (S:Nat→Prop)(w w':World):Prop where
 turn:Turn S w w'
 shp:Shp w w'
theorem Mkd.refl (S:Nat→Prop)(w:World):Mkd S w w:=⟨Turn.refl _ _,Shp.refl _⟩
theorem Mkd.trans {S:Nat→Prop}{a b c:World}(h:Mkd S a b)(k:Mkd S b c):Mkd S a c:=⟨h.turn.trans k.turn,h.shp.trans k.shp⟩
theorem Mkd.set {S:Nat→Prop}{w w':World}(h:Mkd S w w')(k i:Nat)(v:Value)(hk:S k):Mkd S w (w'.setCell ⟨k,i,none⟩ v):=
 h.trans ⟨⟨rfl,rfl,rfl,by rw [size_setCell];exact Nat.le_refl _,fun j _ hj=>heap_setCell_other _ _ _ _ (fun e=>hj (by rw [e];exact hk))⟩,Shp.set _ _ _ _⟩
def Sl (S:Nat→Prop)(w:World)(a:Option Addr)(n sz:Nat):Prop:=n≠0→∃ g o cs t,a=some ⟨g,o,none⟩∧S g∧Blk w g cs t∧o+n * sz≤cs.size
theorem Sl.shp {S:Nat→Prop}{w w':World}{a:Option Addr}{n sz:Nat}(h:Sl S w a n sz)(m:Shp w w'):Sl S w' a n sz:=fun hn=>by
 obtain ⟨g,o,cs,t,ha,hs,hb,hl⟩:=h hn
 obtain ⟨cs',hb',e⟩:=m g cs t hb
 exact ⟨g,o,cs',t,ha,hs,hb',by omega⟩
theorem Sl.ofBlk {S:Nat→Prop}{w:World}{g n c sz:Nat}{cs:Array Value}{t:TypeId}(hb:Blk w g cs t)(hS:S g)(hs:n * sz≤cs.size):Sl S w (some ⟨g,0,none⟩) n sz:=fun _=>⟨g,0,cs,t,rfl,hS,hb,by omega⟩
theorem Sl.cell {S:Nat→Prop}{w:World}{g o n sz:Nat}(h:Sl S w (some ⟨g,o,none⟩) n sz)(hn:n≠0)(i:Nat)(hi:i<n * sz):(∃ u,w.cell? ⟨g,o+i,none⟩=some u)∧w.frozen? ⟨g,o+i,none⟩=false∧S g:=by
 obtain ⟨g',o',cs,t,ha,hs,hb,hl⟩:=h hn
 simp at ha
 obtain ⟨rfl,rfl⟩:=ha
 exact ⟨⟨cs[o+i]'(by omega),by rw [hb.cell];simp [show o+i<cs.size by omega]⟩,hb.frozen _,hs⟩
theorem Sl.addr {S:Nat→Prop}{w:World}{a:Option Addr}{n sz:Nat}(h:Sl S w a n sz)(hn:n≠0):∃ g o,a=some ⟨g,o,none⟩:=by
 obtain ⟨g,o,_,_,ha,_⟩:=h hn
 exact ⟨g,o,ha⟩
theorem markIntS_sl (S:Nat→Prop)(a:Option Addr)(n cap k:Nat)(w:World)(h:Sl S w a n 1)(hn:n≤1048576)(hk:k≤6291456):
 Calls Tryz.prog 90 #[.slice a n cap,.int .i64 k] w fun e w'=>e=.returned (.int .i64 ((k+n:Nat):Int))∧Mkd S w w':=by
 go_enter Tryz.func90,Tryz.ntmps90
 go_wp2
 go_loopw [1,5] (fun x i wr=>∃ m:Nat,m≤n∧i=.int .i64 m∧x=.int .i64 ((k+m:Nat):Int)∧Mkd S w wr) (fun _ i _=>n - (intOf i).toNat)
 case atStart=>exact ⟨0,Nat.zero_le _,rfl,rfl,Mkd.refl _ _⟩
 case round=>
  obtain ⟨m,hm,rfl,rfl,M⟩:=hrel
  by_cases hlt:m<n
  ·have hlt':(m:Int)<(n:Int):=by omega
   obtain ⟨g,o,rfl⟩:=h.addr (by omega)
   obtain ⟨⟨u,c0⟩,f0,hS⟩:=(h.shp M.shp).cell (by omega) m (by omega)
   have HM:=hide (fun v=>M.set g (o+m) v hS)
   clear M
   go_wp2
   go_roundw
   case rel=>exact ⟨m+1,by omega,by go_num,by go_num,HM.out _⟩
   case measure=>simp [intOf];omega
  ·obtain rfl:m=n:=by omega
   go_wp2
   go_ret
   exact ⟨by go_num,M⟩
theorem markByteS_sl (S:Nat→Prop)(a:Option Addr)(n cap k:Nat)(w:World)(h:Sl S w a n 1)(hn:n≤1048576)(hk:k≤6291456):
 Calls Tryz.prog 92 #[.slice a n cap,.int .i64 k] w fun e w'=>e=.returned (.int .i64 ((k+n:Nat):Int))∧Mkd S w w':=by
 go_enter Tryz.func92,Tryz.ntmps92
 go_wp2
 go_loopw [1,5] (fun x i wr=>∃ m:Nat,m≤n∧i=.int .i64 m∧x=.int .i64 ((k+m:Nat):Int)∧Mkd S w wr) (fun _ i _=>n - (intOf i).toNat)
 case atStart=>exact ⟨0,Nat.zero_le _,rfl,rfl,Mkd.refl _ _⟩
 case round=>
  obtain ⟨m,hm,rfl,rfl,M⟩:=hrel
  by_cases hlt:m<n
  ·have hlt':(m:Int)<(n:Int):=by omega
   obtain ⟨g,o,rfl⟩:=h.addr (by omega)
   obtain ⟨⟨u,c0⟩,f0,hS⟩:=(h.shp M.shp).cell (by omega) m (by omega)
   have HM:=hide (fun v=>M.set g (o+m) v hS)
   clear M
   go_wp2
   go_roundw
   case rel=>exact ⟨m+1,by omega,by go_num,by go_num,HM.out _⟩
   case measure=>simp [intOf];omega
  ·obtain rfl:m=n:=by omega
   go_wp2
   go_ret
   exact ⟨by go_num,M⟩
structure SlB (S:Nat→Prop)(w:World)(a:Option Addr)(n:Nat)(f:Nat→Option Addr × Nat × Nat):Prop where
 head:n≠0→∃ g o cs t,a=some ⟨g,o,none⟩∧¬ S g∧Blk w g cs t∧∀ i,i<n→cs[o+i]?=some (.slice (f i).1 (f i).2.1 (f i).2.2)
 rows:∀ i,i<n→Sl S w (f i).1 (f i).2.1 1
theorem SlB.kept {S:Nat→Prop}{w w':World}{a:Option Addr}{n:Nat}{f:Nat→Option Addr × Nat × Nat}(h:SlB S w a n f)(m:Mkd S w w'):SlB S w' a n f:=
 ⟨fun hn=>by obtain ⟨g,o,cs,t,ha,hs,hb,hl⟩:=h.head hn;exact ⟨g,o,cs,t,ha,hs,turn_blk m.turn hb hs,hl⟩,fun i hi=>(h.rows i hi).shp m.shp⟩
def sumB (f:Nat→Option Addr × Nat × Nat):Nat→Nat
 | 0=>0
 | n+1=>sumB f n+(f n).2.1
theorem sumB_le (f:Nat→Option Addr × Nat × Nat):∀ n i,i<n→(f i).2.1+sumB f i≤sumB f n
 | 0,i,h=>by omega
 | n+1,i,h=>by
   show _≤sumB f n+(f n).2.1
   by_cases e:i=n
   ·subst e;omega
   ·have:=sumB_le f n i (by omega);omega
def byt (s:ByteArray)(k:Nat):Int:=((s.get! k).toNat:Int)
theorem byt_range (s:ByteArray)(k:Nat):0≤byt s k∧byt s k≤255:=by
 unfold byt
 have:=(s.get! k).toNat_lt
 omega
theorem get_bang (s:ByteArray)(k:Nat)(h:k<s.size):s.get! k=s[k]'h:=by
 simp only [ByteArray.get!,getElem!_def]
 have:s.data[k]?=some (s.data[k]'h):=Array.getElem?_eq_getElem h
 rw [this]
 rfl
theorem str_index (s:ByteArray)(k:Nat)(h:k<s.size)(w:World):(Instr.index 9 (.string s) (.int .i64 (k:Int))).run Tryz.prog w=.ok (.int .u8 (byt s k)) w:=by
 rw [run_index_string w 9 s .i64 (k:Int) Tryz.underlying9,dif_pos (by omega)]
 simp only [byt,Int.toNat_natCast,get_bang s k h]
def nmo (s:ByteArray):Bool:=decide (1≤s.size∧s.size≤12) && (List.range s.size).all fun k=>decide (97≤byt s k∧byt s k≤122)
theorem nmo_bad (s:ByteArray)(k:Nat)(hk:k<s.size)(h:¬ (97≤byt s k∧byt s k≤122)):nmo s=false:=by
 unfold nmo
 rw [Bool.and_eq_false_iff]
 right
 rw [List.all_eq_false]
 exact ⟨k,by simpa using hk,by simpa using h⟩
theorem nmo_good (s:ByteArray)(h:∀ j,j<s.size→97≤byt s j∧byt s j≤122):nmo s=decide (1≤s.size∧s.size≤12):=by
 unfold nmo
 rw [show ((List.range s.size).all fun k=>decide (97≤byt s k∧byt s k≤122))=true from List.all_eq_true.2 (fun k hk=>by simpa using h k (by simpa using hk)),Bool.and_true]
theorem l4NameOk_any (s:ByteArray)(w:World)(hs:s.size≤1048576):
 Calls Tryz.prog 214 #[.string s] w fun e w'=>e=.returned (.bool (nmo s))∧w=w':=by
 obtain ⟨N,hN⟩:∃ N,N=s.size:=⟨_,rfl⟩
 go_enter Tryz.func214,Tryz.ntmps214
 go_wp2_with fail
 go_loop [3] (fun i=>∃ k:Nat,k≤s.size∧i=.int .i64 k∧Hid (∀ j,j<k→97≤byt s j∧byt s j≤122)) (fun i=>s.size - (intOf i).toNat)
 case atStart=>exact ⟨0,Nat.zero_le _,rfl,hide (fun j hj=>by omega)⟩
 case round=>
  obtain ⟨k,hk,rfl,HJ⟩:=hrel
  by_cases hlt:k<s.size
  ·have hlt':(k:Int)<(s.size:Int):=by omega
   have hix:=str_index s k hlt
   obtain ⟨z0,z1⟩:=byt_range s k
   have HZ:=hide (nmo_bad s k hlt)
   have HG:=hide (show 97≤byt s k∧byt s k≤122→∀ j,j<k+1→97≤byt s j∧byt s j≤122 from fun h j hj=>by
    by_cases e:j=k
    ·subst e;exact h
    ·exact HJ.out j (by omega))
   generalize byt s k=z at *
   by_cases c1:z<97
   ·have c1':(z<97)=True:=by simp [c1]
    go_wp2
    go_ret
    exact ⟨ret_bool (HZ.out (by omega)).symm,rfl⟩
   ·by_cases c2:122<z
    ·go_wp2
     go_ret
     exact ⟨ret_bool (HZ.out (by omega)).symm,rfl⟩
    ·go_wp2
     go_round
     case rel=>exact ⟨k+1,by omega,by go_num,hide (HG.out (by omega))⟩
     case measure=>simp [intOf];omega
  ·have e:Hid (k=s.size):=by show k=s.size;omega
   have HE:=hide (nmo_good s (fun j hj=>HJ.out j (by rw [e.out];exact hj)))
   by_cases c1:1≤s.size
   ·by_cases c2:s.size≤12
    ·go_wp2
     go_ret
     exact ⟨ret_bool (by have:=e.out;rw [HE.out,Bool.eq_iff_iff];simp;omega),rfl⟩
    ·go_wp2
     go_ret
     exact ⟨ret_bool (by have:=e.out;rw [HE.out,Bool.eq_iff_iff];simp;omega),rfl⟩
   ·go_wp2
    go_ret
    exact ⟨ret_bool (by have:=e.out;rw [HE.out,Bool.eq_iff_iff];simp;omega),rfl⟩
theorem isName_any (s:ByteArray)(w:World)(hs:s.size≤1048576):
 Calls Tryz.prog 264 #[.string s] w fun e w'=>e=.returned (.bool (nmo s))∧w=w':=by
 by_cases c1:s.size<1
 ·have HF:Hid (nmo s=false):=by show _=_;unfold nmo;rw [Bool.and_eq_false_iff];left;simp;omega
  have c1':(s.size:Int)<1:=by omega
  go_enter Tryz.func264,Tryz.ntmps264
  go_wp2
  go_ret
  exact ⟨ret_bool HF.out.symm,rfl⟩
 ·by_cases c2:12<s.size
  ·have HF:Hid (nmo s=false):=by show _=_;unfold nmo;rw [Bool.and_eq_false_iff];left;simp;omega
   have c1':¬ (s.size:Int)<1:=by omega
   have c2':(12:Int)<(s.size:Int):=by omega
   go_enter Tryz.func264,Tryz.ntmps264
   go_wp2
   go_ret
   exact ⟨ret_bool HF.out.symm,rfl⟩
  ·have c1':¬ (s.size:Int)<1:=by omega
   have c2':¬ (12:Int)<(s.size:Int):=by omega
   go_enter Tryz.func264,Tryz.ntmps264
   go_wp2_with fail
   go_loop [14] (fun i=>∃ k:Nat,k≤s.size∧i=.int .i64 k∧Hid (∀ j,j<k→97≤byt s j∧byt s j≤122)) (fun i=>s.size - (intOf i).toNat)
   case atStart=>exact ⟨0,Nat.zero_le _,rfl,hide (fun j hj=>by omega)⟩
   case round=>
    obtain ⟨k,hk,rfl,HJ⟩:=hrel
    by_cases hlt:k<s.size
    ·have hlt':(k:Int)<(s.size:Int):=by omega
     have hix:=str_index s k hlt
     obtain ⟨z0,z1⟩:=byt_range s k
     have HZ:=hide (nmo_bad s k hlt)
     have HG:=hide (show 97≤byt s k∧byt s k≤122→∀ j,j<k+1→97≤byt s j∧byt s j≤122 from fun h j hj=>by
      by_cases e:j=k
      ·subst e;exact h
      ·exact HJ.out j (by omega))
     generalize byt s k=z at *
     by_cases d1:z<97
     ·go_wp2
      go_ret
      exact ⟨ret_bool (HZ.out (by omega)).symm,rfl⟩
     ·by_cases d2:122<z
      ·go_wp2
       go_ret
       exact ⟨ret_bool (HZ.out (by omega)).symm,rfl⟩
      ·go_wp2
       go_round
       case rel=>exact ⟨k+1,by omega,by go_num,hide (HG.out (by omega))⟩
       case measure=>simp [intOf];omega
    ·have e:Hid (k=s.size):=by show k=s.size;omega
     have HE:=hide (nmo_good s (fun j hj=>HJ.out j (by rw [e.out];exact hj)))
     go_wp2
     go_ret
     exact ⟨ret_bool (by have:=e.out;rw [HE.out,Bool.eq_iff_iff];simp;omega),rfl⟩
def dotFrom (s:ByteArray):Nat→Nat→Int
 | 0,_=>-1
 | f+1,k=>if byt s k=46 then (k:Int) else dotFrom s f (k+1)
def dot (s:ByteArray):Int:=dotFrom s s.size 0
theorem l4Dot_any (s:ByteArray)(w:World)(hs:s.size≤1048576):
 Calls Tryz.prog 251 #[.string s] w fun e w'=>e=.returned (.int .i64 (dot s))∧w=w':=by
 go_enter Tryz.func251,Tryz.ntmps251
 go_wp2_with fail
 go_loop [3] (fun i=>∃ k:Nat,k≤s.size∧i=.int .i64 k∧Hid (dot s=dotFrom s (s.size - k) k)) (fun i=>s.size - (intOf i).toNat)
 case atStart=>exact ⟨0,Nat.zero_le _,rfl,hide rfl⟩
 case round=>
  obtain ⟨k,hk,rfl,HJ⟩:=hrel
  by_cases hlt:k<s.size
  ·have hlt':(k:Int)<(s.size:Int):=by omega
   have hix:=str_index s k hlt
   obtain ⟨z0,z1⟩:=byt_range s k
   have HD:=hide (show dot s=if byt s k=46 then (k:Int) else dotFrom s (s.size - (k+1)) (k+1) from by
    rw [HJ.out,show s.size - k=(s.size - (k+1))+1 by omega];rfl)
   clear HJ
   generalize byt s k=z at *
   by_cases c1:z=46
   ·have HE:=hide (show dot s=(k:Int) from by rw [HD.out,if_pos c1])
    subst c1
    go_wp2
    go_ret
    exact ⟨ret_int HE.out.symm,rfl⟩
   ·have HE:=hide (show dot s=dotFrom s (s.size - (k+1)) (k+1) from by rw [HD.out,if_neg c1])
    have c1':(z == 46)=false:=by simpa using c1
    go_wp2
    go_round
    case rel=>exact ⟨k+1,by omega,by go_num,HE⟩
    case measure=>simp [intOf];omega
  ·have e:Hid (dot s=-1):=by
    show dot s=-1
    rw [HJ.out,show s.size - k=0 by omega];rfl
   go_wp2
   go_ret
   exact ⟨ret_int e.out.symm,rfl⟩
theorem dotFrom_range (s:ByteArray):∀ (f k:Nat),dotFrom s f k=-1∨((k:Int)≤dotFrom s f k∧dotFrom s f k<k+f)
 | 0,k=>Or.inl rfl
 | f+1,k=>by
   unfold dotFrom
   split
   ·right;omega
   ·rcases dotFrom_range s f (k+1) with h | h
    ·left;exact h
    ·right;omega
theorem dot_range (s:ByteArray):dot s=-1∨(0≤dot s∧dot s<s.size):=by
 have:=dotFrom_range s s.size 0
 unfold dot
 omega
def cutA (s:ByteArray):ByteArray:=s.extract 0 (dot s).toNat
def cutB (s:ByteArray):ByteArray:=s.extract (dot s+1).toNat s.size
theorem cutA_size (s:ByteArray)(hs:s.size≤1048576):(cutA s).size≤1048576:=by
 unfold cutA
 rw [ByteArray.size_extract]
 omega
theorem cutB_size (s:ByteArray)(hs:s.size≤1048576):(cutB s).size≤1048576:=by
 unfold cutB
 rw [ByteArray.size_extract]
 omega
def full (s:ByteArray):Bool:=decide (0≤dot s) && (nmo (cutA s) && nmo (cutB s))
theorem l4FullOk_any (s:ByteArray)(w:World)(hs:s.size≤1048576):
 Calls Tryz.prog 217 #[.string s] w fun e w'=>e=.returned (.bool (full s))∧w=w':=by
 have HD:=hide (fun w=>l4Dot_any s w hs)
 have HA:=hide (fun w=>l4NameOk_any (cutA s) w (cutA_size s hs))
 have HB:=hide (fun w=>l4NameOk_any (cutB s) w (cutB_size s hs))
 obtain ⟨r,hr⟩:∃ r,r=full s:=⟨_,rfl⟩
 rw [← hr]
 unfold full at hr
 unfold cutA cutB at *
 rcases dot_range s with h | ⟨h0,h1⟩
 ·rw [h] at HD hr
  have HR:=hide (show r=false from by rw [hr];rfl)
  clear HA HB hr h
  go_enter Tryz.func217,Tryz.ntmps217
  go_wp2_with (go_at_call 251;refine (HD.out _).mono ?_;rintro e w1 ⟨rfl,rfl⟩)
  go_ret
  exact ⟨ret_bool HR.out.symm,rfl⟩
 ·generalize dot s=p at *
  generalize nmo (s.extract 0 p.toNat)=A at *
  generalize nmo (s.extract (p+1).toNat s.size)=B at *
  have HR:=hide (show r=(A && B) from by rw [hr];simp [h0])
  clear hr
  cases A
  ·go_enter Tryz.func217,Tryz.ntmps217
   go_wp2_with (first
    | (go_at_call 251;refine (HD.out _).mono ?_;rintro e w1 ⟨rfl,rfl⟩)
    | (go_at_call 214;refine (HA.out _).mono ?_;rintro e w1 ⟨rfl,rfl⟩))
   go_ret
   exact ⟨ret_bool HR.out.symm,rfl⟩
  ·go_enter Tryz.func217,Tryz.ntmps217
   go_wp2_with fail
   refine (HD.out _).mono ?_
   rintro e w1 ⟨rfl,rfl⟩
   go_wp2_with fail
   refine (HA.out _).mono ?_
   rintro e w1 ⟨rfl,rfl⟩
   go_wp2_with fail
   refine (HB.out _).mono ?_
   rintro e w1 ⟨rfl,rfl⟩
   go_wp2
   go_ret
   exact ⟨ret_bool HR.out.symm,rfl⟩
theorem idx_dot (l:List UInt8):∀ (s:ByteArray) (k:Nat),s.data.toList.drop k=l→Lib.indexByte l (46:Int).toNat.toUInt8=(let d:=dotFrom s l.length k;if d=-1 then -1 else d - k):=by
 induction l with
 | nil=>intro s k h;rfl
 | cons b l ih=>
   intro s k h
   have hk:k<s.data.toList.length:=by
    by_cases e:k<s.data.toList.length
    ·exact e
    ·rw [List.drop_eq_nil_of_le (by omega)] at h;cases h
   have hks:k<s.size:=by simpa using hk
   have hb:s.data.toList[k]'hk=b:=by
    have h2:s.data.toList[k]?=some b:=by
     have:=congrArg (fun t=>t[0]?) h
     simpa using this
    rw [List.getElem?_eq_getElem hk] at h2
    injection h2
   have hd:s.data.toList.drop (k+1)=l:=by
    have:=congrArg List.tail h
    simpa using this
   have hbyt:byt s k=(b.toNat:Int):=by
    unfold byt
    rw [get_bang s k hks,← hb]
    rfl
   have ih':=ih s (k+1) hd
   simp only [Lib.indexByte,List.length_cons,dotFrom,hbyt]
   rw [ih']
   have e46:(46:Int).toNat.toUInt8=46:=rfl
   rw [e46]
   by_cases c:b=46
   ·subst c
    simp
   ·have c1:(b == 46)=false:=by simpa using c
    have c2:¬ ((b.toNat:Int)=46):=fun e=>c (UInt8.toNat_inj.1 (by simpa using (by omega:b.toNat=46)))
    rw [c1,if_neg c2]
    rcases dotFrom_range s l.length (k+1) with e | e
    ·simp [e]
    ·have n1:¬ dotFrom s l.length (k+1)=-1:=by omega
     simp only [n1,if_false,Bool.false_eq_true]
     split
     ·next h=>simp at h;omega
     ·omega
theorem idx_dot' (s:ByteArray):Lib.indexByte s.data.toList (46:Int).toNat.toUInt8=dot s:=by
 have:=idx_dot s.data.toList s 0 (by simp)
 rw [this]
 have e:s.data.toList.length=s.size:=Array.length_toList
 unfold dot
 rw [e]
 rcases dotFrom_range s s.size 0 with h | h
 ·simp [h]
 ·simp only [if_neg (show ¬ dotFrom s s.size 0=-1 by omega)]
  omega
theorem indexByte_any (s:ByteArray)(w:World):
 Calls Tryz.prog 295 #[.string s,.int .u8 46] w fun e w'=>e=.returned (.int .i64 (dot s))∧w=w':=by
 have HD:=hide (idx_dot' s)
 go_enter Tryz.func295,Tryz.ntmps295
 go_wp2
 rw [run_callFunc_extern Tryz.func299 (by kernel_rfl) (by kernel_rfl) (by kernel_rfl) (e:=Extern.BytealgIndexByte.indexByte) (by kernel_rfl),Lib.run_indexByteString]
 simp only [Result.andThen]
 rw [Oper.upon_value]
 go_wp2
 go_ret
 exact ⟨ret_int HD.out,rfl⟩
theorem index_dot (s:ByteArray)(w:World)(hs:s.size≤1048576):
 Calls Tryz.prog 291 #[.string s,.string ⟨#[46]⟩] w fun e w'=>e=.returned (.int .i64 (dot s))∧w=w':=by
 have HI:=hide (fun w=>indexByte_any s w)
 by_cases he:(⟨#[46]⟩:ByteArray)=s
 ·subst he
  have HD:Hid (dot ⟨#[46]⟩=0):=by show _=_;rfl
  clear HI
  go_enter Tryz.func291,Tryz.ntmps291
  go_wp2
  go_ret
  exact ⟨ret_int HD.out.symm,rfl⟩
 ·have hne:¬ ([46]:List UInt8)=s.toList:=fun e=>he (Go.WideShapes.bytes_inj (by rw [ByteArray.toList_eq] at e;exact e))
  have he':(([46]:List UInt8) == s.toList)=false:=by simpa using hne
  have he2:((⟨#[46]⟩:ByteArray).toList == s.toList)=false:=by rw [ByteArray.toList_eq];exact he'
  have h46:∀ w:World,(Instr.index 9 (.string ⟨#[46]⟩) (.int .i64 0)).run Tryz.prog w=.ok (.int .u8 46) w:=fun w=>by kernel_rfl
  go_enter Tryz.func291,Tryz.ntmps291
  go_wp2_with (go_at_call 295;refine (HI.out _).mono ?_;rintro e w1 ⟨rfl,rfl⟩)
  go_ret
  exact ⟨rfl,rfl⟩
theorem slCut_any (s:ByteArray)(w:World)(hs:s.size≤1048576):
 Calls Tryz.prog 285 #[.string s,.string ⟨#[46]⟩] w fun e w'=>e=.returned (.tuple #[.string (if 0≤dot s then cutA s else s),.string (if 0≤dot s then cutB s else ⟨#[]⟩),.bool (decide (0≤dot s))])∧Below w.heap.size w w':=by
 have HI:=hide (fun w=>index_dot s w hs)
 have HB:=hide (Below.refl w.heap.size w)
 rcases dot_range s with h | ⟨h0,h1⟩
 ·have hn:¬ (0≤dot s):=by omega
  rw [if_neg hn,if_neg hn,decide_eq_false hn]
  rw [h] at HI
  clear h hn
  go_enter Tryz.func285,Tryz.ntmps285
  go_wp2_with (go_at_call 291;refine (HI.out _).mono ?_;rintro e w1 ⟨rfl,rfl⟩)
  all_goals (try go_region)
  all_goals (try go_wp2)
  all_goals go_ret3
  all_goals exact ⟨rfl,by first | exact HB.out | exact HB.out.drew⟩
 ·rw [if_pos h0,if_pos h0,decide_eq_true h0]
  unfold cutA cutB
  generalize dot s=p at *
  go_enter Tryz.func285,Tryz.ntmps285
  go_wp2_with (go_at_call 291;refine (HI.out _).mono ?_;rintro e w1 ⟨rfl,rfl⟩)
  all_goals (try go_region)
  all_goals (try go_wp2)
  all_goals go_ret3
  all_goals exact ⟨rfl,by first | exact HB.out | exact HB.out.drew⟩
theorem cut_any (s:ByteArray)(w:World)(hs:s.size≤1048576):
 Calls Tryz.prog 281 #[.string s,.string ⟨#[46]⟩] w fun e w'=>e=.returned (.tuple #[.string (if 0≤dot s then cutA s else s),.string (if 0≤dot s then cutB s else ⟨#[]⟩),.bool (decide (0≤dot s))])∧Below w.heap.size w w':=by
 have HC:=hide (fun w=>slCut_any s w hs)
 generalize (if 0≤dot s then cutA s else s)=A at *
 generalize (if 0≤dot s then cutB s else ⟨#[]⟩)=B at *
 generalize decide (0≤dot s)=C at *
 go_enter Tryz.func281,Tryz.ntmps281
 go_wp2_with (go_at_call 285;refine (HC.out _).mono ?_;rintro e w1 ⟨rfl,hb1⟩)
 go_ret3
 exact ⟨rfl,hb1⟩
theorem nmo_none:nmo ⟨#[]⟩=false:=rfl
def cutV (s:ByteArray):Value:=if full s then .tuple #[.string (cutA s),.string (cutB s),.bool true] else .tuple #[.string ⟨#[]⟩,.string ⟨#[]⟩,.bool false]
theorem cutImport_any (s:ByteArray)(w:World)(hs:s.size≤1048576):
 Calls Tryz.prog 269 #[.string s] w fun e w'=>e=.returned (cutV s)∧Below w.heap.size w w':=by
 have HC:=hide (fun w=>cut_any s w hs)
 obtain ⟨V,hV⟩:∃ V,V=cutV s:=⟨_,rfl⟩
 rw [← hV]
 unfold cutV full at hV
 have hA:(if 0≤dot s then cutA s else s).size≤1048576:=by split;exact cutA_size s hs;exact hs
 have hB:(if 0≤dot s then cutB s else ⟨#[]⟩).size≤1048576:=by split;exact cutB_size s hs;exact (by decide)
 have HA:=hide (fun w=>isName_any _ w hA)
 have HB:=hide (fun w=>isName_any _ w hB)
 have hV':V=if nmo (if 0≤dot s then cutA s else s) && nmo (if 0≤dot s then cutB s else ⟨#[]⟩) then .tuple #[.string (if 0≤dot s then cutA s else s),.string (if 0≤dot s then cutB s else ⟨#[]⟩),.bool true] else .tuple #[.string ⟨#[]⟩,.string ⟨#[]⟩,.bool false]:=by
  by_cases h:0≤dot s
  ·simp only [h,if_true,decide_true,Bool.true_and] at hV ⊢
   exact hV
  ·simp only [h,if_false,decide_false,Bool.false_and,nmo_none,Bool.and_false] at hV ⊢
   exact hV
 clear hV hA hB
 generalize (if 0≤dot s then cutA s else s)=A at *
 generalize (if 0≤dot s then cutB s else ⟨#[]⟩)=B at *
 generalize decide (0≤dot s)=C at *
 generalize nmo A=a at *
 generalize nmo B=b at *
 have HV:=hide hV'
 clear hV'
 cases a
 ·obtain rfl:V=.tuple #[.string ⟨#[]⟩,.string ⟨#[]⟩,.bool false]:=HV.out
  go_enter Tryz.func269,Tryz.ntmps269
  go_wp2_with fail
  refine (HC.out _).mono ?_
  rintro e w1 ⟨rfl,hb1⟩
  go_wp2_with fail
  refine (HA.out _).mono ?_
  rintro e w2 ⟨rfl,rfl⟩
  go_wp2
  go_ret3
  exact ⟨rfl,hb1⟩
 ·cases b
  ·obtain rfl:V=.tuple #[.string ⟨#[]⟩,.string ⟨#[]⟩,.bool false]:=HV.out
   go_enter Tryz.func269,Tryz.ntmps269
   go_wp2_with fail
   refine (HC.out _).mono ?_
   rintro e w1 ⟨rfl,hb1⟩
   go_wp2_with fail
   refine (HA.out _).mono ?_
   rintro e w2 ⟨rfl,rfl⟩
   go_wp2_with fail
   refine (HB.out _).mono ?_
   rintro e w2 ⟨rfl,rfl⟩
   go_wp2
   go_ret3
   exact ⟨rfl,hb1⟩
  ·obtain rfl:V=.tuple #[.string A,.string B,.bool true]:=HV.out
   go_enter Tryz.func269,Tryz.ntmps269
   go_wp2_with fail
   refine (HC.out _).mono ?_
   rintro e w1 ⟨rfl,hb1⟩
   go_wp2_with fail
   refine (HA.out _).mono ?_
   rintro e w2 ⟨rfl,rfl⟩
   go_wp2_with fail
   refine (HB.out _).mono ?_
   rintro e w2 ⟨rfl,rfl⟩
   go_wp2
   go_ret3
   exact ⟨rfl,hb1⟩
end Go.Proofs.YtngdgogjlpjjpaeGreat
namespace Go.Proofs.YtngdgogjlpjjpaeGreat
open Go.RowKit
set_option linter.unusedVariables false
def OB (w:World)(base:Nat)(v:Value)(zs:List Int):Prop:=w.ownsRow base 5 1 v zs.length (zs.map (Value.int .u8))∧∀ z ∈ zs,0≤z∧z≤255
theorem bs_news {w:World}{b off n cap:Nat}{zs:List Int}(h:BS w (some ⟨b,off,none⟩) n cap zs):∀ j u,(zs.map (Value.int .u8))[j]?=some u→w.cell? ((⟨b,off,none⟩:Addr).add j)=some u:=by
 intro j u hj
 have hl:=h.1
 have hjl:j<n:=by
  by_cases e:j<n
  ·exact e
  ·rw [List.getElem?_eq_none (by simp;omega)] at hj;simp at hj
 rw [addr_add,h.at j hjl]
 rw [← hj]
 simp [List.getD_eq_getElem?_getD,show j<zs.length by omega]
theorem own_empty (w:World):(w.alloc (.cells #[] 5)).ownsRow w.heap.size 5 1 (.slice (some ⟨w.heap.size,0,none⟩) 0 0) 0 []:=
 ⟨rfl,.inr ⟨w.heap.size,0,#[],rfl,Nat.le_refl _,heap_alloc_new w _,Nat.le_refl _,Nat.zero_le _,rfl,rfl⟩⟩
theorem own_shape {w:World}{base n:Nat}{t:TypeId}{v:Value}{xs:List Value}(h:w.ownsRow base t 1 v n xs):∃ a cap,v=.slice a n cap:=by
 obtain ⟨_,⟨rfl,rfl⟩ | ⟨g,cap,cur,rfl,_⟩⟩:=h
 ·exact ⟨_,_,rfl⟩
 ·exact ⟨_,_,rfl⟩
theorem below_grown' {B:Nat}{a w w':World}{k:Nat}(h:Below B a w)(hg:w.grownBy w' (some k))(hB:B≤w.heap.size)(hk:B≤k):Below B a w':=h.grown hg hB (fun j hj=>by cases hj;exact hk)
theorem l1Bytes_any (b off n cap:Nat)(zs:List Int)(w:World)(h:BS w (some ⟨b,off,none⟩) n cap zs)(hn:n≤1048576):
 Calls Tryz.prog 213 #[.slice (some ⟨b,off,none⟩) n cap] w fun e w'=>∃ a cap',e=.returned (.slice a n cap')∧OB w' w.heap.size (.slice a n cap') zs∧Below w.heap.size w w':=by
 obtain ⟨i0,hi,hz0,hz1,hz2⟩:=info_parts info8
 have hl:=h.1
 have h':=h.below ((Below.refl w.heap.size w).alloc (Nat.le_refl _) (.cells #[] 5))
 have hnews:=hide (bs_news h')
 have hone:=hide (ints_oneCell .u8 zs)
 have hown:=hide (own_empty w)
 have hlen:=hide (show (zs.map (Value.int .u8)).length=n * 1 by simp;omega)
 go_enter Tryz.func213,Tryz.ntmps213
 go_wp2_with (at_builtin;refine wpList_append_own _ rfl _ _ 41 rfl w.heap.size 5 i0 (.int .u8 0) 1 1 Tryz.underlying41 hi hz0 hz1 hz2 rfl (by decide) _ 0 [] rfl hown.out ⟨b,off,none⟩ n cap (zs.map (Value.int .u8)) rfl hlen.out hnews.out hone.out (by unfold maxLen;omega) (by omega) (by simp) ?_;intro v' w1 hown1 hgr1 _)
 simp only [Nat.zero_add,List.nil_append] at hown1
 have hex:=own_shape hown1
 go_ret
 obtain ⟨a',cap',he⟩:=hex
 refine ⟨a',cap',by rw [← he];rfl,⟨?_,h.2.2.1⟩,?_⟩
 ·rw [hl,← he]
  exact hown1
 ·exact below_grown' ((Below.refl w.heap.size w).alloc (Nat.le_refl _) _) hgr1 (by simp) (Nat.le_refl _)
theorem clone_any (b off n cap:Nat)(zs:List Int)(w:World)(h:BS w (some ⟨b,off,none⟩) n cap zs)(hn:n≤1048576):
 Calls Tryz.prog 258 #[.slice (some ⟨b,off,none⟩) n cap] w fun e w'=>∃ a cap',e=.returned (.slice a n cap')∧OB w' w.heap.size (.slice a n cap') zs∧Below w.heap.size w w':=by
 obtain ⟨i0,hi,hz0,hz1,hz2⟩:=info_parts info8
 have hl:=h.1
 have h':=h.below ((Below.refl w.heap.size w).alloc (Nat.le_refl _) (.cells #[] 5))
 have hnews:=hide (bs_news h')
 have hone:=hide (ints_oneCell .u8 zs)
 have hown:=hide (own_empty w)
 have hlen:=hide (show (zs.map (Value.int .u8)).length=n * 1 by simp;omega)
 have hnil:=fun (w:World)=>Lib.run_eql_slice_nil (P:=Tryz.prog) w 41 5 (some ⟨b,off,none⟩) n cap 0 0 Tryz.underlying41
 go_enter Tryz.func258,Tryz.ntmps258
 go_wp2_with (at_builtin;refine wpList_append_own _ rfl _ _ 41 rfl w.heap.size 5 i0 (.int .u8 0) 1 1 Tryz.underlying41 hi hz0 hz1 hz2 rfl (by decide) _ 0 [] rfl hown.out ⟨b,off,none⟩ n cap (zs.map (Value.int .u8)) rfl hlen.out hnews.out hone.out (by unfold maxLen;omega) (by omega) (by simp) ?_;intro v' w1 hown1 hgr1 _)
 simp only [Nat.zero_add,List.nil_append] at hown1
 have hex:=own_shape hown1
 go_ret
 obtain ⟨a',cap',he⟩:=hex
 refine ⟨a',cap',by rw [← he];rfl,⟨?_,h.2.2.1⟩,?_⟩
 ·rw [hl,← he]
  exact hown1
 ·exact below_grown' ((Below.refl w.heap.size w).alloc (Nat.le_refl _) _) hgr1 (by simp) (Nat.le_refl _)
theorem OB.below {w w':World}{base:Nat}{v:Value}{zs:List Int}(h:OB w base v zs)(hb:Below w.heap.size w w'):OB w' base v zs:=by
 refine ⟨?_,h.2⟩
 obtain ⟨hl,h0 | ⟨g,cap,cur,hv,hg,hh,h1,h2,h3,h4⟩⟩:=h.1
 ·exact ⟨hl,.inl h0⟩
 ·refine ⟨hl,.inr ⟨g,cap,cur,hv,hg,?_,h1,h2,h3,h4⟩⟩
  exact Blk.below (w:=w) hh hb
theorem OB.mono {w:World}{base base':Nat}{v:Value}{zs:List Int}(h:OB w base v zs)(hb:base'≤base):OB w base' v zs:=by
 refine ⟨?_,h.2⟩
 obtain ⟨hl,h0 | ⟨g,cap,cur,hv,hg,hh,h1,h2,h3,h4⟩⟩:=h.1
 ·exact ⟨hl,.inl h0⟩
 ·exact ⟨hl,.inr ⟨g,cap,cur,hv,by omega,hh,h1,h2,h3,h4⟩⟩
theorem OB.lt {w:World}{base:Nat}{v:Value}{zs:List Int}(h:OB w base v zs):∀ k,v.ownBlock=some k→base≤k∧k<w.heap.size:=h.1.lt
theorem OB.bs {w:World}{base n cap:Nat}{a:Option Addr}{zs:List Int}(h:OB w base (.slice a n cap) zs):BS w a n cap zs:=by
 obtain ⟨hl,⟨h0,h0'⟩ | ⟨g,cap',cur,hv,hg,hh,h1,h2,h3,h4⟩⟩:=h.1
 ·simp at h0
  obtain ⟨rfl,rfl,rfl⟩:=h0
  exact ⟨h0',Nat.zero_le _,h.2,fun hn=>absurd rfl hn,Nat.le_refl _⟩
 ·simp at hv
  obtain ⟨rfl,rfl,rfl⟩:=hv
  refine ⟨rfl,by omega,h.2,fun hn=>⟨g,0,rfl,fun i hi=>?_⟩,h1⟩
  rw [Nat.zero_add,Blk.cell (w:=w) hh]
  have:cur.toList[i]?=(zs.map (Value.int .u8))[i]?:=by
   rw [← h4,List.getElem?_take,if_pos (by omega)]
  rw [Array.getElem?_toList] at this
  rw [this]
  simp [List.getD_eq_getElem?_getD,hi]
theorem mod_word (v:Int):((v.tmod 4294967296)+4294967296).tmod 4294967296=v % 4294967296:=by
 have h:=Int.tmod_eq_emod (a:=v) (b:=4294967296)
 have hlt:-4294967296<v.tmod 4294967296:=by
  have:=Int.lt_tmod_of_pos v (show (0:Int)<4294967296 by omega)
  exact this
 rw [Int.tmod_eq_emod_of_nonneg (by omega)]
 split at h <;> omega
theorem l1Mod_word (v:Int)(w:World)(hv:-9223372036854775808≤v∧v≤9223372036854775807):
 Calls Tryz.prog 177 #[.int .i64 v,.int .i64 4294967296] w fun e w'=>e=.returned (.int .i64 (v % 4294967296))∧w=w':=by
 have hlt:-4294967296<v.tmod 4294967296:=Int.lt_tmod_of_pos v (by omega)
 have hgt:v.tmod 4294967296<4294967296:=Int.tmod_lt_of_pos v (by omega)
 have HM:=hide (mod_word v)
 go_enter Tryz.func177,Tryz.ntmps177
 go_wp2
 go_ret
 exact ⟨ret_int (by have:=HM.out;rwa [Int.tmod_eq_emod_of_nonneg (by omega)] at this),rfl⟩
theorem l1Word_any (v:Int)(w:World)(hv:-9223372036854775808≤v∧v≤9223372036854775807):
 Calls Tryz.prog 84 #[.int .i64 v] w fun e w'=>e=.returned (.int .i64 (v % 4294967296))∧w=w':=by
 go_enter Tryz.func84,Tryz.ntmps84
 go_wp2_with fail
 refine (l1Mod_word v _ hv).mono ?_
 rintro e w1 ⟨rfl,rfl⟩
 go_wp2
 go_ret
 exact ⟨rfl,rfl⟩
def bt (v:Int)(j:Nat):Int:=v / (256:Int)^j % 256
def putW (w:World)(g k:Nat)(v:Int):Nat→World
 | 0=>w
 | j+1=>(putW w g k v j).setCell ⟨g,k+j,none⟩ (.int .u8 (bt v j))
def put (zs:List Int)(k:Nat)(v:Int):Nat→List Int
 | 0=>zs
 | j+1=>(put zs k v j).set (k+j) (bt v j)
theorem bt_range (v:Int)(j:Nat):0≤bt v j∧bt v j≤255:=by unfold bt;omega
theorem bt_succ (v:Int)(j:Nat):v / (256:Int)^j / 256=v / (256:Int)^(j+1):=by
 rw [Int.pow_succ,Int.ediv_ediv_of_nonneg (Int.le_of_lt (Int.pow_pos (by omega)))]
theorem put_len (zs:List Int)(k:Nat)(v:Int):∀ j,(put zs k v j).length=zs.length
 | 0=>rfl
 | j+1=>by rw [put,List.length_set,put_len zs k v j]
def Room (w:World)(g n:Nat):Prop:=∃ cur,Blk w g cur 5∧n≤cur.size
theorem Room.cell {w:World}{g n:Nat}(h:Room w g n)(i:Nat)(hi:i<n):∃ u,w.cell? ⟨g,i,none⟩=some u:=by
 obtain ⟨cur,hb,hn⟩:=h
 rw [hb.cell]
 exact ⟨cur[i],by simp⟩
theorem Room.frozen {w:World}{g n:Nat}(h:Room w g n)(i:Nat):w.frozen? ⟨g,i,none⟩=false:=by
 obtain ⟨cur,hb,hn⟩:=h
 exact hb.frozen i
theorem Room.set {w:World}{g n:Nat}(h:Room w g n)(i:Nat)(u:Value):Room (w.setCell ⟨g,i,none⟩ u) g n:=by
 obtain ⟨cur,hb,hn⟩:=h
 exact ⟨_,hb.set i u,by simpa using hn⟩
theorem Room.put {w:World}{g n:Nat}(h:Room w g n)(k:Nat)(v:Int):∀ j,Room (putW w g k v j) g n
 | 0=>h
 | j+1=>(Room.put h k v j).set (k+j) _
theorem l1Put_any (g n cap k:Nat)(s v:Int)(w:World)(h:Room w g n)(hn:n≤16384)(hs1:1≤s)(hs:s≤4)(hk:(k:Int)+s≤n)(hv0:0≤v)(hv1:v≤4294967295):
 Calls Tryz.prog 83 #[.slice (some ⟨g,0,none⟩) n cap,.int .i64 k,.int .i64 s,.int .i64 v] w fun e w'=>e=.returned (.tuple #[])∧w'=putW w g k v s.toNat:=by
 go_enter Tryz.func83,Tryz.ntmps83
 go_wp2
 go_loopw [3,8] (fun x i wr=>∃ j:Nat,(j:Int)≤s∧i=.int .i64 j∧x=.int .i64 (v / (256:Int)^j)∧wr=putW w g k v j) (fun _ i _=>s.toNat - (intOf i).toNat)
 case atStart=>exact ⟨0,by omega,rfl,by simp,rfl⟩
 case round=>
  obtain ⟨j,hj,rfl,rfl,rfl⟩:=hrel
  by_cases hlt:(j:Int)<s
  ·have hR:=h.put k v j
   obtain ⟨u,hu⟩:=hR.cell (k+j) (by omega)
   have hf:=hR.frozen (k+j)
   have hp:0<(256:Int)^j:=Int.pow_pos (by omega)
   have hq0:0≤v / (256:Int)^j:=Int.ediv_nonneg hv0 (by omega)
   have hq1:v / (256:Int)^j≤v:=Int.ediv_le_self _ hv0
   have HS:=hide (bt_succ v j)
   have hW:putW w g k v (j+1)=(putW w g k v j).setCell ⟨g,k+j,none⟩ (.int .u8 (v / (256:Int)^j % 256)):=rfl
   have HW:=hide hW
   clear hW hR hp
   generalize putW w g k v j=W at *
   generalize v / (256:Int)^j=q at *
   go_wp2
   go_roundw
   case rel=>exact ⟨j+1,by omega,by go_num,by rw [HS.out],HW.out.symm⟩
   case measure=>simp [intOf];omega
  ·have hjs:s.toNat=j:=by omega
   have HJ:=hide hjs
   clear hjs
   generalize v / (256:Int)^j=q at *
   go_wp2
   go_end0
   exact ⟨rfl,by rw [HJ.out]⟩
def putD4 (w:World)(g k:Nat)(v:Int):World:=
 (((w.setCell ⟨g,k+3,none⟩ (.int .u8 (bt v 3))).setCell ⟨g,k+2,none⟩ (.int .u8 (bt v 2))).setCell ⟨g,k+1,none⟩ (.int .u8 (bt v 1))).setCell ⟨g,k,none⟩ (.int .u8 (bt v 0))
theorem bt0 (v:Int):bt v 0=v % 256:=by unfold bt;simp
theorem bt1 (v:Int):bt v 1=v / 256 % 256:=by unfold bt;simp
theorem bt2 (v:Int):bt v 2=v / 65536 % 256:=by unfold bt;rw [show (256:Int)^2=65536 from rfl]
theorem bt3 (v:Int):bt v 3=v / 16777216 % 256:=by unfold bt;rw [show (256:Int)^3=16777216 from rfl]
theorem putBytes_4 (g n cap k:Nat)(v:Int)(w:World)(h:Room w g (k+4))(hn:4≤n)(hv:-9223372036854775808≤v∧v≤9223372036854775807):
 Calls Tryz.prog 179 #[.slice (some ⟨g,k,none⟩) n cap,.int .i64 4,.int .i64 v] w fun e w'=>e=.returned (.tuple #[])∧w'=putD4 w g k v:=by
 obtain ⟨u0,c0⟩:=h.cell k (by omega)
 obtain ⟨u1,c1⟩:=h.cell (k+1) (by omega)
 obtain ⟨u2,c2⟩:=h.cell (k+2) (by omega)
 obtain ⟨u3,c3⟩:=h.cell (k+3) (by omega)
 have hf:∀ i,w.frozen? ⟨g,i,none⟩=false:=h.frozen
 have hl:(3:Int)<(n:Int):=by omega
 obtain ⟨hv0,hv1⟩:=hv
 have HP:=hide (show putD4 w g k v=putD4 w g k v from rfl)
 unfold putD4
 rw [bt3,bt2,bt1,bt0]
 go_enter Tryz.func179,Tryz.ntmps179
 go_wp2
 go_end0
 exact ⟨rfl,rfl⟩
theorem bt_word (v:Int):bt (v % 4294967296) 0=bt v 0∧bt (v % 4294967296) 1=bt v 1∧bt (v % 4294967296) 2=bt v 2∧bt (v % 4294967296) 3=bt v 3:=by
 rw [bt0,bt1,bt2,bt3,bt0,bt1,bt2,bt3]
 omega
theorem put_desc4 (zs:List Int)(k:Nat)(v:Int):put zs k v 4=(((zs.set (k+3) (bt v 3)).set (k+2) (bt v 2)).set (k+1) (bt v 1)).set k (bt v 0):=by
 simp only [put,Nat.add_zero]
 rw [List.set_comm _ _ (show k≠k+1 by omega),List.set_comm _ _ (show k≠k+2 by omega),List.set_comm _ _ (show k≠k+3 by omega)]
 congr 1
 rw [List.set_comm _ _ (show k+1≠k+2 by omega),List.set_comm _ _ (show k+1≠k+3 by omega)]
 congr 1
 rw [List.set_comm _ _ (show k+2≠k+3 by omega)]
theorem ob_set {w:World}{base g n cap:Nat}{zs:List Int}(h:OB w base (.slice (some ⟨g,0,none⟩) n cap) zs)(i:Nat)(hi:i<n)(z:Int)(hz:0≤z∧z≤255):OB (w.setCell ⟨g,i,none⟩ (.int .u8 z)) base (.slice (some ⟨g,0,none⟩) n cap) (zs.set i z):=by
 obtain ⟨⟨hl,h0 | ⟨g',cap',cur,hv,hg,hh,h1,h2,h3,h4⟩⟩,hr⟩:=h
 ·simp at h0
 ·simp at hv
  obtain ⟨rfl,rfl,rfl⟩:=hv
  refine ⟨⟨by simp,.inr ⟨g,cap,cur.setIfInBounds i (.int .u8 z),by simp,hg,Blk.set (w:=w) hh i _,by simpa using h1,h2,by simpa using h3,?_⟩⟩,?_⟩
  ·rw [List.length_set,Array.toList_setIfInBounds,List.take_set,h4,List.map_set]
  ·intro y hy
   rcases List.mem_or_eq_of_mem_set hy with hy | rfl
   ·exact hr y hy
   ·exact hz
theorem ob_put {w:World}{base g n cap:Nat}{zs:List Int}(h:OB w base (.slice (some ⟨g,0,none⟩) n cap) zs)(k:Nat)(v:Int):∀ j,k+j≤n→OB (putW w g k v j) base (.slice (some ⟨g,0,none⟩) n cap) (put zs k v j)
 | 0,_=>h
 | j+1,hj=>ob_set (ob_put h k v j (by omega)) (k+j) (by omega) _ (bt_range v j)
theorem ob_putD4 {w:World}{base g n cap:Nat}{zs:List Int}(h:OB w base (.slice (some ⟨g,0,none⟩) n cap) zs)(k:Nat)(v:Int)(hk:k+4≤n):OB (putD4 w g k v) base (.slice (some ⟨g,0,none⟩) n cap) (put zs k v 4):=by
 rw [put_desc4]
 exact ob_set (ob_set (ob_set (ob_set h (k+3) (by omega) _ (bt_range v 3)) (k+2) (by omega) _ (bt_range v 2)) (k+1) (by omega) _ (bt_range v 1)) k (by omega) _ (bt_range v 0)
theorem ob_room {w:World}{base g n cap:Nat}{zs:List Int}(h:OB w base (.slice (some ⟨g,0,none⟩) n cap) zs):Room w g n:=by
 obtain ⟨⟨hl,h0 | ⟨g',cap',cur,hv,hg,hh,h1,h2,h3,h4⟩⟩,hr⟩:=h
 ·simp at h0
 ·simp at hv
  obtain ⟨rfl,rfl,rfl⟩:=hv
  exact ⟨cur,hh,by omega⟩
def Only (g:Nat)(w w':World):Prop:=w'.heap.size=w.heap.size∧(∀ k,k≠g→w'.heap[k]?=w.heap[k]?)∧w'.os=w.os∧w'.tape=w.tape∧w'.output=w.output
theorem only_refl (g:Nat)(w:World):Only g w w:=⟨rfl,fun _ _=>rfl,rfl,rfl,rfl⟩
theorem only_set {g:Nat}{w w':World}(h:Only g w w')(i:Nat)(u:Value):Only g w (w'.setCell ⟨g,i,none⟩ u):=
 ⟨by rw [size_setCell];exact h.1,fun k hk=>by rw [heap_setCell_other _ _ _ _ hk];exact h.2.1 k hk,h.2.2.1,h.2.2.2.1,h.2.2.2.2⟩
theorem only_put (g k:Nat)(v:Int)(w:World):∀ j,Only g w (putW w g k v j)
 | 0=>only_refl g w
 | j+1=>only_set (only_put g k v w j) (k+j) _
theorem only_putD4 (g k:Nat)(v:Int)(w:World):Only g w (putD4 w g k v):=only_set (only_set (only_set (only_set (only_refl g w) _ _) _ _) _ _) _ _
theorem only_below {B g:Nat}{a w w':World}(h:Below B a w)(ho:Only g w w')(hg:B≤g):Below B a w':=
 ⟨ho.2.2.1.trans h.os,ho.2.2.2.1.trans h.tape,ho.2.2.2.2.trans h.output,by rw [ho.1];exact h.size,fun k hk=>(ho.2.1 k (by omega)).trans (h.block k hk)⟩
theorem only_blk {g k:Nat}{w w':World}{cs:Array Value}{t:TypeId}(ho:Only g w w')(h:Blk w k cs t)(hk:k≠g):Blk w' k cs t:=by
 unfold Blk at *;rw [ho.2.1 k hk];exact h
theorem only_ob {g base:Nat}{w w':World}{v:Value}{zs:List Int}(ho:Only g w w')(h:OB w base v zs)(hk:v.ownBlock≠some g):OB w' base v zs:=by
 refine ⟨?_,h.2⟩
 obtain ⟨hl,h0 | ⟨g',cap,cur,rfl,hg,hh,h1,h2,h3,h4⟩⟩:=h.1
 ·exact ⟨hl,.inl h0⟩
 ·refine ⟨hl,.inr ⟨g',cap,cur,rfl,hg,?_,h1,h2,h3,h4⟩⟩
  exact only_blk ho hh (by intro e;subst e;exact hk rfl)
theorem put_word (zs:List Int)(k:Nat)(v:Int):put zs k (v % 4294967296) 4=put zs k v 4∧put zs k (v % 4294967296) 2=put zs k v 2∧put zs k (v % 4294967296) 1=put zs k v 1:=by
 obtain ⟨e0,e1,e2,e3⟩:=bt_word v
 simp only [put,e0,e1,e2,e3,and_self]
theorem grown_blk {w w':World}{row:Option Nat}{k:Nat}{cs:Array Value}{t:TypeId}(hg:w.grownBy w' row)(h:Blk w k cs t)(hk:some k≠row):Blk w' k cs t:=by
 have:=hg.block k h.lt hk
 unfold Blk at *;rw [this];exact h
theorem turn_ob {S:Nat→Prop}{base:Nat}{w w':World}{v:Value}{zs:List Int}(ht:Turn S w w')(h:OB w base v zs)(hk:∀ k,v.ownBlock=some k→¬ S k):OB w' base v zs:=by
 refine ⟨?_,h.2⟩
 obtain ⟨hl,h0 | ⟨g',cap,cur,rfl,hg,hh,h1,h2,h3,h4⟩⟩:=h.1
 ·exact ⟨hl,.inl h0⟩
 ·exact ⟨hl,.inr ⟨g',cap,cur,rfl,hg,turn_blk ht hh (hk g' rfl),h1,h2,h3,h4⟩⟩
theorem szByteS_any (a:Option Addr)(n cap:Nat)(l:Int)(w:World)(h0:0≤l)(h1:l≤1048576)(hn:n≤maxLen):
 Calls Tryz.prog 104 #[.slice a n cap,.int .i64 l] w fun e w'=>e=.returned (.int .i64 (if l<n then -1 else l - n))∧w'=w:=by
 unfold maxLen at hn
 by_cases h:l<n
 ·go_enter Tryz.func104,Tryz.ntmps104
  go_wp2
  go_ret
  exact ⟨rfl,rfl⟩
 ·go_enter Tryz.func104,Tryz.ntmps104
  go_wp2
  go_ret
  exact ⟨rfl,rfl⟩
theorem toByteS_any (a:Option Addr)(n cap:Nat)(zs:List Int)(w:World)(h:BS w a n cap zs)(hn:n≤1048576):
 Calls Tryz.prog 105 #[.slice a n cap] w fun e w'=>e=.returned (.slice (some ⟨w.heap.size,0,none⟩) n n)∧Row8 w' w.heap.size zs∧Below w.heap.size w w':=by
 obtain ⟨i0,hi,hz0,hz1,hz2⟩:=info_parts info8
 obtain ⟨hl,hmx,hr,hc,_⟩:=h
 by_cases hn0:n=0
 ·subst hn0
  obtain rfl:zs=[]:=List.eq_nil_of_length_eq_zero hl
  clear hc
  go_enter Tryz.func105,Tryz.ntmps105
  go_wp2_with (at_make;refine wpList_make_full _ rfl _ _ 41 rfl w.heap.size 5 i0 (.int .u8 0) 1 Tryz.underlying41 hi hz0 hz1 .i64 .i64 _ _ 0 rfl rfl rfl rfl (by omega) (by unfold maxLen;omega) (Nat.le_refl _) ?_;intro w1 hown hgr)
  have hrow:=row_of_made hown
  have hbel:=below_grown hgr
  clear hown hgr
  go_loop [4] (fun i=>i=.int .i64 0) (fun _=>0)
  case atStart=>rfl
  case round=>
   obtain rfl:=hrel
   go_wp2
   go_ret
   exact ⟨rfl,hrow,hbel⟩
 ·obtain ⟨b,off,rfl,hd⟩:=hc hn0
  clear hc
  go_enter Tryz.func105,Tryz.ntmps105
  go_wp2_with (at_make;refine wpList_make_full _ rfl _ _ 41 rfl w.heap.size 5 i0 (.int .u8 0) 1 Tryz.underlying41 hi hz0 hz1 .i64 .i64 _ _ n rfl rfl rfl rfl (by rw [hz2];omega) (by unfold maxLen;omega) (Nat.le_refl _) ?_;intro w1 hown hgr)
  have hrow:=row_of_made hown
  have hbel:=below_grown hgr
  clear hown hgr hi hz0 hz1 hz2
  go_loopw [4] (fun i wr=>∃ k:Nat,k≤n∧i=.int .i64 k∧Row8 wr w.heap.size (mid zs k)∧Below w.heap.size w wr) (fun i _=>n - (intOf i).toNat)
  case atStart=>exact ⟨0,Nat.zero_le _,rfl,by rw [mid_zero,hl];exact hrow,hbel⟩
  case round=>
   obtain ⟨k,hk,rfl,hR,hB⟩:=hrel
   clear hrow hbel
   by_cases hlt:k<n
   ·have hlt':(k:Int)<(n:Int):=by omega
    have hck:wr.cell? ⟨b,off+k,none⟩=some (.int .u8 (zs.getD k 0)):=(hB.cell (World.block_lt_of_cell? w _ (hd k hlt))).trans (hd k hlt)
    have hgk:wr.cell? ⟨w.heap.size,k,none⟩=some (.int .u8 ((mid zs k).getD k 0)):=hR.cell k (by rw [mid_len];omega)
    have hfk:wr.frozen? ⟨w.heap.size,k,none⟩=false:=hR.frozen k
    have R':=hR.set k (zs.getD k 0)
    rw [mid_set zs k (by omega)] at R'
    have B':Below w.heap.size w (wr.setCell ⟨w.heap.size,k,none⟩ (.int .u8 (zs.getD k 0))):=hB.setCell (Nat.le_refl _) _
    have HR:=R'
    have HB:=B'
    generalize zs.getD k 0=z at *
    generalize (mid zs k).getD k 0=z0 at *
    clear hd hR hB
    go_wp2
    go_roundw
    case rel=>exact ⟨k+1,by omega,by go_num,HR,HB⟩
    case measure=>simp [intOf];omega
   ·have e:Hid (k=n):=by show k=n;omega
    go_wp2
    go_ret
    exact ⟨rfl,by rw [e.out,← hl,mid_all] at hR;exact hR,hB⟩
end Go.Proofs.YtngdgogjlpjjpaeGreat
namespace Go.Proofs.YtngdgogjlpjjpaeGreat
open Go Go.Maps Go.WideShapes
set_option linter.unusedSimpArgs false
def fd (f:Nat→List UInt8):Nat→DataW Unit
 | 0=>.map []
 | k+1=>if has (fd f k) (.string (f k)) then fd f k else (fd f k).put (.string (f k)) (.lit (.int .i64 k))
theorem fd_succ (f:Nat→List UInt8)(k:Nat):fd f (k+1)=if has (fd f k) (.string (f k)) then fd f k else (fd f k).put (.string (f k)) (.lit (.int .i64 k)):=rfl
theorem key_str (s:List UInt8):WideAt.IsKeyLit (.string s):=by simp [WideAt.IsKeyLit]
theorem fd_tidy (f:Nat→List UInt8):∀ k,Tidy (fd f k)
 | 0=>tidy_empty
 | k+1=>by
   rw [fd_succ]
   split
   ·exact fd_tidy f k
   ·exact (fd_tidy f k).put (key_str _) _
theorem fd_has (f:Nat→List UInt8)(s:List UInt8):∀ k,has (fd f k) (.string s)=(List.range k).any (fun j=>f j == s)
 | 0=>rfl
 | k+1=>by
   rw [List.range_succ,List.any_append,← fd_has f s k]
   rw [fd_succ]
   by_cases e:f k=s
   ·subst e
    split
    ·rename_i h;rw [h];rfl
    ·rw [has_put_same (fd_tidy f k).isMap (key_str _)];simp
   ·have e':(Lit.string s)≠.string (f k):=by intro h;injection h with h;exact e h.symm
    split
    ·simp [e]
    ·rw [has_put_other e'];simp [e]
theorem fd_size_le (f:Nat→List UInt8):∀ k,size (fd f k)≤k
 | 0=>Nat.le_refl _
 | k+1=>by
   have:=fd_size_le f k
   rw [fd_succ]
   split
   ·omega
   ·rename_i h
    rw [size_put (fd_tidy f k),if_neg h]
    omega
theorem fd_size (f:Nat→List UInt8):∀ k,decide (size (fd f k)=k)=(List.range k).all (fun i=>(List.range i).all fun j=>!(f j == f i))
 | 0=>rfl
 | k+1=>by
   have h1:=fd_size_le f k
   rw [List.range_succ,List.all_append,← fd_size f k]
   have hh:=fd_has f (f k) k
   have e:(List.range k).all (fun j=>!(f j == f k))=!(has (fd f k) (.string (f k))):=by rw [hh];induction List.range k with | nil=>rfl | cons a l ih=>simp [ih]
   simp only [List.all_cons,List.all_nil,Bool.and_true,e]
   rw [fd_succ]
   cases hb:has (fd f k) (.string (f k))
   ·rw [if_neg (by simp),size_put (fd_tidy f k),hb,if_neg (by simp)]
    simp
   ·rw [if_pos rfl]
    simp
    omega
def fst? (f:Nat→List UInt8) (s:List UInt8):Nat→Option Nat
 | 0=>none
 | k+1=>match fst? f s k with | some j=>some j | none=>if f k=s then some k else none
theorem fst_succ (f:Nat→List UInt8)(s:List UInt8)(k:Nat):fst? f s (k+1)=match fst? f s k with | some j=>some j | none=>if f k=s then some k else none:=rfl
theorem fst_has (f:Nat→List UInt8)(s:List UInt8):∀ k,(fst? f s k).isSome=has (fd f k) (.string s)
 | 0=>rfl
 | k+1=>by
   rw [fd_has,List.range_succ,List.any_append,← fd_has,← fst_has f s k]
   rw [fst_succ]
   cases fst? f s k with
   | some j=>simp
   | none=>by_cases e:f k=s <;> simp [e]
theorem fd_at (f:Nat→List UInt8)(s:List UInt8)(z:DataW Unit):∀ k,(fd f k).atKey (.string s) z=match fst? f s k with | some j=>.lit (.int .i64 j) | none=>z
 | 0=>rfl
 | k+1=>by
   have ih:=fd_at f s z k
   have hh:=fst_has f s k
   rw [fst_succ,fd_succ]
   by_cases e:f k=s
   ·subst e
    cases hf:fst? f (f k) k with
    | some j=>rw [hf] at hh ih;simp only [Option.isSome_some] at hh;rw [if_pos hh.symm];simpa using ih
    | none=>rw [hf] at hh;simp only [Option.isSome_none] at hh;rw [if_neg (by rw [← hh];simp),atKey_put_same (fd_tidy f k).isMap (key_str _)];simp
   ·have e':(Lit.string s)≠.string (f k):=by intro h;injection h with h;exact e h.symm
    split <;> (cases hf:fst? f s k with
     | some j=>rw [hf] at ih;simpa [atKey_put_other e'] using ih
     | none=>rw [hf] at ih;simpa [atKey_put_other e',e] using ih)
end Go.Proofs.YtngdgogjlpjjpaeGreat
namespace Go.Proofs.YtngdgogjlpjjpaeGreat
open Go.RowKit
set_option linter.unusedVariables false
theorem take_eq_succ (xs ys:List Int)(k:Nat)(h:xs.take k=ys.take k)(hx:k<xs.length)(hy:k<ys.length)(he:xs.getD k 0=ys.getD k 0):xs.take (k+1)=ys.take (k+1):=by
 rw [List.take_succ_eq_append_getElem hx,List.take_succ_eq_append_getElem hy,h]
 simp [List.getD_eq_getElem?_getD,hx,hy] at he
 rw [he]
theorem eqByteS_any (a a':Option Addr)(n cap n' cap':Nat)(xs ys:List Int)(w:World)(h:BS w a n cap xs)(h':BS w a' n' cap' ys):
 Calls Tryz.prog 88 #[.slice a n cap,.slice a' n' cap'] w fun e w'=>e=.returned (.bool (decide (xs=ys)))∧Below w.heap.size w w':=by
 obtain ⟨hl,hmx,hr,hc,_⟩:=h
 obtain ⟨hl',hmx',hr',hc',_⟩:=h'
 unfold maxLen at hmx hmx'
 by_cases hn:n=n'
 ·subst hn
  have hne:((n:Int) != (n:Int))=false:=by simp
  by_cases hn0:n=0
  ·subst hn0
   obtain rfl:xs=[]:=List.eq_nil_of_length_eq_zero hl
   obtain rfl:ys=[]:=List.eq_nil_of_length_eq_zero hl'
   clear hc hc'
   go_enter Tryz.func88,Tryz.ntmps88
   go_wp2
   go_loop [5] (fun i=>i=.int .i64 0) (fun _=>0)
   case atStart=>rfl
   case round=>
    obtain rfl:=hrel
    go_wp2
    go_ret
    exact ⟨rfl,Below.refl _ _⟩
  ·obtain ⟨b,off,rfl,hd⟩:=hc hn0
   obtain ⟨b',off',rfl,hd'⟩:=hc' hn0
   clear hc hc'
   go_enter Tryz.func88,Tryz.ntmps88
   go_wp2
   go_loopw [5] (fun i wr=>∃ k:Nat,k≤n∧i=.int .i64 k∧xs.take k=ys.take k∧Below w.heap.size w wr) (fun i _=>n - (intOf i).toNat)
   case atStart=>exact ⟨0,Nat.zero_le _,rfl,by simp,Below.refl _ _⟩
   case round=>
    obtain ⟨k,hk,rfl,hT,hB⟩:=hrel
    by_cases hlt:k<n
    ·have hlt':(k:Int)<(n:Int):=by omega
     have hck:wr.cell? ⟨b,off+k,none⟩=some (.int .u8 (xs.getD k 0)):=(hB.cell (World.block_lt_of_cell? w _ (hd k hlt))).trans (hd k hlt)
     have hck':wr.cell? ⟨b',off'+k,none⟩=some (.int .u8 (ys.getD k 0)):=(hB.cell (World.block_lt_of_cell? w _ (hd' k hlt))).trans (hd' k hlt)
     by_cases he:xs.getD k 0=ys.getD k 0
     ·have hS:=take_eq_succ xs ys k hT (by omega) (by omega) he
      have HS:Hid (xs.take (k+1)=ys.take (k+1)):=hS
      rw [he] at hck
      clear hS hT hd hd' he
      generalize ys.getD k 0=z at *
      have hz:(z != z)=false:=by simp
      go_wp2
      go_quiet (fail)
      go_wp2
      go_roundw
      case rel=>exact ⟨k+1,by omega,by go_num,HS.out,below_drewN hB _⟩
      case measure=>simp [intOf];omega
     ·have hf:Hid (decide (xs=ys)=false):=by
       show _=_
       simp
       intro e
       exact he (by rw [e])
      have hz:(xs.getD k 0 != ys.getD k 0)=true:=by simpa using he
      clear hT hd hd' he
      generalize ys.getD k 0=z at *
      generalize xs.getD k 0=z' at *
      go_wp2
      go_quiet (fail)
      go_wp2
      go_ret
      exact ⟨ret_bool hf.out.symm,below_drewN hB _⟩
    ·have hf:Hid (decide (xs=ys)=true):=by
      show _=_
      simp
      rw [List.take_of_length_le (by omega),List.take_of_length_le (by omega)] at hT
      exact hT
     clear hT hd hd'
     go_wp2
     go_ret
     exact ⟨ret_bool hf.out.symm,hB⟩
 ·have hf:Hid (decide (xs=ys)=false):=by
   show _=_
   simp
   intro e
   rw [e] at hl
   omega
  have hne:((n:Int) != (n':Int))=true:=by simp;omega
  clear hc hc'
  go_enter Tryz.func88,Tryz.ntmps88
  go_wp2
  go_ret
  exact ⟨ret_bool hf.out.symm,Below.refl _ _⟩
end Go.Proofs.YtngdgogjlpjjpaeGreat
namespace Go.Proofs.YtngdgogjlpjjpaeGreat
open Go.RowKit
set_option linter.unusedVariables false
set_option linter.unusedSimpArgs false
set_option maxRecDepth 100000
def Sr (f:Nat→Option Addr × Nat × Nat)(n j:Nat):Prop:=∃ i,i<n∧(Value.slice (f i).1 (f i).2.1 (f i).2.2).ownBlock=some j
structure Rr (w:World)(base:Nat)(a:Option Addr)(n:Nat)(f:Nat→Option Addr × Nat × Nat)(X:Nat→List Int):Prop where
 head:n≠0→∃ g cs,a=some ⟨g,0,none⟩∧¬ Sr f n g∧Blk w g cs 24∧∀ i,i<n→cs[i]?=some (.slice (f i).1 (f i).2.1 (f i).2.2)
 rows:∀ i,i<n→OI w base (.slice (f i).1 (f i).2.1 (f i).2.2) (X i)
 apart:∀ i j,i<n→j<n→i≠j→∀ k,(Value.slice (f i).1 (f i).2.1 (f i).2.2).ownBlock=some k→(Value.slice (f j).1 (f j).2.1 (f j).2.2).ownBlock≠some k
def mrk (k:Nat)(f:Nat→Option Addr × Nat × Nat)(i:Nat):List Int:=marksI (k+sumB f i) (f i).2.1
theorem Rr.kept {w w':World}{base:Nat}{a:Option Addr}{n:Nat}{f:Nat→Option Addr × Nat × Nat}{X:Nat→List Int}{S:Nat→Prop}(h:Rr w base a n f X)(t:Turn S w w')(hs:∀ i,i<n→∀ k,(Value.slice (f i).1 (f i).2.1 (f i).2.2).ownBlock=some k→¬ S k)(hh:n≠0→∀ g cs,a=some ⟨g,0,none⟩→Blk w g cs 24→¬ S g):Rr w' base a n f X:=
 ⟨fun hn=>by obtain ⟨g,cs,ha,h1,h2,h3⟩:=h.head hn;exact ⟨g,cs,ha,h1,turn_blk t h2 (hh hn g cs ha h2),h3⟩,fun i hi=>turn_oi t (h.rows i hi) (hs i hi),h.apart⟩
theorem markIntSS_any (a:Option Addr)(n cap k base:Nat)(f:Nat→Option Addr × Nat × Nat)(X:Nat→List Int)(w:World)(h:Rr w base a n f X)(hn:n≤1048576)(hs:sumB f n≤1048576)(hk:k≤2097152):
 Calls Tryz.prog 91 #[.slice a n cap,.int .i64 k] w fun e w'=>e=.returned (.int .i64 ((k+sumB f n:Nat):Int))∧Rr w' base a n f (mrk k f)∧Turn (Sr f n) w w':=by
 have HH:=hide h
 clear h
 go_enter Tryz.func91,Tryz.ntmps91
 go_wp2
 go_loopw [1,5] (fun x i wr=>∃ m:Nat,m≤n∧i=.int .i64 m∧x=.int .i64 ((k+sumB f m:Nat):Int)∧Rr wr base a n f (fun i=>if i<m then mrk k f i else X i)∧Turn (Sr f n) w wr) (fun _ i _=>n - (intOf i).toNat)
 case atStart=>exact ⟨0,Nat.zero_le _,rfl,rfl,HH.out,Turn.refl _ _⟩
 case round=>
  obtain ⟨m,hm,rfl,rfl,R,T⟩:=hrel
  by_cases hlt:m<n
  ·have hlt':(m:Int)<(n:Int):=by omega
   obtain ⟨g,cs,rfl,hng,hb,hc⟩:=R.head (by omega)
   have c0:=(hb.cell m).trans (hc m hlt)
   have hle:=sumB_le f n m hlt
   have hr:=R.rows m hlt
   simp only [Nat.lt_irrefl,if_false] at hr
   have HMK:=hide (markIntS_any (f m).1 (f m).2.1 (f m).2.2 base (X m) (k+sumB f m) wr hr (by omega) (by omega))
   have HFIN:=hide (fun (w1:World) (O1:OI w1 base (.slice (f m).1 (f m).2.1 (f m).2.2) (marksI (k+sumB f m) (f m).2.1)) (T1:Turn (fun j=>(Value.slice (f m).1 (f m).2.1 (f m).2.2).ownBlock=some j) wr w1)=>show Rr w1 base (some ⟨g,0,none⟩) n f (fun i=>if i<m+1 then mrk k f i else X i)∧Turn (Sr f n) w w1 from by
    refine ⟨⟨fun _=>⟨g,cs,rfl,hng,turn_blk T1 hb (fun e=>hng ⟨m,hlt,e⟩),hc⟩,fun i hi=>?_,R.apart⟩,T.trans (T1.mono (fun j hj=>⟨m,hlt,hj⟩))⟩
    by_cases e:i=m
    ·subst e
     simp only [show i<i+1 by omega,if_true]
     exact O1
    ·have hi':=turn_oi T1 (R.rows i hi) (fun q hq hq'=>R.apart i m hi hlt e q hq hq')
     by_cases e2:i<m
     ·simp only [e2,if_true,show i<m+1 by omega] at hi' ⊢
      exact hi'
     ·simp only [e2,if_false,show ¬ i<m+1 by omega] at hi' ⊢
      exact hi')
   have HSU:=hide (show sumB f (m+1)=sumB f m+(f m).2.1 from rfl)
   clear R T hb hc hr
   generalize sumB f m=sm at *
   generalize f m=fm at *
   obtain ⟨fa,fn,fc⟩:=fm
   dsimp only at *
   go_wp2_with fail
   refine HMK.out.mono ?_
   rintro e w1 ⟨rfl,O1,T1⟩
   have HX:=hide (HFIN.out w1 O1 T1)
   clear O1 T1 HFIN HMK c0
   go_wp2
   go_roundw
   case rel=>exact ⟨m+1,by omega,by go_num,by rw [HSU.out];go_num,HX.out.1,HX.out.2⟩
   case measure=>simp [intOf];omega
  ·have e:Hid (m=n):=by show m=n;omega
   have HX:=hide (And.intro R T)
   clear R T
   go_wp2
   go_ret
   refine ⟨ret_int (by rw [e.out]),?_,HX.out.2⟩
   have R:=HX.out.1
   refine ⟨R.head,fun i hi=>?_,R.apart⟩
   have:=R.rows i hi
   rw [e.out] at this
   simp only [hi,if_true] at this
   exact this
theorem heldIntSS_any (a:Option Addr)(n cap k base:Nat)(f:Nat→Option Addr × Nat × Nat)(w:World)(h:Rr w base a n f (mrk k f))(hn:n≤1048576)(hs:sumB f n≤1048576)(hk:k≤2097152):
 Calls Tryz.prog 191 #[.slice a n cap,.int .i64 k] w fun e w'=>e=.returned (.int .i64 ((k+sumB f n:Nat):Int))∧w=w':=by
 have HH:=hide h
 clear h
 go_enter Tryz.func191,Tryz.ntmps191
 go_wp2
 go_loop [1,5] (fun x i=>∃ m:Nat,m≤n∧i=.int .i64 m∧x=.int .i64 ((k+sumB f m:Nat):Int)) (fun _ i=>n - (intOf i).toNat)
 case atStart=>exact ⟨0,Nat.zero_le _,rfl,rfl⟩
 case round=>
  obtain ⟨m,hm,rfl,rfl⟩:=hrel
  by_cases hlt:m<n
  ·have hlt':(m:Int)<(n:Int):=by omega
   obtain ⟨g,cs,rfl,hng,hb,hc⟩:=HH.out.head (by omega)
   have c0:=(hb.cell m).trans (hc m hlt)
   have hle:=sumB_le f n m hlt
   have hr:=(HH.out.rows m hlt).is
   unfold mrk at hr
   have HMK:=hide (heldIntS_any (f m).1 (f m).2.1 (f m).2.2 (k+sumB f m) w hr (by omega) (by omega))
   have HSU:=hide (show sumB f (m+1)=sumB f m+(f m).2.1 from rfl)
   clear hb hc hr
   generalize sumB f m=sm at *
   generalize f m=fm at *
   obtain ⟨fa,fn,fc⟩:=fm
   dsimp only at *
   go_wp2_with fail
   refine HMK.out.mono ?_
   rintro e w1 ⟨rfl,rfl⟩
   have hnn:¬ (((k+sm+fn:Nat):Int)<0):=by omega
   clear HMK
   go_wp2
   go_round
   case rel=>exact ⟨m+1,by omega,by go_num,by rw [HSU.out];go_num⟩
   case measure=>simp [intOf];omega
  ·have e:Hid (m=n):=by show m=n;omega
   go_wp2
   go_ret
   exact ⟨ret_int (by rw [e.out]),rfl⟩
end Go.Proofs.YtngdgogjlpjjpaeGreat
namespace Go.Proofs.YtngdgogjlpjjpaeGreat
open Go.RowKit
set_option linter.unusedVariables false
def marks (k n:Nat):List Int:=(List.range n).map fun i=>((k+i:Nat):Int) % 256
def mixed (zs:List Int)(k m:Nat):List Int:=(List.range zs.length).map fun i=>if i<m then ((k+i:Nat):Int) % 256 else zs.getD i 0
theorem mixed_zero (zs:List Int)(k:Nat):mixed zs k 0=zs:=by
 apply List.ext_getElem
 ·simp [mixed]
 ·intro i h1 h2;simp [mixed,h2]
theorem mixed_all (zs:List Int)(k:Nat):mixed zs k zs.length=marks k zs.length:=by
 apply List.ext_getElem
 ·simp [mixed,marks]
 ·intro i h1 h2
  simp [marks] at h2
  simp [mixed,marks,h2]
theorem mixed_set (zs:List Int)(k m:Nat)(h:m<zs.length):(mixed zs k m).set m (((k+m:Nat):Int) % 256)=mixed zs k (m+1):=by
 apply List.ext_getElem
 ·simp [mixed]
 ·intro i h1 h2
  simp only [mixed,List.getElem_set,List.getElem_map,List.getElem_range]
  by_cases hik:m=i
  ·subst hik;simp
  ·by_cases h3:i<m
   ·simp [hik,h3,show i<m+1 by omega]
   ·simp [hik,h3,show ¬ i<m+1 by omega]
theorem markByteS_some (g n cap base:Nat)(zs:List Int)(k:Nat)(w:World)(h:OB w base (.slice (some ⟨g,0,none⟩) n cap) zs)(hn:n≤2097152)(hk:k≤4194304):
 Calls Tryz.prog 92 #[.slice (some ⟨g,0,none⟩) n cap,.int .i64 k] w fun e w'=>e=.returned (.int .i64 ((k+n:Nat):Int))∧OB w' base (.slice (some ⟨g,0,none⟩) n cap) (marks k n)∧Turn (fun j=>j=g) w w':=by
 have hl:=h.bs.1
 go_enter Tryz.func92,Tryz.ntmps92
 go_wp2
 go_loopw [1,5] (fun x i wr=>∃ m:Nat,m≤n∧i=.int .i64 m∧x=.int .i64 ((k+m:Nat):Int)∧OB wr base (.slice (some ⟨g,0,none⟩) n cap) (mixed zs k m)∧Turn (fun j=>j=g) w wr) (fun _ i _=>n - (intOf i).toNat)
 case atStart=>exact ⟨0,Nat.zero_le _,rfl,rfl,by rw [mixed_zero];exact h,Turn.refl _ _⟩
 case round=>
  obtain ⟨m,hm,rfl,rfl,hO,hT⟩:=hrel
  by_cases hlt:m<n
  ·have hlt':(m:Int)<(n:Int):=by omega
   obtain ⟨u,hu⟩:=(ob_room hO).cell m hlt
   have hf:=(ob_room hO).frozen m
   have hset:=ob_set hO m hlt (((k+m:Nat):Int) % 256) (by omega)
   rw [mixed_set zs k m (by omega)] at hset
   have hT2:Turn (fun j=>j=g) w (wr.setCell ⟨g,m,none⟩ (.int .u8 (((k+m:Nat):Int) % 256))):=
    hT.trans ⟨rfl,rfl,rfl,by rw [size_setCell];exact Nat.le_refl _,fun j hj hs=>heap_setCell_other _ _ _ _ hs⟩
   have HO:=hide hset
   have HT:=hide hT2
   clear hset hT2 hO hT
   obtain ⟨K,hK⟩:∃ K:Int,K=((k+m:Nat):Int):=⟨_,rfl⟩
   have hK0:0≤K:=by omega
   have hK1:K≤8388608:=by omega
   have HK:=hide (show K+1=((k+(m+1):Nat):Int) by omega)
   rw [← hK] at HO HT ⊢
   clear hK
   go_wp2
   go_roundw
   case rel=>exact ⟨m+1,by omega,by go_num,by rw [HK.out],HO.out,HT.out⟩
   case measure=>simp [intOf];omega
  ·have e:Hid (m=n):=by show m=n;omega
   go_wp2
   go_ret
   exact ⟨ret_int (by rw [e.out]),by rw [e.out,← hl,mixed_all] at hO;rw [hl] at hO;exact hO,hT⟩
theorem ob_room2 {w:World}{base g n cap m:Nat}{zs:List Int}(h:OB w base (.slice (some ⟨g,0,none⟩) n cap) zs)(hm:m≤n):Room w g m:=by
 obtain ⟨cur,hb,hn⟩:=ob_room h
 exact ⟨cur,hb,by omega⟩
end Go.Proofs.YtngdgogjlpjjpaeGreat
namespace Go.Proofs.YtngdgogjlpjjpaeGreat
open Go.RowKit
set_option linter.unusedVariables false
set_option linter.unusedSimpArgs false
theorem oprV {P:Program}{o:Oper}{a:Act}{w w':World}{v:Value}{K:Act→World→Prop}{Q:Exit→Act→World→Prop}(h:(execOp a.eval o).run P w=.ok (.value v) w')(hk:K (a.put o.dst v) w'):o.wp P a w K Q:=by
 unfold Oper.wp
 rw [h]
 exact hk
theorem oprS {P:Program}{o:Oper}{a:Act}{w w':World}{K:Act→World→Prop}{Q:Exit→Act→World→Prop}(h:(execOp a.eval o).run P w=.ok .skip w')(hk:K (a.put o.dst undef) w'):o.wp P a w K Q:=by
 unfold Oper.wp
 rw [h]
 exact hk
theorem oprC {P:Program}{o:Oper}{a:Act}{w w':World}{f:Nat}{args:Array Value}{K:Act→World→Prop}{Q:Exit→Act→World→Prop}(h:(execOp a.eval o).run P w=.ok (.enter f args) w'){R:Ending→World→Prop}(hc:Calls P f args w' R)(hk:∀ e w'',R e w''→∃ v,e=.returned v∧K (a.put o.dst v) w''):o.wp P a w K Q:=by
 unfold Oper.wp
 rw [h]
 refine hc.mono fun e w'' hr=>?_
 obtain ⟨v,rfl,hv⟩:=hk e w'' hr
 exact hv
theorem wpoP {P:Program}{ops:Array Oper}{Q:Exit→Act→World→Prop}{i:Nat}{o:Oper}{K:Act→World→Prop}{a:Act}{w:World}(ho:ops[i]?=some o)(hg:o.guard=none)(h:o.wp P a w K Q):wpOp P ops Q i K a w:=by
 unfold wpOp
 rw [ho]
 simp only [Region.wanted,hg]
 exact .inl h
theorem wpoV {P:Program}{ops:Array Oper}{Q:Exit→Act→World→Prop}{i:Nat}{o:Oper}{K:Act→World→Prop}{a:Act}{w w':World}{v:Value}(ho:ops[i]?=some o)(hg:o.guard=none)(h:(execOp a.eval o).run P w=.ok (.value v) w')(hk:K (a.put o.dst v) w'):wpOp P ops Q i K a w:=
 wpoP ho hg (oprV h hk)
theorem wpoS {P:Program}{ops:Array Oper}{Q:Exit→Act→World→Prop}{i:Nat}{o:Oper}{K:Act→World→Prop}{a:Act}{w w':World}(ho:ops[i]?=some o)(hg:o.guard=none)(h:(execOp a.eval o).run P w=.ok .skip w')(hk:K (a.put o.dst undef) w'):wpOp P ops Q i K a w:=
 wpoP ho hg (oprS h hk)
theorem wpoC {P:Program}{ops:Array Oper}{Q:Exit→Act→World→Prop}{i:Nat}{o:Oper}{K:Act→World→Prop}{a:Act}{w w':World}{f:Nat}{args:Array Value}(ho:ops[i]?=some o)(hg:o.guard=none)(h:(execOp a.eval o).run P w=.ok (.enter f args) w'){R:Ending→World→Prop}(hc:Calls P f args w' R)(hk:∀ e w'',R e w''→∃ v,e=.returned v∧K (a.put o.dst v) w''):wpOp P ops Q i K a w:=
 wpoP ho hg (oprC h hc hk)
theorem rdy_pre {md:Region.Mode}{ops:Array Oper}{listed:Array Bool}{i:Nat}{o:Oper}(hi:i ∈ Region.ready md ops listed)(ho:ops[i]?=some o)(e:Edge)(he:e ∈ o.after)(hb:Region.binds md e=true):listed.getD e.on false=true:=by
 obtain ⟨_,o',ho',h⟩:=mem_ready.1 hi
 rw [ho] at ho'
 injection ho' with e'
 subst e'
 exact h e he hb
theorem rdy_last {md:Region.Mode}{ops:Array Oper}{listed:Array Bool}(hr:Region.ready md ops listed=[])(i:Nat)(o:Oper)(ho:ops[i]?=some o)(hp:∀ e ∈ o.after,Region.binds md e=true→listed.getD e.on false=true):listed.getD i true=true:=by
 cases h:listed.getD i true
 ·have:i ∈ Region.ready md ops listed:=mem_ready.2 ⟨h,o,ho,hp⟩
  rw [hr] at this
  cases this
 ·rfl
end Go.Proofs.YtngdgogjlpjjpaeGreat
