import Derived.Test.YtngdgogjlpjjpadGreatP01
import Derived.Test.YtngdgogjlpjjpadGreatP04
import Derived.Test.YtngdgogjlpjjpadGreatP05
import Derived.Test.YtngdgogjlpjjpadGreatP07
namespace Go.Proofs.YtngdgogjlpjjpadGreat
open Go.RowKit
set_option linter.unusedVariables false
set_option maxRecDepth 100000
theorem IS.at {w:World} {b off n cap:Nat} {zs:List Int} (h:IS w (Option.some ⟨b,off,none⟩) n cap zs) (i:Nat) (hi:i<n):w.cell? ⟨b,off+i,none⟩=Option.some (.int .i64 (zs.getD i 0)):=by
 obtain ⟨b',off',e,hd⟩:=h.2.2.2.1 (by omega)
 simp at e
 obtain ⟨rfl,rfl⟩:=e
 exact hd i hi
theorem IS.addr {w:World} {a:Option Addr} {n cap:Nat} {zs:List Int} (h:IS w a n cap zs) (hn:n≠0):∃ b off,a=some ⟨b,off,none⟩:=by
 obtain ⟨b,off,e,_⟩:=h.2.2.2.1 hn
 exact ⟨b,off,e⟩
def OI (w:World) (base:Nat) (v:Value) (zs:List Int):Prop:=w.ownsRow base 3 1 v zs.length (zs.map (Value.int .i64))∧∀ z ∈ zs,wfi z
theorem OI.below {w w':World} {base:Nat} {v:Value} {zs:List Int} (h:OI w base v zs) (hb:Below w.heap.size w w'):OI w' base v zs:=by
 refine ⟨?_,h.2⟩
 obtain ⟨hl,h0 | ⟨g,cap,cur,hv,hg,hh,h1,h2,h3,h4⟩⟩:=h.1
 ·exact ⟨hl,.inl h0⟩
 ·refine ⟨hl,.inr ⟨g,cap,cur,hv,hg,?_,h1,h2,h3,h4⟩⟩
  exact Blk.below (w:=w) hh hb
theorem OI.mono {w:World} {base base':Nat} {v:Value} {zs:List Int} (h:OI w base v zs) (hb:base'≤base):OI w base' v zs:=by
 refine ⟨?_,h.2⟩
 obtain ⟨hl,h0 | ⟨g,cap,cur,hv,hg,hh,h1,h2,h3,h4⟩⟩:=h.1
 ·exact ⟨hl,.inl h0⟩
 ·exact ⟨hl,.inr ⟨g,cap,cur,hv,by omega,hh,h1,h2,h3,h4⟩⟩
theorem OI.other {w:World} {base:Nat} {v:Value} {zs:List Int} (h:OI w base v zs) (a:Addr) (u:Value) (ha:a.block<base):OI (w.setCell a u) base v zs:=by
 refine ⟨?_,h.2⟩
 obtain ⟨hl,h0 | ⟨g,cap,cur,hv,hg,hh,h1,h2,h3,h4⟩⟩:=h.1
 ·exact ⟨hl,.inl h0⟩
 ·exact ⟨hl,.inr ⟨g,cap,cur,hv,hg,Blk.other (w:=w) hh a u (by omega),h1,h2,h3,h4⟩⟩
theorem OI.lt {w:World} {base:Nat} {v:Value} {zs:List Int} (h:OI w base v zs):∀ k,v.ownBlock=some k→base≤k∧k<w.heap.size:=h.1.lt
theorem OI.is {w:World} {base n cap:Nat} {a:Option Addr} {zs:List Int} (h:OI w base (.slice a n cap) zs):IS w a n cap zs:=by
 obtain ⟨hl,⟨h0,h0'⟩ | ⟨g,cap',cur,hv,hg,hh,h1,h2,h3,h4⟩⟩:=h.1
 ·simp at h0
  obtain ⟨rfl,rfl,rfl⟩:=h0
  exact ⟨h0',Nat.zero_le _,h.2,fun hn=>absurd rfl hn,Nat.le_refl _⟩
 ·simp at hv
  obtain ⟨rfl,rfl,rfl⟩:=hv
  refine ⟨rfl,by omega,h.2,fun hn=>⟨g,0,rfl,fun i hi=>?_⟩,h1⟩
  rw [Nat.zero_add,Blk.cell (w:=w) hh]
  have:cur.toList[i]?=(zs.map (Value.int .i64))[i]?:=by
   rw [← h4,List.getElem?_take,if_pos (by omega)]
  rw [Array.getElem?_toList] at this
  rw [this]
  simp [List.getD_eq_getElem?_getD,hi]
def RoomI (w:World) (g n:Nat):Prop:=∃ cur,Blk w g cur 3∧n≤cur.size
theorem RoomI.cell {w:World} {g n:Nat} (h:RoomI w g n) (i:Nat) (hi:i<n):∃ u,w.cell? ⟨g,i,none⟩=some u:=by
 obtain ⟨cur,hb,hn⟩:=h
 rw [hb.cell]
 exact ⟨cur[i],by simp⟩
theorem RoomI.frozen {w:World} {g n:Nat} (h:RoomI w g n) (i:Nat):w.frozen? ⟨g,i,none⟩=false:=by
 obtain ⟨cur,hb,hn⟩:=h
 exact hb.frozen i
theorem RoomI.set {w:World} {g n:Nat} (h:RoomI w g n) (i:Nat) (u:Value):RoomI (w.setCell ⟨g,i,none⟩ u) g n:=by
 obtain ⟨cur,hb,hn⟩:=h
 exact ⟨_,hb.set i u,by simpa using hn⟩
theorem turn_oi {S:Nat→Prop} {base:Nat} {w w':World} {v:Value} {zs:List Int} (ht:Turn S w w') (h:OI w base v zs) (hk:∀ k,v.ownBlock=some k→¬ S k):OI w' base v zs:=by
 refine ⟨?_,h.2⟩
 obtain ⟨hl,h0 | ⟨g',cap,cur,rfl,hg,hh,h1,h2,h3,h4⟩⟩:=h.1
 ·exact ⟨hl,.inl h0⟩
 ·exact ⟨hl,.inr ⟨g',cap,cur,rfl,hg,turn_blk ht hh (hk g' rfl),h1,h2,h3,h4⟩⟩
end Go.Proofs.YtngdgogjlpjjpadGreat
namespace Go.Proofs.YtngdgogjlpjjpadGreat
open Go.RowKit
set_option linter.unusedVariables false
set_option linter.unusedSimpArgs false
set_option maxRecDepth 100000
def wds (zs:List Int):Bool:=zs.all fun z=>decide (0≤z∧z≤4294967295)
theorem wds_bad (zs:List Int) (k:Nat) (hk:k<zs.length) (h:¬ (0≤zs.getD k 0∧zs.getD k 0≤4294967295)):wds zs=false:=by
 unfold wds
 rw [List.all_eq_false]
 refine ⟨zs[k],List.getElem_mem _,?_⟩
 have:zs.getD k 0=zs[k]:=by simp [List.getD_eq_getElem?_getD,hk]
 rw [this] at h
 simpa using h
theorem wds_good (zs:List Int) (h:∀ j,j<zs.length→0≤zs.getD j 0∧zs.getD j 0≤4294967295):wds zs=true:=by
 unfold wds
 rw [List.all_eq_true]
 intro z hz
 obtain ⟨i,hi,rfl⟩:=List.getElem_of_mem hz
 have:=h i hi
 rw [show zs.getD i 0=zs[i] by simp [List.getD_eq_getElem?_getD,hi]] at this
 simpa using this
set_option maxHeartbeats 1000000 in
theorem l4Words_any (a:Option Addr) (n cap:Nat) (zs:List Int) (w:World) (h:IS w a n cap zs):
 Calls Tryz.prog 267 #[.slice a n cap] w fun e w'=>e=.returned (.bool (wds zs))∧w=w':=by
 have hl:=h.1
 have hmx:=h.2.1
 unfold maxLen at hmx
 go_enter Tryz.func267,Tryz.ntmps267
 go_wp2_with fail
 go_loop [3] (fun i=>∃ k:Nat,k≤n∧i=.int .i64 k∧Hid (∀ j,j<k→0≤zs.getD j 0∧zs.getD j 0≤4294967295)) (fun i=>n - (intOf i).toNat)
 case atStart=>exact ⟨0,Nat.zero_le _,rfl,hide (fun j hj=>by omega)⟩
 case round=>
  obtain ⟨k,hk,rfl,HJ⟩:=hrel
  by_cases hlt:k<n
  ·have hlt':(k:Int)<(n:Int):=by omega
   obtain ⟨b,off,rfl⟩:=h.addr (by omega)
   have hck:=h.at k hlt
   have HZ:=hide (wds_bad zs k (by omega))
   have HG:=hide (show 0≤zs.getD k 0∧zs.getD k 0≤4294967295→∀ j,j<k+1→0≤zs.getD j 0∧zs.getD j 0≤4294967295 from fun h j hj=>by
    by_cases e:j=k
    ·subst e;exact h
    ·exact HJ.out j (by omega))
   generalize zs.getD k 0=z at *
   by_cases c1:z<0
   ·go_wp2
    go_ret
    exact ⟨ret_bool (HZ.out (by omega)).symm,rfl⟩
   ·by_cases c2:4294967295<z
    ·go_wp2
     go_ret
     exact ⟨ret_bool (HZ.out (by omega)).symm,rfl⟩
    ·go_wp2
     go_round
     case rel=>exact ⟨k+1,by omega,by go_num,hide (HG.out (by omega))⟩
     case measure=>simp [intOf];omega
  ·have HE:=hide (wds_good zs (fun j hj=>HJ.out j (by omega)))
   go_wp2
   go_ret
   exact ⟨ret_bool HE.out.symm,rfl⟩
set_option maxHeartbeats 1000000 in
theorem areWords_any (a:Option Addr) (n cap:Nat) (zs:List Int) (w:World) (h:IS w a n cap zs):
 Calls Tryz.prog 268 #[.slice a n cap] w fun e w'=>e=.returned (.bool (wds zs))∧w=w':=by
 have hl:=h.1
 have hmx:=h.2.1
 unfold maxLen at hmx
 have HIW:=hide (fun v w=>isWord_any v w)
 go_enter Tryz.func268,Tryz.ntmps268
 go_wp2_with fail
 go_loop [7] (fun i=>∃ k:Nat,k≤n∧i=.int .i64 k∧Hid (∀ j,j<k→0≤zs.getD j 0∧zs.getD j 0≤4294967295)) (fun i=>n - (intOf i).toNat)
 case atStart=>exact ⟨0,Nat.zero_le _,rfl,hide (fun j hj=>by omega)⟩
 case round=>
  obtain ⟨k,hk,rfl,HJ⟩:=hrel
  by_cases hlt:k<n
  ·have hlt':(k:Int)<(n:Int):=by omega
   obtain ⟨b,off,rfl⟩:=h.addr (by omega)
   have hck:=h.at k hlt
   have HZ:=hide (wds_bad zs k (by omega))
   have HG:=hide (show 0≤zs.getD k 0∧zs.getD k 0≤4294967295→∀ j,j<k+1→0≤zs.getD j 0∧zs.getD j 0≤4294967295 from fun h j hj=>by
    by_cases e:j=k
    ·subst e;exact h
    ·exact HJ.out j (by omega))
   generalize zs.getD k 0=z at *
   have HW:=hide (HIW.out z)
   by_cases c1:0≤z∧z≤4294967295
   ·rw [decide_eq_true c1] at HW
    go_wp2_with (go_at_call 168;refine (HW.out _).mono ?_;rintro e w1 ⟨rfl,rfl⟩)
    go_round
    case rel=>exact ⟨k+1,by omega,by go_num,hide (HG.out c1)⟩
    case measure=>simp [intOf];omega
   ·rw [decide_eq_false c1] at HW
    go_wp2_with (go_at_call 168;refine (HW.out _).mono ?_;rintro e w1 ⟨rfl,rfl⟩)
    go_ret
    exact ⟨ret_bool (HZ.out c1).symm,rfl⟩
  ·have HE:=hide (wds_good zs (fun j hj=>HJ.out j (by omega)))
   go_wp2
   go_ret
   exact ⟨ret_bool HE.out.symm,rfl⟩
end Go.Proofs.YtngdgogjlpjjpadGreat
