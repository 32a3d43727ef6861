import Derived.Test.YtngdgogjlpjjpadGreatRows
import Derived.WalkKit
import Derived.WalkLawsBesides
import Derived.WalkSpells
namespace Go.Proofs.YtngdgogjlpjjpadGreat
open Go.RowKit
set_option linter.unusedVariables false
theorem ret_int {k:IntKind} {a b:Int} (h:a=b):Ending.returned (.int k a)=.returned (.int k b):=by rw [h]
theorem ret_bool {a b:Bool} (h:a=b):Ending.returned (.bool a)=.returned (.bool b):=by rw [h]
theorem hide {p:Prop} (h:p):Hid p:=h
theorem pow_lt (n:Nat) (h:n≤20):(2:Int)^n≤1048576:=by
 have h1:(2:Nat)^n≤2^20:=Nat.pow_le_pow_right (by omega) h
 have h2:((2^n:Nat):Int)=(2:Int)^n:=by simp
 have h3:(2:Nat)^20=1048576:=rfl
 omega
theorem pow_pos (n:Nat):0<(2:Int)^n:=by
 have h1:0<(2:Nat)^n:=Nat.pow_pos (by omega)
 have h2:((2^n:Nat):Int)=(2:Int)^n:=by simp
 omega
set_option maxHeartbeats 400000 in
theorem l2Power_any (n:Int) (h0:0≤n) (h:n≤20) (w:World):
 Calls Tryz.prog 167 #[.int .i64 n] w fun e w'=>e=.returned (.int .i64 ((2:Int)^n.toNat))∧w'=w:=by
 go_enter Tryz.func167,Tryz.ntmps167
 go_wp2
 go_loop [3,4] (fun v i=>∃ k:Nat,(k:Int)≤n∧i=.int .i64 k∧v=.int .i64 ((2:Int)^k)) (fun _ i=>n.toNat - (intOf i).toNat)
 case atStart=>exact ⟨0,by omega,rfl,rfl⟩
 case round=>
  obtain ⟨k,hk,rfl,rfl⟩:=hrel
  by_cases hlt:(k:Int)<n
  ·have hp:=pow_lt k (by omega)
   have hp0:=pow_pos k
   have hs:Hid ((2:Int)^(k+1)=(2:Int)^k * 2):=Int.pow_succ 2 k
   generalize (2:Int)^k=P at *
   go_wp2
   go_round
   case rel=>exact ⟨k+1,by omega,by go_num,by rw [hs.out]⟩
   case measure=>simp [intOf];omega
  ·have e:Hid (n.toNat=k):=by show n.toNat=k;omega
   go_wp2
   go_ret
   exact ⟨ret_int (by rw [e.out]),rfl⟩
end Go.Proofs.YtngdgogjlpjjpadGreat
