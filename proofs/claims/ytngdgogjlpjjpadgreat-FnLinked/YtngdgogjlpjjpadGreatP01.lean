import Derived.Deep.RegionHeld3
import Derived.Laws.BitsLemmas
import Derived.Test.YtngdgogjlpjjpadGreatP00
namespace Go.Proofs.YtngdgogjlpjjpadGreat
open Go.RowKit
set_option linter.unusedVariables false
set_option maxHeartbeats 1000000 in
theorem acc_bad (a1 a2 a3:Option Addr) (n1 c1 n2 c2 n3 c3:Nat) (p s:Int) (w:World) (h:mok n1 n2 n3=false∨wd s=false):
 Calls Tryz.prog 158 #[.agg #[.slice a1 n1 c1,.slice a2 n2 c2,.slice a3 n3 c3],.int .i64 p,.int .i64 s] w fun e w'=>e=.returned (.int .i64 2)∧Below w.heap.size w w':=by
 have hB0:Below w.heap.size w (w.alloc (.cells #[.slice a1 n1 c1,.slice a2 n2 c2,.slice a3 n3 c3] 38)):=(Below.refl _ _).alloc (Nat.le_refl _) _
 by_cases hm:mok n1 n2 n3=false
 ·clear h
  go_enter Tryz.func158,Tryz.ntmps158
  go_wp2_with fail
  refine (iMemOk_any a1 a2 a3 n1 c1 n2 c2 n3 c3 _).mono ?_
  rw [hm]
  rintro e w1 ⟨rfl,hb1⟩
  go_wp2
  go_ret
  exact ⟨rfl,hB0.trans (hb1.mono (by simp))⟩
 ·have hs:wd s=false:=by rcases h with h | h;exact absurd h hm;exact h
  have hm:mok n1 n2 n3=true:=by simpa using hm
  clear h
  go_enter Tryz.func158,Tryz.ntmps158
  go_wp2_with fail
  refine (iMemOk_any a1 a2 a3 n1 c1 n2 c2 n3 c3 _).mono ?_
  rw [hm]
  rintro e w1 ⟨rfl,hb1⟩
  go_wp2_with fail
  refine (isWidth_any s _).mono ?_
  rw [hs]
  rintro e w2 ⟨rfl,rfl⟩
  go_wp2
  go_ret
  exact ⟨rfl,hB0.trans (hb1.mono (by simp))⟩
set_option maxHeartbeats 1000000 in
theorem acc_mis4 (a1 a2 a3:Option Addr) (n1 c1 n2 c2 n3 c3:Nat) (p:Int) (w:World) (h:mok n1 n2 n3=true) (hm:(p.tmod 4 != 0)=true):
 Calls Tryz.prog 158 #[.agg #[.slice a1 n1 c1,.slice a2 n2 c2,.slice a3 n3 c3],.int .i64 p,.int .i64 4] w fun e w'=>e=.returned (.int .i64 1)∧Below w.heap.size w w':=by
 have hB0:Below w.heap.size w (w.alloc (.cells #[.slice a1 n1 c1,.slice a2 n2 c2,.slice a3 n3 c3] 38)):=(Below.refl _ _).alloc (Nat.le_refl _) _
 go_enter Tryz.func158,Tryz.ntmps158
 go_wp2_with fail
 refine (iMemOk_any a1 a2 a3 n1 c1 n2 c2 n3 c3 _).mono ?_
 rw [h]
 rintro e w1 ⟨rfl,hb1⟩
 have k1:=(Blk.new w #[.slice a1 n1 c1,.slice a2 n2 c2,.slice a3 n3 c3] 38).below hb1
 have hB1:=hB0.trans (hb1.mono (by simp))
 obtain ⟨q1,q2,q3,q4⟩:=k1.three
 clear hb1 k1
 go_wp2_with fail
 refine (isWidth_any 4 _).mono ?_
 rw [wd4]
 rintro e w2 ⟨rfl,rfl⟩
 go_wp2
 go_ret
 exact ⟨rfl,hB1⟩
set_option maxHeartbeats 1000000 in
theorem acc_ok4 (a1 a2 a3:Option Addr) (n1 c1 n2 c2 n3 c3:Nat) (p:Int) (w:World) (h:mok n1 n2 n3=true) (hm:(p.tmod 4 != 0)=false):
 Calls Tryz.prog 158 #[.agg #[.slice a1 n1 c1,.slice a2 n2 c2,.slice a3 n3 c3],.int .i64 p,.int .i64 4] w fun e w'=>e=.returned (.int .i64 0)∧Below w.heap.size w w':=by
 have hB0:Below w.heap.size w (w.alloc (.cells #[.slice a1 n1 c1,.slice a2 n2 c2,.slice a3 n3 c3] 38)):=(Below.refl _ _).alloc (Nat.le_refl _) _
 go_enter Tryz.func158,Tryz.ntmps158
 go_wp2_with fail
 refine (iMemOk_any a1 a2 a3 n1 c1 n2 c2 n3 c3 _).mono ?_
 rw [h]
 rintro e w1 ⟨rfl,hb1⟩
 have k1:=(Blk.new w #[.slice a1 n1 c1,.slice a2 n2 c2,.slice a3 n3 c3] 38).below hb1
 have hB1:=hB0.trans (hb1.mono (by simp))
 obtain ⟨q1,q2,q3,q4⟩:=k1.three
 clear hb1 k1
 go_wp2_with fail
 refine (isWidth_any 4 _).mono ?_
 rw [wd4]
 rintro e w2 ⟨rfl,rfl⟩
 go_wp2
 go_ret
 exact ⟨rfl,hB1⟩
set_option maxHeartbeats 1000000 in
theorem acc_mis2 (a1 a2 a3:Option Addr) (n1 c1 n2 c2 n3 c3:Nat) (p:Int) (w:World) (h:mok n1 n2 n3=true) (hm:(p.tmod 2 != 0)=true):
 Calls Tryz.prog 158 #[.agg #[.slice a1 n1 c1,.slice a2 n2 c2,.slice a3 n3 c3],.int .i64 p,.int .i64 2] w fun e w'=>e=.returned (.int .i64 1)∧Below w.heap.size w w':=by
 have hB0:Below w.heap.size w (w.alloc (.cells #[.slice a1 n1 c1,.slice a2 n2 c2,.slice a3 n3 c3] 38)):=(Below.refl _ _).alloc (Nat.le_refl _) _
 go_enter Tryz.func158,Tryz.ntmps158
 go_wp2_with fail
 refine (iMemOk_any a1 a2 a3 n1 c1 n2 c2 n3 c3 _).mono ?_
 rw [h]
 rintro e w1 ⟨rfl,hb1⟩
 have k1:=(Blk.new w #[.slice a1 n1 c1,.slice a2 n2 c2,.slice a3 n3 c3] 38).below hb1
 have hB1:=hB0.trans (hb1.mono (by simp))
 obtain ⟨q1,q2,q3,q4⟩:=k1.three
 clear hb1 k1
 go_wp2_with fail
 refine (isWidth_any 2 _).mono ?_
 rw [wd2]
 rintro e w2 ⟨rfl,rfl⟩
 go_wp2
 go_ret
 exact ⟨rfl,hB1⟩
set_option maxHeartbeats 1000000 in
theorem acc_ok2 (a1 a2 a3:Option Addr) (n1 c1 n2 c2 n3 c3:Nat) (p:Int) (w:World) (h:mok n1 n2 n3=true) (hm:(p.tmod 2 != 0)=false):
 Calls Tryz.prog 158 #[.agg #[.slice a1 n1 c1,.slice a2 n2 c2,.slice a3 n3 c3],.int .i64 p,.int .i64 2] w fun e w'=>e=.returned (.int .i64 0)∧Below w.heap.size w w':=by
 have hB0:Below w.heap.size w (w.alloc (.cells #[.slice a1 n1 c1,.slice a2 n2 c2,.slice a3 n3 c3] 38)):=(Below.refl _ _).alloc (Nat.le_refl _) _
 go_enter Tryz.func158,Tryz.ntmps158
 go_wp2_with fail
 refine (iMemOk_any a1 a2 a3 n1 c1 n2 c2 n3 c3 _).mono ?_
 rw [h]
 rintro e w1 ⟨rfl,hb1⟩
 have k1:=(Blk.new w #[.slice a1 n1 c1,.slice a2 n2 c2,.slice a3 n3 c3] 38).below hb1
 have hB1:=hB0.trans (hb1.mono (by simp))
 obtain ⟨q1,q2,q3,q4⟩:=k1.three
 clear hb1 k1
 go_wp2_with fail
 refine (isWidth_any 2 _).mono ?_
 rw [wd2]
 rintro e w2 ⟨rfl,rfl⟩
 go_wp2
 go_ret
 exact ⟨rfl,hB1⟩
set_option maxHeartbeats 1000000 in
theorem acc_ok1 (a1 a2 a3:Option Addr) (n1 c1 n2 c2 n3 c3:Nat) (p:Int) (w:World) (h:mok n1 n2 n3=true) (hm:(p.tmod 1 != 0)=false):
 Calls Tryz.prog 158 #[.agg #[.slice a1 n1 c1,.slice a2 n2 c2,.slice a3 n3 c3],.int .i64 p,.int .i64 1] w fun e w'=>e=.returned (.int .i64 0)∧Below w.heap.size w w':=by
 have hB0:Below w.heap.size w (w.alloc (.cells #[.slice a1 n1 c1,.slice a2 n2 c2,.slice a3 n3 c3] 38)):=(Below.refl _ _).alloc (Nat.le_refl _) _
 go_enter Tryz.func158,Tryz.ntmps158
 go_wp2_with fail
 refine (iMemOk_any a1 a2 a3 n1 c1 n2 c2 n3 c3 _).mono ?_
 rw [h]
 rintro e w1 ⟨rfl,hb1⟩
 have k1:=(Blk.new w #[.slice a1 n1 c1,.slice a2 n2 c2,.slice a3 n3 c3] 38).below hb1
 have hB1:=hB0.trans (hb1.mono (by simp))
 obtain ⟨q1,q2,q3,q4⟩:=k1.three
 clear hb1 k1
 go_wp2_with fail
 refine (isWidth_any 1 _).mono ?_
 rw [wd1]
 rintro e w2 ⟨rfl,rfl⟩
 go_wp2
 go_ret
 exact ⟨rfl,hB1⟩
set_option maxHeartbeats 1000000 in
theorem iRead_bad (a1 a2 a3:Option Addr) (n1 c1 n2 c2 n3 c3:Nat) (p s:Int) (w:World) (h:mok n1 n2 n3=false∨wd s=false):
 Calls Tryz.prog 75 #[.agg #[.slice a1 n1 c1,.slice a2 n2 c2,.slice a3 n3 c3],.int .i64 p,.int .i64 s] w fun e w'=>e=.returned (.tuple #[.int .i64 0,.int .i64 2])∧Below w.heap.size w w':=by
 have hB0:Below w.heap.size w (w.alloc (.cells #[.slice a1 n1 c1,.slice a2 n2 c2,.slice a3 n3 c3] 38)):=(Below.refl _ _).alloc (Nat.le_refl _) _
 go_enter Tryz.func75,Tryz.ntmps75
 go_wp2_with fail
 refine (acc_bad a1 a2 a3 n1 c1 n2 c2 n3 c3 _ s _ h).mono ?_
 rintro e w1 ⟨rfl,hb1⟩
 have k1:=(Blk.new w #[.slice a1 n1 c1,.slice a2 n2 c2,.slice a3 n3 c3] 38).below hb1
 have hB1:=hB0.trans (hb1.mono (by simp))
 obtain ⟨q1,q2,q3,q4⟩:=k1.three
 clear hb1 k1
 clear h
 go_wp2
 go_ret2
 exact ⟨rfl,hB1⟩
set_option maxHeartbeats 1000000 in
theorem iRead_mis4 (a1 a2 a3:Option Addr) (p:Int) (n1 c1 n2 c2 n3 c3:Nat) (w:World) (h:mok n1 n2 n3=true) (hm:(p.tmod 4 != 0)=true):
 Calls Tryz.prog 75 #[.agg #[.slice a1 n1 c1,.slice a2 n2 c2,.slice a3 n3 c3],.int .i64 p,.int .i64 4] w fun e w'=>e=.returned (.tuple #[.int .i64 0,.int .i64 1])∧Below w.heap.size w w':=by
 have hB0:Below w.heap.size w (w.alloc (.cells #[.slice a1 n1 c1,.slice a2 n2 c2,.slice a3 n3 c3] 38)):=(Below.refl _ _).alloc (Nat.le_refl _) _
 obtain ⟨hn1,hn2,hn3⟩:=mok1 h
 go_enter Tryz.func75,Tryz.ntmps75
 go_wp2_with fail
 refine (acc_mis4 a1 a2 a3 n1 c1 n2 c2 n3 c3 _ _ h hm).mono ?_
 rintro e w1 ⟨rfl,hb1⟩
 have k1:=(Blk.new w #[.slice a1 n1 c1,.slice a2 n2 c2,.slice a3 n3 c3] 38).below hb1
 have hB1:=hB0.trans (hb1.mono (by simp))
 obtain ⟨q1,q2,q3,q4⟩:=k1.three
 clear hb1 k1
 go_wp2
 go_ret2
 exact ⟨rfl,hB1⟩
set_option maxHeartbeats 1000000 in
theorem iRead_port4 (a1 a2 a3:Option Addr) (n1 c1 n2 c2 n3 c3:Nat) (w:World) (h:mok n1 n2 n3=true)  :
 Calls Tryz.prog 75 #[.agg #[.slice a1 n1 c1,.slice a2 n2 c2,.slice a3 n3 c3],.int .i64 131072,.int .i64 4] w fun e w'=>e=.returned (.tuple #[.int .i64 0,.int .i64 4])∧Below w.heap.size w w':=by
 have hB0:Below w.heap.size w (w.alloc (.cells #[.slice a1 n1 c1,.slice a2 n2 c2,.slice a3 n3 c3] 38)):=(Below.refl _ _).alloc (Nat.le_refl _) _
 obtain ⟨hn1,hn2,hn3⟩:=mok1 h
 go_enter Tryz.func75,Tryz.ntmps75
 go_wp2_with fail
 refine (acc_ok4 a1 a2 a3 n1 c1 n2 c2 n3 c3 _ _ h (by decide)).mono ?_
 rintro e w1 ⟨rfl,hb1⟩
 have k1:=(Blk.new w #[.slice a1 n1 c1,.slice a2 n2 c2,.slice a3 n3 c3] 38).below hb1
 have hB1:=hB0.trans (hb1.mono (by simp))
 obtain ⟨q1,q2,q3,q4⟩:=k1.three
 clear hb1 k1
 go_wp2
 go_ret2
 exact ⟨rfl,hB1⟩
set_option maxHeartbeats 1000000 in
theorem iRead_none4 (a1 a2 a3:Option Addr) (p:Int) (n1 c1 n2 c2 n3 c3:Nat) (w:World) (h:mok n1 n2 n3=true) (hmax:p≤9223372036854775807) (hm:(p.tmod 4 != 0)=false) (hp:(p == 131072)=false) (hi:ins p 4 0 n1=false) (hj:ins p 4 65536 n2=false):
 Calls Tryz.prog 75 #[.agg #[.slice a1 n1 c1,.slice a2 n2 c2,.slice a3 n3 c3],.int .i64 p,.int .i64 4] w fun e w'=>e=.returned (.tuple #[.int .i64 0,.int .i64 2])∧Below w.heap.size w w':=by
 have hB0:Below w.heap.size w (w.alloc (.cells #[.slice a1 n1 c1,.slice a2 n2 c2,.slice a3 n3 c3] 38)):=(Below.refl _ _).alloc (Nat.le_refl _) _
 obtain ⟨hn1,hn2,hn3⟩:=mok1 h
 go_enter Tryz.func75,Tryz.ntmps75
 go_wp2_with fail
 refine (acc_ok4 a1 a2 a3 n1 c1 n2 c2 n3 c3 _ _ h hm).mono ?_
 rintro e w1 ⟨rfl,hb1⟩
 have k1:=(Blk.new w #[.slice a1 n1 c1,.slice a2 n2 c2,.slice a3 n3 c3] 38).below hb1
 have hB1:=hB0.trans (hb1.mono (by simp))
 obtain ⟨q1,q2,q3,q4⟩:=k1.three
 clear hb1 k1
 go_wp2_with fail
 refine (holds_any a1 n1 c1 _ 4 0 _ (by omega) (by omega) (by omega) (by omega) (by omega) (by omega)).mono ?_
 rw [hi]
 rintro e w2 ⟨rfl,rfl⟩
 go_wp2_with fail
 refine (holds_any a2 n2 c2 _ 4 65536 _ (by omega) (by omega) (by omega) (by omega) (by omega) (by omega)).mono ?_
 rw [hj]
 rintro e w2 ⟨rfl,rfl⟩
 go_wp2
 go_ret2
 exact ⟨rfl,hB1⟩
set_option maxHeartbeats 1000000 in
theorem iRead_flash4 (b off:Nat) (a2 a3:Option Addr) (x1:List Int) (k:Nat) (n1 c1 n2 c2 n3 c3:Nat) (w:World) (h:mok n1 n2 n3=true) (h1:BS w (some ⟨b,off,none⟩) n1 c1 x1) (hm:((k:Int) % 4 != 0)=false) (hk:k+4≤n1):
 Calls Tryz.prog 75 #[.agg #[.slice (some ⟨b,off,none⟩) n1 c1,.slice a2 n2 c2,.slice a3 n3 c3],.int .i64 k,.int .i64 4] w fun e w'=>e=.returned (.tuple #[.int .i64 (low ((x1.drop k).take 4)),.int .i64 0])∧Below w.heap.size w w':=by
 have hB0:Below w.heap.size w (w.alloc (.cells #[.slice (some ⟨b,off,none⟩) n1 c1,.slice a2 n2 c2,.slice a3 n3 c3] 38)):=(Below.refl _ _).alloc (Nat.le_refl _) _
 obtain ⟨hn1,hn2,hn3⟩:=mok1 h
 have hp:((k:Int) == 131072)=false:=by simp;omega
 have hi:ins (k:Int) 4 0 n1=true:=by unfold ins;simp;omega
 have hcap:=h1.2.2.2.2
 have hm':((k:Int).tmod 4 != 0)=false:=by rw [Int.tmod_eq_emod_of_nonneg (by omega)];exact hm
 go_enter Tryz.func75,Tryz.ntmps75
 go_wp2_with fail
 refine (acc_ok4 (some ⟨b,off,none⟩) a2 a3 n1 c1 n2 c2 n3 c3 _ _ h hm').mono ?_
 rintro e w1 ⟨rfl,hb1⟩
 have k1:=(Blk.new w #[.slice (some ⟨b,off,none⟩) n1 c1,.slice a2 n2 c2,.slice a3 n3 c3] 38).below hb1
 have hB1:=hB0.trans (hb1.mono (by simp))
 obtain ⟨q1,q2,q3,q4⟩:=k1.three
 clear hb1 k1
 go_wp2_with fail
 refine (holds_any (some ⟨b,off,none⟩) n1 c1 _ 4 0 _ (by omega) (by omega) (by omega) (by omega) (by omega) (by omega)).mono ?_
 rw [hi]
 rintro e w2 ⟨rfl,rfl⟩
 go_wp2_with fail
 refine (getBytes_4 b (off+k) (n1 - k) (c1 - k) _ _ ((h1.below hB1).drop k (by omega)) (by omega)).mono ?_
 rintro e w3 ⟨rfl,hb3⟩
 go_wp2
 go_ret2
 exact ⟨rfl,hB1.trans (hb3.mono hB1.size)⟩
set_option maxHeartbeats 1000000 in
theorem iRead_ram4 (b off:Nat) (a1 a3:Option Addr) (x2:List Int) (k:Nat) (p:Int) (n1 c1 n2 c2 n3 c3:Nat) (w:World) (h:mok n1 n2 n3=true) (h2:BS w (some ⟨b,off,none⟩) n2 c2 x2) (hpk:p - 65536=(k:Int)) (hm:(p % 4 != 0)=false) (hk:k+4≤n2):
 Calls Tryz.prog 75 #[.agg #[.slice a1 n1 c1,.slice (some ⟨b,off,none⟩) n2 c2,.slice a3 n3 c3],.int .i64 p,.int .i64 4] w fun e w'=>e=.returned (.tuple #[.int .i64 (low ((x2.drop k).take 4)),.int .i64 0])∧Below w.heap.size w w':=by
 have hB0:Below w.heap.size w (w.alloc (.cells #[.slice a1 n1 c1,.slice (some ⟨b,off,none⟩) n2 c2,.slice a3 n3 c3] 38)):=(Below.refl _ _).alloc (Nat.le_refl _) _
 obtain ⟨hn1,hn2,hn3⟩:=mok1 h
 have hp:(p == 131072)=false:=by simp;omega
 have hi:ins p 4 0 n1=false:=by unfold ins;simp;omega
 have hj:ins p 4 65536 n2=true:=by unfold ins;simp;omega
 have hcap:=h2.2.2.2.2
 have hp0:65536≤p:=by omega
 have hp1:p≤131072:=by omega
 have hm':(p.tmod 4 != 0)=false:=by rw [Int.tmod_eq_emod_of_nonneg (by omega)];exact hm
 go_enter Tryz.func75,Tryz.ntmps75
 go_wp2_with fail
 refine (acc_ok4 a1 (some ⟨b,off,none⟩) a3 n1 c1 n2 c2 n3 c3 _ _ h hm').mono ?_
 rintro e w1 ⟨rfl,hb1⟩
 have k1:=(Blk.new w #[.slice a1 n1 c1,.slice (some ⟨b,off,none⟩) n2 c2,.slice a3 n3 c3] 38).below hb1
 have hB1:=hB0.trans (hb1.mono (by simp))
 obtain ⟨q1,q2,q3,q4⟩:=k1.three
 clear hb1 k1
 go_wp2_with fail
 refine (holds_any a1 n1 c1 _ 4 0 _ (by omega) (by omega) (by omega) (by omega) (by omega) (by omega)).mono ?_
 rw [hi]
 rintro e w2 ⟨rfl,rfl⟩
 go_wp2_with fail
 refine (holds_any (some ⟨b,off,none⟩) n2 c2 _ 4 65536 _ (by omega) (by omega) (by omega) (by omega) (by omega) (by omega)).mono ?_
 rw [hj]
 rintro e w2 ⟨rfl,rfl⟩
 go_wp2_with fail
 refine (getBytes_4 b (off+k) (n2 - k) (c2 - k) _ _ ((h2.below hB1).drop k (by omega)) (by omega)).mono ?_
 rintro e w3 ⟨rfl,hb3⟩
 go_wp2
 go_ret2
 exact ⟨rfl,hB1.trans (hb3.mono hB1.size)⟩
set_option maxHeartbeats 1000000 in
theorem iRead_mis2 (a1 a2 a3:Option Addr) (p:Int) (n1 c1 n2 c2 n3 c3:Nat) (w:World) (h:mok n1 n2 n3=true) (hm:(p.tmod 2 != 0)=true):
 Calls Tryz.prog 75 #[.agg #[.slice a1 n1 c1,.slice a2 n2 c2,.slice a3 n3 c3],.int .i64 p,.int .i64 2] w fun e w'=>e=.returned (.tuple #[.int .i64 0,.int .i64 1])∧Below w.heap.size w w':=by
 have hB0:Below w.heap.size w (w.alloc (.cells #[.slice a1 n1 c1,.slice a2 n2 c2,.slice a3 n3 c3] 38)):=(Below.refl _ _).alloc (Nat.le_refl _) _
 obtain ⟨hn1,hn2,hn3⟩:=mok1 h
 go_enter Tryz.func75,Tryz.ntmps75
 go_wp2_with fail
 refine (acc_mis2 a1 a2 a3 n1 c1 n2 c2 n3 c3 _ _ h hm).mono ?_
 rintro e w1 ⟨rfl,hb1⟩
 have k1:=(Blk.new w #[.slice a1 n1 c1,.slice a2 n2 c2,.slice a3 n3 c3] 38).below hb1
 have hB1:=hB0.trans (hb1.mono (by simp))
 obtain ⟨q1,q2,q3,q4⟩:=k1.three
 clear hb1 k1
 go_wp2
 go_ret2
 exact ⟨rfl,hB1⟩
set_option maxHeartbeats 1000000 in
theorem iRead_port2 (a1 a2 a3:Option Addr) (n1 c1 n2 c2 n3 c3:Nat) (w:World) (h:mok n1 n2 n3=true)  :
 Calls Tryz.prog 75 #[.agg #[.slice a1 n1 c1,.slice a2 n2 c2,.slice a3 n3 c3],.int .i64 131072,.int .i64 2] w fun e w'=>e=.returned (.tuple #[.int .i64 0,.int .i64 4])∧Below w.heap.size w w':=by
 have hB0:Below w.heap.size w (w.alloc (.cells #[.slice a1 n1 c1,.slice a2 n2 c2,.slice a3 n3 c3] 38)):=(Below.refl _ _).alloc (Nat.le_refl _) _
 obtain ⟨hn1,hn2,hn3⟩:=mok1 h
 go_enter Tryz.func75,Tryz.ntmps75
 go_wp2_with fail
 refine (acc_ok2 a1 a2 a3 n1 c1 n2 c2 n3 c3 _ _ h (by decide)).mono ?_
 rintro e w1 ⟨rfl,hb1⟩
 have k1:=(Blk.new w #[.slice a1 n1 c1,.slice a2 n2 c2,.slice a3 n3 c3] 38).below hb1
 have hB1:=hB0.trans (hb1.mono (by simp))
 obtain ⟨q1,q2,q3,q4⟩:=k1.three
 clear hb1 k1
 go_wp2
 go_ret2
 exact ⟨rfl,hB1⟩
set_option maxHeartbeats 1000000 in
theorem iRead_none2 (a1 a2 a3:Option Addr) (p:Int) (n1 c1 n2 c2 n3 c3:Nat) (w:World) (h:mok n1 n2 n3=true) (hmax:p≤9223372036854775807) (hm:(p.tmod 2 != 0)=false) (hp:(p == 131072)=false) (hi:ins p 2 0 n1=false) (hj:ins p 2 65536 n2=false):
 Calls Tryz.prog 75 #[.agg #[.slice a1 n1 c1,.slice a2 n2 c2,.slice a3 n3 c3],.int .i64 p,.int .i64 2] w fun e w'=>e=.returned (.tuple #[.int .i64 0,.int .i64 2])∧Below w.heap.size w w':=by
 have hB0:Below w.heap.size w (w.alloc (.cells #[.slice a1 n1 c1,.slice a2 n2 c2,.slice a3 n3 c3] 38)):=(Below.refl _ _).alloc (Nat.le_refl _) _
 obtain ⟨hn1,hn2,hn3⟩:=mok1 h
 go_enter Tryz.func75,Tryz.ntmps75
 go_wp2_with fail
 refine (acc_ok2 a1 a2 a3 n1 c1 n2 c2 n3 c3 _ _ h hm).mono ?_
 rintro e w1 ⟨rfl,hb1⟩
 have k1:=(Blk.new w #[.slice a1 n1 c1,.slice a2 n2 c2,.slice a3 n3 c3] 38).below hb1
 have hB1:=hB0.trans (hb1.mono (by simp))
 obtain ⟨q1,q2,q3,q4⟩:=k1.three
 clear hb1 k1
 go_wp2_with fail
 refine (holds_any a1 n1 c1 _ 2 0 _ (by omega) (by omega) (by omega) (by omega) (by omega) (by omega)).mono ?_
 rw [hi]
 rintro e w2 ⟨rfl,rfl⟩
 go_wp2_with fail
 refine (holds_any a2 n2 c2 _ 2 65536 _ (by omega) (by omega) (by omega) (by omega) (by omega) (by omega)).mono ?_
 rw [hj]
 rintro e w2 ⟨rfl,rfl⟩
 go_wp2
 go_ret2
 exact ⟨rfl,hB1⟩
set_option maxHeartbeats 1000000 in
theorem iRead_flash2 (b off:Nat) (a2 a3:Option Addr) (x1:List Int) (k:Nat) (n1 c1 n2 c2 n3 c3:Nat) (w:World) (h:mok n1 n2 n3=true) (h1:BS w (some ⟨b,off,none⟩) n1 c1 x1) (hm:((k:Int) % 2 != 0)=false) (hk:k+2≤n1):
 Calls Tryz.prog 75 #[.agg #[.slice (some ⟨b,off,none⟩) n1 c1,.slice a2 n2 c2,.slice a3 n3 c3],.int .i64 k,.int .i64 2] w fun e w'=>e=.returned (.tuple #[.int .i64 (low ((x1.drop k).take 2)),.int .i64 0])∧Below w.heap.size w w':=by
 have hB0:Below w.heap.size w (w.alloc (.cells #[.slice (some ⟨b,off,none⟩) n1 c1,.slice a2 n2 c2,.slice a3 n3 c3] 38)):=(Below.refl _ _).alloc (Nat.le_refl _) _
 obtain ⟨hn1,hn2,hn3⟩:=mok1 h
 have hp:((k:Int) == 131072)=false:=by simp;omega
 have hi:ins (k:Int) 2 0 n1=true:=by unfold ins;simp;omega
 have hcap:=h1.2.2.2.2
 have hm':((k:Int).tmod 2 != 0)=false:=by rw [Int.tmod_eq_emod_of_nonneg (by omega)];exact hm
 go_enter Tryz.func75,Tryz.ntmps75
 go_wp2_with fail
 refine (acc_ok2 (some ⟨b,off,none⟩) a2 a3 n1 c1 n2 c2 n3 c3 _ _ h hm').mono ?_
 rintro e w1 ⟨rfl,hb1⟩
 have k1:=(Blk.new w #[.slice (some ⟨b,off,none⟩) n1 c1,.slice a2 n2 c2,.slice a3 n3 c3] 38).below hb1
 have hB1:=hB0.trans (hb1.mono (by simp))
 obtain ⟨q1,q2,q3,q4⟩:=k1.three
 clear hb1 k1
 go_wp2_with fail
 refine (holds_any (some ⟨b,off,none⟩) n1 c1 _ 2 0 _ (by omega) (by omega) (by omega) (by omega) (by omega) (by omega)).mono ?_
 rw [hi]
 rintro e w2 ⟨rfl,rfl⟩
 go_wp2_with fail
 refine (getBytes_2 b (off+k) (n1 - k) (c1 - k) _ _ ((h1.below hB1).drop k (by omega)) (by omega)).mono ?_
 rintro e w3 ⟨rfl,hb3⟩
 go_wp2
 go_ret2
 exact ⟨rfl,hB1.trans (hb3.mono hB1.size)⟩
set_option maxHeartbeats 1000000 in
theorem iRead_ram2 (b off:Nat) (a1 a3:Option Addr) (x2:List Int) (k:Nat) (p:Int) (n1 c1 n2 c2 n3 c3:Nat) (w:World) (h:mok n1 n2 n3=true) (h2:BS w (some ⟨b,off,none⟩) n2 c2 x2) (hpk:p - 65536=(k:Int)) (hm:(p % 2 != 0)=false) (hk:k+2≤n2):
 Calls Tryz.prog 75 #[.agg #[.slice a1 n1 c1,.slice (some ⟨b,off,none⟩) n2 c2,.slice a3 n3 c3],.int .i64 p,.int .i64 2] w fun e w'=>e=.returned (.tuple #[.int .i64 (low ((x2.drop k).take 2)),.int .i64 0])∧Below w.heap.size w w':=by
 have hB0:Below w.heap.size w (w.alloc (.cells #[.slice a1 n1 c1,.slice (some ⟨b,off,none⟩) n2 c2,.slice a3 n3 c3] 38)):=(Below.refl _ _).alloc (Nat.le_refl _) _
 obtain ⟨hn1,hn2,hn3⟩:=mok1 h
 have hp:(p == 131072)=false:=by simp;omega
 have hi:ins p 2 0 n1=false:=by unfold ins;simp;omega
 have hj:ins p 2 65536 n2=true:=by unfold ins;simp;omega
 have hcap:=h2.2.2.2.2
 have hp0:65536≤p:=by omega
 have hp1:p≤131072:=by omega
 have hm':(p.tmod 2 != 0)=false:=by rw [Int.tmod_eq_emod_of_nonneg (by omega)];exact hm
 go_enter Tryz.func75,Tryz.ntmps75
 go_wp2_with fail
 refine (acc_ok2 a1 (some ⟨b,off,none⟩) a3 n1 c1 n2 c2 n3 c3 _ _ h hm').mono ?_
 rintro e w1 ⟨rfl,hb1⟩
 have k1:=(Blk.new w #[.slice a1 n1 c1,.slice (some ⟨b,off,none⟩) n2 c2,.slice a3 n3 c3] 38).below hb1
 have hB1:=hB0.trans (hb1.mono (by simp))
 obtain ⟨q1,q2,q3,q4⟩:=k1.three
 clear hb1 k1
 go_wp2_with fail
 refine (holds_any a1 n1 c1 _ 2 0 _ (by omega) (by omega) (by omega) (by omega) (by omega) (by omega)).mono ?_
 rw [hi]
 rintro e w2 ⟨rfl,rfl⟩
 go_wp2_with fail
 refine (holds_any (some ⟨b,off,none⟩) n2 c2 _ 2 65536 _ (by omega) (by omega) (by omega) (by omega) (by omega) (by omega)).mono ?_
 rw [hj]
 rintro e w2 ⟨rfl,rfl⟩
 go_wp2_with fail
 refine (getBytes_2 b (off+k) (n2 - k) (c2 - k) _ _ ((h2.below hB1).drop k (by omega)) (by omega)).mono ?_
 rintro e w3 ⟨rfl,hb3⟩
 go_wp2
 go_ret2
 exact ⟨rfl,hB1.trans (hb3.mono hB1.size)⟩
set_option maxHeartbeats 1000000 in
theorem iRead_port1 (a1 a2 a3:Option Addr) (n1 c1 n2 c2 n3 c3:Nat) (w:World) (h:mok n1 n2 n3=true)  :
 Calls Tryz.prog 75 #[.agg #[.slice a1 n1 c1,.slice a2 n2 c2,.slice a3 n3 c3],.int .i64 131072,.int .i64 1] w fun e w'=>e=.returned (.tuple #[.int .i64 0,.int .i64 4])∧Below w.heap.size w w':=by
 have hB0:Below w.heap.size w (w.alloc (.cells #[.slice a1 n1 c1,.slice a2 n2 c2,.slice a3 n3 c3] 38)):=(Below.refl _ _).alloc (Nat.le_refl _) _
 obtain ⟨hn1,hn2,hn3⟩:=mok1 h
 go_enter Tryz.func75,Tryz.ntmps75
 go_wp2_with fail
 refine (acc_ok1 a1 a2 a3 n1 c1 n2 c2 n3 c3 _ _ h (by decide)).mono ?_
 rintro e w1 ⟨rfl,hb1⟩
 have k1:=(Blk.new w #[.slice a1 n1 c1,.slice a2 n2 c2,.slice a3 n3 c3] 38).below hb1
 have hB1:=hB0.trans (hb1.mono (by simp))
 obtain ⟨q1,q2,q3,q4⟩:=k1.three
 clear hb1 k1
 go_wp2
 go_ret2
 exact ⟨rfl,hB1⟩
set_option maxHeartbeats 1000000 in
theorem iRead_none1 (a1 a2 a3:Option Addr) (p:Int) (n1 c1 n2 c2 n3 c3:Nat) (w:World) (h:mok n1 n2 n3=true) (hmax:p≤9223372036854775807) (hm:(p.tmod 1 != 0)=false) (hp:(p == 131072)=false) (hi:ins p 1 0 n1=false) (hj:ins p 1 65536 n2=false):
 Calls Tryz.prog 75 #[.agg #[.slice a1 n1 c1,.slice a2 n2 c2,.slice a3 n3 c3],.int .i64 p,.int .i64 1] w fun e w'=>e=.returned (.tuple #[.int .i64 0,.int .i64 2])∧Below w.heap.size w w':=by
 have hB0:Below w.heap.size w (w.alloc (.cells #[.slice a1 n1 c1,.slice a2 n2 c2,.slice a3 n3 c3] 38)):=(Below.refl _ _).alloc (Nat.le_refl _) _
 obtain ⟨hn1,hn2,hn3⟩:=mok1 h
 go_enter Tryz.func75,Tryz.ntmps75
 go_wp2_with fail
 refine (acc_ok1 a1 a2 a3 n1 c1 n2 c2 n3 c3 _ _ h hm).mono ?_
 rintro e w1 ⟨rfl,hb1⟩
 have k1:=(Blk.new w #[.slice a1 n1 c1,.slice a2 n2 c2,.slice a3 n3 c3] 38).below hb1
 have hB1:=hB0.trans (hb1.mono (by simp))
 obtain ⟨q1,q2,q3,q4⟩:=k1.three
 clear hb1 k1
 go_wp2_with fail
 refine (holds_any a1 n1 c1 _ 1 0 _ (by omega) (by omega) (by omega) (by omega) (by omega) (by omega)).mono ?_
 rw [hi]
 rintro e w2 ⟨rfl,rfl⟩
 go_wp2_with fail
 refine (holds_any a2 n2 c2 _ 1 65536 _ (by omega) (by omega) (by omega) (by omega) (by omega) (by omega)).mono ?_
 rw [hj]
 rintro e w2 ⟨rfl,rfl⟩
 go_wp2
 go_ret2
 exact ⟨rfl,hB1⟩
set_option maxHeartbeats 1000000 in
theorem iRead_flash1 (b off:Nat) (a2 a3:Option Addr) (x1:List Int) (k:Nat) (n1 c1 n2 c2 n3 c3:Nat) (w:World) (h:mok n1 n2 n3=true) (h1:BS w (some ⟨b,off,none⟩) n1 c1 x1) (hm:((k:Int) % 1 != 0)=false) (hk:k+1≤n1):
 Calls Tryz.prog 75 #[.agg #[.slice (some ⟨b,off,none⟩) n1 c1,.slice a2 n2 c2,.slice a3 n3 c3],.int .i64 k,.int .i64 1] w fun e w'=>e=.returned (.tuple #[.int .i64 (low ((x1.drop k).take 1)),.int .i64 0])∧Below w.heap.size w w':=by
 have hB0:Below w.heap.size w (w.alloc (.cells #[.slice (some ⟨b,off,none⟩) n1 c1,.slice a2 n2 c2,.slice a3 n3 c3] 38)):=(Below.refl _ _).alloc (Nat.le_refl _) _
 obtain ⟨hn1,hn2,hn3⟩:=mok1 h
 have hp:((k:Int) == 131072)=false:=by simp;omega
 have hi:ins (k:Int) 1 0 n1=true:=by unfold ins;simp;omega
 have hcap:=h1.2.2.2.2
 have hm':((k:Int).tmod 1 != 0)=false:=by rw [Int.tmod_eq_emod_of_nonneg (by omega)];exact hm
 go_enter Tryz.func75,Tryz.ntmps75
 go_wp2_with fail
 refine (acc_ok1 (some ⟨b,off,none⟩) a2 a3 n1 c1 n2 c2 n3 c3 _ _ h hm').mono ?_
 rintro e w1 ⟨rfl,hb1⟩
 have k1:=(Blk.new w #[.slice (some ⟨b,off,none⟩) n1 c1,.slice a2 n2 c2,.slice a3 n3 c3] 38).below hb1
 have hB1:=hB0.trans (hb1.mono (by simp))
 obtain ⟨q1,q2,q3,q4⟩:=k1.three
 clear hb1 k1
 go_wp2_with fail
 refine (holds_any (some ⟨b,off,none⟩) n1 c1 _ 1 0 _ (by omega) (by omega) (by omega) (by omega) (by omega) (by omega)).mono ?_
 rw [hi]
 rintro e w2 ⟨rfl,rfl⟩
 go_wp2_with fail
 refine (getBytes_1 b (off+k) (n1 - k) (c1 - k) _ _ ((h1.below hB1).drop k (by omega)) (by omega)).mono ?_
 rintro e w3 ⟨rfl,hb3⟩
 go_wp2
 go_ret2
 exact ⟨rfl,hB1.trans (hb3.mono hB1.size)⟩
set_option maxHeartbeats 1000000 in
theorem iRead_ram1 (b off:Nat) (a1 a3:Option Addr) (x2:List Int) (k:Nat) (p:Int) (n1 c1 n2 c2 n3 c3:Nat) (w:World) (h:mok n1 n2 n3=true) (h2:BS w (some ⟨b,off,none⟩) n2 c2 x2) (hpk:p - 65536=(k:Int)) (hm:(p % 1 != 0)=false) (hk:k+1≤n2):
 Calls Tryz.prog 75 #[.agg #[.slice a1 n1 c1,.slice (some ⟨b,off,none⟩) n2 c2,.slice a3 n3 c3],.int .i64 p,.int .i64 1] w fun e w'=>e=.returned (.tuple #[.int .i64 (low ((x2.drop k).take 1)),.int .i64 0])∧Below w.heap.size w w':=by
 have hB0:Below w.heap.size w (w.alloc (.cells #[.slice a1 n1 c1,.slice (some ⟨b,off,none⟩) n2 c2,.slice a3 n3 c3] 38)):=(Below.refl _ _).alloc (Nat.le_refl _) _
 obtain ⟨hn1,hn2,hn3⟩:=mok1 h
 have hp:(p == 131072)=false:=by simp;omega
 have hi:ins p 1 0 n1=false:=by unfold ins;simp;omega
 have hj:ins p 1 65536 n2=true:=by unfold ins;simp;omega
 have hcap:=h2.2.2.2.2
 have hp0:65536≤p:=by omega
 have hp1:p≤131072:=by omega
 have hm':(p.tmod 1 != 0)=false:=by rw [Int.tmod_eq_emod_of_nonneg (by omega)];exact hm
 go_enter Tryz.func75,Tryz.ntmps75
 go_wp2_with fail
 refine (acc_ok1 a1 (some ⟨b,off,none⟩) a3 n1 c1 n2 c2 n3 c3 _ _ h hm').mono ?_
 rintro e w1 ⟨rfl,hb1⟩
 have k1:=(Blk.new w #[.slice a1 n1 c1,.slice (some ⟨b,off,none⟩) n2 c2,.slice a3 n3 c3] 38).below hb1
 have hB1:=hB0.trans (hb1.mono (by simp))
 obtain ⟨q1,q2,q3,q4⟩:=k1.three
 clear hb1 k1
 go_wp2_with fail
 refine (holds_any a1 n1 c1 _ 1 0 _ (by omega) (by omega) (by omega) (by omega) (by omega) (by omega)).mono ?_
 rw [hi]
 rintro e w2 ⟨rfl,rfl⟩
 go_wp2_with fail
 refine (holds_any (some ⟨b,off,none⟩) n2 c2 _ 1 65536 _ (by omega) (by omega) (by omega) (by omega) (by omega) (by omega)).mono ?_
 rw [hj]
 rintro e w2 ⟨rfl,rfl⟩
 go_wp2_with fail
 refine (getBytes_1 b (off+k) (n2 - k) (c2 - k) _ _ ((h2.below hB1).drop k (by omega)) (by omega)).mono ?_
 rintro e w3 ⟨rfl,hb3⟩
 go_wp2
 go_ret2
 exact ⟨rfl,hB1.trans (hb3.mono hB1.size)⟩
def rd (n1 n2 n3:Nat) (x1 x2:List Int) (p s:Int):Int × Int:=
 if mok n1 n2 n3=true∧wd s=true then
  if (p.tmod s != 0)=true then (0,1)
  else if p=131072 then (0,4)
   else if ins p s 0 n1=true then (low ((x1.drop p.toNat).take s.toNat),0)
   else if ins p s 65536 n2=true then (low ((x2.drop (p - 65536).toNat).take s.toNat),0) else (0,2)
 else (0,2)
theorem rd_pair {x y:Int} {r:Int × Int} (h:r=(x,y)):Value.tuple #[.int .i64 r.1,.int .i64 r.2]=.tuple #[.int .i64 x,.int .i64 y]:=by rw [h]
theorem wd_cases {s:Int} (h:wd s=true):s=4∨s=2∨s=1:=by simp [wd] at h;omega
theorem tmod1 (p:Int):(p.tmod 1 != 0)=false:=by simp
theorem BS.some {w:World} {a:Option Addr} {n cap:Nat} {zs:List Int} (h:BS w a n cap zs) (hn:n≠0):∃ b off,a=Option.some ⟨b,off,none⟩:=by
 obtain ⟨b,off,e,_⟩:=h.2.2.2.1 hn
 exact ⟨b,off,e⟩
theorem iRead_any (a1 a2 a3:Option Addr) (n1 c1 n2 c2 n3 c3:Nat) (x1 x2 x3:List Int) (p s:Int) (w:World) (h1:BS w a1 n1 c1 x1) (h2:BS w a2 n2 c2 x2) (hmax:p≤9223372036854775807):
 Calls Tryz.prog 75 #[.agg #[.slice a1 n1 c1,.slice a2 n2 c2,.slice a3 n3 c3],.int .i64 p,.int .i64 s] w fun e w'=>e=.returned (.tuple #[.int .i64 (rd n1 n2 n3 x1 x2 p s).1,.int .i64 (rd n1 n2 n3 x1 x2 p s).2])∧Below w.heap.size w w':=by
 by_cases hb:mok n1 n2 n3=true∧wd s=true
 ·obtain ⟨hm,hs⟩:=hb
  obtain ⟨l1,l2,l3⟩:=mok1 hm
  rcases wd_cases hs with rfl | rfl | rfl
  ·by_cases ha:(p.tmod 4 != 0)=true
   ·rw [rd_pair (x:=0) (y:=1) (by rw [rd,if_pos ⟨hm,hs⟩,if_pos ha])]
    exact iRead_mis4 a1 a2 a3 p n1 c1 n2 c2 n3 c3 w hm ha
   ·have hna:=ha
    have ha:(p.tmod 4 != 0)=false:=by simpa using ha
    by_cases hp:p=131072
    ·subst hp
     rw [rd_pair (x:=0) (y:=4) (by rw [rd,if_pos ⟨hm,hs⟩,if_neg hna,if_pos rfl])]
     exact iRead_port4 a1 a2 a3 n1 c1 n2 c2 n3 c3 w hm
    ·by_cases hi:ins p 4 0 n1=true
     ·rw [rd_pair (by rw [rd,if_pos ⟨hm,hs⟩,if_neg hna,if_neg hp,if_pos hi])]
      have hi':=hi
      simp [ins] at hi'
      obtain ⟨k,rfl⟩:=Int.eq_ofNat_of_zero_le hi'.1
      obtain ⟨b,off,rfl⟩:=h1.some (by omega)
      exact iRead_flash4 b off a2 a3 x1 k n1 c1 n2 c2 n3 c3 w hm h1 (by rw [Int.tmod_eq_emod_of_nonneg (by omega)] at ha;exact ha) (by omega)
     ·have hi:ins p 4 0 n1=false:=by simpa using hi
      by_cases hj:ins p 4 65536 n2=true
      ·rw [rd_pair (by rw [rd,if_pos ⟨hm,hs⟩,if_neg hna,if_neg hp,if_neg (by rw [hi];simp),if_pos hj])]
       have hj':=hj
       simp [ins] at hj'
       obtain ⟨k,hk⟩:=Int.eq_ofNat_of_zero_le (show 0≤p - 65536 by omega)
       obtain ⟨b,off,rfl⟩:=h2.some (by omega)
       rw [hk]
       exact iRead_ram4 b off a1 a3 x2 k p n1 c1 n2 c2 n3 c3 w hm h2 hk (by rw [Int.tmod_eq_emod_of_nonneg (by omega)] at ha;exact ha) (by omega)
      ·have hj:ins p 4 65536 n2=false:=by simpa using hj
       rw [rd_pair (x:=0) (y:=2) (by rw [rd,if_pos ⟨hm,hs⟩,if_neg hna,if_neg hp,if_neg (by rw [hi];simp),if_neg (by rw [hj];simp)])]
       exact iRead_none4 a1 a2 a3 p n1 c1 n2 c2 n3 c3 w hm hmax ha (by simpa using hp) hi hj
  ·by_cases ha:(p.tmod 2 != 0)=true
   ·rw [rd_pair (x:=0) (y:=1) (by rw [rd,if_pos ⟨hm,hs⟩,if_pos ha])]
    exact iRead_mis2 a1 a2 a3 p n1 c1 n2 c2 n3 c3 w hm ha
   ·have hna:=ha
    have ha:(p.tmod 2 != 0)=false:=by simpa using ha
    by_cases hp:p=131072
    ·subst hp
     rw [rd_pair (x:=0) (y:=4) (by rw [rd,if_pos ⟨hm,hs⟩,if_neg hna,if_pos rfl])]
     exact iRead_port2 a1 a2 a3 n1 c1 n2 c2 n3 c3 w hm
    ·by_cases hi:ins p 2 0 n1=true
     ·rw [rd_pair (by rw [rd,if_pos ⟨hm,hs⟩,if_neg hna,if_neg hp,if_pos hi])]
      have hi':=hi
      simp [ins] at hi'
      obtain ⟨k,rfl⟩:=Int.eq_ofNat_of_zero_le hi'.1
      obtain ⟨b,off,rfl⟩:=h1.some (by omega)
      exact iRead_flash2 b off a2 a3 x1 k n1 c1 n2 c2 n3 c3 w hm h1 (by rw [Int.tmod_eq_emod_of_nonneg (by omega)] at ha;exact ha) (by omega)
     ·have hi:ins p 2 0 n1=false:=by simpa using hi
      by_cases hj:ins p 2 65536 n2=true
      ·rw [rd_pair (by rw [rd,if_pos ⟨hm,hs⟩,if_neg hna,if_neg hp,if_neg (by rw [hi];simp),if_pos hj])]
       have hj':=hj
       simp [ins] at hj'
       obtain ⟨k,hk⟩:=Int.eq_ofNat_of_zero_le (show 0≤p - 65536 by omega)
       obtain ⟨b,off,rfl⟩:=h2.some (by omega)
       rw [hk]
       exact iRead_ram2 b off a1 a3 x2 k p n1 c1 n2 c2 n3 c3 w hm h2 hk (by rw [Int.tmod_eq_emod_of_nonneg (by omega)] at ha;exact ha) (by omega)
      ·have hj:ins p 2 65536 n2=false:=by simpa using hj
       rw [rd_pair (x:=0) (y:=2) (by rw [rd,if_pos ⟨hm,hs⟩,if_neg hna,if_neg hp,if_neg (by rw [hi];simp),if_neg (by rw [hj];simp)])]
       exact iRead_none2 a1 a2 a3 p n1 c1 n2 c2 n3 c3 w hm hmax ha (by simpa using hp) hi hj
  ·by_cases ha:(p.tmod 1 != 0)=true
   ·rw [tmod1] at ha
    exact absurd ha (by simp)
   ·have hna:=ha
    have ha:(p.tmod 1 != 0)=false:=by simp
    by_cases hp:p=131072
    ·subst hp
     rw [rd_pair (x:=0) (y:=4) (by rw [rd,if_pos ⟨hm,hs⟩,if_neg hna,if_pos rfl])]
     exact iRead_port1 a1 a2 a3 n1 c1 n2 c2 n3 c3 w hm
    ·by_cases hi:ins p 1 0 n1=true
     ·rw [rd_pair (by rw [rd,if_pos ⟨hm,hs⟩,if_neg hna,if_neg hp,if_pos hi])]
      have hi':=hi
      simp [ins] at hi'
      obtain ⟨k,rfl⟩:=Int.eq_ofNat_of_zero_le hi'.1
      obtain ⟨b,off,rfl⟩:=h1.some (by omega)
      exact iRead_flash1 b off a2 a3 x1 k n1 c1 n2 c2 n3 c3 w hm h1 (by rw [Int.tmod_eq_emod_of_nonneg (by omega)] at ha;exact ha) (by omega)
     ·have hi:ins p 1 0 n1=false:=by simpa using hi
      by_cases hj:ins p 1 65536 n2=true
      ·rw [rd_pair (by rw [rd,if_pos ⟨hm,hs⟩,if_neg hna,if_neg hp,if_neg (by rw [hi];simp),if_pos hj])]
       have hj':=hj
       simp [ins] at hj'
       obtain ⟨k,hk⟩:=Int.eq_ofNat_of_zero_le (show 0≤p - 65536 by omega)
       obtain ⟨b,off,rfl⟩:=h2.some (by omega)
       rw [hk]
       exact iRead_ram1 b off a1 a3 x2 k p n1 c1 n2 c2 n3 c3 w hm h2 hk (by rw [Int.tmod_eq_emod_of_nonneg (by omega)] at ha;exact ha) (by omega)
      ·have hj:ins p 1 65536 n2=false:=by simpa using hj
       rw [rd_pair (x:=0) (y:=2) (by rw [rd,if_pos ⟨hm,hs⟩,if_neg hna,if_neg hp,if_neg (by rw [hi];simp),if_neg (by rw [hj];simp)])]
       exact iRead_none1 a1 a2 a3 p n1 c1 n2 c2 n3 c3 w hm hmax ha (by simpa using hp) hi hj
 ·rw [rd_pair (x:=0) (y:=2) (by rw [rd,if_neg hb])]
  refine iRead_bad a1 a2 a3 n1 c1 n2 c2 n3 c3 p s w ?_
  by_cases hm:mok n1 n2 n3=true
  ·right;by_cases hs:wd s=true
   ·exact absurd ⟨hm,hs⟩ hb
   ·simpa using hs
  ·left;simpa using hm
def OB (w:World) (base:Nat) (v:Value) (zs:List Int):Prop:=w.ownsRow base 5 1 v zs.length (zs.map (Value.int .u8))∧∀ z ∈ zs,0≤z∧z≤255
def Own3 (w:World) (base:Nat) (v1 v2 v3:Value) (x1 x2 x3:List Int):Prop:=
 OB w base v1 x1∧OB w base v2 x2∧OB w base v3 x3∧(∀ k j,v1.ownBlock=some k→v2.ownBlock=some j→k<j)∧(∀ k j,v1.ownBlock=some k→v3.ownBlock=some j→k<j)∧∀ k j,v2.ownBlock=some k→v3.ownBlock=some j→k<j
theorem OB.below {w w':World} {base:Nat} {v:Value} {zs:List Int} (h:OB w base v zs) (hb:Below w.heap.size w w'):OB w' base v zs:=by
 refine ⟨?_,h.2⟩
 obtain ⟨hl,h0 | ⟨g,cap,cur,hv,hg,hh,h1,h2,h3,h4⟩⟩:=h.1
 ·exact ⟨hl,.inl h0⟩
 ·refine ⟨hl,.inr ⟨g,cap,cur,hv,hg,?_,h1,h2,h3,h4⟩⟩
  exact Blk.below (w:=w) hh hb
theorem OB.mono {w:World} {base base':Nat} {v:Value} {zs:List Int} (h:OB w base v zs) (hb:base'≤base):OB w base' v zs:=by
 refine ⟨?_,h.2⟩
 obtain ⟨hl,h0 | ⟨g,cap,cur,hv,hg,hh,h1,h2,h3,h4⟩⟩:=h.1
 ·exact ⟨hl,.inl h0⟩
 ·exact ⟨hl,.inr ⟨g,cap,cur,hv,by omega,hh,h1,h2,h3,h4⟩⟩
theorem OB.other {w:World} {base:Nat} {v:Value} {zs:List Int} (h:OB w base v zs) (a:Addr) (u:Value) (ha:a.block<base):OB (w.setCell a u) base v zs:=by
 refine ⟨?_,h.2⟩
 obtain ⟨hl,h0 | ⟨g,cap,cur,hv,hg,hh,h1,h2,h3,h4⟩⟩:=h.1
 ·exact ⟨hl,.inl h0⟩
 ·exact ⟨hl,.inr ⟨g,cap,cur,hv,hg,Blk.other (w:=w) hh a u (by omega),h1,h2,h3,h4⟩⟩
theorem OB.lt {w:World} {base:Nat} {v:Value} {zs:List Int} (h:OB w base v zs):∀ k,v.ownBlock=some k→base≤k∧k<w.heap.size:=h.1.lt
theorem OB.bs {w:World} {base n cap:Nat} {a:Option Addr} {zs:List Int} (h:OB w base (.slice a n cap) zs):BS w a n cap zs:=by
 obtain ⟨hl,⟨h0,h0'⟩ | ⟨g,cap',cur,hv,hg,hh,h1,h2,h3,h4⟩⟩:=h.1
 ·simp at h0
  obtain ⟨rfl,rfl,rfl⟩:=h0
  exact ⟨h0',Nat.zero_le _,h.2,fun hn=>absurd rfl hn,Nat.le_refl _⟩
 ·simp at hv
  obtain ⟨rfl,rfl,rfl⟩:=hv
  refine ⟨rfl,by omega,h.2,fun hn=>⟨g,0,rfl,fun i hi=>?_⟩,h1⟩
  rw [Nat.zero_add,Blk.cell (w:=w) hh]
  have:cur.toList[i]?=(zs.map (Value.int .u8))[i]?:=by
   rw [← h4,List.getElem?_take,if_pos (by omega)]
  rw [Array.getElem?_toList] at this
  rw [this]
  simp [List.getD_eq_getElem?_getD,hi]
end Go.Proofs.YtngdgogjlpjjpadGreat
namespace Go.Proofs.YtngdgogjlpjjpadGreat
open Go.RowKit
set_option linter.unusedVariables false
set_option maxRecDepth 100000
theorem IS.at {w:World} {b off n cap:Nat} {zs:List Int} (h:IS w (Option.some ⟨b,off,none⟩) n cap zs) (i:Nat) (hi:i<n):w.cell? ⟨b,off+i,none⟩=Option.some (.int .i64 (zs.getD i 0)):=by
 obtain ⟨b',off',e,hd⟩:=h.2.2.2.1 (by omega)
 simp at e
 obtain ⟨rfl,rfl⟩:=e
 exact hd i hi
theorem IS.addr {w:World} {a:Option Addr} {n cap:Nat} {zs:List Int} (h:IS w a n cap zs) (hn:n≠0):∃ b off,a=some ⟨b,off,none⟩:=by
 obtain ⟨b,off,e,_⟩:=h.2.2.2.1 hn
 exact ⟨b,off,e⟩
def OI (w:World) (base:Nat) (v:Value) (zs:List Int):Prop:=w.ownsRow base 3 1 v zs.length (zs.map (Value.int .i64))∧∀ z ∈ zs,wfi z
theorem OI.below {w w':World} {base:Nat} {v:Value} {zs:List Int} (h:OI w base v zs) (hb:Below w.heap.size w w'):OI w' base v zs:=by
 refine ⟨?_,h.2⟩
 obtain ⟨hl,h0 | ⟨g,cap,cur,hv,hg,hh,h1,h2,h3,h4⟩⟩:=h.1
 ·exact ⟨hl,.inl h0⟩
 ·refine ⟨hl,.inr ⟨g,cap,cur,hv,hg,?_,h1,h2,h3,h4⟩⟩
  exact Blk.below (w:=w) hh hb
theorem OI.mono {w:World} {base base':Nat} {v:Value} {zs:List Int} (h:OI w base v zs) (hb:base'≤base):OI w base' v zs:=by
 refine ⟨?_,h.2⟩
 obtain ⟨hl,h0 | ⟨g,cap,cur,hv,hg,hh,h1,h2,h3,h4⟩⟩:=h.1
 ·exact ⟨hl,.inl h0⟩
 ·exact ⟨hl,.inr ⟨g,cap,cur,hv,by omega,hh,h1,h2,h3,h4⟩⟩
theorem OI.other {w:World} {base:Nat} {v:Value} {zs:List Int} (h:OI w base v zs) (a:Addr) (u:Value) (ha:a.block<base):OI (w.setCell a u) base v zs:=by
 refine ⟨?_,h.2⟩
 obtain ⟨hl,h0 | ⟨g,cap,cur,hv,hg,hh,h1,h2,h3,h4⟩⟩:=h.1
 ·exact ⟨hl,.inl h0⟩
 ·exact ⟨hl,.inr ⟨g,cap,cur,hv,hg,Blk.other (w:=w) hh a u (by omega),h1,h2,h3,h4⟩⟩
theorem OI.lt {w:World} {base:Nat} {v:Value} {zs:List Int} (h:OI w base v zs):∀ k,v.ownBlock=some k→base≤k∧k<w.heap.size:=h.1.lt
theorem OI.is {w:World} {base n cap:Nat} {a:Option Addr} {zs:List Int} (h:OI w base (.slice a n cap) zs):IS w a n cap zs:=by
 obtain ⟨hl,⟨h0,h0'⟩ | ⟨g,cap',cur,hv,hg,hh,h1,h2,h3,h4⟩⟩:=h.1
 ·simp at h0
  obtain ⟨rfl,rfl,rfl⟩:=h0
  exact ⟨h0',Nat.zero_le _,h.2,fun hn=>absurd rfl hn,Nat.le_refl _⟩
 ·simp at hv
  obtain ⟨rfl,rfl,rfl⟩:=hv
  refine ⟨rfl,by omega,h.2,fun hn=>⟨g,0,rfl,fun i hi=>?_⟩,h1⟩
  rw [Nat.zero_add,Blk.cell (w:=w) hh]
  have:cur.toList[i]?=(zs.map (Value.int .i64))[i]?:=by
   rw [← h4,List.getElem?_take,if_pos (by omega)]
  rw [Array.getElem?_toList] at this
  rw [this]
  simp [List.getD_eq_getElem?_getD,hi]
def RoomI (w:World) (g n:Nat):Prop:=∃ cur,Blk w g cur 3∧n≤cur.size
theorem RoomI.cell {w:World} {g n:Nat} (h:RoomI w g n) (i:Nat) (hi:i<n):∃ u,w.cell? ⟨g,i,none⟩=some u:=by
 obtain ⟨cur,hb,hn⟩:=h
 rw [hb.cell]
 exact ⟨cur[i],by simp⟩
theorem RoomI.frozen {w:World} {g n:Nat} (h:RoomI w g n) (i:Nat):w.frozen? ⟨g,i,none⟩=false:=by
 obtain ⟨cur,hb,hn⟩:=h
 exact hb.frozen i
theorem RoomI.set {w:World} {g n:Nat} (h:RoomI w g n) (i:Nat) (u:Value):RoomI (w.setCell ⟨g,i,none⟩ u) g n:=by
 obtain ⟨cur,hb,hn⟩:=h
 exact ⟨_,hb.set i u,by simpa using hn⟩
theorem turn_oi {S:Nat→Prop} {base:Nat} {w w':World} {v:Value} {zs:List Int} (ht:Turn S w w') (h:OI w base v zs) (hk:∀ k,v.ownBlock=some k→¬ S k):OI w' base v zs:=by
 refine ⟨?_,h.2⟩
 obtain ⟨hl,h0 | ⟨g',cap,cur,rfl,hg,hh,h1,h2,h3,h4⟩⟩:=h.1
 ·exact ⟨hl,.inl h0⟩
 ·exact ⟨hl,.inr ⟨g',cap,cur,rfl,hg,turn_blk ht hh (hk g' rfl),h1,h2,h3,h4⟩⟩
end Go.Proofs.YtngdgogjlpjjpadGreat
namespace Go.Proofs.YtngdgogjlpjjpadGreat
open Go.RowKit
set_option linter.unusedVariables false
def us (op:Int):Int:=
 if op=1∨op=25 then 0 else if op=2∨op=3∨op=21∨op=22 then 5 else if op=6∨(14≤op∧op≤19) then 7
 else if op=20∨op=23∨op=24 then 4 else if 4≤op∧op≤13 then 3 else -1
theorem us_out (op:Int) (h:op≤0∨26≤op):us op=-1:=by
 unfold us
 rw [if_neg (by omega),if_neg (by omega),if_neg (by omega),if_neg (by omega),if_neg (by omega)]
theorem us_is (op:Int):us op=-1∨us op=0∨us op=3∨us op=4∨us op=5∨us op=7:=by
 unfold us
 split
 ·simp
 ·split
  ·simp
  ·split
   ·simp
   ·split
    ·simp
    ·split <;> simp
theorem op_cases (op:Int):op≤0∨26≤op∨op=1∨op=2∨op=3∨op=4∨op=5∨op=6∨op=7∨op=8∨op=9∨op=10∨op=11∨op=12∨op=13∨op=14∨op=15∨op=16∨op=17∨op=18∨op=19∨op=20∨op=21∨op=22∨op=23∨op=24∨op=25:=by omega
def mD (u:Int):Int:=if u % 2=1 then 7 else 0
def mA (u:Int):Int:=if u / 2 % 2=1 then 7 else 0
def mI (u:Int):Int:=if u / 4=1 then 65535 else 0
def okU (u d a i:Int):Bool:=decide (0≤u∧0≤d∧d≤mD u∧0≤a∧a≤mA u∧0≤i∧i≤mI u)
def okI (op d a i:Int):Bool:=okU (us op) d a i
set_option maxHeartbeats 1000000 in
theorem l3Uses_any (op:Int) (w:World):
 Calls Tryz.prog 221 #[.int .i64 op] w fun e w'=>e=.returned (.int .i64 (us op))∧w=w':=by
 rcases op_cases op with h | h | rfl | rfl | rfl | rfl | rfl | rfl | rfl | rfl | rfl | rfl | rfl | rfl | rfl | rfl | rfl | rfl | rfl | rfl | rfl | rfl | rfl | rfl | rfl | rfl | rfl
 ·have HU:=hide (us_out op (Or.inl h))
  have e1:(op == 1)=false:=by simp;omega
  have e25:(op == 25)=false:=by simp;omega
  have e2:(op == 2)=false:=by simp;omega
  have e3:(op == 3)=false:=by simp;omega
  have e21:(op == 21)=false:=by simp;omega
  have e22:(op == 22)=false:=by simp;omega
  have e6:(op == 6)=false:=by simp;omega
  have e20:(op == 20)=false:=by simp;omega
  have e23:(op == 23)=false:=by simp;omega
  have e24:(op == 24)=false:=by simp;omega
  go_enter Tryz.func221,Tryz.ntmps221
  go_wp2
  go_ret
  exact ⟨ret_int HU.out.symm,rfl⟩
 ·have HU:=hide (us_out op (Or.inr h))
  have e1:(op == 1)=false:=by simp;omega
  have e25:(op == 25)=false:=by simp;omega
  have e2:(op == 2)=false:=by simp;omega
  have e3:(op == 3)=false:=by simp;omega
  have e21:(op == 21)=false:=by simp;omega
  have e22:(op == 22)=false:=by simp;omega
  have e6:(op == 6)=false:=by simp;omega
  have e20:(op == 20)=false:=by simp;omega
  have e23:(op == 23)=false:=by simp;omega
  have e24:(op == 24)=false:=by simp;omega
  go_enter Tryz.func221,Tryz.ntmps221
  go_wp2
  go_ret
  exact ⟨ret_int HU.out.symm,rfl⟩
 all_goals
  go_enter Tryz.func221,Tryz.ntmps221
  go_wp2
  go_ret
  exact ⟨ret_int (by decide),rfl⟩
set_option maxHeartbeats 2000000 in
theorem l3InsOk_any (op d a i:Int) (w:World):
 Calls Tryz.prog 165 #[.agg #[.int .i64 op,.int .i64 d,.int .i64 a,.int .i64 i]] w fun e w'=>e=.returned (.bool (okI op d a i))∧Below w.heap.size w w':=by
 have HU:=hide (l3Uses_any op)
 unfold okI
 have hu:=us_is op
 generalize us op=u at *
 rcases hu with rfl | rfl | rfl | rfl | rfl | rfl
 all_goals
  go_enter Tryz.func165,Tryz.ntmps165
  go_wp2_with (go_at_call 221;refine (HU.out _).mono ?_;rintro e w' ⟨rfl,rfl⟩)
  all_goals
   go_ret
   refine ⟨ret_bool ?_,(Below.refl _ _).alloc (Nat.le_refl _) _⟩
   rw [Bool.eq_iff_iff]
   simp [okU,mD,mA,mI]
   try omega
theorem wraps62 (n:Int) (h₀:0≤n) (h₁:n<2 ^ 62):IntKind.i64.wrap n=n:=by
 rw [IntKind.wrap_i64];omega
set_option maxHeartbeats 400000 in
theorem isWord_any (v:Int) (w:World):
 Calls Tryz.prog 168 #[.int .i64 v] w fun e w'=>e=.returned (.bool (decide (0≤v∧v≤4294967295)))∧w=w':=by
 go_enter Tryz.func168,Tryz.ntmps168
 go_wp2
 all_goals
  go_ret
  refine ⟨ret_bool ?_,rfl⟩
  rw [Bool.eq_iff_iff]
  simp
  try omega
set_option maxHeartbeats 400000 in
theorem isUpTo_any (v m:Int) (w:World):
 Calls Tryz.prog 63 #[.int .i64 v,.int .i64 m] w fun e w'=>e=.returned (.bool (decide (0≤v∧v≤m)))∧w=w':=by
 go_enter Tryz.func63,Tryz.ntmps63
 go_wp2
 all_goals
  go_ret
  refine ⟨ret_bool ?_,rfl⟩
  rw [Bool.eq_iff_iff]
  simp
  try omega
theorem Blk.four' {w:World} {g:Nat} {a b c d:Value} {t:TypeId} (h:Blk w g #[a,b,c,d] t):
 w.cell? ⟨g,0,none⟩=some a∧w.cell? ⟨g,1,none⟩=some b∧w.cell? ⟨g,2,none⟩=some c∧w.cell? ⟨g,3,none⟩=some d∧∀ i,w.frozen? ⟨g,i,none⟩=false:=
 ⟨by rw [h.cell];rfl,by rw [h.cell];rfl,by rw [h.cell];rfl,by rw [h.cell];rfl,fun i=>h.frozen i⟩
theorem ins_set {w2:World} {g:Nat} {x y z u:Value} (hz:Blk w2 g #[x,y,z,u] 124) (o d a i:Int):
 Blk ((((w2.setCell ⟨g,0,none⟩ (.int .i64 o)).setCell ⟨g,1,none⟩ (.int .i64 d)).setCell ⟨g,2,none⟩ (.int .i64 a)).setCell ⟨g,3,none⟩ (.int .i64 i)) g #[.int .i64 o,.int .i64 d,.int .i64 a,.int .i64 i] 124:=
 Blk.set (Blk.set (Blk.set (Blk.set hz 0 _) 1 _) 2 _) 3 _
end Go.Proofs.YtngdgogjlpjjpadGreat
namespace Go.Proofs.YtngdgogjlpjjpadGreat
open Go.RowKit
set_option linter.unusedVariables false
set_option linter.unusedSimpArgs false
set_option maxRecDepth 100000
def wds (zs:List Int):Bool:=zs.all fun z=>decide (0≤z∧z≤4294967295)
theorem wds_bad (zs:List Int) (k:Nat) (hk:k<zs.length) (h:¬ (0≤zs.getD k 0∧zs.getD k 0≤4294967295)):wds zs=false:=by
 unfold wds
 rw [List.all_eq_false]
 refine ⟨zs[k],List.getElem_mem _,?_⟩
 have:zs.getD k 0=zs[k]:=by simp [List.getD_eq_getElem?_getD,hk]
 rw [this] at h
 simpa using h
theorem wds_good (zs:List Int) (h:∀ j,j<zs.length→0≤zs.getD j 0∧zs.getD j 0≤4294967295):wds zs=true:=by
 unfold wds
 rw [List.all_eq_true]
 intro z hz
 obtain ⟨i,hi,rfl⟩:=List.getElem_of_mem hz
 have:=h i hi
 rw [show zs.getD i 0=zs[i] by simp [List.getD_eq_getElem?_getD,hi]] at this
 simpa using this
set_option maxHeartbeats 1000000 in
theorem l4Words_any (a:Option Addr) (n cap:Nat) (zs:List Int) (w:World) (h:IS w a n cap zs):
 Calls Tryz.prog 267 #[.slice a n cap] w fun e w'=>e=.returned (.bool (wds zs))∧w=w':=by
 have hl:=h.1
 have hmx:=h.2.1
 unfold maxLen at hmx
 go_enter Tryz.func267,Tryz.ntmps267
 go_wp2_with fail
 go_loop [3] (fun i=>∃ k:Nat,k≤n∧i=.int .i64 k∧Hid (∀ j,j<k→0≤zs.getD j 0∧zs.getD j 0≤4294967295)) (fun i=>n - (intOf i).toNat)
 case atStart=>exact ⟨0,Nat.zero_le _,rfl,hide (fun j hj=>by omega)⟩
 case round=>
  obtain ⟨k,hk,rfl,HJ⟩:=hrel
  by_cases hlt:k<n
  ·have hlt':(k:Int)<(n:Int):=by omega
   obtain ⟨b,off,rfl⟩:=h.addr (by omega)
   have hck:=h.at k hlt
   have HZ:=hide (wds_bad zs k (by omega))
   have HG:=hide (show 0≤zs.getD k 0∧zs.getD k 0≤4294967295→∀ j,j<k+1→0≤zs.getD j 0∧zs.getD j 0≤4294967295 from fun h j hj=>by
    by_cases e:j=k
    ·subst e;exact h
    ·exact HJ.out j (by omega))
   generalize zs.getD k 0=z at *
   by_cases c1:z<0
   ·go_wp2
    go_ret
    exact ⟨ret_bool (HZ.out (by omega)).symm,rfl⟩
   ·by_cases c2:4294967295<z
    ·go_wp2
     go_ret
     exact ⟨ret_bool (HZ.out (by omega)).symm,rfl⟩
    ·go_wp2
     go_round
     case rel=>exact ⟨k+1,by omega,by go_num,hide (HG.out (by omega))⟩
     case measure=>simp [intOf];omega
  ·have HE:=hide (wds_good zs (fun j hj=>HJ.out j (by omega)))
   go_wp2
   go_ret
   exact ⟨ret_bool HE.out.symm,rfl⟩
set_option maxHeartbeats 1000000 in
theorem areWords_any (a:Option Addr) (n cap:Nat) (zs:List Int) (w:World) (h:IS w a n cap zs):
 Calls Tryz.prog 268 #[.slice a n cap] w fun e w'=>e=.returned (.bool (wds zs))∧w=w':=by
 have hl:=h.1
 have hmx:=h.2.1
 unfold maxLen at hmx
 have HIW:=hide (fun v w=>isWord_any v w)
 go_enter Tryz.func268,Tryz.ntmps268
 go_wp2_with fail
 go_loop [7] (fun i=>∃ k:Nat,k≤n∧i=.int .i64 k∧Hid (∀ j,j<k→0≤zs.getD j 0∧zs.getD j 0≤4294967295)) (fun i=>n - (intOf i).toNat)
 case atStart=>exact ⟨0,Nat.zero_le _,rfl,hide (fun j hj=>by omega)⟩
 case round=>
  obtain ⟨k,hk,rfl,HJ⟩:=hrel
  by_cases hlt:k<n
  ·have hlt':(k:Int)<(n:Int):=by omega
   obtain ⟨b,off,rfl⟩:=h.addr (by omega)
   have hck:=h.at k hlt
   have HZ:=hide (wds_bad zs k (by omega))
   have HG:=hide (show 0≤zs.getD k 0∧zs.getD k 0≤4294967295→∀ j,j<k+1→0≤zs.getD j 0∧zs.getD j 0≤4294967295 from fun h j hj=>by
    by_cases e:j=k
    ·subst e;exact h
    ·exact HJ.out j (by omega))
   generalize zs.getD k 0=z at *
   have HW:=hide (HIW.out z)
   by_cases c1:0≤z∧z≤4294967295
   ·rw [decide_eq_true c1] at HW
    go_wp2_with (go_at_call 168;refine (HW.out _).mono ?_;rintro e w1 ⟨rfl,rfl⟩)
    go_round
    case rel=>exact ⟨k+1,by omega,by go_num,hide (HG.out c1)⟩
    case measure=>simp [intOf];omega
   ·rw [decide_eq_false c1] at HW
    go_wp2_with (go_at_call 168;refine (HW.out _).mono ?_;rintro e w1 ⟨rfl,rfl⟩)
    go_ret
    exact ⟨ret_bool (HZ.out c1).symm,rfl⟩
  ·have HE:=hide (wds_good zs (fun j hj=>HJ.out j (by omega)))
   go_wp2
   go_ret
   exact ⟨ret_bool HE.out.symm,rfl⟩
end Go.Proofs.YtngdgogjlpjjpadGreat
