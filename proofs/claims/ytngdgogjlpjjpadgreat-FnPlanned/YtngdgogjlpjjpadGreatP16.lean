import Derived.Test.YtngdgogjlpjjpadGreatP15
namespace Go.Proofs.YtngdgogjlpjjpadGreat
open Go.RowKit Go.Maps
set_option linter.unusedVariables false
set_option linter.unusedSimpArgs false
set_option maxRecDepth 100000
theorem moduleName_any (m:Md) (w:World):Calls Tryz.prog 145 #[.agg m.cells] w fun e w'=>e=.returned (.string m.nm)∧Below w.heap.size w w':=by
 unfold Md.cells
 go_enter Tryz.func145,Tryz.ntmps145
 go_wp2
 go_ret
 exact ⟨rfl,(Below.refl _ _).alloc (Nat.le_refl _) _⟩
def mdNm (ms:List Md) (i:Nat):List UInt8:=(ms.getD i zMd).nm.data.toList
set_option maxHeartbeats 2000000 in
theorem firstOfM_any (a:Option Addr) (n cap:Nat) (ms:List Md) (w:World) (h:MS w a n cap ms) (hn:n≤1048576):
 Calls Tryz.prog 144 #[.slice a n cap,.func (.func 145) #[] #[]] w fun e w'=>e=.returned (.map (some w.heap.size))∧w'.ownsMap Tryz.prog 9 (plainElem Tryz.prog 3) w.heap.size n (fd (mdNm ms) n)∧Below w.heap.size w w':=by
 have hmm:=run_makeMap_room
 have hm1:=h.2.1
 unfold maxLen at hm1
 go_enter Tryz.func144,Tryz.ntmps144
 go_wp2
 go_loopw [16] (fun i wr=>∃ k:Nat,k≤n∧i=.int .i64 k∧wr.ownsMap Tryz.prog 9 (plainElem Tryz.prog 3) w.heap.size k (fd (mdNm ms) k)∧Below w.heap.size w wr) (fun i _=>n - (intOf i).toNat)
 case atStart=>exact ⟨0,Nat.zero_le _,rfl,World.ownsMap_made _ _ _ _,(Below.refl _ _).alloc (Nat.le_refl _) _⟩
 case round=>
  obtain ⟨k,hk,rfl,hown,hB⟩:=hrel
  by_cases hlt:k<n
  ·have hlt':(k:Int)<(n:Int):=by omega
   obtain ⟨bb,off,rfl,q0,q1,q2,q3,q4,q5,q6,q7⟩:=(h.below hB).at k hlt
   have hsz:=(h.2.2.2.1 k hlt).n
   have HX:=hide (fd_succ (mdNm ms) k)
   have hkl:mdNm ms k=(ms.getD k zMd).nm.data.toList:=rfl
   rw [hkl] at HX
   clear hkl
   generalize ms.getD k zMd=m at *
   obtain ⟨nm,ta,tn,tc,tz,ba,bn,bc,bl,da,dn,dc,dz,bss,ra,rn,rc,rz,ia,im,ic,ss,ea,en,ec,es⟩:=m
   dsimp only at q0 q1 q2 q3 q4 q5 q6 q7 hsz HX
   have HKEY:=hide (show keyOf Tryz.prog 9 (.string nm)=some (.string nm.data.toList) from Go.WideMaps.keyOf_string_mk Tryz.underlying9 hsz)
   have HMN:=hide (fun w=>moduleName_any ⟨nm,ta,tn,tc,tz,ba,bn,bc,bl,da,dn,dc,dz,bss,ra,rn,rc,rz,ia,im,ic,ss,ea,en,ec,es⟩ w)
   have hA:Below wr.heap.size wr (wr.alloc (.cells #[.string nm,.slice ta tn tc,.slice ba bn bc,.slice da dn dc,.int .i64 bss,.slice ra rn rc,.slice ia im ic,.slice ea en ec] 49)):=(Below.refl _ _).alloc (Nat.le_refl _) _
   go_wp2_with fail
   refine (HMN.out _).mono ?_
   rintro e w1 ⟨rfl,hb1⟩
   have hb1':=hA.trans (hb1.mono hA.size)
   have hB1:=hB.trans (hb1'.mono hB.size)
   have hown1:w1.ownsMap Tryz.prog 9 (plainElem Tryz.prog 3) w.heap.size k (fd (mdNm ms) k):=by
    obtain ⟨es',cl,hh,r⟩:=hown
    refine ⟨es',cl,?_,r⟩
    have hl:w.heap.size<wr.heap.size:=by
     rcases Nat.lt_or_ge w.heap.size wr.heap.size with h' | h'
     ·exact h'
     ·rw [Array.getElem?_eq_none h'] at hh;cases hh
    rw [hb1'.block _ hl]
    exact hh
   clear hown hA hb1 hb1' q0 q1 q2 q3 q4 q5 q6 q7
   cases hh:has (fd (mdNm ms) k) (.string nm.data.toList)
   ·rw [hh] at HX
    go_wp2_with (first
     | (at_lookup;refine wpList_lookup_own_ok_int _ rfl _ _ 183 rfl 9 3 .i64 lawS Tryz.underlying183 Tryz.underlying3 (zeroI _) w.heap.size k _ rfl hown1 _ _ rfl HKEY.out ?_;intro c hat hwc;clear hat;rw [hh])
     | (at_mapUpdate;refine wpList_mapUpdate_own _ rfl _ _ _ 183 rfl 9 3 lawS Tryz.underlying183 _ w.heap.size k _ rfl hown1 (by unfold maxLen;omega) _ _ _ rfl rfl HKEY.out _ [] (plainElem_int Tryz.underlying3 (WalkArith.wf_i64 (by omega))) ?_;intro w2 hown2 hgr2))
    have HO:=hide hown2
    have HB2:=hide (hB1.grown hgr2 hB1.size (fun j hj=>by cases hj;exact Nat.le_refl _))
    clear hown2 hgr2 hown1
    go_wp2
    go_roundw
    case rel=>exact ⟨k+1,by omega,by go_num,by have:=HO.out;rw [HX.out,if_neg (by simp)];exact this,HB2.out⟩
    case measure=>simp [intOf];omega
   ·rw [hh] at HX
    go_wp2_with (first
     | (at_lookup;refine wpList_lookup_own_ok_int _ rfl _ _ 183 rfl 9 3 .i64 lawS Tryz.underlying183 Tryz.underlying3 (zeroI _) w.heap.size k _ rfl hown1 _ _ rfl HKEY.out ?_;intro c hat hwc;clear hat;rw [hh]))
    have HO:=hide hown1
    clear hown1
    go_wp2
    go_roundw
    case rel=>exact ⟨k+1,by omega,by go_num,by have:=HO.out;rw [HX.out,if_pos trivial];exact this.mono (by omega),hB1⟩
    case measure=>simp [intOf];omega
  ·have e:Hid (k=n):=by show k=n;omega
   go_wp2
   go_ret
   exact ⟨rfl,by rw [e.out] at hown;exact hown,hB⟩
def tbf (n:Nat) (ms:List Md):Bool:=decide (n≤4) && (List.range n).all fun i=>decide ((ms.getD i zMd).en≤16)
set_option maxHeartbeats 1000000 in
theorem tablesFit_any (a:Option Addr) (n cap:Nat) (ms:List Md) (w:World) (h:MS w a n cap ms):
 Calls Tryz.prog 211 #[.slice a n cap] w fun e w'=>e=.returned (.bool (tbf n ms))∧Below w.heap.size w w':=by
 have hm1:=h.2.1
 unfold maxLen at hm1
 obtain ⟨r,hr⟩:∃ r,r=tbf n ms:=⟨_,rfl⟩
 rw [← hr]
 unfold tbf at hr
 by_cases c1:4<n
 ·have HR:=hide (show r=false by rw [hr,decide_eq_false (by omega)];rfl)
  clear hr
  have c1':(4:Int)<(n:Int):=by omega
  go_enter Tryz.func211,Tryz.ntmps211
  go_wp2
  go_ret
  exact ⟨ret_bool HR.out.symm,Below.refl _ _⟩
 ·have c1':¬ (4:Int)<(n:Int):=by omega
  have HR:=hide (show r=(List.range n).all (fun i=>decide ((ms.getD i zMd).en≤16)) by rw [hr,decide_eq_true (by omega)];rfl)
  clear hr
  go_enter Tryz.func211,Tryz.ntmps211
  go_wp2_with fail
  go_loopw [10] (fun i wr=>∃ k:Nat,k≤n∧i=.int .i64 k∧Hid (∀ j,j<k→decide ((ms.getD j zMd).en≤16)=true)∧Below w.heap.size w wr) (fun i _=>n - (intOf i).toNat)
  case atStart=>exact ⟨0,Nat.zero_le _,rfl,hide (fun j hj=>by omega),Below.refl _ _⟩
  case round=>
   obtain ⟨k,hk,rfl,HJ,hB⟩:=hrel
   by_cases hlt:k<n
   ·have hlt':(k:Int)<(n:Int):=by omega
    obtain ⟨bb,off,rfl,q0,q1,q2,q3,q4,q5,q6,q7⟩:=(h.below hB).at k hlt
    have HZ:=hide (rng_bad (fun i=>decide ((ms.getD i zMd).en≤16)) n k hlt)
    have HG:=hide (show decide ((ms.getD k zMd).en≤16)=true→∀ j,j<k+1→decide ((ms.getD j zMd).en≤16)=true from fun h j hj=>by
     by_cases e:j=k
     ·subst e;exact h
     ·exact HJ.out j (by omega))
    generalize ms.getD k zMd=m at *
    obtain ⟨nm,ta,tn,tc,tz,ba,bn,bc,bl,da,dn,dc,dz,bss,ra,rn,rc,rz,ia,im,ic,ss,ea,en,ec,es⟩:=m
    dsimp only at q0 q1 q2 q3 q4 q5 q6 q7 HZ HG
    have HB1:=hide (hB.alloc hB.size (.cells #[.string nm,.slice ta tn tc,.slice ba bn bc,.slice da dn dc,.int .i64 bss,.slice ra rn rc,.slice ia im ic,.slice ea en ec] 49))
    by_cases d:16<en
    ·have d':(16:Int)<(en:Int):=by omega
     go_wp2
     go_ret
     exact ⟨ret_bool (by rw [HR.out];exact (HZ.out (decide_eq_false (by omega))).symm),HB1.out⟩
    ·have d':¬ (16:Int)<(en:Int):=by omega
     go_wp2
     go_roundw
     case rel=>exact ⟨k+1,by omega,by go_num,hide (HG.out (decide_eq_true (by omega))),HB1.out⟩
     case measure=>simp [intOf];omega
   ·have HE:=hide (rng_good (fun i=>decide ((ms.getD i zMd).en≤16)) n (fun j hj=>HJ.out j (by omega)))
    go_wp2
    go_ret
    exact ⟨ret_bool (by rw [HR.out];exact HE.out.symm),hB⟩
def rsT (n:Nat) (ms:List Md) (s:ByteArray):Option (Nat × Nat):=
 if full s=true∧tbf n ms=true then (fst? (mdNm ms) (cutA s).data.toList n).bind fun i=>(fst? (exNm (ms.getD i zMd).es) (cutB s).data.toList (ms.getD i zMd).en).map fun k=>(i,k) else none
def rsv (n:Nat) (ms:List Md) (s:ByteArray):Value:=
 match rsT n ms s with
 | some (i,k)=>.tuple #[.agg #[.int .i64 i,.int .i64 ((ms.getD i zMd).es.getD k zE).2.1,.int .i64 ((ms.getD i zMd).es.getD k zE).2.2],.bool true]
 | none=>.tuple #[.agg #[.int .i64 0,.int .i64 0,.int .i64 0],.bool false]
end Go.Proofs.YtngdgogjlpjjpadGreat
