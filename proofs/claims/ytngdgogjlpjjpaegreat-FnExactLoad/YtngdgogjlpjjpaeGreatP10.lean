import Derived.Test.YtngdgogjlpjjpaeGreatP02
import Derived.Test.YtngdgogjlpjjpaeGreatP07
import Derived.Test.YtngdgogjlpjjpaeGreatP08
set_option maxHeartbeats 4000000
namespace Go.Proofs.YtngdgogjlpjjpaeGreat
open Go.RowKit
set_option linter.unusedVariables false
set_option linter.unusedSimpArgs false
set_option maxRecDepth 100000
structure MT (w:World)(nm:ByteArray)(ta:Option Addr)(tn tc:Nat)(tz:List Int)(ba:Option Addr)(bn bc:Nat)(bl:List Bk)(da:Option Addr)(dn dc:Nat)(dz:List Int)(bss:Int)(ra:Option Addr)(rn rc:Nat)(rz:List Int)(ia:Option Addr)(im ic:Nat)(ss:List ByteArray)(ea:Option Addr)(en ec:Nat)(es:List Ex):Prop where
 n:nm.size≤maxLen
 t:IS w ta tn tc tz
 b:BKS w ba bn bc bl
 d:BS w da dn dc dz
 s:wfi bss
 r:IS w ra rn rc rz
 i:TS w ia im ic ss
 e:TE w ea en ec es
theorem MT.below {w w':World}{nm:ByteArray}{ta:Option Addr}{tn tc:Nat}{tz:List Int}{ba:Option Addr}{bn bc:Nat}{bl:List Bk}{da:Option Addr}{dn dc:Nat}{dz:List Int}{bss:Int}{ra:Option Addr}{rn rc:Nat}{rz:List Int}{ia:Option Addr}{im ic:Nat}{ss:List ByteArray}{ea:Option Addr}{en ec:Nat}{es:List Ex}(h:MT w nm ta tn tc tz ba bn bc bl da dn dc dz bss ra rn rc rz ia im ic ss ea en ec es)(hb:Below w.heap.size w w'):MT w' nm ta tn tc tz ba bn bc bl da dn dc dz bss ra rn rc rz ia im ic ss ea en ec es:=
 ⟨h.n,h.t.below hb,h.b.below hb,h.d.below hb,h.s,h.r.below hb,h.i.below hb,h.e.below hb⟩
theorem infoT:(Tryz.prog.info? 9).map (fun i=>(i.zero,i.size,i.bytes))=some (some (.string ⟨#[]⟩),1,16):=by kernel_rfl
theorem eqStringS_same (a a':Option Addr)(n cap cap':Nat)(ss:List ByteArray)(w:World)(h:TS w a n cap ss)(h':TS w a' n cap' ss):
 Calls Tryz.prog 145 #[.slice a n cap,.slice a' n cap'] w fun e w'=>e=.returned (.bool true)∧Below w.heap.size w w':=by
 have hm:=h.2.1
 unfold maxLen at hm
 have hnn:((n:Int) != (n:Int))=false:=by simp
 go_enter Tryz.func145,Tryz.ntmps145
 go_wp2_with fail
 go_loopw [5] (fun i wr=>∃ k:Nat,k≤n∧i=.int .i64 k∧Below w.heap.size w wr) (fun i _=>n - (intOf i).toNat)
 case atStart=>exact ⟨0,Nat.zero_le _,rfl,Below.refl _ _⟩
 case round=>
  obtain ⟨k,hk,rfl,hB⟩:=hrel
  by_cases hlt:k<n
  ·have hlt':(k:Int)<(n:Int):=by omega
   obtain ⟨b,off,rfl,y1⟩:=(h.below hB).at k hlt
   obtain ⟨b',off',rfl,y2⟩:=(h'.below hB).at k hlt
   generalize ss.getD k zS=s at *
   have hss:(s.toList != s.toList)=false:=by simp
   go_wp2_with fail
   go_quiet (fail)
   go_wp2
   go_roundw
   case rel=>exact ⟨k+1,by omega,by go_num,below_drewN hB nq⟩
   case measure=>simp [intOf];omega
  ·go_wp2
   go_ret
   exact ⟨rfl,hB⟩
theorem cellO {w:World}{g o o' b:Nat}{v:Value}(h:b≠g∨o'≠o):(w.setCell ⟨g,o,none⟩ v).cell? ⟨b,o',none⟩=w.cell? ⟨b,o',none⟩:=
 World.cell?_setCell_other _ _ _ _ (by intro e;injection e;rcases h with h | h <;> simp_all)
theorem infoX:(Tryz.prog.info? 207).map (fun i=>(i.zero,i.size,i.bytes))=some (some (.agg #[.string ⟨#[]⟩,.int .i64 0,.int .i64 0]),3,32):=by kernel_rfl
theorem eqExportS_same (x x':Option Addr)(n cap cap':Nat)(es:List Ex)(w:World)(h:TE w x n cap es)(h':TE w x' n cap' es):
 Calls Tryz.prog 146 #[.slice x n cap,.slice x' n cap'] w fun e w'=>e=.returned (.bool true)∧Below w.heap.size w w':=by
 have hmx:=h.2.1
 unfold maxLen at hmx
 have hne:((n:Int) != (n:Int))=false:=by simp
 go_enter Tryz.func146,Tryz.ntmps146
 go_wp2
 go_loopw [5] (fun i wr=>∃ k:Nat,k≤n∧i=.int .i64 k∧Below w.heap.size w wr) (fun i _=>n - (intOf i).toNat)
 case atStart=>exact ⟨0,Nat.zero_le _,rfl,Below.refl _ _⟩
 case round=>
  obtain ⟨k,hk,rfl,hB⟩:=hrel
  by_cases hlt:k<n
  ·have hlt':(k:Int)<(n:Int):=by omega
   obtain ⟨b,off,rfl,q1,q2,q3⟩:=(h.below hB).at k hlt
   obtain ⟨b',off',rfl,p1,p2,p3⟩:=(h'.below hB).at k hlt
   generalize es.getD k zE=r at *
   obtain ⟨g1,g2,g3⟩:=r
   simp only at q1 q2 q3 p1 p2 p3
   go_wp2
   go_region_held3 (fun w'=>w'.cell? ⟨b,off+k * 3,none⟩=some (.string g1)∧w'.cell? ⟨b,off+k * 3+1,none⟩=some (.int .i64 g2)∧w'.cell? ⟨b,off+k * 3+2,none⟩=some (.int .i64 g3) ∧
    w'.cell? ⟨b',off'+k * 3,none⟩=some (.string g1)∧w'.cell? ⟨b',off'+k * 3+1,none⟩=some (.int .i64 g2)∧w'.cell? ⟨b',off'+k * 3+2,none⟩=some (.int .i64 g3)) (go_keep)
    (first
      | (go_at_call 209;refine (eqExport_same g1 g2 g3 _).mono ?_;rintro e w1 ⟨rfl,hb1⟩;replace hb1:=undrew hb1;obtain ⟨hc1,hf1⟩:=bcell hb1;have hlb:=World.block_lt_of_cell? _ _ q1;have hlb':=World.block_lt_of_cell? _ _ p1))
   clear hc1 hf1 q1 q2 q3 p1 p2 p3
   go_wp2
   go_roundw
   case rel=>exact ⟨k+1,by omega,by go_num,hB.trans (hb1.mono hB.size)⟩
   case measure=>simp [intOf];omega
  ·go_wp2
   go_ret
   exact ⟨rfl,hB⟩
end Go.Proofs.YtngdgogjlpjjpaeGreat
namespace Go.Proofs.YtngdgogjlpjjpaeGreat
open Go.RowKit Go.Maps
set_option linter.unusedVariables false
set_option linter.unusedSimpArgs false
set_option maxRecDepth 100000
theorem lawS:Keyed Tryz.prog 9:=string_keyed Tryz.underlying9
theorem zeroI (w:World):(zeroValue 3).run Tryz.prog w=.ok (.int .i64 0) w:=by kernel_rfl
theorem exportName_any (s:ByteArray)(b i:Int)(w:World):
 Calls Tryz.prog 272 #[.agg #[.string s,.int .i64 b,.int .i64 i]] w fun e w'=>e=.returned (.string s)∧Below w.heap.size w w':=by
 go_enter Tryz.func272,Tryz.ntmps272
 go_wp2
 go_ret
 exact ⟨rfl,(Below.refl _ _).alloc (Nat.le_refl _) _⟩
theorem run_makeMap_room (x:Int)(w:World):(Instr.makeMap 262 (some (.int .i64 x))).run Tryz.prog w=.ok (.map (some w.heap.size)) (w.alloc (.map #[] 0)):=by
 simp [Instr.makeMap,asInt,asIntOf,run_underlying Tryz.underlying262,Result.andThen]
def exNm (es:List Ex)(i:Nat):List UInt8:=(es.getD i zE).1.data.toList
theorem firstOfE_any (ea:Option Addr)(n ec:Nat)(es:List Ex)(w:World)(h:ES w ea n ec es)(hn:n≤1048576):
 Calls Tryz.prog 271 #[.slice ea n ec,.func (.func 272) #[] #[]] w fun e w'=>e=.returned (.map (some w.heap.size))∧w'.ownsMap Tryz.prog 9 (plainElem Tryz.prog 3) w.heap.size n (fd (exNm es) n)∧Below w.heap.size w w':=by
 have hmm:=run_makeMap_room
 have hm1:=h.2.1
 unfold maxLen at hm1
 go_enter Tryz.func271,Tryz.ntmps271
 go_wp2
 go_loopw [16] (fun i wr=>∃ k:Nat,k≤n∧i=.int .i64 k∧wr.ownsMap Tryz.prog 9 (plainElem Tryz.prog 3) w.heap.size k (fd (exNm es) k)∧Below w.heap.size w wr) (fun i _=>n - (intOf i).toNat)
 case atStart=>exact ⟨0,Nat.zero_le _,rfl,World.ownsMap_made _ _ _ _,(Below.refl _ _).alloc (Nat.le_refl _) _⟩
 case round=>
  obtain ⟨k,hk,rfl,hown,hB⟩:=hrel
  by_cases hlt:k<n
  ·have hlt':(k:Int)<(n:Int):=by omega
   obtain ⟨bb,off,rfl⟩:=h.addr (by omega)
   obtain ⟨y1,y2,y3⟩:=(h.below hB).at k hlt
   have hsz:=h.size k
   have HX:=hide (fd_succ (exNm es) k)
   have hkl:exNm es k=(es.getD k zE).1.data.toList:=rfl
   rw [hkl] at HX
   clear hkl
   generalize es.getD k zE=E at *
   obtain ⟨en,eb,ei⟩:=E
   dsimp only at y1 y2 y3 hsz HX
   have hkey:keyOf Tryz.prog 9 (.string en)=some (.string en.data.toList):=Go.WideMaps.keyOf_string_mk Tryz.underlying9 (by unfold maxLen;omega)
   have HKEY:=hide hkey
   clear hkey
   have hA:Below wr.heap.size wr (wr.alloc (.cells #[.string en,.int .i64 eb,.int .i64 ei] 207)):=(Below.refl _ _).alloc (Nat.le_refl _) _
   go_wp2_with fail
   refine (exportName_any en eb ei _).mono ?_
   rintro e w1 ⟨rfl,hb1⟩
   have hb1':=hA.trans (hb1.mono hA.size)
   have hB1:=hB.trans (hb1'.mono hB.size)
   have hown1:w1.ownsMap Tryz.prog 9 (plainElem Tryz.prog 3) w.heap.size k (fd (exNm es) k):=by
    obtain ⟨es',cl,hh,r⟩:=hown
    refine ⟨es',cl,?_,r⟩
    have hl:w.heap.size<wr.heap.size:=by
     rcases Nat.lt_or_ge w.heap.size wr.heap.size with h' | h'
     ·exact h'
     ·rw [Array.getElem?_eq_none h'] at hh;cases hh
    rw [hb1'.block _ hl]
    exact hh
   clear hown hA hb1 hb1' y1 y2 y3
   cases hh:has (fd (exNm es) k) (.string en.data.toList)
   ·rw [hh] at HX
    go_wp2_with (first
     | (at_lookup;refine wpList_lookup_own_ok_int _ rfl _ _ 262 rfl 9 3 .i64 lawS Tryz.underlying262 Tryz.underlying3 (zeroI _) w.heap.size k _ rfl hown1 _ _ rfl HKEY.out ?_;intro c hat hwc;clear hat;rw [hh])
     | (at_mapUpdate;refine wpList_mapUpdate_own _ rfl _ _ _ 262 rfl 9 3 lawS Tryz.underlying262 _ w.heap.size k _ rfl hown1 (by unfold maxLen;omega) _ _ _ rfl rfl HKEY.out _ [] (plainElem_int Tryz.underlying3 (WalkArith.wf_i64 (by omega))) ?_;intro w2 hown2 hgr2))
    have HO:=hide hown2
    have HB2:=hide (hB1.grown hgr2 hB1.size (fun j hj=>by cases hj;exact Nat.le_refl _))
    clear hown2 hgr2 hown1
    go_wp2
    go_roundw
    case rel=>exact ⟨k+1,by omega,by go_num,by have:=HO.out;rw [HX.out,if_neg (by simp)];exact this,HB2.out⟩
    case measure=>simp [intOf];omega
   ·rw [hh] at HX
    go_wp2_with (first
     | (at_lookup;refine wpList_lookup_own_ok_int _ rfl _ _ 262 rfl 9 3 .i64 lawS Tryz.underlying262 Tryz.underlying3 (zeroI _) w.heap.size k _ rfl hown1 _ _ rfl HKEY.out ?_;intro c hat hwc;clear hat;rw [hh]))
    have HO:=hide hown1
    clear hown1
    go_wp2
    go_roundw
    case rel=>exact ⟨k+1,by omega,by go_num,by have:=HO.out;rw [HX.out,if_pos trivial];exact this.mono (by omega),hB1⟩
    case measure=>simp [intOf];omega
  ·have e:Hid (k=n):=by show k=n;omega
   go_wp2
   go_ret
   exact ⟨rfl,by rw [e.out] at hown;exact hown,hB⟩
theorem exn_size (es:List Ex)(n:Nat):(List.range n).all (exn es)=decide (size (fd (exNm es) n)=n):=by
 rw [fd_size]
 congr 1
 funext i
 unfold exn exNm
 congr 1
 funext j
 rw [ByteArray.toList_eq,ByteArray.toList_eq]
theorem exo_last (tn bn:Nat)(bl:List Bk)(n:Nat)(es:List Ex)(h:∀ j,j<n→ex1 tn bn bl (es.getD j zE)=true):(List.range n).all (fun i=>ex1 tn bn bl (es.getD i zE) && exn es i)=decide (size (fd (exNm es) n)=n):=by
 rw [← exn_size,Bool.eq_iff_iff,List.all_eq_true,List.all_eq_true]
 constructor
 ·intro H i hi
  have:=H i hi
  simp only [Bool.and_eq_true] at this
  exact this.2
 ·intro H i hi
  rw [h i (by simpa using hi),H i hi]
  rfl
theorem exportsOk_any (nm:ByteArray)(ta:Option Addr)(tn tc:Nat)(ba:Option Addr)(bn bc:Nat)(bl:List Bk)(v3 v5 v6:Value)(bss:Int)(ea:Option Addr)(n ec:Nat)(es:List Ex)(w:World)(htn:tn≤maxLen)(hb:BKS w ba bn bc bl)(h:ES w ea n ec es):
 Calls Tryz.prog 268 #[.agg #[.string nm,.slice ta tn tc,.slice ba bn bc,v3,.int .i64 bss,v5,v6,.slice ea n ec]] w fun e w'=>e=.returned (.bool (exo tn bn bl n es))∧Below w.heap.size w w':=by
 obtain ⟨W,hW⟩:∃ W,W=w.alloc (.cells #[.string nm,.slice ta tn tc,.slice ba bn bc,v3,.int .i64 bss,v5,v6,.slice ea n ec] 104):=⟨_,rfl⟩
 have hB0:Below w.heap.size w W:=by rw [hW];exact (Below.refl _ _).alloc (Nat.le_refl _) _
 have kb:Blk W w.heap.size #[.string nm,.slice ta tn tc,.slice ba bn bc,v3,.int .i64 bss,v5,v6,.slice ea n ec] 104:=by rw [hW];exact Blk.new _ _ _
 obtain ⟨q0,q1,q2,q3,q4,q5,q6,q7⟩:=kb.eight
 obtain ⟨r,hr⟩:∃ r,r=exo tn bn bl n es:=⟨_,rfl⟩
 rw [← hr]
 unfold exo at hr
 have hm1:=h.2.1
 unfold maxLen at hm1
 have HW:=hide hW
 clear hW
 by_cases c1:16<n
 ·have HR:=hide (show r=false by rw [hr,decide_eq_false (by omega)];rfl)
  clear hr
  have c1':(16:Int)<(n:Int):=by omega
  go_enter Tryz.func268,Tryz.ntmps268
  go_wp2_with (rw [← HW.out])
  go_ret
  exact ⟨ret_bool HR.out.symm,hB0⟩
 ·have c1':¬ (16:Int)<(n:Int):=by omega
  have HR:=hide (show r=(List.range n).all (fun i=>ex1 tn bn bl (es.getD i zE) && exn es i) by rw [hr,decide_eq_true (by omega)];rfl)
  clear hr
  go_enter Tryz.func268,Tryz.ntmps268
  go_wp2_with (rw [← HW.out])
  clear q0 q1 q2 q3 q4 q5 q6 q7
  go_loopw [14] (fun i wr=>∃ k:Nat,k≤n∧i=.int .i64 k∧Hid (∀ j,j<k→ex1 tn bn bl (es.getD j zE)=true)∧Below w.heap.size w wr∧Blk wr w.heap.size #[.string nm,.slice ta tn tc,.slice ba bn bc,v3,.int .i64 bss,v5,v6,.slice ea n ec] 104) (fun i _=>n - (intOf i).toNat)
  case atStart=>exact ⟨0,Nat.zero_le _,rfl,hide (fun j hj=>by omega),hB0,kb⟩
  case round=>
   obtain ⟨k,hk,rfl,HJ,hB,kw⟩:=hrel
   clear kb hB0
   obtain ⟨q0,q1,q2,q3,q4,q5,q6,q7⟩:=kw.eight
   by_cases hlt:k<n
   ·have hlt':(k:Int)<(n:Int):=by omega
    obtain ⟨bb,off,rfl⟩:=h.addr (by omega)
    obtain ⟨y1,y2,y3⟩:=(h.below hB).at k hlt
    have HZ:=hide (rng_bad (fun i=>ex1 tn bn bl (es.getD i zE) && exn es i) n k hlt)
    have HG:=hide (show ex1 tn bn bl (es.getD k zE)=true→∀ j,j<k+1→ex1 tn bn bl (es.getD j zE)=true from fun h j hj=>by
     by_cases e:j=k
     ·subst e;exact h
     ·exact HJ.out j (by omega))
    have HN:=hide (fun w=>isName_any (es.getD k zE).1 w (h.size k))
    generalize es.getD k zE=E at *
    obtain ⟨en,eb,ei⟩:=E
    dsimp only at y1 y2 y3 HN
    have lkw:=kw.lt
    have hb1:=hb.below (hB.alloc hB.size (.cells #[.string en,.int .i64 eb,.int .i64 ei] 207))
    have HP:=hide (fun w h=>pieceOf_any nm ta tn tc ba bn bc bl v3 v5 v6 (.slice (some ⟨bb,off,none⟩) n ec) bss eb w htn h)
    have kE:=Blk.new wr #[.string en,.int .i64 eb,.int .i64 ei] 207
    have hA:Below wr.heap.size wr (wr.alloc (.cells #[.string en,.int .i64 eb,.int .i64 ei] 207)):=(Below.refl _ _).alloc (Nat.le_refl _) _
    go_wp2_with fail
    refine (HP.out _ hb1).mono ?_
    rintro e w1 ⟨pa,pn,px,ok,rfl,hok,hpn,hpm,hbp⟩
    have kE1:=kE.below hbp
    have kw1:=(kw.below hA).below hbp
    have hB1:=(hB.trans (hA.mono hB.size)).trans (hbp.mono (by have:=hB.size;simp;omega))
    clear kE kw hA hbp hb1 HP q0 q1 q2 q3 q4 q5 q6 q7 y1 y2 y3 hB
    unfold maxLen at hpm
    have HOK:=hide (And.intro hok hpn)
    clear hok hpn
    obtain ⟨z1,z2,z3,z4⟩:=kE1.three
    have HEX:=hide (show ex1 tn bn bl (en,eb,ei)=(nmo en && decide (0≤ei∧ei<pcn tn bn bl eb)) from rfl)
    have HU:=hide (fun w=>isUpTo_any ei ((pn:Int) - 1) w)
    cases hn:nmo en
    ·rw [hn] at HN
     go_wp2_with (go_at_call 264;refine (HN.out _).mono ?_;rintro e w2 ⟨rfl,rfl⟩)
     go_ret
     exact ⟨ret_bool (by rw [HR.out];exact (HZ.out (by rw [HEX.out,hn];rfl)).symm),hB1⟩
    ·rw [hn] at HN
     cases ok
     ·have hp:¬ 0≤pcn tn bn bl eb:=by have:=HOK.out.1;simpa using this.symm
      go_wp2_with (go_at_call 264;refine (HN.out _).mono ?_;rintro e w2 ⟨rfl,rfl⟩)
      go_ret
      exact ⟨ret_bool (by rw [HR.out];exact (HZ.out (by rw [HEX.out,decide_eq_false (by omega)];simp)).symm),hB1⟩
     ·have hp:(pn:Int)=pcn tn bn bl eb:=HOK.out.2 rfl
      have HPP:=hide hp
      clear hp
      by_cases d1:0≤ei∧ei≤(pn:Int) - 1
      ·have HE1:=hide (show ex1 tn bn bl (en,eb,ei)=true by rw [HEX.out,hn,← HPP.out,decide_eq_true (by omega)];rfl)
       rw [decide_eq_true d1] at HU
       go_wp2_with (first | (go_at_call 264;refine (HN.out _).mono ?_;rintro e w2 ⟨rfl,rfl⟩) | (go_at_call 165;refine (HU.out _).mono ?_;rintro e w2 ⟨rfl,rfl⟩))
       go_roundw
       case rel=>exact ⟨k+1,by omega,by go_num,hide (HG.out HE1.out),hB1,kw1⟩
       case measure=>simp [intOf];omega
      ·rw [decide_eq_false d1] at HU
       have HE1:=hide (show ex1 tn bn bl (en,eb,ei)=false by rw [HEX.out,hn,← HPP.out,decide_eq_false (by omega)];rfl)
       go_wp2_with (first | (go_at_call 264;refine (HN.out _).mono ?_;rintro e w2 ⟨rfl,rfl⟩) | (go_at_call 165;refine (HU.out _).mono ?_;rintro e w2 ⟨rfl,rfl⟩))
       go_ret
       exact ⟨ret_bool (by rw [HR.out];exact (HZ.out (by rw [HE1.out];rfl)).symm),hB1⟩
   ·have e:k=n:=by omega
    subst e
    have HE:=hide (exo_last tn bn bl k es (fun j hj=>HJ.out j hj))
    have h':=h.below hB
    have HF:=hide (fun w h=>firstOfE_any ea k ec es w h (by omega))
    obtain ⟨S,hS⟩:∃ S,S=size (fd (exNm es) k):=⟨_,rfl⟩
    have HS:=hide hS
    clear hS
    go_wp2_with fail
    go_region_with (first
     | (go_at_call 271;refine (HF.out _ (by exact h')).mono ?_;rintro e w1 ⟨rfl,hown,hb1⟩;have hl:∀ ty,(Builtin.len_ #[262] ty #[.map (some wr.heap.size)]).run Tryz.prog w1=.ok (.int .i64 (S:Int)) w1:=(by intro ty;rw [HS.out];exact hown.len Tryz.underlying262 ty);replace hb1:=undrew hb1;obtain ⟨q0,q1,q2,q3,q4,q5,q6,q7⟩:=(kw.below hb1).eight;clear hown))
    all_goals
     have HB1:=hide (hB.trans (hb1.mono hB.size))
     go_wp2
     go_ret
     exact ⟨ret_bool (by rw [HR.out,HE.out,← HS.out];first | rfl | (rw [Bool.eq_iff_iff];simp;omega)),HB1.out⟩
end Go.Proofs.YtngdgogjlpjjpaeGreat
namespace Go.Proofs.YtngdgogjlpjjpaeGreat
open Go.RowKit
set_option linter.unusedVariables false
set_option linter.unusedSimpArgs false
set_option maxRecDepth 100000
structure Md where
 nm:ByteArray
 ta:Option Addr
 tn:Nat
 tc:Nat
 tz:List Int
 ba:Option Addr
 bn:Nat
 bc:Nat
 bl:List Bk
 da:Option Addr
 dn:Nat
 dc:Nat
 dz:List Int
 bss:Int
 ra:Option Addr
 rn:Nat
 rc:Nat
 rz:List Int
 ia:Option Addr
 im:Nat
 ic:Nat
 ss:List ByteArray
 ea:Option Addr
 en:Nat
 ec:Nat
 es:List Ex
def zMd:Md:=⟨⟨#[]⟩,none,0,0,[],none,0,0,[],none,0,0,[],0,none,0,0,[],none,0,0,[],none,0,0,[]⟩
def Md.mt (m:Md)(w:World):Prop:=MT w m.nm m.ta m.tn m.tc m.tz m.ba m.bn m.bc m.bl m.da m.dn m.dc m.dz m.bss m.ra m.rn m.rc m.rz m.ia m.im m.ic m.ss m.ea m.en m.ec m.es
def Md.cells (m:Md):Array Value:=#[.string m.nm,.slice m.ta m.tn m.tc,.slice m.ba m.bn m.bc,.slice m.da m.dn m.dc,.int .i64 m.bss,.slice m.ra m.rn m.rc,.slice m.ia m.im m.ic,.slice m.ea m.en m.ec]
def At8 (w:World)(b o:Nat)(m:Md):Prop:=
 w.cell? ⟨b,o,none⟩=some (.string m.nm)∧w.cell? ⟨b,o+1,none⟩=some (.slice m.ta m.tn m.tc)∧w.cell? ⟨b,o+2,none⟩=some (.slice m.ba m.bn m.bc)∧w.cell? ⟨b,o+3,none⟩=some (.slice m.da m.dn m.dc)∧w.cell? ⟨b,o+4,none⟩=some (.int .i64 m.bss)∧w.cell? ⟨b,o+5,none⟩=some (.slice m.ra m.rn m.rc)∧w.cell? ⟨b,o+6,none⟩=some (.slice m.ia m.im m.ic)∧w.cell? ⟨b,o+7,none⟩=some (.slice m.ea m.en m.ec)
theorem At8.below {w w':World}{b o:Nat}{m:Md}(h:At8 w b o m)(hb:Below w.heap.size w w'):At8 w' b o m:=by
 have key:∀ o v,w.cell? ⟨b,o,none⟩=some v→w'.cell? ⟨b,o,none⟩=some v:=fun o v hv=>(hb.cell (World.block_lt_of_cell? w _ hv)).trans hv
 obtain ⟨h0,h1,h2,h3,h4,h5,h6,h7⟩:=h
 exact ⟨key _ _ h0,key _ _ h1,key _ _ h2,key _ _ h3,key _ _ h4,key _ _ h5,key _ _ h6,key _ _ h7⟩
theorem Md.below {m:Md}{w w':World}(h:m.mt w)(hb:Below w.heap.size w w'):m.mt w':=MT.below h hb
def MS (w:World)(a:Option Addr)(n cap:Nat)(ms:List Md):Prop:=
 ms.length=n∧n≤maxLen∧(n≠0→∃ b off,a=some ⟨b,off,none⟩∧∀ i,i<n→At8 w b (off+i * 8) (ms.getD i zMd))∧(∀ i,i<n→(ms.getD i zMd).mt w)∧n≤cap
theorem MS.below {w w':World}{a:Option Addr}{n cap:Nat}{ms:List Md}(h:MS w a n cap ms)(hb:Below w.heap.size w w'):MS w' a n cap ms:=by
 obtain ⟨h1,h2,h3,h4,h5⟩:=h
 refine ⟨h1,h2,fun hn=>?_,fun i hi=>Md.below (h4 i hi) hb,h5⟩
 obtain ⟨b,off,e,hc⟩:=h3 hn
 exact ⟨b,off,e,fun i hi=>(hc i hi).below hb⟩
theorem MS.at {w:World}{a:Option Addr}{n cap:Nat}{ms:List Md}(h:MS w a n cap ms)(i:Nat)(hi:i<n):∃ b off,a=some ⟨b,off,none⟩∧At8 w b (off+i * 8) (ms.getD i zMd):=by
 obtain ⟨b,off,e,hc⟩:=h.2.2.1 (by omega)
 exact ⟨b,off,e,hc i hi⟩
end Go.Proofs.YtngdgogjlpjjpaeGreat
