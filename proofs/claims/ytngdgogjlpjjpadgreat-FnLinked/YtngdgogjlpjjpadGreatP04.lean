import Derived.Test.YtngdgogjlpjjpadGreatP00
import Derived.Test.YtngdgogjlpjjpadGreatP02
import Derived.Test.YtngdgogjlpjjpadGreatP03
namespace Go.Proofs.YtngdgogjlpjjpadGreat
open Go.RowKit Go.Maps
set_option linter.unusedVariables false
set_option linter.unusedSimpArgs false
set_option maxRecDepth 100000
theorem exn_size (es:List Ex) (n:Nat):(List.range n).all (exn es)=decide (size (fd (exNm es) n)=n):=by
 rw [fd_size]
 congr 1
 funext i
 unfold exn exNm
 congr 1
 funext j
 rw [ByteArray.toList_eq,ByteArray.toList_eq]
theorem exo_last (tn bn:Nat) (bl:List Bk) (n:Nat) (es:List Ex) (h:∀ j,j<n→ex1 tn bn bl (es.getD j zE)=true):(List.range n).all (fun i=>ex1 tn bn bl (es.getD i zE) && exn es i)=decide (size (fd (exNm es) n)=n):=by
 rw [← exn_size,Bool.eq_iff_iff,List.all_eq_true,List.all_eq_true]
 constructor
 ·intro H i hi
  have:=H i hi
  simp only [Bool.and_eq_true] at this
  exact this.2
 ·intro H i hi
  rw [h i (by simpa using hi),H i hi]
  rfl
set_option maxHeartbeats 4000000 in
theorem exportsOk_any (nm:ByteArray) (ta:Option Addr) (tn tc:Nat) (ba:Option Addr) (bn bc:Nat) (bl:List Bk) (v3 v5 v6:Value) (bss:Int) (ea:Option Addr) (n ec:Nat) (es:List Ex) (w:World) (htn:tn≤maxLen) (hb:BKS w ba bn bc bl) (h:ES w ea n ec es):
 Calls Tryz.prog 209 #[.agg #[.string nm,.slice ta tn tc,.slice ba bn bc,v3,.int .i64 bss,v5,v6,.slice ea n ec]] w fun e w'=>e=.returned (.bool (exo tn bn bl n es))∧Below w.heap.size w w':=by
 obtain ⟨W,hW⟩:∃ W,W=w.alloc (.cells #[.string nm,.slice ta tn tc,.slice ba bn bc,v3,.int .i64 bss,v5,v6,.slice ea n ec] 49):=⟨_,rfl⟩
 have hB0:Below w.heap.size w W:=by rw [hW];exact (Below.refl _ _).alloc (Nat.le_refl _) _
 have kb:Blk W w.heap.size #[.string nm,.slice ta tn tc,.slice ba bn bc,v3,.int .i64 bss,v5,v6,.slice ea n ec] 49:=by rw [hW];exact Blk.new _ _ _
 obtain ⟨q0,q1,q2,q3,q4,q5,q6,q7⟩:=kb.eight
 obtain ⟨r,hr⟩:∃ r,r=exo tn bn bl n es:=⟨_,rfl⟩
 rw [← hr]
 unfold exo at hr
 have hm1:=h.2.1
 unfold maxLen at hm1
 have HW:=hide hW
 clear hW
 by_cases c1:16<n
 ·have HR:=hide (show r=false by rw [hr,decide_eq_false (by omega)];rfl)
  clear hr
  have c1':(16:Int)<(n:Int):=by omega
  go_enter Tryz.func209,Tryz.ntmps209
  go_wp2_with (rw [← HW.out])
  go_ret
  exact ⟨ret_bool HR.out.symm,hB0⟩
 ·have c1':¬ (16:Int)<(n:Int):=by omega
  have HR:=hide (show r=(List.range n).all (fun i=>ex1 tn bn bl (es.getD i zE) && exn es i) by rw [hr,decide_eq_true (by omega)];rfl)
  clear hr
  go_enter Tryz.func209,Tryz.ntmps209
  go_wp2_with (rw [← HW.out])
  clear q0 q1 q2 q3 q4 q5 q6 q7
  go_loopw [14] (fun i wr=>∃ k:Nat,k≤n∧i=.int .i64 k∧Hid (∀ j,j<k→ex1 tn bn bl (es.getD j zE)=true)∧Below w.heap.size w wr∧Blk wr w.heap.size #[.string nm,.slice ta tn tc,.slice ba bn bc,v3,.int .i64 bss,v5,v6,.slice ea n ec] 49) (fun i _=>n - (intOf i).toNat)
  case atStart=>exact ⟨0,Nat.zero_le _,rfl,hide (fun j hj=>by omega),hB0,kb⟩
  case round=>
   obtain ⟨k,hk,rfl,HJ,hB,kw⟩:=hrel
   clear kb hB0
   obtain ⟨q0,q1,q2,q3,q4,q5,q6,q7⟩:=kw.eight
   by_cases hlt:k<n
   ·have hlt':(k:Int)<(n:Int):=by omega
    obtain ⟨bb,off,rfl⟩:=h.addr (by omega)
    obtain ⟨y1,y2,y3⟩:=(h.below hB).at k hlt
    have HZ:=hide (rng_bad (fun i=>ex1 tn bn bl (es.getD i zE) && exn es i) n k hlt)
    have HG:=hide (show ex1 tn bn bl (es.getD k zE)=true→∀ j,j<k+1→ex1 tn bn bl (es.getD j zE)=true from fun h j hj=>by
     by_cases e:j=k
     ·subst e;exact h
     ·exact HJ.out j (by omega))
    have HN:=hide (fun w=>isName_any (es.getD k zE).1 w (h.size k))
    generalize es.getD k zE=E at *
    obtain ⟨en,eb,ei⟩:=E
    dsimp only at y1 y2 y3 HN
    have lkw:=kw.lt
    have hb1:=hb.below (hB.alloc hB.size (.cells #[.string en,.int .i64 eb,.int .i64 ei] 210))
    have HP:=hide (fun w h=>pieceOf_any nm ta tn tc ba bn bc bl v3 v5 v6 (.slice (some ⟨bb,off,none⟩) n ec) bss eb w htn h)
    have kE:=Blk.new wr #[.string en,.int .i64 eb,.int .i64 ei] 210
    have hA:Below wr.heap.size wr (wr.alloc (.cells #[.string en,.int .i64 eb,.int .i64 ei] 210)):=(Below.refl _ _).alloc (Nat.le_refl _) _
    go_wp2_with fail
    refine (HP.out _ hb1).mono ?_
    rintro e w1 ⟨pa,pn,px,ok,rfl,hok,hpn,hpm,hbp⟩
    have kE1:=kE.below hbp
    have kw1:=(kw.below hA).below hbp
    have hB1:=(hB.trans (hA.mono hB.size)).trans (hbp.mono (by have:=hB.size;simp;omega))
    clear kE kw hA hbp hb1 HP q0 q1 q2 q3 q4 q5 q6 q7 y1 y2 y3 hB
    unfold maxLen at hpm
    have HOK:=hide (And.intro hok hpn)
    clear hok hpn
    obtain ⟨z1,z2,z3,z4⟩:=kE1.three
    have HEX:=hide (show ex1 tn bn bl (en,eb,ei)=(nmo en && decide (0≤ei∧ei<pcn tn bn bl eb)) from rfl)
    have HU:=hide (fun w=>isUpTo_any ei ((pn:Int) - 1) w)
    cases hn:nmo en
    ·rw [hn] at HN
     go_wp2_with (go_at_call 205;refine (HN.out _).mono ?_;rintro e w2 ⟨rfl,rfl⟩)
     go_ret
     exact ⟨ret_bool (by rw [HR.out];exact (HZ.out (by rw [HEX.out,hn];rfl)).symm),hB1⟩
    ·rw [hn] at HN
     cases ok
     ·have hp:¬ 0≤pcn tn bn bl eb:=by have:=HOK.out.1;simpa using this.symm
      go_wp2_with (go_at_call 205;refine (HN.out _).mono ?_;rintro e w2 ⟨rfl,rfl⟩)
      go_ret
      exact ⟨ret_bool (by rw [HR.out];exact (HZ.out (by rw [HEX.out,decide_eq_false (by omega)];simp)).symm),hB1⟩
     ·have hp:(pn:Int)=pcn tn bn bl eb:=HOK.out.2 rfl
      have HPP:=hide hp
      clear hp
      by_cases d1:0≤ei∧ei≤(pn:Int) - 1
      ·have HE1:=hide (show ex1 tn bn bl (en,eb,ei)=true by rw [HEX.out,hn,← HPP.out,decide_eq_true (by omega)];rfl)
       rw [decide_eq_true d1] at HU
       go_wp2_with (first | (go_at_call 205;refine (HN.out _).mono ?_;rintro e w2 ⟨rfl,rfl⟩) | (go_at_call 63;refine (HU.out _).mono ?_;rintro e w2 ⟨rfl,rfl⟩))
       go_roundw
       case rel=>exact ⟨k+1,by omega,by go_num,hide (HG.out HE1.out),hB1,kw1⟩
       case measure=>simp [intOf];omega
      ·rw [decide_eq_false d1] at HU
       have HE1:=hide (show ex1 tn bn bl (en,eb,ei)=false by rw [HEX.out,hn,← HPP.out,decide_eq_false (by omega)];rfl)
       go_wp2_with (first | (go_at_call 205;refine (HN.out _).mono ?_;rintro e w2 ⟨rfl,rfl⟩) | (go_at_call 63;refine (HU.out _).mono ?_;rintro e w2 ⟨rfl,rfl⟩))
       go_ret
       exact ⟨ret_bool (by rw [HR.out];exact (HZ.out (by rw [HE1.out];rfl)).symm),hB1⟩
   ·have e:k=n:=by omega
    subst e
    have HE:=hide (exo_last tn bn bl k es (fun j hj=>HJ.out j hj))
    have h':=h.below hB
    have HF:=hide (fun w h=>firstOfE_any ea k ec es w h (by omega))
    obtain ⟨S,hS⟩:∃ S,S=size (fd (exNm es) k):=⟨_,rfl⟩
    have HS:=hide hS
    clear hS
    go_wp2_with fail
    go_region_with (first
     | (go_at_call 212;refine (HF.out _ (by exact h')).mono ?_;rintro e w1 ⟨rfl,hown,hb1⟩;have hl:∀ ty,(Builtin.len_ #[183] ty #[.map (some wr.heap.size)]).run Tryz.prog w1=.ok (.int .i64 (S:Int)) w1:=(by intro ty;rw [HS.out];exact hown.len Tryz.underlying183 ty);replace hb1:=undrew hb1;obtain ⟨q0,q1,q2,q3,q4,q5,q6,q7⟩:=(kw.below hb1).eight;clear hown))
    all_goals
     have HB1:=hide (hB.trans (hb1.mono hB.size))
     go_wp2
     go_ret
     exact ⟨ret_bool (by rw [HR.out,HE.out,← HS.out];first | rfl | (rw [Bool.eq_iff_iff];simp;omega)),HB1.out⟩
end Go.Proofs.YtngdgogjlpjjpadGreat
namespace Go.Proofs.YtngdgogjlpjjpadGreat
open Go.RowKit
set_option linter.unusedVariables false
set_option linter.unusedSimpArgs false
set_option maxRecDepth 100000
set_option maxHeartbeats 4000000 in
theorem iModuleOk_any (nm:ByteArray) (ta:Option Addr) (tn tc:Nat) (tz:List Int) (ba:Option Addr) (bn bc:Nat) (bl:List Bk) (da:Option Addr) (dn dc:Nat) (dz:List Int) (bss:Int) (ra:Option Addr) (rn rc:Nat) (rz:List Int) (ia:Option Addr) (im ic:Nat) (ss:List ByteArray) (ea:Option Addr) (en ec:Nat) (es:List Ex) (w:World)
 (h:MD w nm ta tn tc tz ba bn bc bl da dn dc dz bss ra rn rc rz ia im ic ss ea en ec es):
 Calls Tryz.prog 143 #[.agg #[.string nm,.slice ta tn tc,.slice ba bn bc,.slice da dn dc,.int .i64 bss,.slice ra rn rc,.slice ia im ic,.slice ea en ec]] w fun e w'=>e=.returned (.int .i64 (mdo nm tn tz bn bl dn bss rn rz im ss en es))∧Below w.heap.size w w':=by
 obtain ⟨W,hW⟩:∃ W,W=w.alloc (.cells #[.string nm,.slice ta tn tc,.slice ba bn bc,.slice da dn dc,.int .i64 bss,.slice ra rn rc,.slice ia im ic,.slice ea en ec] 49):=⟨_,rfl⟩
 have hB0:Below w.heap.size w W:=by rw [hW];exact (Below.refl _ _).alloc (Nat.le_refl _) _
 have kb:Blk W w.heap.size #[.string nm,.slice ta tn tc,.slice ba bn bc,.slice da dn dc,.int .i64 bss,.slice ra rn rc,.slice ia im ic,.slice ea en ec] 49:=by rw [hW];exact Blk.new _ _ _
 obtain ⟨r,hr⟩:∃ r,r=mdo nm tn tz bn bl dn bss rn rz im ss en es:=⟨_,rfl⟩
 rw [← hr]
 unfold mdo at hr
 have HRR:=hide hr
 clear hr
 have H0:=h.below hB0
 have hmd:=h.d.2.1
 have htn:=h.t.2.1
 have HN:=hide (fun w=>isName_any nm w h.n)
 have HCd:=hide (fun w ht hb=>codeOk_any nm ta tn tc tz ba bn bc bl (.slice da dn dc) (.slice ra rn rc) (.slice ia im ic) (.slice ea en ec) bss w ht hb)
 have HRl:=hide (fun w h=>relocsOk_any nm (.slice ta tn tc) (.slice ba bn bc) da dn dc bss ra rn rc rz (.slice ia im ic) (.slice ea en ec) w hmd h)
 have HIm:=hide (fun w h=>importsOk_any nm (.slice ta tn tc) (.slice ba bn bc) (.slice da dn dc) (.slice ra rn rc) (.slice ea en ec) bss ia im ic ss w h)
 have HEx:=hide (fun w hb h=>exportsOk_any nm ta tn tc ba bn bc bl (.slice da dn dc) (.slice ra rn rc) (.slice ia im ic) bss ea en ec es w htn hb h)
 have HU:=hide (fun w=>isUpTo_any bss 512 w)
 unfold maxLen at hmd
 obtain ⟨s0,s1⟩:=h.s
 clear h htn
 have HW:=hide hW
 clear hW
 generalize nmo nm=a1 at *
 generalize cdo tn tz bn bl=a2 at *
 generalize rlo rn rz dn=a4 at *
 generalize imo im ss=a5 at *
 generalize exo tn bn bl en es=a6 at *
 obtain ⟨q0,q1,q2,q3,q4,q5,q6,q7⟩:=kb.eight
 go_enter Tryz.func143,Tryz.ntmps143
 go_wp2_with (first | (rw [← HW.out]) | (go_at_call 205;refine (HN.out _).mono ?_;rintro e w1 ⟨rfl,rfl⟩;cases a1))
 ·have e:=hide (show r=1 from by rw [HRR.out];simp)
  go_ret
  exact ⟨ret_int e.out.symm,hB0⟩
 ·refine (HCd.out _ H0.t H0.b).mono ?_
  rintro e w2 ⟨rfl,hb2⟩
  have kb2:=kb.below hb2
  have H2:=H0.below hb2
  have hB2:=hB0.trans (hb2.mono hB0.size)
  clear hb2 kb H0 hB0 q0 q1 q2 q3 q4 q5 q6 q7
  obtain ⟨q0,q1,q2,q3,q4,q5,q6,q7⟩:=kb2.eight
  cases a2
  ·have e:=hide (show r=2 from by rw [HRR.out];simp)
   go_wp2
   go_ret
   exact ⟨ret_int e.out.symm,hB2⟩
  ·by_cases c1:512<dn
   ·have e:=hide (show r=3 from by rw [HRR.out];simp [c1])
    have c1':(512:Int)<(dn:Int):=by omega
    go_wp2
    go_ret
    exact ⟨ret_int e.out.symm,hB2⟩
   ·have c1':¬ (512:Int)<(dn:Int):=by omega
    by_cases c2:0≤bss∧bss≤512
    ·have HR2:=hide (show r=if a4=false then 4 else if a5=false then 5 else if a6=false then 6 else 0 from by
      rw [HRR.out]
      simp only [Bool.true_eq_false,if_false,show ¬ (512<dn∨bss<0∨512<bss) by omega])
     clear HRR
     rw [decide_eq_true c2] at HU
     go_wp2_with (go_at_call 63;refine (HU.out _).mono ?_;rintro e w1 ⟨rfl,rfl⟩)
     refine (HRl.out _ H2.r).mono ?_
     rintro e w3 ⟨rfl,hb3⟩
     have kb3:=kb2.below hb3
     have H3:=H2.below hb3
     have hB3:=hB2.trans (hb3.mono hB2.size)
     clear hb3 kb2 H2 hB2 q0 q1 q2 q3 q4 q5 q6 q7
     obtain ⟨q0,q1,q2,q3,q4,q5,q6,q7⟩:=kb3.eight
     cases a4
     ·have e:=hide (show r=4 from by rw [HR2.out];simp)
      go_wp2
      go_ret
      exact ⟨ret_int e.out.symm,hB3⟩
     ·go_wp2_with fail
      refine (HIm.out _ H3.i).mono ?_
      rintro e w4 ⟨rfl,hb4⟩
      have kb4:=kb3.below hb4
      have H4:=H3.below hb4
      have hB4:=hB3.trans (hb4.mono hB3.size)
      clear hb4 kb3 H3 hB3 q0 q1 q2 q3 q4 q5 q6 q7
      obtain ⟨q0,q1,q2,q3,q4,q5,q6,q7⟩:=kb4.eight
      cases a5
      ·have e:=hide (show r=5 from by rw [HR2.out];simp)
       go_wp2
       go_ret
       exact ⟨ret_int e.out.symm,hB4⟩
      ·go_wp2_with fail
       refine (HEx.out _ H4.b H4.e).mono ?_
       rintro e w5 ⟨rfl,hb5⟩
       have hB5:=hB4.trans (hb5.mono hB4.size)
       clear hb5 H4 hB4 kb4
       cases a6
       ·have e:=hide (show r=6 from by rw [HR2.out];simp)
        go_wp2
        go_ret
        exact ⟨ret_int e.out.symm,hB5⟩
       ·have e:=hide (show r=0 from by rw [HR2.out];simp)
        go_wp2
        go_ret
        exact ⟨ret_int e.out.symm,hB5⟩
    ·rw [decide_eq_false c2] at HU
     have e:=hide (show r=3 from by rw [HRR.out];simp only [Bool.true_eq_false,if_false,show (512<dn∨bss<0∨512<bss) by omega,if_true])
     go_wp2_with (go_at_call 63;refine (HU.out _).mono ?_;rintro e w1 ⟨rfl,rfl⟩)
     go_ret
     exact ⟨ret_int e.out.symm,hB2⟩
theorem mt_of_rows {nm:ByteArray} {ta:Option Addr} {tn tc:Nat} {tz:List Int} {ba:Option Addr} {bn bc:Nat} {bl:List Bk} {da:Option Addr} {dn dc:Nat} {dz:List Int} {bss:Int} {ra:Option Addr} {rn rc:Nat} {rz:List Int} {ia:Option Addr} {im ic:Nat} {ss:List ByteArray} {ea:Option Addr} {en ec:Nat} {es:List Ex} {w W:World} {g1 g2 g3 g5 g6 g7:Nat} {gs:List Nat} (h:MT w nm ta tn tc tz ba bn bc bl da dn dc dz bss ra rn rc rz ia im ic ss ea en ec es) (hg:gs.length=bn)
 (r1:RowI W g1 tz) (r2:RowB W g2 bn gs bl) (r3:Row8 W g3 dz) (r5:RowI W g5 rz) (r6:RowT W g6 ss) (r7:RowX W g7 es):MT W nm (some ⟨g1,0,none⟩) tn tn tz (some ⟨g2,0,none⟩) bn bn (reb gs bl) (some ⟨g3,0,none⟩) dn dn dz bss (some ⟨g5,0,none⟩) rn rn rz (some ⟨g6,0,none⟩) im im ss (some ⟨g7,0,none⟩) en en es where
 n:=h.n
 t:=r1.is (by rw [h.t.1];exact h.t.2.1) h.t.2.2.1 _ _ h.t.1
 b:=r2.bks h.b hg
 d:=r3.bs (by rw [h.d.1];exact h.d.2.1) h.d.2.2.1 _ _ h.d.1
 s:=h.s
 r:=r5.is (by rw [h.r.1];exact h.r.2.1) h.r.2.2.1 _ _ h.r.1
 i:=⟨h.i.1,h.i.2.1,h.i.2.2.1,fun _=>⟨g6,0,rfl,fun i hi=>by rw [Nat.zero_add];exact r6.cell i (by rw [h.i.1];exact hi)⟩,Nat.le_refl _⟩
 e:=r7.te h.e
structure PMod where
 nm:ByteArray
 tz:List Int
 bl:List (List Int)
 dz:List Int
 bss:Int
 rz:List Int
 ss:List ByteArray
 es:List Ex
def bkOf (bl:List (List Int)):List Bk:=bl.map fun l=>(none,l.length,l.length,l)
def mdoP (P:PMod):Int:=mdo P.nm P.tz.length P.tz P.bl.length (bkOf P.bl) P.dz.length P.bss P.rz.length P.rz P.ss.length P.ss P.es.length P.es
theorem mdo_bks {nm:ByteArray} {tn:Nat} {tz:List Int} {bl bl':List Bk} {dn:Nat} {bss:Int} {rn:Nat} {rz:List Int} {im:Nat} {ss:List ByteArray} {en:Nat} {es:List Ex} (hl:bl.length=bl'.length) (h:∀ i,i<bl.length→(bl.getD i zB).2.1=(bl'.getD i zB).2.1∧(bl.getD i zB).2.2.2=(bl'.getD i zB).2.2.2):
 mdo nm tn tz bl.length bl dn bss rn rz im ss en es=mdo nm tn tz bl.length bl' dn bss rn rz im ss en es:=by
 have e:reb [] bl=reb [] bl':=by
  unfold reb
  rw [← hl]
  apply List.map_congr_left
  intro i hi
  have:=h i (by simpa using hi)
  rw [this.1,this.2]
 rw [← reb_mdo [] nm tn tz bl.length bl dn bss rn rz im ss en es rfl,e,reb_mdo [] nm tn tz bl.length bl' dn bss rn rz im ss en es hl.symm]
structure Md where
 nm:ByteArray
 ta:Option Addr
 tn:Nat
 tc:Nat
 tz:List Int
 ba:Option Addr
 bn:Nat
 bc:Nat
 bl:List Bk
 da:Option Addr
 dn:Nat
 dc:Nat
 dz:List Int
 bss:Int
 ra:Option Addr
 rn:Nat
 rc:Nat
 rz:List Int
 ia:Option Addr
 im:Nat
 ic:Nat
 ss:List ByteArray
 ea:Option Addr
 en:Nat
 ec:Nat
 es:List Ex
def zMd:Md:=⟨⟨#[]⟩,none,0,0,[],none,0,0,[],none,0,0,[],0,none,0,0,[],none,0,0,[],none,0,0,[]⟩
def Md.mt (m:Md) (w:World):Prop:=MT w m.nm m.ta m.tn m.tc m.tz m.ba m.bn m.bc m.bl m.da m.dn m.dc m.dz m.bss m.ra m.rn m.rc m.rz m.ia m.im m.ic m.ss m.ea m.en m.ec m.es
def Md.size (m:Md):Nat:=mdSize m.nm m.tn m.bn m.bl m.dn m.rn m.im m.ss m.en m.es
def Md.cells (m:Md):Array Value:=#[.string m.nm,.slice m.ta m.tn m.tc,.slice m.ba m.bn m.bc,.slice m.da m.dn m.dc,.int .i64 m.bss,.slice m.ra m.rn m.rc,.slice m.ia m.im m.ic,.slice m.ea m.en m.ec]
def At8 (w:World) (b o:Nat) (m:Md):Prop:=
 w.cell? ⟨b,o,none⟩=some (.string m.nm)∧w.cell? ⟨b,o+1,none⟩=some (.slice m.ta m.tn m.tc)∧w.cell? ⟨b,o+2,none⟩=some (.slice m.ba m.bn m.bc)∧w.cell? ⟨b,o+3,none⟩=some (.slice m.da m.dn m.dc)∧w.cell? ⟨b,o+4,none⟩=some (.int .i64 m.bss)∧w.cell? ⟨b,o+5,none⟩=some (.slice m.ra m.rn m.rc)∧w.cell? ⟨b,o+6,none⟩=some (.slice m.ia m.im m.ic)∧w.cell? ⟨b,o+7,none⟩=some (.slice m.ea m.en m.ec)
theorem At8.below {w w':World} {b o:Nat} {m:Md} (h:At8 w b o m) (hb:Below w.heap.size w w'):At8 w' b o m:=by
 have key:∀ o v,w.cell? ⟨b,o,none⟩=some v→w'.cell? ⟨b,o,none⟩=some v:=fun o v hv=>(hb.cell (World.block_lt_of_cell? w _ hv)).trans hv
 obtain ⟨h0,h1,h2,h3,h4,h5,h6,h7⟩:=h
 exact ⟨key _ _ h0,key _ _ h1,key _ _ h2,key _ _ h3,key _ _ h4,key _ _ h5,key _ _ h6,key _ _ h7⟩
theorem Md.below {m:Md} {w w':World} (h:m.mt w) (hb:Below w.heap.size w w'):m.mt w':=MT.below h hb
def MS (w:World) (a:Option Addr) (n cap:Nat) (ms:List Md):Prop:=
 ms.length=n∧n≤maxLen∧(n≠0→∃ b off,a=some ⟨b,off,none⟩∧∀ i,i<n→At8 w b (off+i * 8) (ms.getD i zMd))∧(∀ i,i<n→(ms.getD i zMd).mt w)∧n≤cap
theorem MS.below {w w':World} {a:Option Addr} {n cap:Nat} {ms:List Md} (h:MS w a n cap ms) (hb:Below w.heap.size w w'):MS w' a n cap ms:=by
 obtain ⟨h1,h2,h3,h4,h5⟩:=h
 refine ⟨h1,h2,fun hn=>?_,fun i hi=>Md.below (h4 i hi) hb,h5⟩
 obtain ⟨b,off,e,hc⟩:=h3 hn
 exact ⟨b,off,e,fun i hi=>(hc i hi).below hb⟩
theorem MS.at {w:World} {a:Option Addr} {n cap:Nat} {ms:List Md} (h:MS w a n cap ms) (i:Nat) (hi:i<n):∃ b off,a=some ⟨b,off,none⟩∧At8 w b (off+i * 8) (ms.getD i zMd):=by
 obtain ⟨b,off,e,hc⟩:=h.2.2.1 (by omega)
 exact ⟨b,off,e,hc i hi⟩
def set8 (w:World) (g o:Nat) (m:Md):World:=((((((((w.setCell ⟨g,o,none⟩ (.string m.nm)).setCell ⟨g,o+1,none⟩ (.slice m.ta m.tn m.tc)).setCell ⟨g,o+2,none⟩ (.slice m.ba m.bn m.bc)).setCell ⟨g,o+3,none⟩ (.slice m.da m.dn m.dc)).setCell ⟨g,o+4,none⟩ (.int .i64 m.bss)).setCell ⟨g,o+5,none⟩ (.slice m.ra m.rn m.rc)).setCell ⟨g,o+6,none⟩ (.slice m.ia m.im m.ic)).setCell ⟨g,o+7,none⟩ (.slice m.ea m.en m.ec))
theorem set8_other (w:World) (g o b o':Nat) (m:Md) (h:b≠g∨o'<o∨o+8≤o'):(set8 w g o m).cell? ⟨b,o',none⟩=w.cell? ⟨b,o',none⟩:=by
 unfold set8
 rw [cellO (by omega),cellO (by omega),cellO (by omega),cellO (by omega),cellO (by omega),cellO (by omega),cellO (by omega),cellO (by omega)]
theorem set8_at {w:World} {g o:Nat} {q:Md} (h:At8 w g o q) (m:Md):At8 (set8 w g o m) g o m:=by
 obtain ⟨h0,h1,h2,h3,h4,h5,h6,h7⟩:=h
 unfold set8
 refine ⟨?_,?_,?_,?_,?_,?_,?_,?_⟩
 ·rw [cellO (by omega),cellO (by omega),cellO (by omega),cellO (by omega),cellO (by omega),cellO (by omega),cellO (by omega)];exact cellS (u:=_) (by exact h0)
 ·rw [cellO (by omega),cellO (by omega),cellO (by omega),cellO (by omega),cellO (by omega),cellO (by omega)];exact cellS (u:=_) (by rw [cellO (by omega)];exact h1)
 ·rw [cellO (by omega),cellO (by omega),cellO (by omega),cellO (by omega),cellO (by omega)];exact cellS (u:=_) (by rw [cellO (by omega),cellO (by omega)];exact h2)
 ·rw [cellO (by omega),cellO (by omega),cellO (by omega),cellO (by omega)];exact cellS (u:=_) (by rw [cellO (by omega),cellO (by omega),cellO (by omega)];exact h3)
 ·rw [cellO (by omega),cellO (by omega),cellO (by omega)];exact cellS (u:=_) (by rw [cellO (by omega),cellO (by omega),cellO (by omega),cellO (by omega)];exact h4)
 ·rw [cellO (by omega),cellO (by omega)];exact cellS (u:=_) (by rw [cellO (by omega),cellO (by omega),cellO (by omega),cellO (by omega),cellO (by omega)];exact h5)
 ·rw [cellO (by omega)];exact cellS (u:=_) (by rw [cellO (by omega),cellO (by omega),cellO (by omega),cellO (by omega),cellO (by omega),cellO (by omega)];exact h6)
 ·exact cellS (u:=_) (by rw [cellO (by omega),cellO (by omega),cellO (by omega),cellO (by omega),cellO (by omega),cellO (by omega),cellO (by omega)];exact h7)
theorem set8_far {w:World} {g o b o':Nat} {q:Md} (h:At8 w b o' q) (m:Md) (hf:b≠g∨o'+8≤o∨o+8≤o'):At8 (set8 w g o m) b o' q:=by
 unfold At8
 rw [set8_other _ _ _ _ _ _ (by omega),set8_other _ _ _ _ _ _ (by omega),set8_other _ _ _ _ _ _ (by omega),set8_other _ _ _ _ _ _ (by omega),set8_other _ _ _ _ _ _ (by omega),set8_other _ _ _ _ _ _ (by omega),set8_other _ _ _ _ _ _ (by omega),set8_other _ _ _ _ _ _ (by omega)]
 exact h
theorem set8_blk {w:World} {g:Nat} {cur:Array Value} {t:TypeId} (h:Blk w g cur t) (o:Nat) (m:Md):∃ cur',Blk (set8 w g o m) g cur' t∧cur'.size=cur.size:=
 ⟨_,((((((((h.set (o) _).set (o+1) _).set (o+2) _).set (o+3) _).set (o+4) _).set (o+5) _).set (o+6) _).set (o+7) _),by simp⟩
theorem set8_turn (c:Nat) (w:World) (g o:Nat) (m:Md) (h:g≤c):Turn (fun j=>j≤c) w (set8 w g o m):=
 ((((((((turn_at c w g o _ h).trans (turn_at c _ g (o+1) _ h)).trans (turn_at c _ g (o+2) _ h)).trans (turn_at c _ g (o+3) _ h)).trans (turn_at c _ g (o+4) _ h)).trans (turn_at c _ g (o+5) _ h)).trans (turn_at c _ g (o+6) _ h)).trans (turn_at c _ g (o+7) _ h))
def CopyOf (c:Nat) (m m':Md) (W:World):Prop:=∃ g1 g2 g3 g5 g6 g7 gs,m'=⟨m.nm,some ⟨g1,0,none⟩,m.tn,m.tn,m.tz,some ⟨g2,0,none⟩,m.bn,m.bn,reb gs m.bl,some ⟨g3,0,none⟩,m.dn,m.dn,m.dz,m.bss,some ⟨g5,0,none⟩,m.rn,m.rn,m.rz,some ⟨g6,0,none⟩,m.im,m.im,m.ss,some ⟨g7,0,none⟩,m.en,m.en,m.es⟩∧c<g1∧g1<g2∧g2<g3∧g3<g5∧g5<g6∧g6<g7∧gs.length=m.bn∧RowI W g1 m.tz∧RowB W g2 m.bn gs m.bl∧Row8 W g3 m.dz∧RowI W g5 m.rz∧RowT W g6 m.ss∧RowX W g7 m.es
theorem copy_stab (c:Nat) (m m':Md):Stab c (CopyOf c m m'):=fun W W' t h=>by
 obtain ⟨g1,g2,g3,g5,g6,g7,gs,e,l1,l2,l3,l4,l5,l6,hg,r1,r2,r3,r5,r6,r7⟩:=h
 have key:RowB W' g2 m.bn gs m.bl:=by
  obtain ⟨⟨cur,h2,h3⟩,h4,h5⟩:=r2
  exact ⟨⟨cur,turn_blk t h2 (by show ¬ g2≤c;omega),h3⟩,fun i hi=>⟨turn_blk t (h4 i hi).1 (by show ¬ gs.getD i 0≤c;have:=(h4 i hi).2;omega),(h4 i hi).2⟩,h5⟩
 exact ⟨g1,g2,g3,g5,g6,g7,gs,e,l1,l2,l3,l4,l5,l6,hg,stab_i (by omega) W W' t r1,key,stab_8 (by omega) W W' t r3,stab_i (by omega) W W' t r5,stab_t (by omega) W W' t r6,stab_x (by omega) W W' t r7⟩
theorem copy_below {c:Nat} {m m':Md} {W W':World} (h:CopyOf c m m' W) (hb:Below W.heap.size W W'):CopyOf c m m' W':=copy_stab c m m' W W' (turn_below hb) h
theorem copy_mt {c:Nat} {m m':Md} {w W:World} (hm:m.mt w) (h:CopyOf c m m' W):m'.mt W:=by
 obtain ⟨g1,g2,g3,g5,g6,g7,gs,rfl,_,_,_,_,_,_,hg,r1,r2,r3,r5,r6,r7⟩:=h
 exact mt_of_rows hm hg r1 r2 r3 r5 r6 r7
def RowM (W:World) (c n:Nat) (ms ms':List Md):Prop:=
 (∃ cur,Blk W c cur 49∧cur.size=n * 8)∧(∀ i,i<n→∃ q,At8 W c (i * 8) q)∧∀ i,i<ms'.length→At8 W c (i * 8) (ms'.getD i zMd)∧CopyOf c (ms.getD i zMd) (ms'.getD i zMd) W
theorem RowM.below {W W':World} {c n:Nat} {ms ms':List Md} (h:RowM W c n ms ms') (hb:Below W.heap.size W W'):RowM W' c n ms ms':=by
 obtain ⟨⟨cur,hc,hs⟩,hq,hr⟩:=h
 exact ⟨⟨cur,hc.below hb,hs⟩,fun i hi=>by obtain ⟨q,h⟩:=hq i hi;exact ⟨q,h.below hb⟩,fun i hi=>⟨(hr i hi).1.below hb,copy_below (hr i hi).2 hb⟩⟩
theorem getM_lt (ms:List Md) (x:Md) (i:Nat) (h:i<ms.length):(ms++[x]).getD i zMd=ms.getD i zMd:=by
 simp [List.getD_eq_getElem?_getD,List.getElem?_append_left h]
theorem getM_last (ms:List Md) (x:Md):(ms++[x]).getD ms.length zMd=x:=by
 simp [List.getD_eq_getElem?_getD]
theorem RowM.push {W:World} {c n:Nat} {ms ms':List Md} (h:RowM W c n ms ms') (hk:ms'.length<n) (x:Md) (hx:CopyOf c (ms.getD ms'.length zMd) x W):RowM (set8 W c (ms'.length * 8) x) c n ms (ms'++[x]):=by
 obtain ⟨⟨cur,hc,hs⟩,hq,hr⟩:=h
 obtain ⟨cur',hc',hs'⟩:=set8_blk hc (ms'.length * 8) x
 have T:=set8_turn c W c (ms'.length * 8) x (Nat.le_refl _)
 refine ⟨⟨cur',hc',by rw [hs',hs]⟩,fun i hi=>?_,fun i hi=>?_⟩
 ·obtain ⟨q,h⟩:=hq i hi
  by_cases e:i=ms'.length
  ·subst e;exact ⟨x,set8_at h x⟩
  ·exact ⟨q,set8_far h x (by omega)⟩
 ·simp only [List.length_append,List.length_cons,List.length_nil] at hi
  by_cases e:i=ms'.length
  ·subst e
   rw [getM_last]
   obtain ⟨q,h⟩:=hq _ hk
   exact ⟨set8_at h x,copy_stab _ _ _ _ _ T hx⟩
  ·rw [getM_lt _ _ _ (by omega)]
   exact ⟨set8_far (hr i (by omega)).1 x (by omega),copy_stab _ _ _ _ _ T (hr i (by omega)).2⟩
end Go.Proofs.YtngdgogjlpjjpadGreat
namespace Go.Proofs.YtngdgogjlpjjpadGreat
open Go.RowKit Go.Maps
set_option linter.unusedVariables false
set_option linter.unusedSimpArgs false
set_option maxRecDepth 100000
theorem moduleName_any (m:Md) (w:World):Calls Tryz.prog 145 #[.agg m.cells] w fun e w'=>e=.returned (.string m.nm)∧Below w.heap.size w w':=by
 unfold Md.cells
 go_enter Tryz.func145,Tryz.ntmps145
 go_wp2
 go_ret
 exact ⟨rfl,(Below.refl _ _).alloc (Nat.le_refl _) _⟩
def mdNm (ms:List Md) (i:Nat):List UInt8:=(ms.getD i zMd).nm.data.toList
set_option maxHeartbeats 2000000 in
theorem firstOfM_any (a:Option Addr) (n cap:Nat) (ms:List Md) (w:World) (h:MS w a n cap ms) (hn:n≤1048576):
 Calls Tryz.prog 144 #[.slice a n cap,.func (.func 145) #[] #[]] w fun e w'=>e=.returned (.map (some w.heap.size))∧w'.ownsMap Tryz.prog 9 (plainElem Tryz.prog 3) w.heap.size n (fd (mdNm ms) n)∧Below w.heap.size w w':=by
 have hmm:=run_makeMap_room
 have hm1:=h.2.1
 unfold maxLen at hm1
 go_enter Tryz.func144,Tryz.ntmps144
 go_wp2
 go_loopw [16] (fun i wr=>∃ k:Nat,k≤n∧i=.int .i64 k∧wr.ownsMap Tryz.prog 9 (plainElem Tryz.prog 3) w.heap.size k (fd (mdNm ms) k)∧Below w.heap.size w wr) (fun i _=>n - (intOf i).toNat)
 case atStart=>exact ⟨0,Nat.zero_le _,rfl,World.ownsMap_made _ _ _ _,(Below.refl _ _).alloc (Nat.le_refl _) _⟩
 case round=>
  obtain ⟨k,hk,rfl,hown,hB⟩:=hrel
  by_cases hlt:k<n
  ·have hlt':(k:Int)<(n:Int):=by omega
   obtain ⟨bb,off,rfl,q0,q1,q2,q3,q4,q5,q6,q7⟩:=(h.below hB).at k hlt
   have hsz:=(h.2.2.2.1 k hlt).n
   have HX:=hide (fd_succ (mdNm ms) k)
   have hkl:mdNm ms k=(ms.getD k zMd).nm.data.toList:=rfl
   rw [hkl] at HX
   clear hkl
   generalize ms.getD k zMd=m at *
   obtain ⟨nm,ta,tn,tc,tz,ba,bn,bc,bl,da,dn,dc,dz,bss,ra,rn,rc,rz,ia,im,ic,ss,ea,en,ec,es⟩:=m
   dsimp only at q0 q1 q2 q3 q4 q5 q6 q7 hsz HX
   have HKEY:=hide (show keyOf Tryz.prog 9 (.string nm)=some (.string nm.data.toList) from Go.WideMaps.keyOf_string_mk Tryz.underlying9 hsz)
   have HMN:=hide (fun w=>moduleName_any ⟨nm,ta,tn,tc,tz,ba,bn,bc,bl,da,dn,dc,dz,bss,ra,rn,rc,rz,ia,im,ic,ss,ea,en,ec,es⟩ w)
   have hA:Below wr.heap.size wr (wr.alloc (.cells #[.string nm,.slice ta tn tc,.slice ba bn bc,.slice da dn dc,.int .i64 bss,.slice ra rn rc,.slice ia im ic,.slice ea en ec] 49)):=(Below.refl _ _).alloc (Nat.le_refl _) _
   go_wp2_with fail
   refine (HMN.out _).mono ?_
   rintro e w1 ⟨rfl,hb1⟩
   have hb1':=hA.trans (hb1.mono hA.size)
   have hB1:=hB.trans (hb1'.mono hB.size)
   have hown1:w1.ownsMap Tryz.prog 9 (plainElem Tryz.prog 3) w.heap.size k (fd (mdNm ms) k):=by
    obtain ⟨es',cl,hh,r⟩:=hown
    refine ⟨es',cl,?_,r⟩
    have hl:w.heap.size<wr.heap.size:=by
     rcases Nat.lt_or_ge w.heap.size wr.heap.size with h' | h'
     ·exact h'
     ·rw [Array.getElem?_eq_none h'] at hh;cases hh
    rw [hb1'.block _ hl]
    exact hh
   clear hown hA hb1 hb1' q0 q1 q2 q3 q4 q5 q6 q7
   cases hh:has (fd (mdNm ms) k) (.string nm.data.toList)
   ·rw [hh] at HX
    go_wp2_with (first
     | (at_lookup;refine wpList_lookup_own_ok_int _ rfl _ _ 183 rfl 9 3 .i64 lawS Tryz.underlying183 Tryz.underlying3 (zeroI _) w.heap.size k _ rfl hown1 _ _ rfl HKEY.out ?_;intro c hat hwc;clear hat;rw [hh])
     | (at_mapUpdate;refine wpList_mapUpdate_own _ rfl _ _ _ 183 rfl 9 3 lawS Tryz.underlying183 _ w.heap.size k _ rfl hown1 (by unfold maxLen;omega) _ _ _ rfl rfl HKEY.out _ [] (plainElem_int Tryz.underlying3 (WalkArith.wf_i64 (by omega))) ?_;intro w2 hown2 hgr2))
    have HO:=hide hown2
    have HB2:=hide (hB1.grown hgr2 hB1.size (fun j hj=>by cases hj;exact Nat.le_refl _))
    clear hown2 hgr2 hown1
    go_wp2
    go_roundw
    case rel=>exact ⟨k+1,by omega,by go_num,by have:=HO.out;rw [HX.out,if_neg (by simp)];exact this,HB2.out⟩
    case measure=>simp [intOf];omega
   ·rw [hh] at HX
    go_wp2_with (first
     | (at_lookup;refine wpList_lookup_own_ok_int _ rfl _ _ 183 rfl 9 3 .i64 lawS Tryz.underlying183 Tryz.underlying3 (zeroI _) w.heap.size k _ rfl hown1 _ _ rfl HKEY.out ?_;intro c hat hwc;clear hat;rw [hh]))
    have HO:=hide hown1
    clear hown1
    go_wp2
    go_roundw
    case rel=>exact ⟨k+1,by omega,by go_num,by have:=HO.out;rw [HX.out,if_pos trivial];exact this.mono (by omega),hB1⟩
    case measure=>simp [intOf];omega
  ·have e:Hid (k=n):=by show k=n;omega
   go_wp2
   go_ret
   exact ⟨rfl,by rw [e.out] at hown;exact hown,hB⟩
def tbf (n:Nat) (ms:List Md):Bool:=decide (n≤4) && (List.range n).all fun i=>decide ((ms.getD i zMd).en≤16)
set_option maxHeartbeats 1000000 in
theorem tablesFit_any (a:Option Addr) (n cap:Nat) (ms:List Md) (w:World) (h:MS w a n cap ms):
 Calls Tryz.prog 211 #[.slice a n cap] w fun e w'=>e=.returned (.bool (tbf n ms))∧Below w.heap.size w w':=by
 have hm1:=h.2.1
 unfold maxLen at hm1
 obtain ⟨r,hr⟩:∃ r,r=tbf n ms:=⟨_,rfl⟩
 rw [← hr]
 unfold tbf at hr
 by_cases c1:4<n
 ·have HR:=hide (show r=false by rw [hr,decide_eq_false (by omega)];rfl)
  clear hr
  have c1':(4:Int)<(n:Int):=by omega
  go_enter Tryz.func211,Tryz.ntmps211
  go_wp2
  go_ret
  exact ⟨ret_bool HR.out.symm,Below.refl _ _⟩
 ·have c1':¬ (4:Int)<(n:Int):=by omega
  have HR:=hide (show r=(List.range n).all (fun i=>decide ((ms.getD i zMd).en≤16)) by rw [hr,decide_eq_true (by omega)];rfl)
  clear hr
  go_enter Tryz.func211,Tryz.ntmps211
  go_wp2_with fail
  go_loopw [10] (fun i wr=>∃ k:Nat,k≤n∧i=.int .i64 k∧Hid (∀ j,j<k→decide ((ms.getD j zMd).en≤16)=true)∧Below w.heap.size w wr) (fun i _=>n - (intOf i).toNat)
  case atStart=>exact ⟨0,Nat.zero_le _,rfl,hide (fun j hj=>by omega),Below.refl _ _⟩
  case round=>
   obtain ⟨k,hk,rfl,HJ,hB⟩:=hrel
   by_cases hlt:k<n
   ·have hlt':(k:Int)<(n:Int):=by omega
    obtain ⟨bb,off,rfl,q0,q1,q2,q3,q4,q5,q6,q7⟩:=(h.below hB).at k hlt
    have HZ:=hide (rng_bad (fun i=>decide ((ms.getD i zMd).en≤16)) n k hlt)
    have HG:=hide (show decide ((ms.getD k zMd).en≤16)=true→∀ j,j<k+1→decide ((ms.getD j zMd).en≤16)=true from fun h j hj=>by
     by_cases e:j=k
     ·subst e;exact h
     ·exact HJ.out j (by omega))
    generalize ms.getD k zMd=m at *
    obtain ⟨nm,ta,tn,tc,tz,ba,bn,bc,bl,da,dn,dc,dz,bss,ra,rn,rc,rz,ia,im,ic,ss,ea,en,ec,es⟩:=m
    dsimp only at q0 q1 q2 q3 q4 q5 q6 q7 HZ HG
    have HB1:=hide (hB.alloc hB.size (.cells #[.string nm,.slice ta tn tc,.slice ba bn bc,.slice da dn dc,.int .i64 bss,.slice ra rn rc,.slice ia im ic,.slice ea en ec] 49))
    by_cases d:16<en
    ·have d':(16:Int)<(en:Int):=by omega
     go_wp2
     go_ret
     exact ⟨ret_bool (by rw [HR.out];exact (HZ.out (decide_eq_false (by omega))).symm),HB1.out⟩
    ·have d':¬ (16:Int)<(en:Int):=by omega
     go_wp2
     go_roundw
     case rel=>exact ⟨k+1,by omega,by go_num,hide (HG.out (decide_eq_true (by omega))),HB1.out⟩
     case measure=>simp [intOf];omega
   ·have HE:=hide (rng_good (fun i=>decide ((ms.getD i zMd).en≤16)) n (fun j hj=>HJ.out j (by omega)))
    go_wp2
    go_ret
    exact ⟨ret_bool (by rw [HR.out];exact HE.out.symm),hB⟩
def rsT (n:Nat) (ms:List Md) (s:ByteArray):Option (Nat × Nat):=
 if full s=true∧tbf n ms=true then (fst? (mdNm ms) (cutA s).data.toList n).bind fun i=>(fst? (exNm (ms.getD i zMd).es) (cutB s).data.toList (ms.getD i zMd).en).map fun k=>(i,k) else none
def rsv (n:Nat) (ms:List Md) (s:ByteArray):Value:=
 match rsT n ms s with
 | some (i,k)=>.tuple #[.agg #[.int .i64 i,.int .i64 ((ms.getD i zMd).es.getD k zE).2.1,.int .i64 ((ms.getD i zMd).es.getD k zE).2.2],.bool true]
 | none=>.tuple #[.agg #[.int .i64 0,.int .i64 0,.int .i64 0],.bool false]
end Go.Proofs.YtngdgogjlpjjpadGreat
