import Derived.Maps.OwnSet
import Derived.Test.YtngdgogjlpjjpadGreatP00
import Derived.Test.YtngdgogjlpjjpadGreatP02
namespace Go.Proofs.YtngdgogjlpjjpadGreat
open Go.RowKit
set_option linter.unusedVariables false
set_option linter.unusedSimpArgs false
set_option maxRecDepth 100000
abbrev Ex:=ByteArray × Int × Int
def zE:Ex:=(zS,0,0)
def ES (w:World) (a:Option Addr) (n cap:Nat) (es:List Ex):Prop:=
 es.length=n∧n≤maxLen∧(∀ e ∈ es,e.1.size≤1048576)∧(n≠0→∃ b off,a=some ⟨b,off,none⟩∧∀ i,i<n→w.cell? ⟨b,off+i * 3,none⟩=some (.string (es.getD i zE).1)∧w.cell? ⟨b,off+i * 3+1,none⟩=some (.int .i64 (es.getD i zE).2.1)∧w.cell? ⟨b,off+i * 3+2,none⟩=some (.int .i64 (es.getD i zE).2.2))∧n≤cap
theorem ES.below {w w':World} {a:Option Addr} {n cap:Nat} {es:List Ex} (h:ES w a n cap es) (hb:Below w.heap.size w w'):ES w' a n cap es:=by
 obtain ⟨h1,h2,h3,h4,h5⟩:=h
 refine ⟨h1,h2,h3,fun hn=>?_,h5⟩
 obtain ⟨b,off,e,hc⟩:=h4 hn
 have key:∀ o v,w.cell? ⟨b,o,none⟩=some v→w'.cell? ⟨b,o,none⟩=some v:=fun o v hv=>(hb.cell (World.block_lt_of_cell? w _ hv)).trans hv
 exact ⟨b,off,e,fun i hi=>⟨key _ _ (hc i hi).1,key _ _ (hc i hi).2.1,key _ _ (hc i hi).2.2⟩⟩
theorem ES.addr {w:World} {a:Option Addr} {n cap:Nat} {es:List Ex} (h:ES w a n cap es) (hn:n≠0):∃ b off,a=some ⟨b,off,none⟩:=by
 obtain ⟨b,off,e,_⟩:=h.2.2.2.1 hn
 exact ⟨b,off,e⟩
theorem ES.at {w:World} {b off n cap:Nat} {es:List Ex} (h:ES w (some ⟨b,off,none⟩) n cap es) (i:Nat) (hi:i<n):w.cell? ⟨b,off+i * 3,none⟩=some (.string (es.getD i zE).1)∧w.cell? ⟨b,off+i * 3+1,none⟩=some (.int .i64 (es.getD i zE).2.1)∧w.cell? ⟨b,off+i * 3+2,none⟩=some (.int .i64 (es.getD i zE).2.2):=by
 obtain ⟨b',off',e,hc⟩:=h.2.2.2.1 (by omega)
 simp at e
 obtain ⟨rfl,rfl⟩:=e
 exact hc i hi
theorem ES.size {w:World} {a:Option Addr} {n cap:Nat} {es:List Ex} (h:ES w a n cap es) (i:Nat):(es.getD i zE).1.size≤1048576:=by
 by_cases hi:i<es.length
 ·have:=h.2.2.1 es[i] (List.getElem_mem hi)
  simpa [List.getD_eq_getElem?_getD,hi] using this
 ·rw [List.getD_eq_getElem?_getD,List.getElem?_eq_none (Nat.le_of_not_lt hi)]
  exact (by decide:(zE).1.size≤1048576)
def ex1 (tn bn:Nat) (bl:List Bk) (x:Ex):Bool:=nmo x.1 && decide (0≤x.2.2∧x.2.2<pcn tn bn bl x.2.1)
def exn (es:List Ex) (i:Nat):Bool:=(List.range i).all fun k=>!((es.getD k zE).1.toList == (es.getD i zE).1.toList)
def exo (tn bn:Nat) (bl:List Bk) (n:Nat) (es:List Ex):Bool:=decide (n≤16) && (List.range n).all fun i=>ex1 tn bn bl (es.getD i zE) && exn es i
set_option maxHeartbeats 4000000 in
theorem l4ExportsOk_any (nm:ByteArray) (ta:Option Addr) (tn tc:Nat) (ba:Option Addr) (bn bc:Nat) (bl:List Bk) (v3 v5 v6:Value) (bss:Int) (ea:Option Addr) (n ec:Nat) (es:List Ex) (w:World) (htn:tn≤maxLen) (hb:BKS w ba bn bc bl) (h:ES w ea n ec es):
 Calls Tryz.prog 203 #[.agg #[.string nm,.slice ta tn tc,.slice ba bn bc,v3,.int .i64 bss,v5,v6,.slice ea n ec]] w fun e w'=>e=.returned (.bool (exo tn bn bl n es))∧Below w.heap.size w w':=by
 obtain ⟨W,hW⟩:∃ W,W=w.alloc (.cells #[.string nm,.slice ta tn tc,.slice ba bn bc,v3,.int .i64 bss,v5,v6,.slice ea n ec] 49):=⟨_,rfl⟩
 have hB0:Below w.heap.size w W:=by rw [hW];exact (Below.refl _ _).alloc (Nat.le_refl _) _
 have kb:Blk W w.heap.size #[.string nm,.slice ta tn tc,.slice ba bn bc,v3,.int .i64 bss,v5,v6,.slice ea n ec] 49:=by rw [hW];exact Blk.new _ _ _
 obtain ⟨q0,q1,q2,q3,q4,q5,q6,q7⟩:=kb.eight
 obtain ⟨r,hr⟩:∃ r,r=exo tn bn bl n es:=⟨_,rfl⟩
 rw [← hr]
 unfold exo at hr
 have hm1:=h.2.1
 unfold maxLen at hm1
 have HW:=hide hW
 clear hW
 by_cases c1:16<n
 ·have HR:=hide (show r=false by rw [hr,decide_eq_false (by omega)];rfl)
  clear hr
  have c1':(16:Int)<(n:Int):=by omega
  go_enter Tryz.func203,Tryz.ntmps203
  go_wp2_with (rw [← HW.out])
  go_ret
  exact ⟨ret_bool HR.out.symm,hB0⟩
 ·have c1':¬ (16:Int)<(n:Int):=by omega
  have HR:=hide (show r=(List.range n).all (fun i=>ex1 tn bn bl (es.getD i zE) && exn es i) by rw [hr,decide_eq_true (by omega)];rfl)
  clear hr
  go_enter Tryz.func203,Tryz.ntmps203
  go_wp2_with (rw [← HW.out])
  clear q0 q1 q2 q3 q4 q5 q6 q7
  go_loopw [3] (fun i wr=>∃ k:Nat,k≤n∧i=.int .i64 k∧Hid (∀ j,j<k→(ex1 tn bn bl (es.getD j zE) && exn es j)=true)∧Below w.heap.size w wr∧Blk wr w.heap.size #[.string nm,.slice ta tn tc,.slice ba bn bc,v3,.int .i64 bss,v5,v6,.slice ea n ec] 49) (fun i _=>n - (intOf i).toNat)
  case atStart=>exact ⟨0,Nat.zero_le _,rfl,hide (fun j hj=>by omega),hB0,kb⟩
  case round=>
   obtain ⟨k,hk,rfl,HJ,hB,kw⟩:=hrel
   clear kb hB0
   obtain ⟨q0,q1,q2,q3,q4,q5,q6,q7⟩:=kw.eight
   by_cases hlt:k<n
   ·have hlt':(k:Int)<(n:Int):=by omega
    obtain ⟨bb,off,rfl⟩:=h.addr (by omega)
    obtain ⟨y1,y2,y3⟩:=(h.below hB).at k hlt
    have HZ:=hide (rng_bad (fun i=>ex1 tn bn bl (es.getD i zE) && exn es i) n k hlt)
    have HG:=hide (show (ex1 tn bn bl (es.getD k zE) && exn es k)=true→∀ j,j<k+1→(ex1 tn bn bl (es.getD j zE) && exn es j)=true from fun h j hj=>by
     by_cases e:j=k
     ·subst e;exact h
     ·exact HJ.out j (by omega))
    have HN:=hide (fun w=>l4NameOk_any (es.getD k zE).1 w (h.size k))
    have HX:=hide (show exn es k=(List.range k).all (fun j=>!((es.getD j zE).1.toList == (es.getD k zE).1.toList)) from rfl)
    generalize es.getD k zE=E at *
    obtain ⟨en,eb,ei⟩:=E
    dsimp only at y1 y2 y3 HN HX
    have lkw:=kw.lt
    have hb1:=hb.below (hB.alloc hB.size (.cells #[.string en,.int .i64 eb,.int .i64 ei] 210))
    have HP:=hide (fun w h=>l4Piece_any nm ta tn tc ba bn bc bl v3 v5 v6 (.slice (some ⟨bb,off,none⟩) n ec) bss eb w htn h)
    have kE:=Blk.new wr #[.string en,.int .i64 eb,.int .i64 ei] 210
    have hA:Below wr.heap.size wr (wr.alloc (.cells #[.string en,.int .i64 eb,.int .i64 ei] 210)):=(Below.refl _ _).alloc (Nat.le_refl _) _
    go_wp2_with fail
    refine (HP.out _ hb1).mono ?_
    rintro e w1 ⟨pa,pn,px,ok,rfl,hok,hpn,hpm,hbp⟩
    have kE1:=kE.below hbp
    have kw1:=(kw.below hA).below hbp
    have hB1:=(hB.trans (hA.mono hB.size)).trans (hbp.mono (by have:=hB.size;simp;omega))
    clear kE kw hA hbp hb1 HP q0 q1 q2 q3 q4 q5 q6 q7 y1 y2 y3 hB
    unfold maxLen at hpm
    have HOK:=hide (And.intro hok hpn)
    clear hok hpn
    obtain ⟨z1,z2,z3,z4⟩:=kE1.three
    have HEX:=hide (show ex1 tn bn bl (en,eb,ei)=(nmo en && decide (0≤ei∧ei<pcn tn bn bl eb)) from rfl)
    cases hn:nmo en
    ·rw [hn] at HN
     go_wp2_with (go_at_call 199;refine (HN.out _).mono ?_;rintro e w2 ⟨rfl,rfl⟩)
     go_ret
     exact ⟨ret_bool (by rw [HR.out];exact (HZ.out (by rw [HEX.out,hn];rfl)).symm),hB1⟩
    ·rw [hn] at HN
     cases ok
     ·have hp:¬ 0≤pcn tn bn bl eb:=by have:=HOK.out.1;simpa using this.symm
      go_wp2_with (go_at_call 199;refine (HN.out _).mono ?_;rintro e w2 ⟨rfl,rfl⟩)
      go_ret
      exact ⟨ret_bool (by rw [HR.out];exact (HZ.out (by rw [HEX.out,decide_eq_false (by omega)];simp)).symm),hB1⟩
     ·have hp:(pn:Int)=pcn tn bn bl eb:=HOK.out.2 rfl
      have HPP:=hide hp
      clear hp
      by_cases d1:ei<0
      ·go_wp2_with (go_at_call 199;refine (HN.out _).mono ?_;rintro e w2 ⟨rfl,rfl⟩)
       go_ret
       exact ⟨ret_bool (by rw [HR.out];exact (HZ.out (by rw [HEX.out,decide_eq_false (by omega)];simp)).symm),hB1⟩
      ·by_cases d2:(pn:Int)≤ei
       ·go_wp2_with (go_at_call 199;refine (HN.out _).mono ?_;rintro e w2 ⟨rfl,rfl⟩)
        go_ret
        exact ⟨ret_bool (by rw [HR.out];exact (HZ.out (by rw [HEX.out,← HPP.out,decide_eq_false (by omega)];simp)).symm),hB1⟩
       ·have HE1:=hide (show ex1 tn bn bl (en,eb,ei)=true by rw [HEX.out,hn,← HPP.out,decide_eq_true (by omega)];rfl)
        go_wp2_with (go_at_call 199;refine (HN.out _).mono ?_;rintro e w2 ⟨rfl,rfl⟩)
        clear z1 z2 z3 z4
        go_loopw [7] (fun i wx=>∃ m:Nat,m≤k∧i=.int .i64 m∧Hid (∀ j,j<m→(!((es.getD j zE).1.toList == en.toList))=true)∧Below w.heap.size w wx∧Blk wx w.heap.size #[.string nm,.slice ta tn tc,.slice ba bn bc,v3,.int .i64 bss,v5,v6,.slice (some ⟨bb,off,none⟩) n ec] 49∧Blk wx wr.heap.size #[.string en,.int .i64 eb,.int .i64 ei] 210) (fun i _=>k - (intOf i).toNat)
        case atStart=>exact ⟨0,Nat.zero_le _,rfl,hide (fun j hj=>by omega),hB1,kw1,kE1⟩
        case round=>
         obtain ⟨m,hm,rfl,HM,hBx,kwx,kEx⟩:=hrel
         clear hB1 kw1 kE1
         obtain ⟨q0,q1,q2,q3,q4,q5,q6,q7⟩:=kwx.eight
         obtain ⟨z1,z2,z3,z4⟩:=kEx.three
         by_cases hmk:m<k
         ·have hmk':(m:Int)<(k:Int):=by omega
          have hmn':(m:Int)<(n:Int):=by omega
          obtain ⟨y1,y2,y3⟩:=(h.below hBx).at m (by omega)
          have HY:=hide (rng_bad (fun j=>!((es.getD j zE).1.toList == en.toList)) k m hmk)
          have HV:=hide (show (!((es.getD m zE).1.toList == en.toList))=true→∀ j,j<m+1→(!((es.getD j zE).1.toList == en.toList))=true from fun h j hj=>by
           by_cases e:j=m
           ·subst e;exact h
           ·exact HM.out j (by omega))
          generalize (es.getD m zE).1=sm at *
          cases hq:(sm.toList == en.toList)
          ·go_wp2_with fail
           go_quiet (fail)
           go_wp2
           go_roundw
           case rel=>exact ⟨m+1,by omega,by go_num,hide (HV.out (by rw [hq];rfl)),below_drewN hBx nq,kwx.below (below_drewN (Below.refl _ _) nq),kEx.below (below_drewN (Below.refl _ _) nq)⟩
           case measure=>simp [intOf];omega
          ·go_wp2_with fail
           go_quiet (fail)
           go_wp2
           go_ret
           exact ⟨ret_bool (by rw [HR.out];exact (HZ.out (by rw [HX.out,HY.out (by rw [hq];rfl)];simp)).symm),below_drewN hBx nq⟩
         ·have HXX:=hide (rng_good (fun j=>!((es.getD j zE).1.toList == en.toList)) k (fun j hj=>HM.out j (by omega)))
          go_wp2
          go_roundw
          case rel=>exact ⟨k+1,by omega,by go_num,hide (HG.out (by rw [HE1.out,HX.out,HXX.out];rfl)),hBx,kwx⟩
          case measure=>simp [intOf];omega
   ·have HE:=hide (rng_good (fun i=>ex1 tn bn bl (es.getD i zE) && exn es i) n (fun j hj=>HJ.out j (by omega)))
    go_wp2
    go_ret
    exact ⟨ret_bool (by rw [HR.out];exact HE.out.symm),hB⟩
structure MD (w:World) (nm:ByteArray) (ta:Option Addr) (tn tc:Nat) (tz:List Int) (ba:Option Addr) (bn bc:Nat) (bl:List Bk) (da:Option Addr) (dn dc:Nat) (dz:List Int) (bss:Int) (ra:Option Addr) (rn rc:Nat) (rz:List Int) (ia:Option Addr) (im ic:Nat) (ss:List ByteArray) (ea:Option Addr) (en ec:Nat) (es:List Ex):Prop where
 n:nm.size≤1048576
 t:IS w ta tn tc tz
 b:BKS w ba bn bc bl
 d:BS w da dn dc dz
 s:wfi bss
 r:IS w ra rn rc rz
 i:SS w ia im ic ss
 e:ES w ea en ec es
theorem MD.below {w w':World} {nm:ByteArray} {ta:Option Addr} {tn tc:Nat} {tz:List Int} {ba:Option Addr} {bn bc:Nat} {bl:List Bk} {da:Option Addr} {dn dc:Nat} {dz:List Int} {bss:Int} {ra:Option Addr} {rn rc:Nat} {rz:List Int} {ia:Option Addr} {im ic:Nat} {ss:List ByteArray} {ea:Option Addr} {en ec:Nat} {es:List Ex}
 (h:MD w nm ta tn tc tz ba bn bc bl da dn dc dz bss ra rn rc rz ia im ic ss ea en ec es) (hb:Below w.heap.size w w'):MD w' nm ta tn tc tz ba bn bc bl da dn dc dz bss ra rn rc rz ia im ic ss ea en ec es:=
 ⟨h.n,h.t.below hb,h.b.below hb,h.d.below hb,h.s,h.r.below hb,h.i.below hb,h.e.below hb⟩
def mdo (nm:ByteArray) (tn:Nat) (tz:List Int) (bn:Nat) (bl:List Bk) (dn:Nat) (bss:Int) (rn:Nat) (rz:List Int) (im:Nat) (ss:List ByteArray) (en:Nat) (es:List Ex):Int:=
 if nmo nm=false then 1 else if cdo tn tz bn bl=false then 2 else if 512<dn∨bss<0∨512<bss then 3 else if rlo rn rz dn=false then 4 else if imo im ss=false then 5 else if exo tn bn bl en es=false then 6 else 0
set_option maxHeartbeats 4000000 in
theorem sModuleOk_any (nm:ByteArray) (ta:Option Addr) (tn tc:Nat) (tz:List Int) (ba:Option Addr) (bn bc:Nat) (bl:List Bk) (da:Option Addr) (dn dc:Nat) (dz:List Int) (bss:Int) (ra:Option Addr) (rn rc:Nat) (rz:List Int) (ia:Option Addr) (im ic:Nat) (ss:List ByteArray) (ea:Option Addr) (en ec:Nat) (es:List Ex) (w:World)
 (h:MD w nm ta tn tc tz ba bn bc bl da dn dc dz bss ra rn rc rz ia im ic ss ea en ec es):
 Calls Tryz.prog 140 #[.agg #[.string nm,.slice ta tn tc,.slice ba bn bc,.slice da dn dc,.int .i64 bss,.slice ra rn rc,.slice ia im ic,.slice ea en ec]] w fun e w'=>e=.returned (.int .i64 (mdo nm tn tz bn bl dn bss rn rz im ss en es))∧Below w.heap.size w w':=by
 obtain ⟨W,hW⟩:∃ W,W=w.alloc (.cells #[.string nm,.slice ta tn tc,.slice ba bn bc,.slice da dn dc,.int .i64 bss,.slice ra rn rc,.slice ia im ic,.slice ea en ec] 49):=⟨_,rfl⟩
 have hB0:Below w.heap.size w W:=by rw [hW];exact (Below.refl _ _).alloc (Nat.le_refl _) _
 have kb:Blk W w.heap.size #[.string nm,.slice ta tn tc,.slice ba bn bc,.slice da dn dc,.int .i64 bss,.slice ra rn rc,.slice ia im ic,.slice ea en ec] 49:=by rw [hW];exact Blk.new _ _ _
 obtain ⟨r,hr⟩:∃ r,r=mdo nm tn tz bn bl dn bss rn rz im ss en es:=⟨_,rfl⟩
 rw [← hr]
 unfold mdo at hr
 have HRR:=hide hr
 clear hr
 have H0:=h.below hB0
 have hmd:=h.d.2.1
 have hmi:=h.i.2.1
 have htn:=h.t.2.1
 have HN:=hide (fun w=>l4NameOk_any nm w h.n)
 have HCd:=hide (fun w ht hb=>l4CodeOk_any nm ta tn tc tz ba bn bc bl (.slice da dn dc) (.slice ra rn rc) (.slice ia im ic) (.slice ea en ec) bss w ht hb)
 have HRl:=hide (fun w h=>l4RelocsOk_any nm (.slice ta tn tc) (.slice ba bn bc) da dn dc bss ra rn rc rz (.slice ia im ic) (.slice ea en ec) w hmd h)
 have HEx:=hide (fun w hb h=>l4ExportsOk_any nm ta tn tc ba bn bc bl (.slice da dn dc) (.slice ra rn rc) (.slice ia im ic) bss ea en ec es w htn hb h)
 unfold maxLen at hmd hmi
 have hsz:=h.i.size
 have HFU:=hide (fun k w=>l4FullOk_any (ss.getD k zS) w (hsz k))
 obtain ⟨s0,s1⟩:=h.s
 clear h hsz htn
 have HW:=hide hW
 clear hW
 generalize nmo nm=a1 at *
 generalize cdo tn tz bn bl=a2 at *
 generalize rlo rn rz dn=a4 at *
 generalize exo tn bn bl en es=a6 at *
 obtain ⟨q0,q1,q2,q3,q4,q5,q6,q7⟩:=kb.eight
 go_enter Tryz.func140,Tryz.ntmps140
 go_wp2_with (first | (rw [← HW.out]) | (go_at_call 199;refine (HN.out _).mono ?_;rintro e w1 ⟨rfl,rfl⟩;cases a1))
 ·have e:=hide (show r=1 from by rw [HRR.out];simp)
  go_ret
  exact ⟨ret_int e.out.symm,hB0⟩
 ·refine (HCd.out _ H0.t H0.b).mono ?_
  rintro e w2 ⟨rfl,hb2⟩
  have kb2:=kb.below hb2
  have H2:=H0.below hb2
  have hB2:=hB0.trans (hb2.mono hB0.size)
  clear hb2 kb H0 hB0 q0 q1 q2 q3 q4 q5 q6 q7
  obtain ⟨q0,q1,q2,q3,q4,q5,q6,q7⟩:=kb2.eight
  cases a2
  ·have e:=hide (show r=2 from by rw [HRR.out];simp)
   go_wp2
   go_ret
   exact ⟨ret_int e.out.symm,hB2⟩
  ·by_cases c1:512<dn
   ·have e:=hide (show r=3 from by rw [HRR.out];simp [c1])
    have c1':(512:Int)<(dn:Int):=by omega
    go_wp2
    go_ret
    exact ⟨ret_int e.out.symm,hB2⟩
   ·have c1':¬ (512:Int)<(dn:Int):=by omega
    by_cases c2:bss<0
    ·have e:=hide (show r=3 from by rw [HRR.out];simp [c2])
     go_wp2
     go_ret
     exact ⟨ret_int e.out.symm,hB2⟩
    ·by_cases c3:512<bss
     ·have e:=hide (show r=3 from by rw [HRR.out];simp [c3])
      go_wp2
      go_ret
      exact ⟨ret_int e.out.symm,hB2⟩
     ·have HR2:=hide (show r=if a4=false then 4 else if imo im ss=false then 5 else if a6=false then 6 else 0 from by
       rw [HRR.out]
       simp only [Bool.true_eq_false,if_false,show ¬ (512<dn∨bss<0∨512<bss) by omega])
      clear HRR
      go_wp2_with fail
      refine (HRl.out _ H2.r).mono ?_
      rintro e w3 ⟨rfl,hb3⟩
      have kb3:=kb2.below hb3
      have H3:=H2.below hb3
      have hB3:=hB2.trans (hb3.mono hB2.size)
      clear hb3 kb2 H2 hB2 q0 q1 q2 q3 q4 q5 q6 q7
      obtain ⟨q0,q1,q2,q3,q4,q5,q6,q7⟩:=kb3.eight
      cases a4
      ·have e:=hide (show r=4 from by rw [HR2.out];simp)
       go_wp2
       go_ret
       exact ⟨ret_int e.out.symm,hB3⟩
      ·by_cases d1:16<im
       ·have e:=hide (show r=5 from by rw [HR2.out,show imo im ss=false by unfold imo;rw [decide_eq_false (by omega)];rfl];simp)
        have d1':(16:Int)<(im:Int):=by omega
        go_wp2
        go_ret
        exact ⟨ret_int e.out.symm,hB3⟩
       ·have d1':¬ (16:Int)<(im:Int):=by omega
        have HIM:=hide (show imo im ss=(List.range im).all (fun k=>full (ss.getD k zS)) from by unfold imo;rw [decide_eq_true (by omega)];rfl)
        go_wp2_with fail
        go_loop [3] (fun i=>∃ k:Nat,k≤im∧i=.int .i64 k∧Hid (∀ j,j<k→full (ss.getD j zS)=true)) (fun i=>im - (intOf i).toNat)
        case atStart=>exact ⟨0,Nat.zero_le _,rfl,hide (fun j hj=>by omega)⟩
        case round=>
         obtain ⟨k,hk,rfl,HJ⟩:=hrel
         by_cases hlt:k<im
         ·have hlt':(k:Int)<(im:Int):=by omega
          obtain ⟨bb,off,rfl⟩:=H3.i.addr (by omega)
          have hck:=H3.i.at k hlt
          have HZ:=hide (rng_bad (fun k=>full (ss.getD k zS)) im k hlt)
          have HG:=hide (show full (ss.getD k zS)=true→∀ j,j<k+1→full (ss.getD j zS)=true from fun h j hj=>by
           by_cases e:j=k
           ·subst e;exact h
           ·exact HJ.out j (by omega))
          have HF:=hide (HFU.out k)
          generalize ss.getD k zS=s at *
          cases hf:full s
          ·rw [hf] at HF
           have e:=hide (show r=5 from by rw [HR2.out,HIM.out,HZ.out hf];simp)
           go_wp2_with (go_at_call 202;refine (HF.out _).mono ?_;rintro e w4 ⟨rfl,rfl⟩)
           go_ret
           exact ⟨ret_int e.out.symm,hB3⟩
          ·rw [hf] at HF
           go_wp2_with (go_at_call 202;refine (HF.out _).mono ?_;rintro e w4 ⟨rfl,rfl⟩)
           go_round
           case rel=>exact ⟨k+1,by omega,by go_num,hide (HG.out hf)⟩
           case measure=>simp [intOf];omega
         ·have HI:=hide (show imo im ss=true from by rw [HIM.out];exact rng_good (fun k=>full (ss.getD k zS)) im (fun j hj=>HJ.out j (by omega)))
          go_wp2_with fail
          refine (HEx.out _ H3.b H3.e).mono ?_
          rintro e w5 ⟨rfl,hb5⟩
          have hB5:=hB3.trans (hb5.mono hB3.size)
          cases a6
          ·have e:=hide (show r=6 from by rw [HR2.out,HI.out];simp)
           go_wp2
           go_ret
           exact ⟨ret_int e.out.symm,hB5⟩
          ·have e:=hide (show r=0 from by rw [HR2.out,HI.out];simp)
           go_wp2
           go_ret
           exact ⟨ret_int e.out.symm,hB5⟩
def upS (f:Nat→Nat):Nat→Nat
 | 0=>0
 | k+1=>upS f k+f k
theorem upS_mono (f:Nat→Nat) (k:Nat):∀ m,k≤m→upS f k≤upS f m
 | 0,h=>by
    obtain rfl:k=0:=by omega
    exact Nat.le_refl _
 | m+1,h=>by
   by_cases e:k=m+1
   ·subst e;exact Nat.le_refl _
   ·have:=upS_mono f k m (by omega)
    show _≤upS f m+f m
    omega
def TS (w:World) (a:Option Addr) (n cap:Nat) (ss:List ByteArray):Prop:=
 ss.length=n∧n≤maxLen∧(∀ i,(ss.getD i zS).size≤maxLen)∧(n≠0→∃ b off,a=some ⟨b,off,none⟩∧∀ i,i<n→w.cell? ⟨b,off+i,none⟩=some (.string (ss.getD i zS)))∧n≤cap
theorem TS.below {w w':World} {a:Option Addr} {n cap:Nat} {ss:List ByteArray} (h:TS w a n cap ss) (hb:Below w.heap.size w w'):TS w' a n cap ss:=by
 obtain ⟨h1,h2,h3,h4,h5⟩:=h
 refine ⟨h1,h2,h3,fun hn=>?_,h5⟩
 obtain ⟨b,off,e,hc⟩:=h4 hn
 exact ⟨b,off,e,fun i hi=>(hb.cell (World.block_lt_of_cell? w _ (hc i hi))).trans (hc i hi)⟩
theorem TS.at {w:World} {a:Option Addr} {n cap:Nat} {ss:List ByteArray} (h:TS w a n cap ss) (i:Nat) (hi:i<n):∃ b off,a=some ⟨b,off,none⟩∧w.cell? ⟨b,off+i,none⟩=some (.string (ss.getD i zS)):=by
 obtain ⟨b,off,e,hc⟩:=h.2.2.2.1 (by omega)
 exact ⟨b,off,e,hc i hi⟩
theorem TS.ss {w:World} {a:Option Addr} {n cap:Nat} {ss:List ByteArray} (h:TS w a n cap ss) (hs:upS (fun j=>(ss.getD j zS).size) n≤1048576):SS w a n cap ss:=by
 refine ⟨h.1,h.2.1,fun s hm=>?_,h.2.2.2.1,h.2.2.2.2⟩
 obtain ⟨i,hi,rfl⟩:=List.getElem_of_mem hm
 have h1:=upS_mono (fun j=>(ss.getD j zS).size) (i+1) n (by have:=h.1;omega)
 have h2:upS (fun j=>(ss.getD j zS).size) (i+1)=upS (fun j=>(ss.getD j zS).size) i+(ss.getD i zS).size:=rfl
 have h3:(ss.getD i zS).size=ss[i].size:=by simp [List.getD_eq_getElem?_getD,hi]
 omega
def TE (w:World) (a:Option Addr) (n cap:Nat) (es:List Ex):Prop:=
 es.length=n∧n≤maxLen∧(∀ i,(es.getD i zE).1.size≤maxLen)∧(n≠0→∃ b off,a=some ⟨b,off,none⟩∧∀ i,i<n→w.cell? ⟨b,off+i * 3,none⟩=some (.string (es.getD i zE).1)∧w.cell? ⟨b,off+i * 3+1,none⟩=some (.int .i64 (es.getD i zE).2.1)∧w.cell? ⟨b,off+i * 3+2,none⟩=some (.int .i64 (es.getD i zE).2.2))∧n≤cap
theorem TE.below {w w':World} {a:Option Addr} {n cap:Nat} {es:List Ex} (h:TE w a n cap es) (hb:Below w.heap.size w w'):TE w' a n cap es:=by
 obtain ⟨h1,h2,h3,h4,h5⟩:=h
 refine ⟨h1,h2,h3,fun hn=>?_,h5⟩
 obtain ⟨b,off,e,hc⟩:=h4 hn
 have key:∀ o v,w.cell? ⟨b,o,none⟩=some v→w'.cell? ⟨b,o,none⟩=some v:=fun o v hv=>(hb.cell (World.block_lt_of_cell? w _ hv)).trans hv
 exact ⟨b,off,e,fun i hi=>⟨key _ _ (hc i hi).1,key _ _ (hc i hi).2.1,key _ _ (hc i hi).2.2⟩⟩
theorem TE.at {w:World} {a:Option Addr} {n cap:Nat} {es:List Ex} (h:TE w a n cap es) (i:Nat) (hi:i<n):∃ b off,a=some ⟨b,off,none⟩∧w.cell? ⟨b,off+i * 3,none⟩=some (.string (es.getD i zE).1)∧w.cell? ⟨b,off+i * 3+1,none⟩=some (.int .i64 (es.getD i zE).2.1)∧w.cell? ⟨b,off+i * 3+2,none⟩=some (.int .i64 (es.getD i zE).2.2):=by
 obtain ⟨b,off,e,hc⟩:=h.2.2.2.1 (by omega)
 exact ⟨b,off,e,hc i hi⟩
theorem TE.es {w:World} {a:Option Addr} {n cap:Nat} {es:List Ex} (h:TE w a n cap es) (hs:upS (fun j=>(es.getD j zE).1.size) n≤1048576):ES w a n cap es:=by
 refine ⟨h.1,h.2.1,fun s hm=>?_,h.2.2.2.1,h.2.2.2.2⟩
 obtain ⟨i,hi,rfl⟩:=List.getElem_of_mem hm
 have h1:=upS_mono (fun j=>(es.getD j zE).1.size) (i+1) n (by have:=h.1;omega)
 have h2:upS (fun j=>(es.getD j zE).1.size) (i+1)=upS (fun j=>(es.getD j zE).1.size) i+(es.getD i zE).1.size:=rfl
 have h3:(es.getD i zE).1.size=es[i].1.size:=by simp [List.getD_eq_getElem?_getD,hi]
 omega
structure MT (w:World) (nm:ByteArray) (ta:Option Addr) (tn tc:Nat) (tz:List Int) (ba:Option Addr) (bn bc:Nat) (bl:List Bk) (da:Option Addr) (dn dc:Nat) (dz:List Int) (bss:Int) (ra:Option Addr) (rn rc:Nat) (rz:List Int) (ia:Option Addr) (im ic:Nat) (ss:List ByteArray) (ea:Option Addr) (en ec:Nat) (es:List Ex):Prop where
 n:nm.size≤maxLen
 t:IS w ta tn tc tz
 b:BKS w ba bn bc bl
 d:BS w da dn dc dz
 s:wfi bss
 r:IS w ra rn rc rz
 i:TS w ia im ic ss
 e:TE w ea en ec es
theorem MT.below {w w':World} {nm:ByteArray} {ta:Option Addr} {tn tc:Nat} {tz:List Int} {ba:Option Addr} {bn bc:Nat} {bl:List Bk} {da:Option Addr} {dn dc:Nat} {dz:List Int} {bss:Int} {ra:Option Addr} {rn rc:Nat} {rz:List Int} {ia:Option Addr} {im ic:Nat} {ss:List ByteArray} {ea:Option Addr} {en ec:Nat} {es:List Ex} (h:MT w nm ta tn tc tz ba bn bc bl da dn dc dz bss ra rn rc rz ia im ic ss ea en ec es) (hb:Below w.heap.size w w'):MT w' nm ta tn tc tz ba bn bc bl da dn dc dz bss ra rn rc rz ia im ic ss ea en ec es:=
 ⟨h.n,h.t.below hb,h.b.below hb,h.d.below hb,h.s,h.r.below hb,h.i.below hb,h.e.below hb⟩
def mdSize (nm:ByteArray) (tn bn:Nat) (bl:List Bk) (dn rn im:Nat) (ss:List ByteArray) (en:Nat) (es:List Ex):Nat:=
 nm.size+tn+(bn+upS (fun j=>(bl.getD j zB).2.1) bn)+dn+rn+(im+upS (fun j=>(ss.getD j zS).size) im)+(en+upS (fun j=>(es.getD j zE).1.size) en)
def RowT (w:World) (g:Nat) (zs:List ByteArray):Prop:=w.heap[g]?=some (.cells (zs.map (Value.string)).toArray 9 (0,0))
theorem RowT.cell {w:World} {g:Nat} {zs:List ByteArray} (h:RowT w g zs) (i:Nat) (hi:i<zs.length):w.cell? ⟨g,i,none⟩=some (.string (zs.getD i zS)):=by
 rw [cell_of_row w g i _ _ _ h];simp [List.getD_eq_getElem?_getD,hi]
theorem RowT.frozen {w:World} {g:Nat} {zs:List ByteArray} (h:RowT w g zs) (i:Nat):w.frozen? ⟨g,i,none⟩=false:=frozen_of_row w g i _ _ h
theorem RowT.set {w:World} {g:Nat} {zs:List ByteArray} (h:RowT w g zs) (i:Nat) (z:ByteArray):RowT (w.setCell ⟨g,i,none⟩ (.string z)) g (zs.set i z):=by
 unfold RowT at *
 rw [heap_setCell_same w g i _ _ _ h]
 simp [List.map_set]
theorem RowT.lt {w:World} {g:Nat} {zs:List ByteArray} (h:RowT w g zs):g<w.heap.size:=by
 unfold RowT at h
 by_cases hg:g<w.heap.size
 ·exact hg
 ·simp [Array.getElem?_eq_none (Nat.le_of_not_lt hg)] at h
theorem RowT.below {w w':World} {g:Nat} {zs:List ByteArray} (h:RowT w g zs) (hb:Below w.heap.size w w'):RowT w' g zs:=by
 have:=hb.block g h.lt
 unfold RowT at *
 rw [this];exact h
theorem infoT:(Tryz.prog.info? 9).map (fun i=>(i.zero,i.size,i.bytes))=some (some (.string ⟨#[]⟩),1,16):=by kernel_rfl
def RowB (w:World) (g n:Nat) (gs:List Nat) (bl:List Bk):Prop:=
 (∃ cur,Blk w g cur 29∧cur.size=n∧∀ i,i<gs.length→cur[i]?=some (.slice (some ⟨gs.getD i 0,0,none⟩) (bl.getD i zB).2.1 (bl.getD i zB).2.1))∧(∀ i,i<gs.length→RowI w (gs.getD i 0) (bl.getD i zB).2.2.2∧g<gs.getD i 0)∧(∀ i j,i<j→j<gs.length→gs.getD i 0<gs.getD j 0)
theorem RowB.below {w w':World} {g n:Nat} {gs:List Nat} {bl:List Bk} (h:RowB w g n gs bl) (hb:Below w.heap.size w w'):RowB w' g n gs bl:=by
 obtain ⟨⟨cur,h1,h2,h3⟩,h4,h5⟩:=h
 exact ⟨⟨cur,h1.below hb,h2,h3⟩,fun i hi=>⟨(h4 i hi).1.below hb,(h4 i hi).2⟩,h5⟩
theorem RowB.cell {w:World} {g n:Nat} {gs:List Nat} {bl:List Bk} (h:RowB w g n gs bl) (k:Nat) (hk:k<n):∃ v,w.cell? ⟨g,k,none⟩=some v:=by
 obtain ⟨⟨cur,h1,h2,h3⟩,h4,h5⟩:=h
 refine ⟨cur[k],?_⟩
 rw [h1.cell]
 simp [h2,hk]
theorem RowB.frozen {w:World} {g n:Nat} {gs:List Nat} {bl:List Bk} (h:RowB w g n gs bl) (k:Nat):w.frozen? ⟨g,k,none⟩=false:=by
 obtain ⟨⟨cur,h1,h2,h3⟩,h4,h5⟩:=h
 exact h1.frozen k
theorem getD_snoc_lt (gs:List Nat) (x i:Nat) (h:i<gs.length):(gs++[x]).getD i 0=gs.getD i 0:=by
 simp [List.getD_eq_getElem?_getD,List.getElem?_append_left h]
theorem getD_snoc (gs:List Nat) (x:Nat):(gs++[x]).getD gs.length 0=x:=by
 simp [List.getD_eq_getElem?_getD]
theorem RowB.push {w:World} {g n x:Nat} {gs:List Nat} {bl:List Bk} (h:RowB w g n gs bl) (hk:gs.length<n) (hr:RowI w x (bl.getD gs.length zB).2.2.2) (hx:g<x) (hi:∀ i,i<gs.length→gs.getD i 0<x):
 RowB (w.setCell ⟨g,gs.length,none⟩ (.slice (some ⟨x,0,none⟩) (bl.getD gs.length zB).2.1 (bl.getD gs.length zB).2.1)) g n (gs++[x]) bl:=by
 obtain ⟨⟨cur,h1,h2,h3⟩,h4,h5⟩:=h
 have key:∀ y zs,RowI w y zs→g≠y→RowI (w.setCell ⟨g,gs.length,none⟩ (.slice (some ⟨x,0,none⟩) (bl.getD gs.length zB).2.1 (bl.getD gs.length zB).2.1)) y zs:=fun y zs hy hne=>by
  unfold RowI at *
  rw [heap_setCell_other _ _ _ _ (by dsimp only;omega)]
  exact hy
 refine ⟨⟨_,h1.set gs.length _,by simp [h2],fun i hi'=>?_⟩,fun i hi'=>?_,fun i j hij hj=>?_⟩
 ·simp only [List.length_append,List.length_cons,List.length_nil] at hi'
  by_cases e:i=gs.length
  ·subst e
   rw [getD_snoc]
   simp [h2,hk]
  ·rw [getD_snoc_lt _ _ _ (by omega),← h3 i (by omega)]
   rw [Array.getElem?_setIfInBounds_ne (by omega)]
 ·simp only [List.length_append,List.length_cons,List.length_nil] at hi'
  by_cases e:i=gs.length
  ·subst e
   rw [getD_snoc]
   exact ⟨key _ _ hr (by omega),hx⟩
  ·rw [getD_snoc_lt _ _ _ (by omega)]
   exact ⟨key _ _ (h4 i (by omega)).1 (by have:=(h4 i (by omega)).2;omega),(h4 i (by omega)).2⟩
 ·simp only [List.length_append,List.length_cons,List.length_nil] at hj
  by_cases e:j=gs.length
  ·subst e
   rw [getD_snoc,getD_snoc_lt _ _ _ hij]
   exact hi i hij
  ·rw [getD_snoc_lt _ _ _ (by omega),getD_snoc_lt _ _ _ (by omega)]
   exact h5 i j hij (by omega)
def reb (gs:List Nat) (bl:List Bk):List Bk:=(List.range bl.length).map fun i=>(some ⟨gs.getD i 0,0,none⟩,(bl.getD i zB).2.1,(bl.getD i zB).2.1,(bl.getD i zB).2.2.2)
theorem reb_len (gs:List Nat) (bl:List Bk):(reb gs bl).length=bl.length:=by simp [reb]
theorem reb_at (gs:List Nat) (bl:List Bk) (i:Nat) (hi:i<bl.length):(reb gs bl).getD i zB=(some ⟨gs.getD i 0,0,none⟩,(bl.getD i zB).2.1,(bl.getD i zB).2.1,(bl.getD i zB).2.2.2):=by
 simp [reb,List.getD_eq_getElem?_getD,hi]
theorem RowB.bks {w w0:World} {g n cap:Nat} {a:Option Addr} {gs:List Nat} {bl:List Bk} (h:RowB w g n gs bl) (hb:BKS w0 a n cap bl) (hg:gs.length=n):BKS w (some ⟨g,0,none⟩) n n (reb gs bl):=by
 obtain ⟨b1,b2,b3,b4,b5⟩:=hb
 obtain ⟨⟨cur,h1,h2,h3⟩,h4,h5⟩:=h
 refine ⟨by rw [reb_len,b1],b2,fun _=>⟨g,0,rfl,fun i hi=>?_⟩,fun i hi=>?_,Nat.le_refl _⟩
 ·rw [reb_at _ _ _ (by omega),Nat.zero_add,h1.cell]
  exact h3 i (by omega)
 ·rw [reb_at _ _ _ (by omega)]
  obtain ⟨c1,c2,c3,c4,c5⟩:=b4 i hi
  have hr:=(h4 i (by omega)).1
  exact ⟨c1,c2,c3,fun _=>⟨gs.getD i 0,0,rfl,fun j hj=>by rw [Nat.zero_add];exact hr.cell j (by rw [c1];exact hj)⟩,Nat.le_refl _⟩
theorem reb_bko (gs:List Nat) (bl:List Bk):(reb gs bl).all bko=bl.all bko:=by
 have key:∀ i,i<bl.length→bko ((reb gs bl).getD i zB)=bko (bl.getD i zB):=fun i hi=>by rw [reb_at _ _ _ hi];rfl
 cases h:bl.all bko
 ·obtain ⟨x,hx,hb⟩:=List.all_eq_false.1 h
  obtain ⟨i,hi,rfl⟩:=List.getElem_of_mem hx
  exact all_bad _ i (by rw [reb_len];exact hi) (by rw [key i hi];simpa [List.getD_eq_getElem?_getD,hi] using hb)
 ·refine all_good _ fun j hj=>?_
  rw [reb_len] at hj
  rw [key j hj]
  have:=List.all_eq_true.1 h _ (List.getElem_mem hj)
  simpa [List.getD_eq_getElem?_getD,hj] using this
theorem reb_cdo (gs:List Nat) (tn:Nat) (tz:List Int) (bn:Nat) (bl:List Bk):cdo tn tz bn (reb gs bl)=cdo tn tz bn bl:=by unfold cdo;rw [reb_bko]
theorem reb_pcn (gs:List Nat) (tn bn:Nat) (bl:List Bk) (b:Int) (h:bl.length=bn):pcn tn bn (reb gs bl) b=pcn tn bn bl b:=by
 unfold pcn
 split
 ·rfl
 ·split
  ·rename_i h1 h2
   rw [reb_at _ _ _ (by omega)]
  ·rfl
theorem reb_exo (gs:List Nat) (tn bn:Nat) (bl:List Bk) (n:Nat) (es:List Ex) (h:bl.length=bn):exo tn bn (reb gs bl) n es=exo tn bn bl n es:=by
 unfold exo ex1
 congr 2
 funext i
 rw [reb_pcn _ _ _ _ _ h]
theorem reb_mdo (gs:List Nat) (nm:ByteArray) (tn:Nat) (tz:List Int) (bn:Nat) (bl:List Bk) (dn:Nat) (bss:Int) (rn:Nat) (rz:List Int) (im:Nat) (ss:List ByteArray) (en:Nat) (es:List Ex) (h:bl.length=bn):
 mdo nm tn tz bn (reb gs bl) dn bss rn rz im ss en es=mdo nm tn tz bn bl dn bss rn rz im ss en es:=by
 unfold mdo
 rw [reb_cdo,reb_exo _ _ _ _ _ _ h]
theorem infoB:(Tryz.prog.info? 29).map (fun i=>(i.zero,i.size,i.bytes))=some (some (.slice none 0 0),1,24):=by kernel_rfl
theorem cellO {w:World} {g o o' b:Nat} {v:Value} (h:b≠g∨o'≠o):(w.setCell ⟨g,o,none⟩ v).cell? ⟨b,o',none⟩=w.cell? ⟨b,o',none⟩:=
 World.cell?_setCell_other _ _ _ _ (by intro e;injection e;rcases h with h | h <;> simp_all)
theorem cellS {w:World} {g o:Nat} {u v:Value} (h:w.cell? ⟨g,o,none⟩=some u):(w.setCell ⟨g,o,none⟩ v).cell? ⟨g,o,none⟩=some v:=World.cell?_setCell_same _ _ _ h
def At3 (w:World) (g o:Nat) (x:Ex):Prop:=w.cell? ⟨g,o,none⟩=some (.string x.1)∧w.cell? ⟨g,o+1,none⟩=some (.int .i64 x.2.1)∧w.cell? ⟨g,o+2,none⟩=some (.int .i64 x.2.2)
def set3 (w:World) (g o:Nat) (x:Ex):World:=((w.setCell ⟨g,o,none⟩ (.string x.1)).setCell ⟨g,o+1,none⟩ (.int .i64 x.2.1)).setCell ⟨g,o+2,none⟩ (.int .i64 x.2.2)
theorem set3_other (w:World) (g o b o':Nat) (r:Ex) (h:b≠g∨o'<o∨o+3≤o'):(set3 w g o r).cell? ⟨b,o',none⟩=w.cell? ⟨b,o',none⟩:=by
 unfold set3
 rw [cellO (by omega),cellO (by omega),cellO (by omega)]
theorem set3_at {w:World} {g o:Nat} {q:Ex} (h:At3 w g o q) (r:Ex):At3 (set3 w g o r) g o r:=by
 obtain ⟨h1,h2,h3⟩:=h
 unfold set3
 refine ⟨?_,?_,?_⟩
 ·rw [cellO (by omega),cellO (by omega)];exact cellS h1
 ·rw [cellO (by omega)];exact cellS (by rw [cellO (by omega)];exact h2)
 ·exact cellS (by rw [cellO (by omega),cellO (by omega)];exact h3)
theorem set3_far {w:World} {g o b o':Nat} {q:Ex} (h:At3 w b o' q) (r:Ex) (hf:b≠g∨o'+3≤o∨o+3≤o'):At3 (set3 w g o r) b o' q:=by
 unfold At3
 rw [set3_other _ _ _ _ _ _ (by omega),set3_other _ _ _ _ _ _ (by omega),set3_other _ _ _ _ _ _ (by omega)]
 exact h
theorem set3_blk {w:World} {g:Nat} {cur:Array Value} {t:TypeId} (h:Blk w g cur t) (o:Nat) (r:Ex):∃ cur',Blk (set3 w g o r) g cur' t∧cur'.size=cur.size:=
 ⟨_,(((h.set o _).set (o+1) _).set (o+2) _),by simp⟩
theorem At3.below {w w':World} {g o:Nat} {x:Ex} (h:At3 w g o x) (hb:Below w.heap.size w w'):At3 w' g o x:=by
 have key:∀ o v,w.cell? ⟨g,o,none⟩=some v→w'.cell? ⟨g,o,none⟩=some v:=fun o v hv=>(hb.cell (World.block_lt_of_cell? w _ hv)).trans hv
 exact ⟨key _ _ h.1,key _ _ h.2.1,key _ _ h.2.2⟩
def RowX (w:World) (g:Nat) (es:List Ex):Prop:=
 (∃ cur,Blk w g cur 210∧cur.size=es.length * 3)∧∀ i,i<es.length→At3 w g (i * 3) (es.getD i zE)
theorem RowX.lt {w:World} {g:Nat} {es:List Ex} (h:RowX w g es):g<w.heap.size:=by obtain ⟨⟨cur,hb,_⟩,_⟩:=h;exact hb.lt
theorem RowX.below {w w':World} {g:Nat} {es:List Ex} (h:RowX w g es) (hb:Below w.heap.size w w'):RowX w' g es:=by
 obtain ⟨⟨cur,hc,hs⟩,hr⟩:=h
 exact ⟨⟨cur,hc.below hb,hs⟩,fun i hi=>(hr i hi).below hb⟩
theorem RowX.frozen {w:World} {g:Nat} {es:List Ex} (h:RowX w g es) (i:Nat):w.frozen? ⟨g,i,none⟩=false:=by obtain ⟨⟨cur,hb,_⟩,_⟩:=h;exact hb.frozen i
theorem RowX.set {w:World} {g:Nat} {es:List Ex} (h:RowX w g es) (i:Nat) (hi:i<es.length) (r:Ex):RowX (set3 w g (i * 3) r) g (es.set i r):=by
 obtain ⟨⟨cur,hc,hs⟩,hr⟩:=h
 obtain ⟨cur',hc',hs'⟩:=set3_blk hc (i * 3) r
 refine ⟨⟨cur',hc',by rw [hs',hs,List.length_set]⟩,fun j hj=>?_⟩
 rw [List.length_set] at hj
 by_cases e:i=j
 ·subst e
  have:(es.set i r).getD i zE=r:=by simp [List.getD_eq_getElem?_getD,hi]
  rw [this]
  exact set3_at (hr i hi) r
 ·have:(es.set i r).getD j zE=es.getD j zE:=by simp [List.getD_eq_getElem?_getD,e]
  rw [this]
  exact set3_far (hr j hj) r (by omega)
theorem RowX.te {w w0:World} {g n cap:Nat} {a:Option Addr} {es:List Ex} (h:RowX w g es) (k:TE w0 a n cap es):TE w (some ⟨g,0,none⟩) n n es:=by
 obtain ⟨h1,h2,h3,h4,h5⟩:=k
 exact ⟨h1,h2,h3,fun _=>⟨g,0,rfl,fun i hi=>by rw [Nat.zero_add];exact h.2 i (by omega)⟩,Nat.le_refl _⟩
theorem infoX:(Tryz.prog.info? 210).map (fun i=>(i.zero,i.size,i.bytes))=some (some (.agg #[.string ⟨#[]⟩,.int .i64 0,.int .i64 0]),3,32):=by kernel_rfl
theorem turn_at (c:Nat) (w:World) (r i:Nat) (v:Value) (h:r≤c):Turn (fun j=>j≤c) w (w.setCell ⟨r,i,none⟩ v):=⟨rfl,rfl,rfl,by rw [size_setCell];exact Nat.le_refl _,fun j hj hn=>heap_setCell_other _ _ _ _ (fun e=>hn (by dsimp only at e;omega))⟩
def Stab (c:Nat) (R:World→Prop):Prop:=∀ W W',Turn (fun j=>j≤c) W W'→R W→R W'
theorem stab_i {c g:Nat} {zs:List Int} (h:c<g):Stab c (fun W=>RowI W g zs):=fun W W' t r=>turn_blk t r (by show ¬ g≤c;omega)
theorem stab_8 {c g:Nat} {zs:List Int} (h:c<g):Stab c (fun W=>Row8 W g zs):=fun W W' t r=>turn_blk t r (by show ¬ g≤c;omega)
theorem stab_t {c g:Nat} {zs:List ByteArray} (h:c<g):Stab c (fun W=>RowT W g zs):=fun W W' t r=>turn_blk t r (by show ¬ g≤c;omega)
theorem stab_x {c g:Nat} {es:List Ex} (h:c<g):Stab c (fun W=>RowX W g es):=fun W W' t r=>by
 obtain ⟨⟨cur,h2,h3⟩,h4⟩:=r
 have e:W'.heap[g]?=W.heap[g]?:=t.block g h2.lt (by show ¬ g≤c;omega)
 have key:∀ o,W'.cell? ⟨g,o,none⟩=W.cell? ⟨g,o,none⟩:=fun o=>World.cell?_of_block (w:=W) e
 refine ⟨⟨cur,turn_blk t h2 (by show ¬ g≤c;omega),h3⟩,fun i hi=>?_⟩
 obtain ⟨y1,y2,y3⟩:=h4 i hi
 exact ⟨(key _).trans y1,(key _).trans y2,(key _).trans y3⟩
theorem Stab.and {c:Nat} {R S:World→Prop} (h:Stab c R) (k:Stab c S):Stab c (fun W=>R W∧S W):=fun W W' t r=>⟨h W W' t r.1,k W W' t r.2⟩
structure TM (w W:World) (arg cs:Array Value) (R:World→Prop):Prop where
 kb:Blk W w.heap.size arg 164
 kr:Blk W (w.heap.size+1) #[.string ⟨#[]⟩,.slice none 0 0,.slice none 0 0,.slice none 0 0,.int .i64 0,.slice none 0 0,.slice none 0 0,.slice none 0 0] 49
 ko:Blk W (w.heap.size+1+1) cs 49
 hB:Below w.heap.size w W
 rows:R W
 st:Stab (w.heap.size+1+1) R
theorem TM.below {w W W':World} {arg cs:Array Value} {R:World→Prop} (h:TM w W arg cs R) (hb:Below W.heap.size W W'):TM w W' arg cs R:=
 ⟨h.kb.below hb,h.kr.below hb,h.ko.below hb,h.hB.trans (hb.mono h.hB.size),h.st _ _ (turn_below hb) h.rows,h.st⟩
theorem TM.set {w W:World} {arg cs:Array Value} {R:World→Prop} (h:TM w W arg cs R) (i:Nat) (v:Value):TM w (W.setCell ⟨w.heap.size+1+1,i,none⟩ v) arg (cs.setIfInBounds i v) R:=
 ⟨h.kb.other _ _ (by dsimp only;omega),h.kr.other _ _ (by dsimp only;omega),h.ko.set i v,h.hB.setCell (by dsimp only;omega) _,h.st _ _ (turn_at _ _ _ _ _ (Nat.le_refl _)) h.rows,h.st⟩
theorem TM.add {w W:World} {arg cs:Array Value} {R S:World→Prop} (h:TM w W arg cs R) (r:S W) (s:Stab (w.heap.size+1+1) S):TM w W arg cs (fun W=>R W∧S W):=
 ⟨h.kb,h.kr,h.ko,h.hB,⟨h.rows,r⟩,h.st.and s⟩
end Go.Proofs.YtngdgogjlpjjpadGreat
namespace Go.Proofs.YtngdgogjlpjjpadGreat
open Go Go.Maps Go.WideShapes
set_option linter.unusedSimpArgs false
def fd (f:Nat→List UInt8):Nat→DataW Unit
 | 0=>.map []
 | k+1=>if has (fd f k) (.string (f k)) then fd f k else (fd f k).put (.string (f k)) (.lit (.int .i64 k))
theorem fd_succ (f:Nat→List UInt8) (k:Nat):fd f (k+1)=if has (fd f k) (.string (f k)) then fd f k else (fd f k).put (.string (f k)) (.lit (.int .i64 k)):=rfl
theorem key_str (s:List UInt8):WideAt.IsKeyLit (.string s):=by simp [WideAt.IsKeyLit]
theorem fd_tidy (f:Nat→List UInt8):∀ k,Tidy (fd f k)
 | 0=>tidy_empty
 | k+1=>by
   rw [fd_succ]
   split
   ·exact fd_tidy f k
   ·exact (fd_tidy f k).put (key_str _) _
theorem fd_has (f:Nat→List UInt8) (s:List UInt8):∀ k,has (fd f k) (.string s)=(List.range k).any (fun j=>f j == s)
 | 0=>rfl
 | k+1=>by
   rw [List.range_succ,List.any_append,← fd_has f s k]
   rw [fd_succ]
   by_cases e:f k=s
   ·subst e
    split
    ·rename_i h;rw [h];rfl
    ·rw [has_put_same (fd_tidy f k).isMap (key_str _)];simp
   ·have e':(Lit.string s)≠.string (f k):=by intro h;injection h with h;exact e h.symm
    split
    ·simp [e]
    ·rw [has_put_other e'];simp [e]
theorem fd_size_le (f:Nat→List UInt8):∀ k,size (fd f k)≤k
 | 0=>Nat.le_refl _
 | k+1=>by
   have:=fd_size_le f k
   rw [fd_succ]
   split
   ·omega
   ·rename_i h
    rw [size_put (fd_tidy f k),if_neg h]
    omega
theorem fd_size (f:Nat→List UInt8):∀ k,decide (size (fd f k)=k)=(List.range k).all (fun i=>(List.range i).all fun j=>!(f j == f i))
 | 0=>rfl
 | k+1=>by
   have h1:=fd_size_le f k
   rw [List.range_succ,List.all_append,← fd_size f k]
   have hh:=fd_has f (f k) k
   have e:(List.range k).all (fun j=>!(f j == f k))=!(has (fd f k) (.string (f k))):=by rw [hh];induction List.range k with | nil=>rfl | cons a l ih=>simp [ih]
   simp only [List.all_cons,List.all_nil,Bool.and_true,e]
   rw [fd_succ]
   cases hb:has (fd f k) (.string (f k))
   ·rw [if_neg (by simp),size_put (fd_tidy f k),hb,if_neg (by simp)]
    simp
   ·rw [if_pos rfl]
    simp
    omega
def fst? (f:Nat→List UInt8) (s:List UInt8):Nat→Option Nat
 | 0=>none
 | k+1=>match fst? f s k with | some j=>some j | none=>if f k=s then some k else none
theorem fst_succ (f:Nat→List UInt8) (s:List UInt8) (k:Nat):fst? f s (k+1)=match fst? f s k with | some j=>some j | none=>if f k=s then some k else none:=rfl
theorem fst_has (f:Nat→List UInt8) (s:List UInt8):∀ k,(fst? f s k).isSome=has (fd f k) (.string s)
 | 0=>rfl
 | k+1=>by
   rw [fd_has,List.range_succ,List.any_append,← fd_has,← fst_has f s k]
   rw [fst_succ]
   cases fst? f s k with
   | some j=>simp
   | none=>by_cases e:f k=s <;> simp [e]
theorem fd_at (f:Nat→List UInt8) (s:List UInt8) (z:DataW Unit):∀ k,(fd f k).atKey (.string s) z=match fst? f s k with | some j=>.lit (.int .i64 j) | none=>z
 | 0=>rfl
 | k+1=>by
   have ih:=fd_at f s z k
   have hh:=fst_has f s k
   rw [fst_succ,fd_succ]
   by_cases e:f k=s
   ·subst e
    cases hf:fst? f (f k) k with
    | some j=>rw [hf] at hh ih;simp only [Option.isSome_some] at hh;rw [if_pos hh.symm];simpa using ih
    | none=>rw [hf] at hh;simp only [Option.isSome_none] at hh;rw [if_neg (by rw [← hh];simp),atKey_put_same (fd_tidy f k).isMap (key_str _)];simp
   ·have e':(Lit.string s)≠.string (f k):=by intro h;injection h with h;exact e h.symm
    split <;> (cases hf:fst? f s k with
     | some j=>rw [hf] at ih;simpa [atKey_put_other e'] using ih
     | none=>rw [hf] at ih;simpa [atKey_put_other e',e] using ih)
end Go.Proofs.YtngdgogjlpjjpadGreat
namespace Go.Proofs.YtngdgogjlpjjpadGreat
open Go.RowKit Go.Maps
set_option linter.unusedVariables false
set_option linter.unusedSimpArgs false
set_option maxRecDepth 100000
theorem lawS:Keyed Tryz.prog 9:=string_keyed Tryz.underlying9
theorem zeroI (w:World):(zeroValue 3).run Tryz.prog w=.ok (.int .i64 0) w:=by kernel_rfl
theorem exportName_any (s:ByteArray) (b i:Int) (w:World):
 Calls Tryz.prog 213 #[.agg #[.string s,.int .i64 b,.int .i64 i]] w fun e w'=>e=.returned (.string s)∧Below w.heap.size w w':=by
 go_enter Tryz.func213,Tryz.ntmps213
 go_wp2
 go_ret
 exact ⟨rfl,(Below.refl _ _).alloc (Nat.le_refl _) _⟩
theorem run_makeMap_room (x:Int) (w:World):(Instr.makeMap 183 (some (.int .i64 x))).run Tryz.prog w=.ok (.map (some w.heap.size)) (w.alloc (.map #[] 0)):=by
 simp [Instr.makeMap,asInt,asIntOf,run_underlying Tryz.underlying183,Result.andThen]
def exNm (es:List Ex) (i:Nat):List UInt8:=(es.getD i zE).1.data.toList
set_option maxHeartbeats 2000000 in
theorem firstOfE_any (ea:Option Addr) (n ec:Nat) (es:List Ex) (w:World) (h:ES w ea n ec es) (hn:n≤1048576):
 Calls Tryz.prog 212 #[.slice ea n ec,.func (.func 213) #[] #[]] w fun e w'=>e=.returned (.map (some w.heap.size))∧w'.ownsMap Tryz.prog 9 (plainElem Tryz.prog 3) w.heap.size n (fd (exNm es) n)∧Below w.heap.size w w':=by
 have hmm:=run_makeMap_room
 have hm1:=h.2.1
 unfold maxLen at hm1
 go_enter Tryz.func212,Tryz.ntmps212
 go_wp2
 go_loopw [16] (fun i wr=>∃ k:Nat,k≤n∧i=.int .i64 k∧wr.ownsMap Tryz.prog 9 (plainElem Tryz.prog 3) w.heap.size k (fd (exNm es) k)∧Below w.heap.size w wr) (fun i _=>n - (intOf i).toNat)
 case atStart=>exact ⟨0,Nat.zero_le _,rfl,World.ownsMap_made _ _ _ _,(Below.refl _ _).alloc (Nat.le_refl _) _⟩
 case round=>
  obtain ⟨k,hk,rfl,hown,hB⟩:=hrel
  by_cases hlt:k<n
  ·have hlt':(k:Int)<(n:Int):=by omega
   obtain ⟨bb,off,rfl⟩:=h.addr (by omega)
   obtain ⟨y1,y2,y3⟩:=(h.below hB).at k hlt
   have hsz:=h.size k
   have HX:=hide (fd_succ (exNm es) k)
   have hkl:exNm es k=(es.getD k zE).1.data.toList:=rfl
   rw [hkl] at HX
   clear hkl
   generalize es.getD k zE=E at *
   obtain ⟨en,eb,ei⟩:=E
   dsimp only at y1 y2 y3 hsz HX
   have hkey:keyOf Tryz.prog 9 (.string en)=some (.string en.data.toList):=Go.WideMaps.keyOf_string_mk Tryz.underlying9 (by unfold maxLen;omega)
   have HKEY:=hide hkey
   clear hkey
   have hA:Below wr.heap.size wr (wr.alloc (.cells #[.string en,.int .i64 eb,.int .i64 ei] 210)):=(Below.refl _ _).alloc (Nat.le_refl _) _
   go_wp2_with fail
   refine (exportName_any en eb ei _).mono ?_
   rintro e w1 ⟨rfl,hb1⟩
   have hb1':=hA.trans (hb1.mono hA.size)
   have hB1:=hB.trans (hb1'.mono hB.size)
   have hown1:w1.ownsMap Tryz.prog 9 (plainElem Tryz.prog 3) w.heap.size k (fd (exNm es) k):=by
    obtain ⟨es',cl,hh,r⟩:=hown
    refine ⟨es',cl,?_,r⟩
    have hl:w.heap.size<wr.heap.size:=by
     rcases Nat.lt_or_ge w.heap.size wr.heap.size with h' | h'
     ·exact h'
     ·rw [Array.getElem?_eq_none h'] at hh;cases hh
    rw [hb1'.block _ hl]
    exact hh
   clear hown hA hb1 hb1' y1 y2 y3
   cases hh:has (fd (exNm es) k) (.string en.data.toList)
   ·rw [hh] at HX
    go_wp2_with (first
     | (at_lookup;refine wpList_lookup_own_ok_int _ rfl _ _ 183 rfl 9 3 .i64 lawS Tryz.underlying183 Tryz.underlying3 (zeroI _) w.heap.size k _ rfl hown1 _ _ rfl HKEY.out ?_;intro c hat hwc;clear hat;rw [hh])
     | (at_mapUpdate;refine wpList_mapUpdate_own _ rfl _ _ _ 183 rfl 9 3 lawS Tryz.underlying183 _ w.heap.size k _ rfl hown1 (by unfold maxLen;omega) _ _ _ rfl rfl HKEY.out _ [] (plainElem_int Tryz.underlying3 (WalkArith.wf_i64 (by omega))) ?_;intro w2 hown2 hgr2))
    have HO:=hide hown2
    have HB2:=hide (hB1.grown hgr2 hB1.size (fun j hj=>by cases hj;exact Nat.le_refl _))
    clear hown2 hgr2 hown1
    go_wp2
    go_roundw
    case rel=>exact ⟨k+1,by omega,by go_num,by have:=HO.out;rw [HX.out,if_neg (by simp)];exact this,HB2.out⟩
    case measure=>simp [intOf];omega
   ·rw [hh] at HX
    go_wp2_with (first
     | (at_lookup;refine wpList_lookup_own_ok_int _ rfl _ _ 183 rfl 9 3 .i64 lawS Tryz.underlying183 Tryz.underlying3 (zeroI _) w.heap.size k _ rfl hown1 _ _ rfl HKEY.out ?_;intro c hat hwc;clear hat;rw [hh]))
    have HO:=hide hown1
    clear hown1
    go_wp2
    go_roundw
    case rel=>exact ⟨k+1,by omega,by go_num,by have:=HO.out;rw [HX.out,if_pos trivial];exact this.mono (by omega),hB1⟩
    case measure=>simp [intOf];omega
  ·have e:Hid (k=n):=by show k=n;omega
   go_wp2
   go_ret
   exact ⟨rfl,by rw [e.out] at hown;exact hown,hB⟩
end Go.Proofs.YtngdgogjlpjjpadGreat
