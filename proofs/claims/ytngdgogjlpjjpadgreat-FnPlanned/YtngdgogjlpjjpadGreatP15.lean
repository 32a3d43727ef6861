import Derived.Test.YtngdgogjlpjjpadGreatP00
import Derived.Test.YtngdgogjlpjjpadGreatP01
import Derived.Test.YtngdgogjlpjjpadGreatP03
import Derived.Test.YtngdgogjlpjjpadGreatP07
import Derived.Test.YtngdgogjlpjjpadGreatP10
import Derived.Test.YtngdgogjlpjjpadGreatP11
import Derived.Test.YtngdgogjlpjjpadGreatP13
import Derived.Test.YtngdgogjlpjjpadGreatP14
namespace Go.Proofs.YtngdgogjlpjjpadGreat
open Go.RowKit
set_option linter.unusedVariables false
set_option linter.unusedSimpArgs false
set_option maxRecDepth 100000
set_option maxHeartbeats 4000000 in
theorem iModuleOk_any (nm:ByteArray) (ta:Option Addr) (tn tc:Nat) (tz:List Int) (ba:Option Addr) (bn bc:Nat) (bl:List Bk) (da:Option Addr) (dn dc:Nat) (dz:List Int) (bss:Int) (ra:Option Addr) (rn rc:Nat) (rz:List Int) (ia:Option Addr) (im ic:Nat) (ss:List ByteArray) (ea:Option Addr) (en ec:Nat) (es:List Ex) (w:World)
 (h:MD w nm ta tn tc tz ba bn bc bl da dn dc dz bss ra rn rc rz ia im ic ss ea en ec es):
 Calls Tryz.prog 143 #[.agg #[.string nm,.slice ta tn tc,.slice ba bn bc,.slice da dn dc,.int .i64 bss,.slice ra rn rc,.slice ia im ic,.slice ea en ec]] w fun e w'=>e=.returned (.int .i64 (mdo nm tn tz bn bl dn bss rn rz im ss en es))∧Below w.heap.size w w':=by
 obtain ⟨W,hW⟩:∃ W,W=w.alloc (.cells #[.string nm,.slice ta tn tc,.slice ba bn bc,.slice da dn dc,.int .i64 bss,.slice ra rn rc,.slice ia im ic,.slice ea en ec] 49):=⟨_,rfl⟩
 have hB0:Below w.heap.size w W:=by rw [hW];exact (Below.refl _ _).alloc (Nat.le_refl _) _
 have kb:Blk W w.heap.size #[.string nm,.slice ta tn tc,.slice ba bn bc,.slice da dn dc,.int .i64 bss,.slice ra rn rc,.slice ia im ic,.slice ea en ec] 49:=by rw [hW];exact Blk.new _ _ _
 obtain ⟨r,hr⟩:∃ r,r=mdo nm tn tz bn bl dn bss rn rz im ss en es:=⟨_,rfl⟩
 rw [← hr]
 unfold mdo at hr
 have HRR:=hide hr
 clear hr
 have H0:=h.below hB0
 have hmd:=h.d.2.1
 have htn:=h.t.2.1
 have HN:=hide (fun w=>isName_any nm w h.n)
 have HCd:=hide (fun w ht hb=>codeOk_any nm ta tn tc tz ba bn bc bl (.slice da dn dc) (.slice ra rn rc) (.slice ia im ic) (.slice ea en ec) bss w ht hb)
 have HRl:=hide (fun w h=>relocsOk_any nm (.slice ta tn tc) (.slice ba bn bc) da dn dc bss ra rn rc rz (.slice ia im ic) (.slice ea en ec) w hmd h)
 have HIm:=hide (fun w h=>importsOk_any nm (.slice ta tn tc) (.slice ba bn bc) (.slice da dn dc) (.slice ra rn rc) (.slice ea en ec) bss ia im ic ss w h)
 have HEx:=hide (fun w hb h=>exportsOk_any nm ta tn tc ba bn bc bl (.slice da dn dc) (.slice ra rn rc) (.slice ia im ic) bss ea en ec es w htn hb h)
 have HU:=hide (fun w=>isUpTo_any bss 512 w)
 unfold maxLen at hmd
 obtain ⟨s0,s1⟩:=h.s
 clear h htn
 have HW:=hide hW
 clear hW
 generalize nmo nm=a1 at *
 generalize cdo tn tz bn bl=a2 at *
 generalize rlo rn rz dn=a4 at *
 generalize imo im ss=a5 at *
 generalize exo tn bn bl en es=a6 at *
 obtain ⟨q0,q1,q2,q3,q4,q5,q6,q7⟩:=kb.eight
 go_enter Tryz.func143,Tryz.ntmps143
 go_wp2_with (first | (rw [← HW.out]) | (go_at_call 205;refine (HN.out _).mono ?_;rintro e w1 ⟨rfl,rfl⟩;cases a1))
 ·have e:=hide (show r=1 from by rw [HRR.out];simp)
  go_ret
  exact ⟨ret_int e.out.symm,hB0⟩
 ·refine (HCd.out _ H0.t H0.b).mono ?_
  rintro e w2 ⟨rfl,hb2⟩
  have kb2:=kb.below hb2
  have H2:=H0.below hb2
  have hB2:=hB0.trans (hb2.mono hB0.size)
  clear hb2 kb H0 hB0 q0 q1 q2 q3 q4 q5 q6 q7
  obtain ⟨q0,q1,q2,q3,q4,q5,q6,q7⟩:=kb2.eight
  cases a2
  ·have e:=hide (show r=2 from by rw [HRR.out];simp)
   go_wp2
   go_ret
   exact ⟨ret_int e.out.symm,hB2⟩
  ·by_cases c1:512<dn
   ·have e:=hide (show r=3 from by rw [HRR.out];simp [c1])
    have c1':(512:Int)<(dn:Int):=by omega
    go_wp2
    go_ret
    exact ⟨ret_int e.out.symm,hB2⟩
   ·have c1':¬ (512:Int)<(dn:Int):=by omega
    by_cases c2:0≤bss∧bss≤512
    ·have HR2:=hide (show r=if a4=false then 4 else if a5=false then 5 else if a6=false then 6 else 0 from by
      rw [HRR.out]
      simp only [Bool.true_eq_false,if_false,show ¬ (512<dn∨bss<0∨512<bss) by omega])
     clear HRR
     rw [decide_eq_true c2] at HU
     go_wp2_with (go_at_call 63;refine (HU.out _).mono ?_;rintro e w1 ⟨rfl,rfl⟩)
     refine (HRl.out _ H2.r).mono ?_
     rintro e w3 ⟨rfl,hb3⟩
     have kb3:=kb2.below hb3
     have H3:=H2.below hb3
     have hB3:=hB2.trans (hb3.mono hB2.size)
     clear hb3 kb2 H2 hB2 q0 q1 q2 q3 q4 q5 q6 q7
     obtain ⟨q0,q1,q2,q3,q4,q5,q6,q7⟩:=kb3.eight
     cases a4
     ·have e:=hide (show r=4 from by rw [HR2.out];simp)
      go_wp2
      go_ret
      exact ⟨ret_int e.out.symm,hB3⟩
     ·go_wp2_with fail
      refine (HIm.out _ H3.i).mono ?_
      rintro e w4 ⟨rfl,hb4⟩
      have kb4:=kb3.below hb4
      have H4:=H3.below hb4
      have hB4:=hB3.trans (hb4.mono hB3.size)
      clear hb4 kb3 H3 hB3 q0 q1 q2 q3 q4 q5 q6 q7
      obtain ⟨q0,q1,q2,q3,q4,q5,q6,q7⟩:=kb4.eight
      cases a5
      ·have e:=hide (show r=5 from by rw [HR2.out];simp)
       go_wp2
       go_ret
       exact ⟨ret_int e.out.symm,hB4⟩
      ·go_wp2_with fail
       refine (HEx.out _ H4.b H4.e).mono ?_
       rintro e w5 ⟨rfl,hb5⟩
       have hB5:=hB4.trans (hb5.mono hB4.size)
       clear hb5 H4 hB4 kb4
       cases a6
       ·have e:=hide (show r=6 from by rw [HR2.out];simp)
        go_wp2
        go_ret
        exact ⟨ret_int e.out.symm,hB5⟩
       ·have e:=hide (show r=0 from by rw [HR2.out];simp)
        go_wp2
        go_ret
        exact ⟨ret_int e.out.symm,hB5⟩
    ·rw [decide_eq_false c2] at HU
     have e:=hide (show r=3 from by rw [HRR.out];simp only [Bool.true_eq_false,if_false,show (512<dn∨bss<0∨512<bss) by omega,if_true])
     go_wp2_with (go_at_call 63;refine (HU.out _).mono ?_;rintro e w1 ⟨rfl,rfl⟩)
     go_ret
     exact ⟨ret_int e.out.symm,hB2⟩
theorem mt_of_rows {nm:ByteArray} {ta:Option Addr} {tn tc:Nat} {tz:List Int} {ba:Option Addr} {bn bc:Nat} {bl:List Bk} {da:Option Addr} {dn dc:Nat} {dz:List Int} {bss:Int} {ra:Option Addr} {rn rc:Nat} {rz:List Int} {ia:Option Addr} {im ic:Nat} {ss:List ByteArray} {ea:Option Addr} {en ec:Nat} {es:List Ex} {w W:World} {g1 g2 g3 g5 g6 g7:Nat} {gs:List Nat} (h:MT w nm ta tn tc tz ba bn bc bl da dn dc dz bss ra rn rc rz ia im ic ss ea en ec es) (hg:gs.length=bn)
 (r1:RowI W g1 tz) (r2:RowB W g2 bn gs bl) (r3:Row8 W g3 dz) (r5:RowI W g5 rz) (r6:RowT W g6 ss) (r7:RowX W g7 es):MT W nm (some ⟨g1,0,none⟩) tn tn tz (some ⟨g2,0,none⟩) bn bn (reb gs bl) (some ⟨g3,0,none⟩) dn dn dz bss (some ⟨g5,0,none⟩) rn rn rz (some ⟨g6,0,none⟩) im im ss (some ⟨g7,0,none⟩) en en es where
 n:=h.n
 t:=r1.is (by rw [h.t.1];exact h.t.2.1) h.t.2.2.1 _ _ h.t.1
 b:=r2.bks h.b hg
 d:=r3.bs (by rw [h.d.1];exact h.d.2.1) h.d.2.2.1 _ _ h.d.1
 s:=h.s
 r:=r5.is (by rw [h.r.1];exact h.r.2.1) h.r.2.2.1 _ _ h.r.1
 i:=⟨h.i.1,h.i.2.1,h.i.2.2.1,fun _=>⟨g6,0,rfl,fun i hi=>by rw [Nat.zero_add];exact r6.cell i (by rw [h.i.1];exact hi)⟩,Nat.le_refl _⟩
 e:=r7.te h.e
def set8 (w:World) (g o:Nat) (m:Md):World:=((((((((w.setCell ⟨g,o,none⟩ (.string m.nm)).setCell ⟨g,o+1,none⟩ (.slice m.ta m.tn m.tc)).setCell ⟨g,o+2,none⟩ (.slice m.ba m.bn m.bc)).setCell ⟨g,o+3,none⟩ (.slice m.da m.dn m.dc)).setCell ⟨g,o+4,none⟩ (.int .i64 m.bss)).setCell ⟨g,o+5,none⟩ (.slice m.ra m.rn m.rc)).setCell ⟨g,o+6,none⟩ (.slice m.ia m.im m.ic)).setCell ⟨g,o+7,none⟩ (.slice m.ea m.en m.ec))
theorem set8_other (w:World) (g o b o':Nat) (m:Md) (h:b≠g∨o'<o∨o+8≤o'):(set8 w g o m).cell? ⟨b,o',none⟩=w.cell? ⟨b,o',none⟩:=by
 unfold set8
 rw [cellO (by omega),cellO (by omega),cellO (by omega),cellO (by omega),cellO (by omega),cellO (by omega),cellO (by omega),cellO (by omega)]
theorem set8_at {w:World} {g o:Nat} {q:Md} (h:At8 w g o q) (m:Md):At8 (set8 w g o m) g o m:=by
 obtain ⟨h0,h1,h2,h3,h4,h5,h6,h7⟩:=h
 unfold set8
 refine ⟨?_,?_,?_,?_,?_,?_,?_,?_⟩
 ·rw [cellO (by omega),cellO (by omega),cellO (by omega),cellO (by omega),cellO (by omega),cellO (by omega),cellO (by omega)];exact cellS (u:=_) (by exact h0)
 ·rw [cellO (by omega),cellO (by omega),cellO (by omega),cellO (by omega),cellO (by omega),cellO (by omega)];exact cellS (u:=_) (by rw [cellO (by omega)];exact h1)
 ·rw [cellO (by omega),cellO (by omega),cellO (by omega),cellO (by omega),cellO (by omega)];exact cellS (u:=_) (by rw [cellO (by omega),cellO (by omega)];exact h2)
 ·rw [cellO (by omega),cellO (by omega),cellO (by omega),cellO (by omega)];exact cellS (u:=_) (by rw [cellO (by omega),cellO (by omega),cellO (by omega)];exact h3)
 ·rw [cellO (by omega),cellO (by omega),cellO (by omega)];exact cellS (u:=_) (by rw [cellO (by omega),cellO (by omega),cellO (by omega),cellO (by omega)];exact h4)
 ·rw [cellO (by omega),cellO (by omega)];exact cellS (u:=_) (by rw [cellO (by omega),cellO (by omega),cellO (by omega),cellO (by omega),cellO (by omega)];exact h5)
 ·rw [cellO (by omega)];exact cellS (u:=_) (by rw [cellO (by omega),cellO (by omega),cellO (by omega),cellO (by omega),cellO (by omega),cellO (by omega)];exact h6)
 ·exact cellS (u:=_) (by rw [cellO (by omega),cellO (by omega),cellO (by omega),cellO (by omega),cellO (by omega),cellO (by omega),cellO (by omega)];exact h7)
theorem set8_far {w:World} {g o b o':Nat} {q:Md} (h:At8 w b o' q) (m:Md) (hf:b≠g∨o'+8≤o∨o+8≤o'):At8 (set8 w g o m) b o' q:=by
 unfold At8
 rw [set8_other _ _ _ _ _ _ (by omega),set8_other _ _ _ _ _ _ (by omega),set8_other _ _ _ _ _ _ (by omega),set8_other _ _ _ _ _ _ (by omega),set8_other _ _ _ _ _ _ (by omega),set8_other _ _ _ _ _ _ (by omega),set8_other _ _ _ _ _ _ (by omega),set8_other _ _ _ _ _ _ (by omega)]
 exact h
theorem set8_blk {w:World} {g:Nat} {cur:Array Value} {t:TypeId} (h:Blk w g cur t) (o:Nat) (m:Md):∃ cur',Blk (set8 w g o m) g cur' t∧cur'.size=cur.size:=
 ⟨_,((((((((h.set (o) _).set (o+1) _).set (o+2) _).set (o+3) _).set (o+4) _).set (o+5) _).set (o+6) _).set (o+7) _),by simp⟩
theorem set8_turn (c:Nat) (w:World) (g o:Nat) (m:Md) (h:g≤c):Turn (fun j=>j≤c) w (set8 w g o m):=
 ((((((((turn_at c w g o _ h).trans (turn_at c _ g (o+1) _ h)).trans (turn_at c _ g (o+2) _ h)).trans (turn_at c _ g (o+3) _ h)).trans (turn_at c _ g (o+4) _ h)).trans (turn_at c _ g (o+5) _ h)).trans (turn_at c _ g (o+6) _ h)).trans (turn_at c _ g (o+7) _ h))
def CopyOf (c:Nat) (m m':Md) (W:World):Prop:=∃ g1 g2 g3 g5 g6 g7 gs,m'=⟨m.nm,some ⟨g1,0,none⟩,m.tn,m.tn,m.tz,some ⟨g2,0,none⟩,m.bn,m.bn,reb gs m.bl,some ⟨g3,0,none⟩,m.dn,m.dn,m.dz,m.bss,some ⟨g5,0,none⟩,m.rn,m.rn,m.rz,some ⟨g6,0,none⟩,m.im,m.im,m.ss,some ⟨g7,0,none⟩,m.en,m.en,m.es⟩∧c<g1∧g1<g2∧g2<g3∧g3<g5∧g5<g6∧g6<g7∧gs.length=m.bn∧RowI W g1 m.tz∧RowB W g2 m.bn gs m.bl∧Row8 W g3 m.dz∧RowI W g5 m.rz∧RowT W g6 m.ss∧RowX W g7 m.es
theorem copy_stab (c:Nat) (m m':Md):Stab c (CopyOf c m m'):=fun W W' t h=>by
 obtain ⟨g1,g2,g3,g5,g6,g7,gs,e,l1,l2,l3,l4,l5,l6,hg,r1,r2,r3,r5,r6,r7⟩:=h
 have key:RowB W' g2 m.bn gs m.bl:=by
  obtain ⟨⟨cur,h2,h3⟩,h4,h5⟩:=r2
  exact ⟨⟨cur,turn_blk t h2 (by show ¬ g2≤c;omega),h3⟩,fun i hi=>⟨turn_blk t (h4 i hi).1 (by show ¬ gs.getD i 0≤c;have:=(h4 i hi).2;omega),(h4 i hi).2⟩,h5⟩
 exact ⟨g1,g2,g3,g5,g6,g7,gs,e,l1,l2,l3,l4,l5,l6,hg,stab_i (by omega) W W' t r1,key,stab_8 (by omega) W W' t r3,stab_i (by omega) W W' t r5,stab_t (by omega) W W' t r6,stab_x (by omega) W W' t r7⟩
theorem copy_below {c:Nat} {m m':Md} {W W':World} (h:CopyOf c m m' W) (hb:Below W.heap.size W W'):CopyOf c m m' W':=copy_stab c m m' W W' (turn_below hb) h
theorem copy_mt {c:Nat} {m m':Md} {w W:World} (hm:m.mt w) (h:CopyOf c m m' W):m'.mt W:=by
 obtain ⟨g1,g2,g3,g5,g6,g7,gs,rfl,_,_,_,_,_,_,hg,r1,r2,r3,r5,r6,r7⟩:=h
 exact mt_of_rows hm hg r1 r2 r3 r5 r6 r7
def RowM (W:World) (c n:Nat) (ms ms':List Md):Prop:=
 (∃ cur,Blk W c cur 49∧cur.size=n * 8)∧(∀ i,i<n→∃ q,At8 W c (i * 8) q)∧∀ i,i<ms'.length→At8 W c (i * 8) (ms'.getD i zMd)∧CopyOf c (ms.getD i zMd) (ms'.getD i zMd) W
theorem RowM.below {W W':World} {c n:Nat} {ms ms':List Md} (h:RowM W c n ms ms') (hb:Below W.heap.size W W'):RowM W' c n ms ms':=by
 obtain ⟨⟨cur,hc,hs⟩,hq,hr⟩:=h
 exact ⟨⟨cur,hc.below hb,hs⟩,fun i hi=>by obtain ⟨q,h⟩:=hq i hi;exact ⟨q,h.below hb⟩,fun i hi=>⟨(hr i hi).1.below hb,copy_below (hr i hi).2 hb⟩⟩
theorem getM_lt (ms:List Md) (x:Md) (i:Nat) (h:i<ms.length):(ms++[x]).getD i zMd=ms.getD i zMd:=by
 simp [List.getD_eq_getElem?_getD,List.getElem?_append_left h]
theorem getM_last (ms:List Md) (x:Md):(ms++[x]).getD ms.length zMd=x:=by
 simp [List.getD_eq_getElem?_getD]
theorem RowM.push {W:World} {c n:Nat} {ms ms':List Md} (h:RowM W c n ms ms') (hk:ms'.length<n) (x:Md) (hx:CopyOf c (ms.getD ms'.length zMd) x W):RowM (set8 W c (ms'.length * 8) x) c n ms (ms'++[x]):=by
 obtain ⟨⟨cur,hc,hs⟩,hq,hr⟩:=h
 obtain ⟨cur',hc',hs'⟩:=set8_blk hc (ms'.length * 8) x
 have T:=set8_turn c W c (ms'.length * 8) x (Nat.le_refl _)
 refine ⟨⟨cur',hc',by rw [hs',hs]⟩,fun i hi=>?_,fun i hi=>?_⟩
 ·obtain ⟨q,h⟩:=hq i hi
  by_cases e:i=ms'.length
  ·subst e;exact ⟨x,set8_at h x⟩
  ·exact ⟨q,set8_far h x (by omega)⟩
 ·simp only [List.length_append,List.length_cons,List.length_nil] at hi
  by_cases e:i=ms'.length
  ·subst e
   rw [getM_last]
   obtain ⟨q,h⟩:=hq _ hk
   exact ⟨set8_at h x,copy_stab _ _ _ _ _ T hx⟩
  ·rw [getM_lt _ _ _ (by omega)]
   exact ⟨set8_far (hr i (by omega)).1 x (by omega),copy_stab _ _ _ _ _ T (hr i (by omega)).2⟩
end Go.Proofs.YtngdgogjlpjjpadGreat
namespace Go.Proofs.YtngdgogjlpjjpadGreat
open Go.RowKit
set_option linter.unusedVariables false
theorem rdr_turn {S:Nat→Prop} {W W':World} {r:Nat} {a:Option Addr} {n c:Nat} {zs:List Int} {k:Nat} (h:Rdr W r a n c zs k) (t:Turn S W W') (hr:¬ S r) (ha:n≠0→∀ j,S j→∀ b off,a=some ⟨b,off,none⟩→b≠j):Rdr W' r a n c zs k:=
 ⟨turn_blk t h.blk hr,turn_bs' t h.bs ha,h.small,h.far⟩
theorem turn_new {S:Nat→Prop} {w W:World} (h:Turn S w W) {b:Nat} (hb:w.heap.size≤b) (i:Nat) (v:Value):Turn S w (W.setCell ⟨b,i,none⟩ v):=
 ⟨h.os,h.tape,h.output,by rw [size_setCell];exact h.size,fun k hk hn=>by rw [heap_setCell_other _ _ _ _ (by dsimp only;omega)];exact h.block k hk hn⟩
theorem turn_more {S:Nat→Prop} {w W:World} (h:Turn S w W) (o:Obj):Turn S w (W.alloc o):=h.trans (turn_alloc W o)
theorem rdr_set {W:World} {r:Nat} {a:Option Addr} {n c:Nat} {zs:List Int} {k:Nat} (h:Rdr W r a n c zs k) {b:Nat} (hb:r≠b) (ha:n≠0→∀ b' off,a=some ⟨b',off,none⟩→b'≠b) (i:Nat) (v:Value):Rdr (W.setCell ⟨b,i,none⟩ v) r a n c zs k:=
 rdr_turn h (turn_cell W b i v) hb (fun h0 j hj b' off e=>by subst hj;exact ha h0 b' off e)
theorem rdr_alloc {W:World} {r:Nat} {a:Option Addr} {n c:Nat} {zs:List Int} {k:Nat} (h:Rdr W r a n c zs k) (o:Obj):Rdr (W.alloc o) r a n c zs k:=rdr_below h ((Below.refl _ _).alloc (Nat.le_refl _) o)
end Go.Proofs.YtngdgogjlpjjpadGreat
namespace Go.Proofs.YtngdgogjlpjjpadGreat
open Go.RowKit
set_option linter.unusedVariables false
set_option linter.unusedSimpArgs false
def InsDr (w:World) (r:Nat) (a:Option Addr) (n c:Nat) (zs:List Int) (o d x i:Int) (k':Nat) (e:Ending) (w':World):Prop:=
 e=.returned (.agg #[.int .i64 o,.int .i64 d,.int .i64 x,.int .i64 i])∧Rdr w' r a n c zs k'∧Turn (fun j=>j=r) w w'
theorem draw_of {zs:List Int} (h:∀ j,0≤zs.getD j 0∧zs.getD j 0≤255) (k:Nat):∃ v:Int,Hid (zs.getD k 0=v)∧0≤v∧v≤255:=⟨_,rfl,(h k).1,(h k).2⟩
theorem opTab_at (i:Nat) (hi:i<25):∃ o:Int,1≤o∧o≤25∧∀ W:World,(W.alloc (.cells #[.int .i64 2,.int .i64 6,.int .i64 15,.int .i64 16,.int .i64 19,.int .i64 20,.int .i64 21,.int .i64 22,.int .i64 23,.int .i64 24,.int .i64 25,.int .i64 1,.int .i64 3,.int .i64 4,.int .i64 5,.int .i64 7,.int .i64 8,.int .i64 9,.int .i64 10,.int .i64 11,.int .i64 12,.int .i64 13,.int .i64 14,.int .i64 17,.int .i64 18] 3)).cell? ⟨W.heap.size,i,none⟩=some (.int .i64 o):=by
 have hc:=fun W=>(Blk.new W #[.int .i64 2,.int .i64 6,.int .i64 15,.int .i64 16,.int .i64 19,.int .i64 20,.int .i64 21,.int .i64 22,.int .i64 23,.int .i64 24,.int .i64 25,.int .i64 1,.int .i64 3,.int .i64 4,.int .i64 5,.int .i64 7,.int .i64 8,.int .i64 9,.int .i64 10,.int .i64 11,.int .i64 12,.int .i64 13,.int .i64 14,.int .i64 17,.int .i64 18] 3).cell i
 match i,hi with
 | 0,_=>exact ⟨_,by decide,by decide,hc⟩
 | 1,_=>exact ⟨_,by decide,by decide,hc⟩
 | 2,_=>exact ⟨_,by decide,by decide,hc⟩
 | 3,_=>exact ⟨_,by decide,by decide,hc⟩
 | 4,_=>exact ⟨_,by decide,by decide,hc⟩
 | 5,_=>exact ⟨_,by decide,by decide,hc⟩
 | 6,_=>exact ⟨_,by decide,by decide,hc⟩
 | 7,_=>exact ⟨_,by decide,by decide,hc⟩
 | 8,_=>exact ⟨_,by decide,by decide,hc⟩
 | 9,_=>exact ⟨_,by decide,by decide,hc⟩
 | 10,_=>exact ⟨_,by decide,by decide,hc⟩
 | 11,_=>exact ⟨_,by decide,by decide,hc⟩
 | 12,_=>exact ⟨_,by decide,by decide,hc⟩
 | 13,_=>exact ⟨_,by decide,by decide,hc⟩
 | 14,_=>exact ⟨_,by decide,by decide,hc⟩
 | 15,_=>exact ⟨_,by decide,by decide,hc⟩
 | 16,_=>exact ⟨_,by decide,by decide,hc⟩
 | 17,_=>exact ⟨_,by decide,by decide,hc⟩
 | 18,_=>exact ⟨_,by decide,by decide,hc⟩
 | 19,_=>exact ⟨_,by decide,by decide,hc⟩
 | 20,_=>exact ⟨_,by decide,by decide,hc⟩
 | 21,_=>exact ⟨_,by decide,by decide,hc⟩
 | 22,_=>exact ⟨_,by decide,by decide,hc⟩
 | 23,_=>exact ⟨_,by decide,by decide,hc⟩
 | 24,_=>exact ⟨_,by decide,by decide,hc⟩
 | i+25,h=>omega
theorem aTab_at (i:Nat) (hi:i<8):∃ o:Int,0≤o∧o≤7∧∀ W:World,(W.alloc (.cells #[.int .i64 7,.int .i64 6,.int .i64 0,.int .i64 1,.int .i64 2,.int .i64 7,.int .i64 6,.int .i64 3] 3)).cell? ⟨W.heap.size,i,none⟩=some (.int .i64 o):=by
 have hc:=fun W=>(Blk.new W #[.int .i64 7,.int .i64 6,.int .i64 0,.int .i64 1,.int .i64 2,.int .i64 7,.int .i64 6,.int .i64 3] 3).cell i
 match i,hi with
 | 0,_=>exact ⟨_,by decide,by decide,hc⟩
 | 1,_=>exact ⟨_,by decide,by decide,hc⟩
 | 2,_=>exact ⟨_,by decide,by decide,hc⟩
 | 3,_=>exact ⟨_,by decide,by decide,hc⟩
 | 4,_=>exact ⟨_,by decide,by decide,hc⟩
 | 5,_=>exact ⟨_,by decide,by decide,hc⟩
 | 6,_=>exact ⟨_,by decide,by decide,hc⟩
 | 7,_=>exact ⟨_,by decide,by decide,hc⟩
 | i+8,h=>omega
structure Is (w W:World) (r:Nat) (a:Option Addr) (n c:Nat) (zs:List Int) (k' G:Nat) (o d x i:Int):Prop where
 res:Blk W w.heap.size #[.int .i64 0,.int .i64 0,.int .i64 0,.int .i64 0] 124
 ins:Blk W G #[.int .i64 o,.int .i64 d,.int .i64 x,.int .i64 i] 124
 rd:Rdr W r a n c zs k'
 turn:Turn (fun j=>j=r) w W
 big:w.heap.size<G
 low:r<w.heap.size
 code:n≠0→∀ b off,a=some ⟨b,off,none⟩→b<w.heap.size
theorem Is.other {w W:World} {r:Nat} {a:Option Addr} {n c:Nat} {zs:List Int} {k' G:Nat} {o d x i:Int} (h:Is w W r a n c zs k' G o d x i) (j:Nat) (v:Value) (d' x' i':Int) (hz:Blk (W.setCell ⟨G,j,none⟩ v) G #[.int .i64 o,.int .i64 d',.int .i64 x',.int .i64 i'] 124):Is w (W.setCell ⟨G,j,none⟩ v) r a n c zs k' G o d' x' i':=by
 have hb:=h.big
 have hl:=h.low
 exact ⟨h.res.other _ _ (by dsimp only;omega),hz,rdr_set h.rd (by omega) (fun h0 b off e=>by have:=h.code h0 b off e;omega) _ _,turn_new h.turn (by omega) _ _,hb,hl,h.code⟩
theorem Is.set1 {w W:World} {r:Nat} {a:Option Addr} {n c:Nat} {zs:List Int} {k' G:Nat} {o d x i:Int} (h:Is w W r a n c zs k' G o d x i) (v:Int):Is w (W.setCell ⟨G,1,none⟩ (.int .i64 v)) r a n c zs k' G o v x i:=h.other 1 _ v x i (h.ins.set 1 (.int .i64 v))
theorem Is.set2 {w W:World} {r:Nat} {a:Option Addr} {n c:Nat} {zs:List Int} {k' G:Nat} {o d x i:Int} (h:Is w W r a n c zs k' G o d x i) (v:Int):Is w (W.setCell ⟨G,2,none⟩ (.int .i64 v)) r a n c zs k' G o d v i:=h.other 2 _ d v i (h.ins.set 2 (.int .i64 v))
theorem Is.set3 {w W:World} {r:Nat} {a:Option Addr} {n c:Nat} {zs:List Int} {k' G:Nat} {o d x i:Int} (h:Is w W r a n c zs k' G o d x i) (v:Int):Is w (W.setCell ⟨G,3,none⟩ (.int .i64 v)) r a n c zs k' G o d x v:=h.other 3 _ d x v (h.ins.set 3 (.int .i64 v))
theorem Is.more {w W:World} {r:Nat} {a:Option Addr} {n c:Nat} {zs:List Int} {k' G:Nat} {o d x i:Int} (h:Is w W r a n c zs k' G o d x i) (O:Obj):Is w (W.alloc O) r a n c zs k' G o d x i:=
 ⟨h.res.alloc O,h.ins.alloc O,rdr_alloc h.rd O,turn_more h.turn O,h.big,h.low,h.code⟩
theorem Is.next {w W W':World} {r:Nat} {a:Option Addr} {n c:Nat} {zs:List Int} {k' k2 G:Nat} {o d x i:Int} (h:Is w W r a n c zs k' G o d x i) (hr:Rdr W' r a n c zs k2) (t:Turn (fun j=>j=r) W W'):Is w W' r a n c zs k2 G o d x i:=by
 have hb:=h.big
 have hl:=h.low
 exact ⟨turn_blk t h.res (by omega),turn_blk t h.ins (by omega),hr,h.turn.trans t,hb,hl,h.code⟩
theorem Is.done {w W:World} {r:Nat} {a:Option Addr} {n c:Nat} {zs:List Int} {k' G:Nat} {o d x i:Int} (h:Is w W r a n c zs k' G o d x i) (fn:Func) (hf:fn.results=#[.cell 2 124]) (tmps:Array Value) (h2:tmps[2]?=some (.pointer (some ⟨w.heap.size,0,none⟩))) (hb:-1≤o∧o≤64∧-1≤d∧d≤10∧-1≤x∧x≤10∧-1≤i∧i≤65536):
 bodyPost Tryz.prog fn (InsDr w r a n c zs o d x i k') Exit.ret ⟨tmps,[]⟩ ((((W.setCell ⟨w.heap.size,0,none⟩ (.int .i64 o)).setCell ⟨w.heap.size,1,none⟩ (.int .i64 d)).setCell ⟨w.heap.size,2,none⟩ (.int .i64 x)).setCell ⟨w.heap.size,3,none⟩ (.int .i64 i)):=by
 have hl:=h.low
 have hc':n≠0→∀ b' off,a=some ⟨b',off,none⟩→b'≠w.heap.size:=fun h0 b off e=>by have:=h.code h0 b off e;omega
 have hz:=ins_set h.res o d x i
 have hR:=rdr_set (rdr_set (rdr_set (rdr_set h.rd (show r≠w.heap.size by omega) hc' 0 (.int .i64 o)) (by omega) hc' 1 (.int .i64 d)) (by omega) hc' 2 (.int .i64 x)) (by omega) hc' 3 (.int .i64 i)
 have hT:=turn_new (turn_new (turn_new (turn_new h.turn (Nat.le_refl _) 0 (.int .i64 o)) (Nat.le_refl _) 1 (.int .i64 d)) (Nat.le_refl _) 2 (.int .i64 x)) (Nat.le_refl _) 3 (.int .i64 i)
 generalize (((W.setCell ⟨w.heap.size,0,none⟩ (.int .i64 o)).setCell ⟨w.heap.size,1,none⟩ (.int .i64 d)).setCell ⟨w.heap.size,2,none⟩ (.int .i64 x)).setCell ⟨w.heap.size,3,none⟩ (.int .i64 i)=V at *
 refine bodyPost_ret (v:=.agg #[.int .i64 o,.int .i64 d,.int .i64 x,.int .i64 i]) ?_ rfl ⟨rfl,hR,hT⟩
 obtain ⟨p1,p2,p3,p4,p5⟩:=hz.four'
 simp [results,hf,go_sem,h2,p1,p2,p3,p4]
theorem Is.doneA {w W:World} {r:Nat} {a:Option Addr} {n c:Nat} {zs:List Int} {k' G:Nat} {o d x i:Int} (h:Is w W r a n c zs k' G o d x i) (fn:Func) (hf:fn.results=#[.cell 2 124]) (O:Obj) (tmps:Array Value) (h2:tmps[2]?=some (.pointer (some ⟨w.heap.size,0,none⟩))) (hb:-1≤o∧o≤64∧-1≤d∧d≤10∧-1≤x∧x≤10∧-1≤i∧i≤65536):
 bodyPost Tryz.prog fn (InsDr w r a n c zs o d x i k') Exit.ret ⟨tmps,[]⟩ (((((W.setCell ⟨w.heap.size,0,none⟩ (.int .i64 o)).setCell ⟨w.heap.size,1,none⟩ (.int .i64 d)).setCell ⟨w.heap.size,2,none⟩ (.int .i64 x)).setCell ⟨w.heap.size,3,none⟩ (.int .i64 i)).alloc O):=by
 have hl:=h.low
 have hc':n≠0→∀ b' off,a=some ⟨b',off,none⟩→b'≠w.heap.size:=fun h0 b off e=>by have:=h.code h0 b off e;omega
 have hz:=(ins_set h.res o d x i).alloc O
 have hR:=rdr_alloc (rdr_set (rdr_set (rdr_set (rdr_set h.rd (show r≠w.heap.size by omega) hc' 0 (.int .i64 o)) (by omega) hc' 1 (.int .i64 d)) (by omega) hc' 2 (.int .i64 x)) (by omega) hc' 3 (.int .i64 i)) O
 have hT:=turn_more (turn_new (turn_new (turn_new (turn_new h.turn (Nat.le_refl _) 0 (.int .i64 o)) (Nat.le_refl _) 1 (.int .i64 d)) (Nat.le_refl _) 2 (.int .i64 x)) (Nat.le_refl _) 3 (.int .i64 i)) O
 generalize ((((W.setCell ⟨w.heap.size,0,none⟩ (.int .i64 o)).setCell ⟨w.heap.size,1,none⟩ (.int .i64 d)).setCell ⟨w.heap.size,2,none⟩ (.int .i64 x)).setCell ⟨w.heap.size,3,none⟩ (.int .i64 i)).alloc O=V at *
 refine bodyPost_ret (v:=.agg #[.int .i64 o,.int .i64 d,.int .i64 x,.int .i64 i]) ?_ rfl ⟨rfl,hR,hT⟩
 obtain ⟨p1,p2,p3,p4,p5⟩:=hz.four'
 simp [results,hf,go_sem,h2,p1,p2,p3,p4]
end Go.Proofs.YtngdgogjlpjjpadGreat
