import Derived.Test.YtngdgogjlpjjpaeGreatP02
import Derived.Test.YtngdgogjlpjjpaeGreatP04
import Derived.Test.YtngdgogjlpjjpaeGreatP09
import Derived.Test.YtngdgogjlpjjpaeGreatP10
set_option maxHeartbeats 4000000
namespace Go.Proofs.YtngdgogjlpjjpaeGreat
open Go.RowKit
set_option linter.unusedVariables false
set_option linter.unusedSimpArgs false
set_option maxRecDepth 100000
theorem upS_le (f:Nat→Nat)(n i:Nat)(hi:i<n):f i≤upS f n:=by
 have h1:=upS_mono f (i+1) n (by omega)
 have h2:upS f (i+1)=upS f i+f i:=rfl
 omega
theorem iModuleOk_any (nm:ByteArray)(ta:Option Addr)(tn tc:Nat)(tz:List Int)(ba:Option Addr)(bn bc:Nat)(bl:List Bk)(da:Option Addr)(dn dc:Nat)(dz:List Int)(bss:Int)(ra:Option Addr)(rn rc:Nat)(rz:List Int)(ia:Option Addr)(im ic:Nat)(ss:List ByteArray)(ea:Option Addr)(en ec:Nat)(es:List Ex)(w:World)
 (h:MD w nm ta tn tc tz ba bn bc bl da dn dc dz bss ra rn rc rz ia im ic ss ea en ec es):
 Calls Tryz.prog 225 #[.agg #[.string nm,.slice ta tn tc,.slice ba bn bc,.slice da dn dc,.int .i64 bss,.slice ra rn rc,.slice ia im ic,.slice ea en ec]] w fun e w'=>e=.returned (.int .i64 (mdo nm tn tz bn bl dn bss rn rz im ss en es))∧Below w.heap.size w w':=by
 obtain ⟨W,hW⟩:∃ W,W=w.alloc (.cells #[.string nm,.slice ta tn tc,.slice ba bn bc,.slice da dn dc,.int .i64 bss,.slice ra rn rc,.slice ia im ic,.slice ea en ec] 104):=⟨_,rfl⟩
 have hB0:Below w.heap.size w W:=by rw [hW];exact (Below.refl _ _).alloc (Nat.le_refl _) _
 have kb:Blk W w.heap.size #[.string nm,.slice ta tn tc,.slice ba bn bc,.slice da dn dc,.int .i64 bss,.slice ra rn rc,.slice ia im ic,.slice ea en ec] 104:=by rw [hW];exact Blk.new _ _ _
 obtain ⟨r,hr⟩:∃ r,r=mdo nm tn tz bn bl dn bss rn rz im ss en es:=⟨_,rfl⟩
 rw [← hr]
 unfold mdo at hr
 have HRR:=hide hr
 clear hr
 have H0:=h.below hB0
 have hmd:=h.d.2.1
 have htn:=h.t.2.1
 have HN:=hide (fun w=>isName_any nm w h.n)
 have HCd:=hide (fun w ht hb=>codeOk_any nm ta tn tc tz ba bn bc bl (.slice da dn dc) (.slice ra rn rc) (.slice ia im ic) (.slice ea en ec) bss w ht hb)
 have HRl:=hide (fun w h=>relocsOk_any nm (.slice ta tn tc) (.slice ba bn bc) da dn dc bss ra rn rc rz (.slice ia im ic) (.slice ea en ec) w hmd h)
 have HIm:=hide (fun w h=>importsOk_any nm (.slice ta tn tc) (.slice ba bn bc) (.slice da dn dc) (.slice ra rn rc) (.slice ea en ec) bss ia im ic ss w h)
 have HEx:=hide (fun w hb h=>exportsOk_any nm ta tn tc ba bn bc bl (.slice da dn dc) (.slice ra rn rc) (.slice ia im ic) bss ea en ec es w htn hb h)
 have HU:=hide (fun w=>isUpTo_any bss 512 w)
 unfold maxLen at hmd
 obtain ⟨s0,s1⟩:=h.s
 clear h htn
 have HW:=hide hW
 clear hW
 generalize nmo nm=a1 at *
 generalize cdo tn tz bn bl=a2 at *
 generalize rlo rn rz dn=a4 at *
 generalize imo im ss=a5 at *
 generalize exo tn bn bl en es=a6 at *
 obtain ⟨q0,q1,q2,q3,q4,q5,q6,q7⟩:=kb.eight
 go_enter Tryz.func225,Tryz.ntmps225
 go_wp2_with (first | (rw [← HW.out]) | (go_at_call 264;refine (HN.out _).mono ?_;rintro e w1 ⟨rfl,rfl⟩;cases a1))
 ·have e:=hide (show r=1 from by rw [HRR.out];simp)
  go_ret
  exact ⟨ret_int e.out.symm,hB0⟩
 ·refine (HCd.out _ H0.t H0.b).mono ?_
  rintro e w2 ⟨rfl,hb2⟩
  have kb2:=kb.below hb2
  have H2:=H0.below hb2
  have hB2:=hB0.trans (hb2.mono hB0.size)
  clear hb2 kb H0 hB0 q0 q1 q2 q3 q4 q5 q6 q7
  obtain ⟨q0,q1,q2,q3,q4,q5,q6,q7⟩:=kb2.eight
  cases a2
  ·have e:=hide (show r=2 from by rw [HRR.out];simp)
   go_wp2
   go_ret
   exact ⟨ret_int e.out.symm,hB2⟩
  ·by_cases c1:512<dn
   ·have e:=hide (show r=3 from by rw [HRR.out];simp [c1])
    have c1':(512:Int)<(dn:Int):=by omega
    go_wp2
    go_ret
    exact ⟨ret_int e.out.symm,hB2⟩
   ·have c1':¬ (512:Int)<(dn:Int):=by omega
    by_cases c2:0≤bss∧bss≤512
    ·have HR2:=hide (show r=if a4=false then 4 else if a5=false then 5 else if a6=false then 6 else 0 from by
      rw [HRR.out]
      simp only [Bool.true_eq_false,if_false,show ¬ (512<dn∨bss<0∨512<bss) by omega])
     clear HRR
     rw [decide_eq_true c2] at HU
     go_wp2_with (go_at_call 165;refine (HU.out _).mono ?_;rintro e w1 ⟨rfl,rfl⟩)
     refine (HRl.out _ H2.r).mono ?_
     rintro e w3 ⟨rfl,hb3⟩
     have kb3:=kb2.below hb3
     have H3:=H2.below hb3
     have hB3:=hB2.trans (hb3.mono hB2.size)
     clear hb3 kb2 H2 hB2 q0 q1 q2 q3 q4 q5 q6 q7
     obtain ⟨q0,q1,q2,q3,q4,q5,q6,q7⟩:=kb3.eight
     cases a4
     ·have e:=hide (show r=4 from by rw [HR2.out];simp)
      go_wp2
      go_ret
      exact ⟨ret_int e.out.symm,hB3⟩
     ·go_wp2_with fail
      refine (HIm.out _ H3.i).mono ?_
      rintro e w4 ⟨rfl,hb4⟩
      have kb4:=kb3.below hb4
      have H4:=H3.below hb4
      have hB4:=hB3.trans (hb4.mono hB3.size)
      clear hb4 kb3 H3 hB3 q0 q1 q2 q3 q4 q5 q6 q7
      obtain ⟨q0,q1,q2,q3,q4,q5,q6,q7⟩:=kb4.eight
      cases a5
      ·have e:=hide (show r=5 from by rw [HR2.out];simp)
       go_wp2
       go_ret
       exact ⟨ret_int e.out.symm,hB4⟩
      ·go_wp2_with fail
       refine (HEx.out _ H4.b H4.e).mono ?_
       rintro e w5 ⟨rfl,hb5⟩
       have hB5:=hB4.trans (hb5.mono hB4.size)
       clear hb5 H4 hB4 kb4
       cases a6
       ·have e:=hide (show r=6 from by rw [HR2.out];simp)
        go_wp2
        go_ret
        exact ⟨ret_int e.out.symm,hB5⟩
       ·have e:=hide (show r=0 from by rw [HR2.out];simp)
        go_wp2
        go_ret
        exact ⟨ret_int e.out.symm,hB5⟩
    ·rw [decide_eq_false c2] at HU
     have e:=hide (show r=3 from by rw [HRR.out];simp only [Bool.true_eq_false,if_false,show (512<dn∨bss<0∨512<bss) by omega,if_true])
     go_wp2_with (go_at_call 165;refine (HU.out _).mono ?_;rintro e w1 ⟨rfl,rfl⟩)
     go_ret
     exact ⟨ret_int e.out.symm,hB2⟩
theorem eqModule_same (nm:ByteArray)(ta ta':Option Addr)(tn tc tc':Nat)(tz:List Int)(ba ba':Option Addr)(bn bc bc':Nat)(bl bl':List Bk)(da da':Option Addr)(dn dc dc':Nat)(dz:List Int)(bss:Int)(ra ra':Option Addr)(rn rc rc':Nat)(rz:List Int)(ia ia':Option Addr)(im ic ic':Nat)(ss:List ByteArray)(ea ea':Option Addr)(en ec ec':Nat)(es:List Ex)(w:World)(h:MT w nm ta tn tc tz ba bn bc bl da dn dc dz bss ra rn rc rz ia im ic ss ea en ec es)(h':MT w nm ta' tn tc' tz ba' bn bc' bl' da' dn dc' dz bss ra' rn rc' rz ia' im ic' ss ea' en ec' es)(hz:∀ i,i<bn→(bl'.getD i zB).2.1=(bl.getD i zB).2.1∧(bl'.getD i zB).2.2.2=(bl.getD i zB).2.2.2):
 Calls Tryz.prog 58 #[.agg #[.string nm,.slice ta tn tc,.slice ba bn bc,.slice da dn dc,.int .i64 bss,.slice ra rn rc,.slice ia im ic,.slice ea en ec],.agg #[.string nm,.slice ta' tn tc',.slice ba' bn bc',.slice da' dn dc',.int .i64 bss,.slice ra' rn rc',.slice ia' im ic',.slice ea' en ec']] w fun e w'=>e=.returned (.bool true)∧Below w.heap.size w w':=by
 have hB0:Below w.heap.size w ((w.alloc (.cells #[.string nm,.slice ta tn tc,.slice ba bn bc,.slice da dn dc,.int .i64 bss,.slice ra rn rc,.slice ia im ic,.slice ea en ec] 104)).alloc (.cells #[.string nm,.slice ta' tn tc',.slice ba' bn bc',.slice da' dn dc',.int .i64 bss,.slice ra' rn rc',.slice ia' im ic',.slice ea' en ec'] 104)):=((Below.refl _ _).alloc (Nat.le_refl _) _).alloc (by simp) _
 have u0:=(Blk.new w #[.string nm,.slice ta tn tc,.slice ba bn bc,.slice da dn dc,.int .i64 bss,.slice ra rn rc,.slice ia im ic,.slice ea en ec] 104).alloc (.cells #[.string nm,.slice ta' tn tc',.slice ba' bn bc',.slice da' dn dc',.int .i64 bss,.slice ra' rn rc',.slice ia' im ic',.slice ea' en ec'] 104)
 have v0:=Blk.new (w.alloc (.cells #[.string nm,.slice ta tn tc,.slice ba bn bc,.slice da dn dc,.int .i64 bss,.slice ra rn rc,.slice ia im ic,.slice ea en ec] 104)) #[.string nm,.slice ta' tn tc',.slice ba' bn bc',.slice da' dn dc',.int .i64 bss,.slice ra' rn rc',.slice ia' im ic',.slice ea' en ec'] 104
 simp only [World.size_alloc] at v0
 have hn:(nm.toList != nm.toList)=false:=by simp
 have hs:(bss != bss)=false:=by simp
 go_enter Tryz.func58,Tryz.ntmps58
 go_wp2_with fail
 refine (eqIntS_any ta ta' tn tc tn tc' tz tz _ (h.t.below hB0) (h'.t.below hB0)).mono ?_
 rw [decide_eq_true rfl]
 rintro e w1 ⟨rfl,hb⟩
 have hB1:=hB0.trans (hb.mono (by have:=hB0.size;simp;omega))
 have u1:=u0.below hb
 have v1:=v0.below hb
 clear hb u0 v0
 obtain ⟨q0,q1,q2,q3,q4,q5,q6,q7⟩:=u1.eight
 obtain ⟨p0,p1,p2,p3,p4,p5,p6,p7⟩:=v1.eight
 go_wp2_with fail
 refine (eqIntSS_same ba ba' bn bc bc' bl bl' _ (h.b.below hB1) (h'.b.below hB1) hz).mono ?_
 rintro e w2 ⟨rfl,hb⟩
 have hB2:=hB1.trans (hb.mono (by have:=hB1.size;omega))
 have u2:=u1.below hb
 have v2:=v1.below hb
 clear hb u1 v1 q0 q1 q2 q3 q4 q5 q6 q7 p0 p1 p2 p3 p4 p5 p6 p7
 obtain ⟨q0,q1,q2,q3,q4,q5,q6,q7⟩:=u2.eight
 obtain ⟨p0,p1,p2,p3,p4,p5,p6,p7⟩:=v2.eight
 go_wp2_with fail
 refine (eqByteS_any da da' dn dc dn dc' dz dz _ (h.d.below hB2) (h'.d.below hB2)).mono ?_
 rw [decide_eq_true rfl]
 rintro e w3 ⟨rfl,hb⟩
 have hB3:=hB2.trans (hb.mono (by have:=hB2.size;omega))
 have u3:=u2.below hb
 have v3:=v2.below hb
 clear hb u2 v2 q0 q1 q2 q3 q4 q5 q6 q7 p0 p1 p2 p3 p4 p5 p6 p7
 obtain ⟨q0,q1,q2,q3,q4,q5,q6,q7⟩:=u3.eight
 obtain ⟨p0,p1,p2,p3,p4,p5,p6,p7⟩:=v3.eight
 go_wp2_with fail
 refine (eqIntS_any ra ra' rn rc rn rc' rz rz _ (h.r.below hB3) (h'.r.below hB3)).mono ?_
 rw [decide_eq_true rfl]
 rintro e w4 ⟨rfl,hb⟩
 have hB4:=hB3.trans (hb.mono (by have:=hB3.size;omega))
 have u4:=u3.below hb
 have v4:=v3.below hb
 clear hb u3 v3 q0 q1 q2 q3 q4 q5 q6 q7 p0 p1 p2 p3 p4 p5 p6 p7
 obtain ⟨q0,q1,q2,q3,q4,q5,q6,q7⟩:=u4.eight
 obtain ⟨p0,p1,p2,p3,p4,p5,p6,p7⟩:=v4.eight
 go_wp2_with fail
 refine (eqStringS_same ia ia' im ic ic' ss _ (h.i.below hB4) (h'.i.below hB4)).mono ?_
 rintro e w5 ⟨rfl,hb⟩
 have hB5:=hB4.trans (hb.mono (by have:=hB4.size;omega))
 have u5:=u4.below hb
 have v5:=v4.below hb
 clear hb u4 v4 q0 q1 q2 q3 q4 q5 q6 q7 p0 p1 p2 p3 p4 p5 p6 p7
 obtain ⟨q0,q1,q2,q3,q4,q5,q6,q7⟩:=u5.eight
 obtain ⟨p0,p1,p2,p3,p4,p5,p6,p7⟩:=v5.eight
 go_wp2_with fail
 refine (eqExportS_same ea ea' en ec ec' es _ (h.e.below hB5) (h'.e.below hB5)).mono ?_
 rintro e w6 ⟨rfl,hb⟩
 have hB6:=hB5.trans (hb.mono (by have:=hB5.size;omega))
 have u6:=u5.below hb
 have v6:=v5.below hb
 clear hb u5 v5 q0 q1 q2 q3 q4 q5 q6 q7 p0 p1 p2 p3 p4 p5 p6 p7
 obtain ⟨q0,q1,q2,q3,q4,q5,q6,q7⟩:=u6.eight
 obtain ⟨p0,p1,p2,p3,p4,p5,p6,p7⟩:=v6.eight
 go_wp2
 go_ret
 exact ⟨rfl,hB6⟩
theorem infoM:(Tryz.prog.info? 104).map (fun i=>(i.zero,i.size,i.bytes))=some (some (.agg #[.string ⟨#[]⟩,.slice none 0 0,.slice none 0 0,.slice none 0 0,.int .i64 0,.slice none 0 0,.slice none 0 0,.slice none 0 0]),8,168):=by kernel_rfl
end Go.Proofs.YtngdgogjlpjjpaeGreat
namespace Go.Proofs.YtngdgogjlpjjpaeGreat
open Go.RowKit Go.Maps
set_option linter.unusedVariables false
set_option linter.unusedSimpArgs false
set_option maxRecDepth 100000
def Same (m m':Md):Prop:=m.nm=m'.nm∧m.tn=m'.tn∧m.tz=m'.tz∧m.bn=m'.bn∧(∀ i,i<m.bn→(m'.bl.getD i zB).2.1=(m.bl.getD i zB).2.1∧(m'.bl.getD i zB).2.2.2=(m.bl.getD i zB).2.2.2)∧m.dn=m'.dn∧m.dz=m'.dz∧m.bss=m'.bss∧m.rn=m'.rn∧m.rz=m'.rz∧m.im=m'.im∧m.ss=m'.ss∧m.en=m'.en∧m.es=m'.es
theorem eqModuleS_same (a a':Option Addr)(n cap cap':Nat)(ms ms':List Md)(w:World)(h:MS w a n cap ms)(h':MS w a' n cap' ms')(hz:∀ i,i<n→Same (ms.getD i zMd) (ms'.getD i zMd)):
 Calls Tryz.prog 15 #[.slice a n cap,.slice a' n cap'] w fun e w'=>e=.returned (.bool true)∧Below w.heap.size w w':=by
 have hmx:=h.2.1
 unfold maxLen at hmx
 have hne:((n:Int) != (n:Int))=false:=by simp
 go_enter Tryz.func15,Tryz.ntmps15
 go_wp2
 go_loopw [5] (fun i wr=>∃ k:Nat,k≤n∧i=.int .i64 k∧Below w.heap.size w wr) (fun i _=>n - (intOf i).toNat)
 case atStart=>exact ⟨0,Nat.zero_le _,rfl,Below.refl _ _⟩
 case round=>
  obtain ⟨k,hk,rfl,hB⟩:=hrel
  by_cases hlt:k<n
  ·have hlt':(k:Int)<(n:Int):=by omega
   obtain ⟨b,off,rfl,q0,q1,q2,q3,q4,q5,q6,q7⟩:=(h.below hB).at k hlt
   obtain ⟨b',off',rfl,p0,p1,p2,p3,p4,p5,p6,p7⟩:=(h'.below hB).at k hlt
   have m1:=(h.below hB).2.2.2.1 k hlt
   have m2:=(h'.below hB).2.2.2.1 k hlt
   have hs:=hz k hlt
   generalize ms.getD k zMd=m at *
   generalize ms'.getD k zMd=m' at *
   obtain ⟨nm,ta,tn,tc,tz,ba,bn,bc,bl,da,dn,dc,dz,bss,ra,rn,rc,rz,ia,im,ic,ss,ea,en,ec,es⟩:=m
   obtain ⟨nm',ta',tn',tc',tz',ba',bn',bc',bl',da',dn',dc',dz',bss',ra',rn',rc',rz',ia',im',ic',ss',ea',en',ec',es'⟩:=m'
   obtain ⟨e1,e2,e3,e4,hbl,e5,e6,e7,e8,e9,e10,e11,e12,e13⟩:=hs
   dsimp only at e1 e2 e3 e4 hbl e5 e6 e7 e8 e9 e10 e11 e12 e13 q0 q1 q2 q3 q4 q5 q6 q7 p0 p1 p2 p3 p4 p5 p6 p7
   subst e1 e2 e3 e4 e5 e6 e7 e8 e9 e10 e11 e12 e13
   have HE:=hide (fun w h h'=>eqModule_same nm ta ta' tn tc tc' tz ba ba' bn bc bc' bl bl' da da' dn dc dc' dz bss ra ra' rn rc rc' rz ia ia' im ic ic' ss ea ea' en ec ec' es w h h' hbl)
   clear hbl
   have HM:=hide (And.intro m1 m2)
   clear m1 m2
   go_wp2
   go_region_held3 (fun w'=>w'.cell? ⟨b,off+k * 8,none⟩=some (.string nm)∧w'.cell? ⟨b,off+k * 8+1,none⟩=some (.slice ta tn tc)∧w'.cell? ⟨b,off+k * 8+2,none⟩=some (.slice ba bn bc)∧w'.cell? ⟨b,off+k * 8+3,none⟩=some (.slice da dn dc)∧w'.cell? ⟨b,off+k * 8+4,none⟩=some (.int .i64 bss)∧w'.cell? ⟨b,off+k * 8+5,none⟩=some (.slice ra rn rc)∧w'.cell? ⟨b,off+k * 8+6,none⟩=some (.slice ia im ic)∧w'.cell? ⟨b,off+k * 8+7,none⟩=some (.slice ea en ec)∧w'.cell? ⟨b',off'+k * 8,none⟩=some (.string nm)∧w'.cell? ⟨b',off'+k * 8+1,none⟩=some (.slice ta' tn tc')∧w'.cell? ⟨b',off'+k * 8+2,none⟩=some (.slice ba' bn bc')∧w'.cell? ⟨b',off'+k * 8+3,none⟩=some (.slice da' dn dc')∧w'.cell? ⟨b',off'+k * 8+4,none⟩=some (.int .i64 bss)∧w'.cell? ⟨b',off'+k * 8+5,none⟩=some (.slice ra' rn rc')∧w'.cell? ⟨b',off'+k * 8+6,none⟩=some (.slice ia' im ic')∧w'.cell? ⟨b',off'+k * 8+7,none⟩=some (.slice ea' en ec')) (go_keep)
    (first
      | (go_at_call 58;refine (HE.out _ (MT.below HM.out.1 (Below.refl _ _).drew) (MT.below HM.out.2 (Below.refl _ _).drew)).mono ?_;rintro e w1 ⟨rfl,hb1⟩;replace hb1:=undrew hb1;obtain ⟨hc1,hf1⟩:=bcell hb1;have hlb:=World.block_lt_of_cell? _ _ q0;have hlb':=World.block_lt_of_cell? _ _ p0))
   clear hc1 hf1 q0 q1 q2 q3 q4 q5 q6 q7 p0 p1 p2 p3 p4 p5 p6 p7
   go_wp2
   go_roundw
   case rel=>exact ⟨k+1,by omega,by go_num,hB.trans (hb1.mono hB.size)⟩
   case measure=>simp [intOf];omega
  ·go_wp2
   go_ret
   exact ⟨rfl,hB⟩
theorem moduleName_any (m:Md)(w:World):Calls Tryz.prog 227 #[.agg m.cells] w fun e w'=>e=.returned (.string m.nm)∧Below w.heap.size w w':=by
 unfold Md.cells
 go_enter Tryz.func227,Tryz.ntmps227
 go_wp2
 go_ret
 exact ⟨rfl,(Below.refl _ _).alloc (Nat.le_refl _) _⟩
def mdNm (ms:List Md)(i:Nat):List UInt8:=(ms.getD i zMd).nm.data.toList
theorem firstOfM_any (a:Option Addr)(n cap:Nat)(ms:List Md)(w:World)(h:MS w a n cap ms)(hn:n≤1048576):
 Calls Tryz.prog 226 #[.slice a n cap,.func (.func 227) #[] #[]] w fun e w'=>e=.returned (.map (some w.heap.size))∧w'.ownsMap Tryz.prog 9 (plainElem Tryz.prog 3) w.heap.size n (fd (mdNm ms) n)∧Below w.heap.size w w':=by
 have hmm:=run_makeMap_room
 have hm1:=h.2.1
 unfold maxLen at hm1
 go_enter Tryz.func226,Tryz.ntmps226
 go_wp2
 go_loopw [16] (fun i wr=>∃ k:Nat,k≤n∧i=.int .i64 k∧wr.ownsMap Tryz.prog 9 (plainElem Tryz.prog 3) w.heap.size k (fd (mdNm ms) k)∧Below w.heap.size w wr) (fun i _=>n - (intOf i).toNat)
 case atStart=>exact ⟨0,Nat.zero_le _,rfl,World.ownsMap_made _ _ _ _,(Below.refl _ _).alloc (Nat.le_refl _) _⟩
 case round=>
  obtain ⟨k,hk,rfl,hown,hB⟩:=hrel
  by_cases hlt:k<n
  ·have hlt':(k:Int)<(n:Int):=by omega
   obtain ⟨bb,off,rfl,q0,q1,q2,q3,q4,q5,q6,q7⟩:=(h.below hB).at k hlt
   have hsz:=(h.2.2.2.1 k hlt).n
   have HX:=hide (fd_succ (mdNm ms) k)
   have hkl:mdNm ms k=(ms.getD k zMd).nm.data.toList:=rfl
   rw [hkl] at HX
   clear hkl
   generalize ms.getD k zMd=m at *
   obtain ⟨nm,ta,tn,tc,tz,ba,bn,bc,bl,da,dn,dc,dz,bss,ra,rn,rc,rz,ia,im,ic,ss,ea,en,ec,es⟩:=m
   dsimp only at q0 q1 q2 q3 q4 q5 q6 q7 hsz HX
   have HKEY:=hide (show keyOf Tryz.prog 9 (.string nm)=some (.string nm.data.toList) from Go.WideMaps.keyOf_string_mk Tryz.underlying9 hsz)
   have HMN:=hide (fun w=>moduleName_any ⟨nm,ta,tn,tc,tz,ba,bn,bc,bl,da,dn,dc,dz,bss,ra,rn,rc,rz,ia,im,ic,ss,ea,en,ec,es⟩ w)
   have hA:Below wr.heap.size wr (wr.alloc (.cells #[.string nm,.slice ta tn tc,.slice ba bn bc,.slice da dn dc,.int .i64 bss,.slice ra rn rc,.slice ia im ic,.slice ea en ec] 104)):=(Below.refl _ _).alloc (Nat.le_refl _) _
   go_wp2_with fail
   refine (HMN.out _).mono ?_
   rintro e w1 ⟨rfl,hb1⟩
   have hb1':=hA.trans (hb1.mono hA.size)
   have hB1:=hB.trans (hb1'.mono hB.size)
   have hown1:w1.ownsMap Tryz.prog 9 (plainElem Tryz.prog 3) w.heap.size k (fd (mdNm ms) k):=by
    obtain ⟨es',cl,hh,r⟩:=hown
    refine ⟨es',cl,?_,r⟩
    have hl:w.heap.size<wr.heap.size:=by
     rcases Nat.lt_or_ge w.heap.size wr.heap.size with h' | h'
     ·exact h'
     ·rw [Array.getElem?_eq_none h'] at hh;cases hh
    rw [hb1'.block _ hl]
    exact hh
   clear hown hA hb1 hb1' q0 q1 q2 q3 q4 q5 q6 q7
   cases hh:has (fd (mdNm ms) k) (.string nm.data.toList)
   ·rw [hh] at HX
    go_wp2_with (first
     | (at_lookup;refine wpList_lookup_own_ok_int _ rfl _ _ 262 rfl 9 3 .i64 lawS Tryz.underlying262 Tryz.underlying3 (zeroI _) w.heap.size k _ rfl hown1 _ _ rfl HKEY.out ?_;intro c hat hwc;clear hat;rw [hh])
     | (at_mapUpdate;refine wpList_mapUpdate_own _ rfl _ _ _ 262 rfl 9 3 lawS Tryz.underlying262 _ w.heap.size k _ rfl hown1 (by unfold maxLen;omega) _ _ _ rfl rfl HKEY.out _ [] (plainElem_int Tryz.underlying3 (WalkArith.wf_i64 (by omega))) ?_;intro w2 hown2 hgr2))
    have HO:=hide hown2
    have HB2:=hide (hB1.grown hgr2 hB1.size (fun j hj=>by cases hj;exact Nat.le_refl _))
    clear hown2 hgr2 hown1
    go_wp2
    go_roundw
    case rel=>exact ⟨k+1,by omega,by go_num,by have:=HO.out;rw [HX.out,if_neg (by simp)];exact this,HB2.out⟩
    case measure=>simp [intOf];omega
   ·rw [hh] at HX
    go_wp2_with (first
     | (at_lookup;refine wpList_lookup_own_ok_int _ rfl _ _ 262 rfl 9 3 .i64 lawS Tryz.underlying262 Tryz.underlying3 (zeroI _) w.heap.size k _ rfl hown1 _ _ rfl HKEY.out ?_;intro c hat hwc;clear hat;rw [hh]))
    have HO:=hide hown1
    clear hown1
    go_wp2
    go_roundw
    case rel=>exact ⟨k+1,by omega,by go_num,by have:=HO.out;rw [HX.out,if_pos trivial];exact this.mono (by omega),hB1⟩
    case measure=>simp [intOf];omega
  ·have e:Hid (k=n):=by show k=n;omega
   go_wp2
   go_ret
   exact ⟨rfl,by rw [e.out] at hown;exact hown,hB⟩
def tbf (n:Nat)(ms:List Md):Bool:=decide (n≤4) && (List.range n).all fun i=>decide ((ms.getD i zMd).en≤16)
theorem tablesFit_any (a:Option Addr)(n cap:Nat)(ms:List Md)(w:World)(h:MS w a n cap ms):
 Calls Tryz.prog 270 #[.slice a n cap] w fun e w'=>e=.returned (.bool (tbf n ms))∧Below w.heap.size w w':=by
 have hm1:=h.2.1
 unfold maxLen at hm1
 obtain ⟨r,hr⟩:∃ r,r=tbf n ms:=⟨_,rfl⟩
 rw [← hr]
 unfold tbf at hr
 by_cases c1:4<n
 ·have HR:=hide (show r=false by rw [hr,decide_eq_false (by omega)];rfl)
  clear hr
  have c1':(4:Int)<(n:Int):=by omega
  go_enter Tryz.func270,Tryz.ntmps270
  go_wp2
  go_ret
  exact ⟨ret_bool HR.out.symm,Below.refl _ _⟩
 ·have c1':¬ (4:Int)<(n:Int):=by omega
  have HR:=hide (show r=(List.range n).all (fun i=>decide ((ms.getD i zMd).en≤16)) by rw [hr,decide_eq_true (by omega)];rfl)
  clear hr
  go_enter Tryz.func270,Tryz.ntmps270
  go_wp2_with fail
  go_loopw [10] (fun i wr=>∃ k:Nat,k≤n∧i=.int .i64 k∧Hid (∀ j,j<k→decide ((ms.getD j zMd).en≤16)=true)∧Below w.heap.size w wr) (fun i _=>n - (intOf i).toNat)
  case atStart=>exact ⟨0,Nat.zero_le _,rfl,hide (fun j hj=>by omega),Below.refl _ _⟩
  case round=>
   obtain ⟨k,hk,rfl,HJ,hB⟩:=hrel
   by_cases hlt:k<n
   ·have hlt':(k:Int)<(n:Int):=by omega
    obtain ⟨bb,off,rfl,q0,q1,q2,q3,q4,q5,q6,q7⟩:=(h.below hB).at k hlt
    have HZ:=hide (rng_bad (fun i=>decide ((ms.getD i zMd).en≤16)) n k hlt)
    have HG:=hide (show decide ((ms.getD k zMd).en≤16)=true→∀ j,j<k+1→decide ((ms.getD j zMd).en≤16)=true from fun h j hj=>by
     by_cases e:j=k
     ·subst e;exact h
     ·exact HJ.out j (by omega))
    generalize ms.getD k zMd=m at *
    obtain ⟨nm,ta,tn,tc,tz,ba,bn,bc,bl,da,dn,dc,dz,bss,ra,rn,rc,rz,ia,im,ic,ss,ea,en,ec,es⟩:=m
    dsimp only at q0 q1 q2 q3 q4 q5 q6 q7 HZ HG
    have HB1:=hide (hB.alloc hB.size (.cells #[.string nm,.slice ta tn tc,.slice ba bn bc,.slice da dn dc,.int .i64 bss,.slice ra rn rc,.slice ia im ic,.slice ea en ec] 104))
    by_cases d:16<en
    ·have d':(16:Int)<(en:Int):=by omega
     go_wp2
     go_ret
     exact ⟨ret_bool (by rw [HR.out];exact (HZ.out (decide_eq_false (by omega))).symm),HB1.out⟩
    ·have d':¬ (16:Int)<(en:Int):=by omega
     go_wp2
     go_roundw
     case rel=>exact ⟨k+1,by omega,by go_num,hide (HG.out (decide_eq_true (by omega))),HB1.out⟩
     case measure=>simp [intOf];omega
   ·have HE:=hide (rng_good (fun i=>decide ((ms.getD i zMd).en≤16)) n (fun j hj=>HJ.out j (by omega)))
    go_wp2
    go_ret
    exact ⟨ret_bool (by rw [HR.out];exact HE.out.symm),hB⟩
def rsT (n:Nat)(ms:List Md)(s:ByteArray):Option (Nat × Nat):=
 if full s=true∧tbf n ms=true then (fst? (mdNm ms) (cutA s).data.toList n).bind fun i=>(fst? (exNm (ms.getD i zMd).es) (cutB s).data.toList (ms.getD i zMd).en).map fun k=>(i,k) else none
def rsv (n:Nat)(ms:List Md)(s:ByteArray):Value:=
 match rsT n ms s with
 | some (i,k)=>.tuple #[.agg #[.int .i64 i,.int .i64 ((ms.getD i zMd).es.getD k zE).2.1,.int .i64 ((ms.getD i zMd).es.getD k zE).2.2],.bool true]
 | none=>.tuple #[.agg #[.int .i64 0,.int .i64 0,.int .i64 0],.bool false]
end Go.Proofs.YtngdgogjlpjjpaeGreat
