import Derived.Test.YtngdgogjlpjjpadGreatP02
import Derived.Test.YtngdgogjlpjjpadGreatP03
import Derived.Test.YtngdgogjlpjjpadGreatP05
import Derived.Test.YtngdgogjlpjjpadGreatP06
namespace Go.Proofs.YtngdgogjlpjjpadGreat
open Go.RowKit
set_option linter.unusedVariables false
set_option linter.unusedSimpArgs false
set_option maxRecDepth 100000
theorem snd4_1 {ps:List PMod} {s w k d:Int} (h:cfo s w k d=false):snd4 ps s w k d=1:=if_pos h
theorem snd4_2 {ps:List PMod} {s w k d:Int} (h:cfo s w k d=true) (h2:ps.length<1∨4<ps.length):snd4 ps s w k d=2:=by
 unfold snd4;rw [if_neg (by rw [h];decide),if_pos h2]
theorem snd4_3 {ps:List PMod} {s w k d:Int} (h:cfo s w k d=true) (h2:¬ (ps.length<1∨4<ps.length)) (i:Nat) (hi:i<ps.length) (h3:mdoP (ps.getD i zP)≠0):snd4 ps s w k d=3:=by
 unfold snd4;rw [if_neg (by rw [h];decide),if_neg h2,if_pos (fun v=>h3 (v i hi))]
theorem snd4_4 {ps:List PMod} {s w k d:Int} (h:cfo s w k d=true) (h2:¬ (ps.length<1∨4<ps.length)) (h3:vlds ps) (i j:Nat) (hi:i<ps.length) (hj:j<i) (h4:(ps.getD j zP).nm=(ps.getD i zP).nm):snd4 ps s w k d=4:=by
 unfold snd4;rw [if_neg (by rw [h];decide),if_neg h2,if_neg (fun v=>v h3),if_pos (fun v=>v i hi j hj h4)]
theorem snd4_0 {ps:List PMod} {s w k d:Int} (h:cfo s w k d=true) (h2:¬ (ps.length<1∨4<ps.length)) (h3:vlds ps) (h4:nms ps):snd4 ps s w k d=0:=by
 unfold snd4;rw [if_neg (by rw [h];decide),if_neg h2,if_neg (fun v=>v h3),if_neg (fun v=>v h4)]
theorem below_dN {B:Nat} {a W:World} (h:Below B a W) (n:Nat):Below B a (W.drewN n):=⟨h.os,h.tape,h.output,h.size,h.block⟩
theorem str_ne {a b:ByteArray} (h:a≠b):(a.toList == b.toList)=false:=by
 rw [beq_eq_false_iff_ne]
 intro e
 apply h
 rw [ByteArray.toList_eq,ByteArray.toList_eq] at e
 cases a
 cases b
 simp at e
 rw [e]
set_option maxHeartbeats 1000000 in
theorem l5Round_any (x:Int) (w:World) (h0:0≤x) (h1:x≤4294967295):Calls Tryz.prog 142 #[.int .i64 x] w fun e w'=>e=.returned (.int .i64 (rnd x))∧w'=w:=by
 have hd:(x+31).tdiv 32=(x+31) / 32:=Int.tdiv_eq_ediv_of_nonneg (by omega)
 go_enter Tryz.func142,Tryz.ntmps142
 go_wp2
 go_ret
 exact ⟨ret_int (by unfold rnd;rw [show x+31=x+32 - 1 by omega]),rfl⟩
theorem Md.okS {m:Md} {w:World} (h:m.md w):Calls Tryz.prog 140 #[.agg #[.string m.nm,.slice m.ta m.tn m.tc,.slice m.ba m.bn m.bc,.slice m.da m.dn m.dc,.int .i64 m.bss,.slice m.ra m.rn m.rc,.slice m.ia m.im m.ic,.slice m.ea m.en m.ec]] w fun e w'=>e=.returned (.int .i64 (mdoP m.pm))∧Below w.heap.size w w':=by
 have:=sModuleOk_any _ _ _ _ _ _ _ _ _ _ _ _ _ _ _ _ _ _ _ _ _ _ _ _ _ _ w h
 rw [md_mdo h] at this
 exact this
set_option maxHeartbeats 4000000 in
theorem l5Sound_any (a:Option Addr) (n cap:Nat) (ms:List Md) (s c k d:Int) (w:World) (h:MSD w a n cap ms):
 Calls Tryz.prog 54 #[.slice a n cap,.agg #[.int .i64 s,.int .i64 c,.int .i64 k,.int .i64 d]] w fun e w'=>e=.returned (.int .i64 (snd4 (pmS ms) s c k d))∧Below w.heap.size w w':=by
 have hA:Below w.heap.size w (w.alloc (.cells #[.int .i64 s,.int .i64 c,.int .i64 k,.int .i64 d] 25)):=(Below.refl _ _).alloc (Nat.le_refl _) _
 have hl:=h.s.1
 have hm1:=h.s.2.1
 unfold maxLen at hm1
 have hpl:=pmS_len ms
 have HH:=hide h
 have HC:=hide (fun W=>sConfigOk_any s c k d W)
 clear h
 go_enter Tryz.func54,Tryz.ntmps54
 go_wp2_with fail
 refine (HC.out _).mono ?_
 rintro e w1 ⟨rfl,hb1⟩
 have HB1:=hide (hA.trans (hb1.mono (by simp)))
 clear hA hb1 HC
 cases hcf:cfo s c k d with
 | false=>
   have HS:=hide (snd4_1 (ps:=pmS ms) hcf)
   go_wp2
   go_ret
   exact ⟨ret_int HS.out.symm,HB1.out⟩
 | true=>
   by_cases hn2:n<1∨4<n
   ·have HS:=hide (snd4_2 (ps:=pmS ms) hcf (by omega))
    by_cases hn1:n<1
    ·have hn1':(n:Int)<1:=by omega
     clear hn2
     go_wp2
     go_ret
     exact ⟨ret_int HS.out.symm,HB1.out⟩
    ·have hn1':¬ (n:Int)<1:=by omega
     have hn4':(4:Int)<(n:Int):=by omega
     clear hn2
     go_wp2
     go_ret
     exact ⟨ret_int HS.out.symm,HB1.out⟩
   have hn1':¬ (n:Int)<1:=by omega
   have hn4':¬ (4:Int)<(n:Int):=by omega
   have HN2:=hide (show ¬ ((pmS ms).length<1∨4<(pmS ms).length) by rw [hpl,hl];exact hn2)
   clear hn2
   go_wp2
   go_loopw [5] (fun i wr=>∃ m:Nat,m≤n∧i=.int .i64 m∧(∀ j,j<m→mdoP ((pmS ms).getD j zP)=0)∧Below w.heap.size w wr) (fun i _=>n - (intOf i).toNat)
   case atStart=>exact ⟨0,Nat.zero_le _,rfl,fun j hj=>absurd hj (by omega),HB1.out⟩
   case round=>
    obtain ⟨m,hm,rfl,hv,B⟩:=hrel
    by_cases hlt:m<n
    ·have hlt':(m:Int)<(n:Int):=by omega
     have H:=HH.out.below B
     obtain ⟨b,off,rfl,q0,q1,q2,q3,q4,q5,q6,q7⟩:=H.s.at m hlt
     have HOK:=hide (Md.okS (H.d m hlt))
     rw [← pmS_at (by omega)] at HOK
     have HV:=hide hv
     have HB:=hide B
     obtain ⟨V,hV⟩:∃ V,V=mdoP ((pmS ms).getD m zP):=⟨_,rfl⟩
     rw [← hV] at HOK
     have HVV:=hide hV
     generalize ms.getD m zMd=M at *
     clear hv B H hV
     go_wp2_with fail
     refine HOK.out.mono ?_
     rintro e w2 ⟨rfl,hb2⟩
     have HB2:=hide (HB.out.trans (hb2.mono HB.out.size))
     clear hb2 HOK HB q0 q1 q2 q3 q4 q5 q6 q7
     by_cases hz:V=0
     ·subst hz
      have HV2:=hide (show ∀ j,j<m+1→mdoP ((pmS ms).getD j zP)=0 from fun j hj=>by
       by_cases e:j=m
       ·subst e;exact HVV.out.symm
       ·exact HV.out j (by omega))
      go_wp2
      go_roundw
      case rel=>exact ⟨m+1,by omega,by go_num,HV2.out,HB2.out⟩
      case measure=>simp [intOf];omega
     ·have hz':(V != 0)=true:=by simp [hz]
      have HS:=hide (snd4_3 (ps:=pmS ms) hcf HN2.out m (by omega) (by rw [← HVV.out];exact hz))
      go_wp2
      go_ret
      exact ⟨ret_int HS.out.symm,HB2.out⟩
    ·have hlt':¬ (m:Int)<(n:Int):=by omega
     have HV:=hide (show vlds (pmS ms) from fun i hi=>hv i (by omega))
     have HB:=hide B
     clear hv B
     go_wp2
     go_loopw [6] (fun i wr=>∃ m:Nat,m≤n∧i=.int .i64 m∧(∀ i,i<m→∀ k,k<i→((pmS ms).getD k zP).nm≠((pmS ms).getD i zP).nm)∧Below w.heap.size w wr) (fun i _=>n - (intOf i).toNat)
     case atStart=>exact ⟨0,Nat.zero_le _,rfl,fun j hj=>absurd hj (by omega),HB.out⟩
     case round=>
      obtain ⟨p,hp,rfl,hv,B⟩:=hrel
      by_cases hlt2:p<n
      ·have hlt2':(p:Int)<(n:Int):=by omega
       have HP:=hide hv
       have HB3:=hide B
       clear hv B
       go_wp2
       go_loopw [7] (fun i wr=>∃ q:Nat,q≤p∧i=.int .i64 q∧(∀ k,k<q→((pmS ms).getD k zP).nm≠((pmS ms).getD p zP).nm)∧Below w.heap.size w wr) (fun i _=>p - (intOf i).toNat)
       case atStart=>exact ⟨0,Nat.zero_le _,rfl,fun j hj=>absurd hj (by omega),HB3.out⟩
       case round=>
        obtain ⟨q,hq,rfl,hv,B⟩:=hrel
        by_cases hlt3:q<p
        ·have hlt3':(q:Int)<(p:Int):=by omega
         have hqn:(q:Int)<(n:Int):=by omega
         have H:=HH.out.below B
         obtain ⟨b,off,rfl,q0,_⟩:=H.s.at q (by omega)
         obtain ⟨b',off',e',r0,_⟩:=H.s.at p hlt2
         simp at e'
         obtain ⟨rfl,rfl⟩:=e'
         have e1:((pmS ms).getD q zP).nm=(ms.getD q zMd).nm:=by rw [pmS_at (by omega)];rfl
         have e2:((pmS ms).getD p zP).nm=(ms.getD p zMd).nm:=by rw [pmS_at (by omega)];rfl
         have HQ:=hide hv
         have HB4:=hide B
         by_cases hnm:(ms.getD q zMd).nm=(ms.getD p zMd).nm
         ·have HS:=hide (snd4_4 (ps:=pmS ms) hcf HN2.out HV.out p q (by omega) hlt3 (by rw [e1,e2];exact hnm))
          rw [hnm] at q0
          have heq:((ms.getD p zMd).nm.toList == (ms.getD p zMd).nm.toList)=true:=by simp
          generalize ms.getD p zMd=M at *
          clear hv B H e1 e2 hnm
          go_wp2_with fail
          go_quiet (fail)
          go_wp2
          go_ret
          exact ⟨ret_int HS.out.symm,below_dN HB4.out nq⟩
         ·have hne:=str_ne hnm
          have HQ2:=hide (show ∀ k,k<q+1→((pmS ms).getD k zP).nm≠((pmS ms).getD p zP).nm from fun k hk=>by
           by_cases e:k=q
           ·subst e;rw [e1,e2];exact hnm
           ·exact HQ.out k (by omega))
          generalize (ms.getD p zMd).nm=N1 at *
          generalize (ms.getD q zMd).nm=N2 at *
          clear hv B H e1 e2 hnm
          go_wp2_with fail
          go_quiet (fail)
          go_wp2
          go_roundw
          case rel=>exact ⟨q+1,by omega,by go_num,HQ2.out,below_dN HB4.out nq⟩
          case measure=>simp [intOf];omega
        ·have hlt3':¬ (q:Int)<(p:Int):=by omega
         have HQ2:=hide (show ∀ i,i<p+1→∀ k,k<i→((pmS ms).getD k zP).nm≠((pmS ms).getD i zP).nm from fun i hi k hk=>by
          by_cases e:i=p
          ·subst e;exact hv k (by omega)
          ·exact HP.out i (by omega) k hk)
         have HB4:=hide B
         clear hv B
         go_wp2
         go_roundw
         case rel=>exact ⟨p+1,by omega,by go_num,HQ2.out,HB4.out⟩
         case measure=>simp [intOf];omega
      ·have hlt2':¬ (p:Int)<(n:Int):=by omega
       have HS:=hide (snd4_0 (ps:=pmS ms) hcf HN2.out HV.out (fun i hi k hk=>hv i (by omega) k hk))
       have HB3:=hide B
       clear hv B
       go_wp2
       go_ret
       exact ⟨ret_int HS.out.symm,HB3.out⟩
structure Vm (nm:ByteArray) (tn:Nat) (tz:List Int) (bn:Nat) (bl:List Bk) (dn:Nat) (bss:Int) (rn:Nat) (rz:List Int) (im:Nat) (ss:List ByteArray) (en:Nat) (es:List Ex):Prop where
 n:nm.size≤12
 t:tn≤200
 tw:∀ z ∈ tz,0≤z∧z≤4294967295
 b:bn≤4
 bw:∀ i,i<bl.length→(bl.getD i zB).2.1≤64∧∀ z ∈ (bl.getD i zB).2.2.2,0≤z∧z≤4294967295
 d:dn≤512
 s:0≤bss∧bss≤512
 r:rn≤16
 rw:∀ i,i<rn→0≤rz.getD i 0∧rz.getD i 0≤512
 i:im≤16
 iw:∀ i,i<im→(ss.getD i zS).size≤25
 e:en≤16
 ew:∀ i,i<en→(es.getD i zE).1.size≤12∧-1≤(es.getD i zE).2.1∧(es.getD i zE).2.1≤4∧0≤(es.getD i zE).2.2∧(es.getD i zE).2.2≤200
theorem wds_all {zs:List Int} (h:wds zs=true):∀ z ∈ zs,0≤z∧z≤4294967295:=fun z hz=>by
 unfold wds at h
 rw [List.all_eq_true] at h
 simpa using h z hz
theorem nmo_size {s:ByteArray} (h:nmo s=true):s.size≤12:=by
 unfold nmo at h
 simp at h
 omega
theorem full_size {s:ByteArray} (h:full s=true):s.size≤25:=by
 unfold full at h
 simp only [Bool.and_eq_true,decide_eq_true_eq] at h
 obtain ⟨h0,h1,h2⟩:=h
 have a1:=nmo_size h1
 have a2:=nmo_size h2
 have hd:=dot_range s
 unfold cutA at a1
 unfold cutB at a2
 simp only [ByteArray.size_extract] at a1 a2
 omega
theorem rng_all {f:Nat→Bool} {n:Nat} (h:(List.range n).all f=true) (i:Nat) (hi:i<n):f i=true:=by
 rw [List.all_eq_true] at h
 exact h i (by simpa using hi)
theorem vm_of_mdo {nm:ByteArray} {tn:Nat} {tz:List Int} {bn:Nat} {bl:List Bk} {dn:Nat} {bss:Int} {rn:Nat} {rz:List Int} {im:Nat} {ss:List ByteArray} {en:Nat} {es:List Ex} (hbl:bl.length=bn) (h:mdo nm tn tz bn bl dn bss rn rz im ss en es=0):Vm nm tn tz bn bl dn bss rn rz im ss en es:=by
 unfold mdo at h
 by_cases c1:nmo nm=false
 ·rw [if_pos c1] at h;simp at h
 rw [if_neg c1] at h
 by_cases c2:cdo tn tz bn bl=false
 ·rw [if_pos c2] at h;simp at h
 rw [if_neg c2] at h
 by_cases c3:512<dn∨bss<0∨512<bss
 ·rw [if_pos c3] at h;simp at h
 rw [if_neg c3] at h
 by_cases c4:rlo rn rz dn=false
 ·rw [if_pos c4] at h;simp at h
 rw [if_neg c4] at h
 by_cases c5:imo im ss=false
 ·rw [if_pos c5] at h;simp at h
 rw [if_neg c5] at h
 by_cases c6:exo tn bn bl en es=false
 ·rw [if_pos c6] at h;simp at h
 simp only [Bool.not_eq_false] at c1 c2 c4 c5 c6
 unfold cdo at c2
 unfold rlo at c4
 unfold imo at c5
 unfold exo at c6
 simp only [Bool.and_eq_true,decide_eq_true_eq] at c2 c4 c5 c6
 obtain ⟨⟨t1,t2⟩,t3,t4⟩:=c2
 have hb:∀ i,i<bl.length→(bl.getD i zB).2.1≤64∧∀ z ∈ (bl.getD i zB).2.2.2,0≤z∧z≤4294967295:=fun i hi=>by
  rw [List.all_eq_true] at t4
  have hm:bl.getD i zB ∈ bl:=by simp [List.getD_eq_getElem?_getD,hi]
  have:=t4 _ hm
  unfold bko at this
  simp only [Bool.and_eq_true,decide_eq_true_eq] at this
  exact ⟨this.1.2,wds_all this.2⟩
 refine ⟨nmo_size c1,t1,wds_all t3,t2,hb,by omega,by omega,c4.1,fun i hi=>?_,c5.1,fun i hi=>full_size (rng_all c5.2 i hi),c6.1,fun i hi=>?_⟩
 ·have:=rng_all c4.2 i hi
  unfold rlk at this
  simp only [Bool.and_eq_true,decide_eq_true_eq] at this
  omega
 ·have:=rng_all c6.2 i hi
  unfold ex1 at this
  simp only [Bool.and_eq_true,decide_eq_true_eq] at this
  obtain ⟨⟨n1,a1,a2⟩,_⟩:=this
  have n2:=nmo_size n1
  have hp:pcn tn bn bl (es.getD i zE).2.1≤200∧(0<pcn tn bn bl (es.getD i zE).2.1→-1≤(es.getD i zE).2.1∧(es.getD i zE).2.1≤4):=by
   unfold pcn
   split
   ·omega
   ·split
    ·next h1 h2=>
     have:=(hb (es.getD i zE).2.1.toNat (by omega)).1
     omega
    ·omega
  have:=hp.2 (by omega)
  omega
def clG (t:Tg):List Value:=[.int .i64 t.1,.int .i64 t.2.1,.int .i64 t.2.2]
theorem infoG:(Tryz.prog.info? 72).map (fun i=>(i.zero,i.size,i.bytes))=some (some (.agg #[.int .i64 0,.int .i64 0,.int .i64 0]),3,24):=by kernel_rfl
theorem og_new' {α:Type} (t:TypeId) (sz:Nat) (f:α→List Value) (w:World) (base:Nat) (hb:base≤w.heap.size):OG t sz f (w.alloc (.cells #[] t)) base (.slice (some ⟨w.heap.size,0,none⟩) 0 0) []:=
 ⟨by simp,.inr ⟨w.heap.size,0,#[],rfl,hb,heap_alloc_new w _,Nat.le_refl _,by unfold maxLen;omega,by simp,by simp⟩⟩
theorem below_gr {a W W':World} {row:Option Nat} (h:Below a.heap.size a W) (hg:W.grownBy W' row) (hr:∀ k,row=some k→a.heap.size≤k):Below a.heap.size a W':=
 below_turn h ⟨hg.os,hg.tape,hg.output,hg.size,fun j hj (hs:¬ row=some j)=>hg.block j hj (fun e=>hs e.symm)⟩ hr h.size
theorem blk_grown {W W':World} {row:Option Nat} {k:Nat} {cs:Array Value} {t:TypeId} (h:Blk W k cs t) (hg:W.grownBy W' row) (hr:some k≠row):Blk W' k cs t:=
 turn_blk (S:=fun j=>row=some j) ⟨hg.os,hg.tape,hg.output,hg.size,fun j hj hs=>hg.block j hj (fun e=>hs e.symm)⟩ h (fun e=>hr e.symm)
def tgN (ps:List PMod) (P:PMod) (m:Nat):List Tg:=(List.range m).map fun i=>(tgOf ps (P.ss.getD i zS)).getD zT
theorem tgN_len (ps:List PMod) (P:PMod) (m:Nat):(tgN ps P m).length=m:=by simp [tgN]
theorem tgN_succ (ps:List PMod) (P:PMod) (m:Nat) {t:Tg} (h:tgOf ps (P.ss.getD m zS)=some t):tgN ps P (m+1)=tgN ps P m++[t]:=by
 simp only [tgN,List.range_succ,List.map_append,List.map_cons,List.map_nil,h,Option.getD_some]
theorem tgN_all (ps:List PMod) (P:PMod):tgN ps P P.ss.length=tgs ps P:=rfl
theorem vld_en {P:PMod} (h:mdoP P=0):P.es.length≤16∧P.ss.length≤16∧P.tz.length≤200∧P.bl.length≤4∧P.dz.length≤512∧0≤P.bss∧P.bss≤512∧∀ k,k<P.bl.length→(P.bl.getD k []).length≤64:=by
 unfold mdoP at h
 have V:=vm_of_mdo (by simp [bkOf]) h
 refine ⟨V.e,V.i,V.t,V.b,V.d,V.s.1,V.s.2,fun k hk=>?_⟩
 have:=(V.bw k (by simp [bkOf];exact hk)).1
 simpa [bkOf,List.getD_eq_getElem?_getD,hk] using this
theorem MSD.es {w:World} {a:Option Addr} {n cap:Nat} {ms:List Md} (h:MSD w a n cap ms) (hv:vlds (pmS ms)):∀ i,i<n→ES w (ms.getD i zMd).ea (ms.getD i zMd).en (ms.getD i zMd).ec (ms.getD i zMd).es∧(ms.getD i zMd).en≤1048576:=fun i hi=>by
 have hl:=h.s.1
 have e:=(h.d i hi).e
 refine ⟨e,?_⟩
 have h1:=(vld_en (hv i (by rw [pmS_len];omega))).1
 rw [pmS_at (by omega)] at h1
 have h2:(ms.getD i zMd).pm.es.length=(ms.getD i zMd).en:=e.1
 omega
theorem MSD.resS {w:World} {a:Option Addr} {n cap:Nat} {ms:List Md} (h:MSD w a n cap ms) (hv:vlds (pmS ms)) (hn:n≤4) (s:ByteArray) (hs:s.size≤1048576):Calls Tryz.prog 141 #[.slice a n cap,.string s] w fun e w'=>e=.returned (tgV (tgOf (pmS ms) s))∧Below w.heap.size w w':=by
 have:=sResolve_any a n cap ms s w h.s (by omega) hs (h.es hv)
 rw [rsv_tg h.s.1 (fun i hi=>(h.d i hi).e.1)] at this
 exact this
theorem MSD.resI {w:World} {a:Option Addr} {n cap:Nat} {ms:List Md} (h:MSD w a n cap ms) (hv:vlds (pmS ms)) (hn:n≤4) (s:ByteArray) (hs:s.size≤1048576):Calls Tryz.prog 146 #[.slice a n cap,.string s] w fun e w'=>e=.returned (tgV (tgOf (pmS ms) s))∧Below w.heap.size w w':=by
 have:=iResolve_any a n cap ms s w h.s (by omega) hs (h.es hv)
 rw [rsv_tg h.s.1 (fun i hi=>(h.d i hi).e.1)] at this
 exact this
set_option maxHeartbeats 4000000 in
theorem l5Targets_any (a:Option Addr) (n cap:Nat) (ms:List Md) (M:Md) (w:World) (h:MSD w a n cap ms) (hv:vlds (pmS ms)) (hn:n≤4) (hM:M.md w) (hok:mdoP M.pm=0):
 Calls Tryz.prog 55 #[.slice a n cap,.agg #[.string M.nm,.slice M.ta M.tn M.tc,.slice M.ba M.bn M.bc,.slice M.da M.dn M.dc,.int .i64 M.bss,.slice M.ra M.rn M.rc,.slice M.ia M.im M.ic,.slice M.ea M.en M.ec]] w fun e w'=>Below w.heap.size w w'∧((¬ tgOk (pmS ms) M.pm∧∃ v,e=.returned (.tuple #[v,.bool false]))∨(tgOk (pmS ms) M.pm∧∃ a c,e=.returned (.tuple #[.slice a (tgs (pmS ms) M.pm).length c,.bool true])∧OG 72 3 clG w' w.heap.size (.slice a (tgs (pmS ms) M.pm).length c) (tgs (pmS ms) M.pm))):=by
 obtain ⟨iG,hi,hz0,hz1,hz2⟩:=info_parts infoG
 have hA:Below w.heap.size w (w.alloc (.cells #[.string M.nm,.slice M.ta M.tn M.tc,.slice M.ba M.bn M.bc,.slice M.da M.dn M.dc,.int .i64 M.bss,.slice M.ra M.rn M.rc,.slice M.ia M.im M.ic,.slice M.ea M.en M.ec] 49)):=(Below.refl _ _).alloc (Nat.le_refl _) _
 have k0:=Blk.new w #[.string M.nm,.slice M.ta M.tn M.tc,.slice M.ba M.bn M.bc,.slice M.da M.dn M.dc,.int .i64 M.bss,.slice M.ra M.rn M.rc,.slice M.ia M.im M.ic,.slice M.ea M.en M.ec] 49
 have him:M.im≤16:=by have h1:=(vld_en hok).2.1;have h2:M.pm.ss.length=M.im:=hM.i.1;omega
 have hil:M.pm.ss.length=M.im:=hM.i.1
 have HS:=hide (fun (W:World) (hb:Below w.heap.size w W) (s:ByteArray) (hs:s.size≤1048576)=>(h.below hb).resS hv hn s hs)
 have HI:=hide hM.i
 have O0:=og_new' 72 3 clG (w.alloc (.cells #[.string M.nm,.slice M.ta M.tn M.tc,.slice M.ba M.bn M.bc,.slice M.da M.dn M.dc,.int .i64 M.bss,.slice M.ra M.rn M.rc,.slice M.ia M.im M.ic,.slice M.ea M.en M.ec] 49)) w.heap.size hA.size
 have hA2:=hA.trans (((Below.refl _ (w.alloc (.cells #[.string M.nm,.slice M.ta M.tn M.tc,.slice M.ba M.bn M.bc,.slice M.da M.dn M.dc,.int .i64 M.bss,.slice M.ra M.rn M.rc,.slice M.ia M.im M.ic,.slice M.ea M.en M.ec] 49))).alloc (Nat.le_refl _) (.cells #[] 72)).mono hA.size)
 have k1:=k0.alloc (.cells #[] 72)
 simp only [World.size_alloc] at O0
 have HP:=hide (And.intro O0 (And.intro hA2 k1))
 clear O0 hA hA2 k0 k1 h hM hok
 go_enter Tryz.func55,Tryz.ntmps55
 go_wp2_with fail
 go_loopw [6,7] (fun x i wr=>∃ m:Nat,m≤M.im∧i=.int .i64 m∧(∀ j,j<m→(tgOf (pmS ms) (M.pm.ss.getD j zS)).isSome=true)∧OG 72 3 clG wr w.heap.size x (tgN (pmS ms) M.pm m)∧Below w.heap.size w wr∧Blk wr w.heap.size #[.string M.nm,.slice M.ta M.tn M.tc,.slice M.ba M.bn M.bc,.slice M.da M.dn M.dc,.int .i64 M.bss,.slice M.ra M.rn M.rc,.slice M.ia M.im M.ic,.slice M.ea M.en M.ec] 49) (fun _ i _=>M.im - (intOf i).toNat)
 case atStart=>exact ⟨0,Nat.zero_le _,rfl,fun j hj=>absurd hj (by omega),HP.out.1,HP.out.2.1,HP.out.2.2⟩
 case round=>
  clear HP
  obtain ⟨m,hm,rfl,hs,O,B,k⟩:=hrel
  have q6:wr.cell? ⟨w.heap.size,6,none⟩=some (.slice M.ia M.im M.ic):=k.cell 6
  obtain ⟨a',c',rfl⟩:=og_shape O
  rw [tgN_len] at *
  by_cases hlt:m<M.im
  ·have hlt':(m:Int)<(M.im:Int):=by omega
   obtain ⟨_,_,hsz,hcs,_⟩:=HI.out
   obtain ⟨b,off,hia,hc⟩:=hcs (by omega)
   have c0:=((B.cell (World.block_lt_of_cell? w _ (hc m hlt))).trans (hc m hlt))
   have hss:(M.ss.getD m zS).size≤1048576:=hsz _ (by have:=HI.out.1;simp [List.getD_eq_getElem?_getD,show m<M.ss.length by omega])
   have HR:=hide (HS.out wr B (M.ss.getD m zS) hss)
   rw [hia] at q6
   clear hia
   have HQ:=hide (And.intro O (And.intro B k))
   have HSS:=hide hs
   have HTS:=hide (fun t (h:tgOf (pmS ms) (M.ss.getD m zS)=some t)=>tgN_succ (ps:=pmS ms) (P:=M.pm) m h)
   have HBAD:=hide (fun (h:tgOf (pmS ms) (M.ss.getD m zS)=none)=>(show ¬ tgOk (pmS ms) M.pm from fun hk=>by have:=hk m (by rw [hil];exact hlt);rw [show M.pm.ss.getD m zS=M.ss.getD m zS from rfl,h] at this;cases this))
   have HGO:=hide (fun t (h:tgOf (pmS ms) (M.ss.getD m zS)=some t)=>(show ∀ j,j<m+1→(tgOf (pmS ms) (M.pm.ss.getD j zS)).isSome=true from fun j hj=>by
    by_cases e:j=m
    ·subst e;rw [show M.pm.ss.getD j zS=M.ss.getD j zS from rfl,h];rfl
    ·exact HSS.out j (by omega)))
   generalize M.ss.getD m zS=str at *
   clear O B k hs hc hsz hcs HI HSS
   go_wp2_with fail
   refine HR.out.mono ?_
   rintro e w1 ⟨rfl,hb1⟩
   obtain ⟨O,B,k⟩:=HQ.out
   have B1:=B.trans (hb1.mono B.size)
   cases ho:tgOf (pmS ms) str with
   | none=>
     have HF:=hide (And.intro (B1.trans (((Below.refl _ w1).alloc (Nat.le_refl _) (.cells #[.int .i64 0,.int .i64 0,.int .i64 0] 72)).mono B1.size)) (HBAD.out ho))
     clear O B k hb1 B1 HQ HR HTS HBAD HGO q6 c0
     unfold tgV
     go_wp2
     go_ret2
     exact ⟨HF.out.1,.inl ⟨HF.out.2,_,rfl⟩⟩
   | some t=>
     obtain ⟨t1,t2,t3⟩:=t
     have al1:Below w1.heap.size w1 (w1.alloc (.cells #[.int .i64 t1,.int .i64 t2,.int .i64 t3] 72)):=(Below.refl _ _).alloc (Nat.le_refl _) _
     have hs1:(w1.alloc (.cells #[.int .i64 t1,.int .i64 t2,.int .i64 t3] 72)).heap.size=w1.heap.size+1:=by simp
     have k1:=Blk.new w1 #[.int .i64 t1,.int .i64 t2,.int .i64 t3] 72
     have O2:=(O.below hb1).below al1
     have B2:=B1.trans (al1.mono B1.size)
     have kk2:=(k.below hb1).below al1
     have HT2:=hide (HTS.out _ ho)
     have HG2:=hide (HGO.out _ ho)
     obtain ⟨x0,x1,x2,_⟩:=k1.three
     clear O B k hb1 B1 HQ HR HTS HBAD HGO q6 c0 al1
     generalize hW1:w1.alloc (.cells #[.int .i64 t1,.int .i64 t2,.int .i64 t3] 72)=W1 at *
     have HOW:=hide (show (W1.alloc (.cells #[.int .i64 t1,.int .i64 t2,.int .i64 t3] 72)).ownsRow w.heap.size 72 3 (.slice a' m c') m ((tgN (pmS ms) M.pm m).flatMap clG) by have:=O2.below ((Below.refl _ _).alloc (Nat.le_refl _) (.cells #[.int .i64 t1,.int .i64 t2,.int .i64 t3] 72));unfold OG at this;rw [tgN_len] at this;exact this)
     have HX:=hide (And.intro O2 (And.intro B2 kk2))
     have hsB:=B2.size
     rw [← hW1] at x0 x1 x2
     have HW1:=hide hW1
     clear O2 B2 kk2 k1 hW1
     unfold tgV
     go_wp2_with (at_builtin;rw [HW1.out];refine wpList_append_own _ rfl _ _ 97 rfl w.heap.size 72 iG (.agg #[.int .i64 0,.int .i64 0,.int .i64 0]) 3 24 Tryz.underlying97 hi hz0 hz1 hz2 rfl (by decide) (.slice a' m c') m ((tgN (pmS ms) M.pm m).flatMap clG) rfl HOW.out ⟨w1.heap.size+1,0,none⟩ 1 1 (clG (t1,t2,t3)) rfl rfl (by rw [← hs1];exact cells_new W1 _ _ (clG (t1,t2,t3)) rfl) (by intro u hu;simp [clG] at hu;rcases hu with rfl | rfl | rfl <;> rfl) (by unfold maxLen;omega) (by omega) (by simp;omega) ?_;intro v' w4 hown hgr _)
     obtain ⟨O2,B2,kk2⟩:=HX.out
     have al2:Below W1.heap.size W1 (W1.alloc (.cells #[.int .i64 t1,.int .i64 t2,.int .i64 t3] 72)):=(Below.refl _ _).alloc (Nat.le_refl _) _
     have hrow:∀ j,(Value.slice a' m c').ownBlock=some j→w.heap.size≤j:=fun j hj=>(O2.lt j hj).1
     have O4:OG 72 3 clG w4 w.heap.size v' (tgN (pmS ms) M.pm (m+1)):=by
      unfold OG
      rw [tgN_len,HT2.out,List.flatMap_append,List.flatMap_singleton]
      exact hown
     have B4:=below_gr (B2.trans (al2.mono B2.size)) hgr hrow
     have k4:=blk_grown (kk2.below al2) hgr (fun e=>by
      obtain ⟨cs,hk⟩:=own_kind O2 e.symm
      exact absurd (blk_kind kk2 hk) (by decide))
     have HF:=hide (And.intro HG2.out (And.intro O4 (And.intro B4 k4)))
     clear O2 B2 kk2 al2 hrow O4 B4 k4 hown hgr HX HOW x0 x1 x2
     go_roundw
     case rel=>exact ⟨m+1,by omega,by go_num,HF.out.1,HF.out.2.1,HF.out.2.2.1,HF.out.2.2.2⟩
     case measure=>simp [intOf];omega
  ·have hlt':¬ (m:Int)<(M.im:Int):=by omega
   have HK:=hide (show tgOk (pmS ms) M.pm from fun j hj=>hs j (by omega))
   have HX:=hide (And.intro B O)
   have HEQ:=hide (show tgN (pmS ms) M.pm m=tgs (pmS ms) M.pm by rw [← tgN_all,hil,show m=M.im by omega])
   have HLN:=hide (show m=(tgs (pmS ms) M.pm).length by rw [← HEQ.out,tgN_len])
   clear B O k hs
   go_wp2
   go_ret2
   refine ⟨HX.out.1,.inr ⟨HK.out,a',c',by rw [← HLN.out];rfl,?_⟩⟩
   have:=HX.out.2
   rw [HEQ.out] at this
   rw [← HLN.out]
   exact this
theorem OG.kept' {α:Type} {t:TypeId} {sz:Nat} {f:α→List Value} {w w':World} {base:Nat} {v:Value} {xs:List α} {row:Option Nat} (h:OG t sz f w base v xs) (hg:w.grownBy w' row) (hk:∀ k,v.ownBlock=some k→row≠some k):OG t sz f w' base v xs:=
 h.kept (S:=fun j=>row=some j) ⟨hg.os,hg.tape,hg.output,hg.size,fun j hj hs=>hg.block j hj (fun e=>hs e.symm)⟩ (fun k hk' e=>hk k hk' e)
structure OR {α β:Type} (th:TypeId) (hs:Nat) (hc:α→List Value) (tr:TypeId) (rs:Nat) (rc:β→List Value) (sv:α→Value) (ct:α→List β) (w:World) (base lo:Nat) (v:Value) (xs:List α):Prop where
 head:OG th hs hc w base v xs
 rows:∀ x ∈ xs,OG tr rs rc w lo (sv x) (ct x)
 apart:xs.Pairwise fun A B=>∀ k,(sv A).ownBlock=some k→(sv B).ownBlock≠some k
section
variable {α β:Type} {th:TypeId} {hs:Nat} {hc:α→List Value} {tr:TypeId} {rs:Nat} {rc:β→List Value} {sv:α→Value} {ct:α→List β} {w w':World} {base lo:Nat} {v:Value} {xs:List α}
theorem OR.below (h:OR th hs hc tr rs rc sv ct w base lo v xs) (hb:Below w.heap.size w w'):OR th hs hc tr rs rc sv ct w' base lo v xs:=⟨h.head.below hb,fun x hx=>(h.rows x hx).below hb,h.apart⟩
theorem OR.mono {base' lo':Nat} (h:OR th hs hc tr rs rc sv ct w base lo v xs) (hb:base'≤base) (hl:lo'≤lo):OR th hs hc tr rs rc sv ct w base' lo' v xs:=⟨h.head.mono hb,fun x hx=>(h.rows x hx).mono hl,h.apart⟩
theorem OR.kept {S:Nat→Prop} (h:OR th hs hc tr rs rc sv ct w base lo v xs) (t:Turn S w w') (h1:∀ k,v.ownBlock=some k→¬ S k) (h2:∀ x ∈ xs,∀ k,(sv x).ownBlock=some k→¬ S k):OR th hs hc tr rs rc sv ct w' base lo v xs:=⟨h.head.kept t h1,fun x hx=>(h.rows x hx).kept t (h2 x hx),h.apart⟩
theorem OR.lt (h:OR th hs hc tr rs rc sv ct w base lo v xs):(∀ k,v.ownBlock=some k→base≤k∧k<w.heap.size)∧∀ x ∈ xs,∀ k,(sv x).ownBlock=some k→lo≤k∧k<w.heap.size:=⟨h.head.lt,fun x hx=>(h.rows x hx).lt⟩
theorem or_nil:OR th hs hc tr rs rc sv ct w base lo (.slice none 0 0) []:=⟨og_nil _ _ _ _ _,by simp,by simp⟩
theorem or_new (hb:base≤w.heap.size):OR th hs hc tr rs rc sv ct (w.alloc (.cells #[] th)) base lo (.slice (some ⟨w.heap.size,0,none⟩) 0 0) []:=⟨og_new' _ _ _ _ _ hb,by simp,by simp⟩
theorem OR.push {lo':Nat} {a:Option Addr} {k c:Nat} {v':Value} {x:α} (h:OR th hs hc tr rs rc sv ct w base lo (.slice a k c) xs) (hl:xs.length=k) (hx:OG tr rs rc w lo' (sv x) (ct x)) (hb:lo≤lo') (hlo:∀ A ∈ xs,∀ j,(sv A).ownBlock=some j→j<lo') (hown:w'.ownsRow base th hs v' (k+1) (xs.flatMap hc++hc x)) (hg:w.grownBy w' (Value.slice a k c).ownBlock) (hne:th≠tr):OR th hs hc tr rs rc sv ct w' base lo v' (xs++[x]):=by
 have key:∀ (u:Value) (ys:List β) (l:Nat),OG tr rs rc w l u ys→∀ j,u.ownBlock=some j→(Value.slice a k c).ownBlock≠some j:=fun u ys l ho j hj e=>by
  obtain ⟨c1,k1⟩:=own_kind ho hj
  obtain ⟨c2,k2⟩:=own_kind h.head e
  exact hne (blk_kind k2 k1)
 refine ⟨?_,?_,?_⟩
 ·unfold OG
  rw [List.length_append,hl,List.flatMap_append,List.flatMap_singleton]
  exact hown
 ·intro B hB
  rcases List.mem_append.1 hB with hB | hB
  ·exact (h.rows B hB).kept' hg (key _ _ _ (h.rows B hB))
  ·simp at hB
   subst hB
   exact (hx.kept' hg (key _ _ _ hx)).mono hb
 ·rw [List.pairwise_append]
  refine ⟨h.apart,by simp,fun B hB X hX j hj e=>?_⟩
  simp at hX
  subst hX
  have h1:=hlo B hB j hj
  have h2:=(hx.lt j e).1
  omega
end
abbrev PB:=Pl × Option Addr × Nat
def svP (x:PB):Value:=.slice x.2.1 x.1.banks.length x.2.2
def clP (x:PB):List Value:=[.int .i64 x.1.text,svP x,.int .i64 x.1.data,.int .i64 x.1.size]
def ctP (x:PB):List Int:=x.1.banks
abbrev OPl:=OR 43 4 clP 3 1 clI svP ctP
abbrev TB:=List Tg × Option Addr × Nat
def svT (x:TB):Value:=.slice x.2.1 x.1.length x.2.2
def clTB (x:TB):List Value:=[svT x]
def ctT (x:TB):List Tg:=x.1
abbrev OTg:=OR 97 1 clTB 72 3 clG svT ctT
structure LayO (W:World) (base:Nat) (L:Lay) (a0:Option Addr) (c0:Nat) (xs:List PB) (a2:Option Addr) (c2:Nat) (a5:Option Addr) (c5:Nat) (ts:List TB):Prop where
 p:OPl W base base (.slice a0 xs.length c0) xs
 ps:xs.map (fun x=>x.1)=L.places
 s:OG 3 1 clI W base (.slice a2 L.slots.length c2) L.slots
 t:OTg W base base (.slice a5 ts.length c5) ts
 tt:ts.map (fun x=>x.1)=L.targets
 sp:∀ k,(Value.slice a2 L.slots.length c2).ownBlock=some k→∀ x ∈ xs,(svP x).ownBlock≠some k
def layV (L:Lay) (a0:Option Addr) (c0:Nat) (xs:List PB) (a2:Option Addr) (c2:Nat) (a5:Option Addr) (c5:Nat) (ts:List TB):Array Value:=#[.slice a0 xs.length c0,.int .i64 L.stack,.slice a2 L.slots.length c2,.int .i64 L.flash,.int .i64 L.ram,.slice a5 ts.length c5]
theorem infoP:(Tryz.prog.info? 43).map (fun i=>(i.zero,i.size,i.bytes))=some (some (.agg #[.int .i64 0,.slice none 0 0,.int .i64 0,.int .i64 0]),4,48):=by kernel_rfl
theorem infoTB:(Tryz.prog.info? 97).map (fun i=>(i.zero,i.size,i.bytes))=some (some (.slice none 0 0),1,24):=by kernel_rfl
theorem pm_bank {m:Md} {w:World} (h:m.md w) (k:Nat) (hk:k<m.bn):(m.bl.getD k zB).2.1=(m.pm.bl.getD k []).length∧m.pm.bl.length=m.bn:=by
 have hb:=h.b.1
 refine ⟨?_,by simp [Md.pm,hb]⟩
 have e:m.pm.bl.getD k []=(m.bl.getD k zB).2.2.2:=getD_map _ _ _ zB _ (by omega)
 rw [e]
 exact (h.b.2.2.2.1 k hk).1.symm
set_option maxHeartbeats 4000000 in
theorem l5TooLong_any (a:Option Addr) (n cap:Nat) (ms:List Md) (s c k d:Int) (w:World) (h:MSD w a n cap ms):
 Calls Tryz.prog 56 #[.slice a n cap,.agg #[.int .i64 s,.int .i64 c,.int .i64 k,.int .i64 d]] w fun e w'=>e=.returned (.bool (decide (0<s∧¬ shrt (pmS ms) c)))∧Below w.heap.size w w':=by
 have hA:Below w.heap.size w (w.alloc (.cells #[.int .i64 s,.int .i64 c,.int .i64 k,.int .i64 d] 25)):=(Below.refl _ _).alloc (Nat.le_refl _) _
 have k0:=Blk.new w #[.int .i64 s,.int .i64 c,.int .i64 k,.int .i64 d] 25
 have hl:=h.s.1
 have hm1:=h.s.2.1
 unfold maxLen at hm1
 have hpl:=pmS_len ms
 have HH:=hide h
 obtain ⟨R,hR⟩:∃ R,R=decide (0<s∧¬ shrt (pmS ms) c):=⟨_,rfl⟩
 rw [← hR]
 have HR:=hide hR
 clear hR
 have HB1:=hide (And.intro hA k0)
 clear h hA k0
 go_enter Tryz.func56,Tryz.ntmps56
 go_wp2
 go_loopw [5] (fun i wr=>∃ m:Nat,m≤n∧i=.int .i64 m∧(0<s→∀ j,j<m→∀ k,k<((pmS ms).getD j zP).bl.length→((((pmS ms).getD j zP).bl.getD k []).length:Int)≤c)∧Below w.heap.size w wr∧Blk wr w.heap.size #[.int .i64 s,.int .i64 c,.int .i64 k,.int .i64 d] 25) (fun i _=>n - (intOf i).toNat)
 case atStart=>exact ⟨0,Nat.zero_le _,rfl,fun _ j hj=>absurd hj (by omega),HB1.out.1,HB1.out.2⟩
 case round=>
  obtain ⟨m,hm,rfl,hv,B,kk⟩:=hrel
  by_cases hlt:m<n
  ·have hlt':(m:Int)<(n:Int):=by omega
   have HV:=hide hv
   have HB2:=hide (And.intro B kk)
   clear hv B kk HB1
   go_wp2
   go_loopw [6] (fun i wr=>∃ q:Nat,q≤(ms.getD m zMd).bn∧i=.int .i64 q∧(0<s→∀ k,k<q→((((pmS ms).getD m zP).bl.getD k []).length:Int)≤c)∧Below w.heap.size w wr∧Blk wr w.heap.size #[.int .i64 s,.int .i64 c,.int .i64 k,.int .i64 d] 25) (fun i _=>(ms.getD m zMd).bn - (intOf i).toNat)
   case atStart=>exact ⟨0,Nat.zero_le _,rfl,fun _ j hj=>absurd hj (by omega),HB2.out.1,HB2.out.2⟩
   case round=>
    obtain ⟨q,hq,rfl,hw,B,kk⟩:=hrel
    have H:=HH.out.below B
    obtain ⟨b,off,rfl,q0,q1,q2,_⟩:=H.s.at m hlt
    have hmd:=H.d m hlt
    have hbl:((pmS ms).getD m zP).bl.length=(ms.getD m zMd).bn:=by rw [pmS_at (by omega)];show (List.map _ _).length=_;rw [List.length_map];exact hmd.b.1
    have HW:=hide hw
    have hbn:(ms.getD m zMd).bn≤9223372036854775807:=by have:=hmd.b.2.1;unfold maxLen at this;omega
    by_cases hlt2:q<(ms.getD m zMd).bn
    ·have hlt2':(q:Int)<((ms.getD m zMd).bn:Int):=by omega
     obtain ⟨_,_,hcb,hrb,_⟩:=hmd.b
     obtain ⟨b2,off2,hba,hc⟩:=hcb (by omega)
     have c0:=hc q hlt2
     have hlen:=(pm_bank hmd q hlt2).1
     rw [← pmS_at (by omega)] at hlen
     rw [hba] at q2
     have y0:wr.cell? ⟨w.heap.size,0,none⟩=some (.int .i64 s):=kk.cell 0
     have y1:wr.cell? ⟨w.heap.size,1,none⟩=some (.int .i64 c):=kk.cell 1
     have HB3:=hide (And.intro B kk)
     obtain ⟨L,hL⟩:∃ L:Nat,L=(((pmS ms).getD m zP).bl.getD q []).length:=⟨_,rfl⟩
     rw [← hL] at hlen
     rw [hlen] at c0
     have hmx:L≤9223372036854775807:=by have:=(hrb q hlt2).2.1;rw [hlen] at this;unfold maxLen at this;omega
     have HSH:=hide (show (0<s→(L:Int)≤c)→0<s→∀ k,k<q+1→((((pmS ms).getD m zP).bl.getD k []).length:Int)≤c from fun h1 h2 k hk=>by
      by_cases e:k=q
      ·subst e;rw [← hL];exact h1 h2
      ·exact HW.out h2 k (by omega))
     have HBD:=hide (show 0<s→c<(L:Int)→0<s∧¬ shrt (pmS ms) c from fun h1 h2=>⟨h1,fun hs=>by have:=hs m (by omega) q (by omega);rw [← hL] at this;omega⟩)
     generalize (ms.getD m zMd).bl.getD q zB=bq at *
     generalize (ms.getD m zMd).bn=bn at *
     obtain ⟨bq1,bq2,bq3,bq4⟩:=bq
     dsimp only at c0 hlen
     clear hw B H hmd hbl hba hc hcb hrb hL hlen q0 q1 kk
     by_cases hs0:0<s
     ·by_cases hcl:c<(L:Int)
      ·have HF:=hide (HBD.out hs0 hcl)
       go_wp2_with fail
       go_quiet (fail)
       go_wp2
       go_ret
       exact ⟨ret_bool (by rw [HR.out,decide_eq_true HF.out]),below_dN HB3.out.1 nq⟩
      ·have HF:=hide (HSH.out (fun _=>by omega))
       go_wp2_with fail
       go_quiet (fail)
       go_wp2
       go_roundw
       case rel=>exact ⟨q+1,by omega,by go_num,HF.out,below_dN HB3.out.1 nq,HB3.out.2⟩
       case measure=>simp [intOf];omega
     ·have HF:=hide (HSH.out (fun e=>absurd e hs0))
      have hs2:decide (0<s)=false:=decide_eq_false hs0
      go_wp2_with fail
      go_quiet (fail)
      go_wp2
      go_roundw
      case rel=>exact ⟨q+1,by omega,by go_num,HF.out,below_dN HB3.out.1 nq,HB3.out.2⟩
      case measure=>simp [intOf];omega
    ·have hlt2':¬ (q:Int)<((ms.getD m zMd).bn:Int):=by omega
     have HV2:=hide (show 0<s→∀ j,j<m+1→∀ k,k<((pmS ms).getD j zP).bl.length→((((pmS ms).getD j zP).bl.getD k []).length:Int)≤c from fun h1 j hj k hk=>by
      by_cases e:j=m
      ·subst e;exact HW.out h1 k (by omega)
      ·exact HV.out h1 j (by omega) k hk)
     have HB3:=hide (And.intro B kk)
     generalize (ms.getD m zMd).bn=bn at *
     clear hw B H hmd hbl q0 q1 kk
     go_wp2
     go_roundw
     case rel=>exact ⟨m+1,by omega,by go_num,HV2.out,HB3.out.1,HB3.out.2⟩
     case measure=>simp [intOf];omega
  ·have hlt':¬ (m:Int)<(n:Int):=by omega
   have HF:=hide (show ¬ (0<s∧¬ shrt (pmS ms) c) from fun h=>h.2 (fun i hi k hk=>hv h.1 i (by omega) k hk))
   have HB2:=hide B
   clear hv B kk HB1
   go_wp2
   go_ret
   exact ⟨ret_bool (by rw [HR.out,decide_eq_false HF.out]),HB2.out⟩
theorem rnd_range {x:Int} (h:0≤x):x≤rnd x∧rnd x≤x+31:=by unfold rnd;omega
theorem tsz_range {P:PMod} (h:mdoP P=0):0≤tsz P∧tsz P≤831:=by
 have h1:=(vld_en h).2.2.1
 have:=rnd_range (x:=4 * (P.tz.length:Int)) (by omega)
 unfold tsz
 omega
theorem fsum_range {P:PMod} (h:mdoP P=0):∀ k,k≤P.bl.length→0≤fsum P k∧fsum P k≤(k:Int) * 287
 | 0,_=>by simp [fsum]
 | k+1,hk=>by
   have ih:=fsum_range h k (by omega)
   have h1:=(vld_en h).2.2.2.2.2.2.2 k (by omega)
   have:=rnd_range (x:=4 * ((P.bl.getD k []).length:Int)) (by omega)
   show 0≤fsum P k+rnd (4 * ((P.bl.getD k []).length:Int))∧fsum P k+rnd (4 * ((P.bl.getD k []).length:Int))≤_
   push_cast
   omega
theorem dsz_range {P:PMod} (h:mdoP P=0):0≤dsz P∧dsz P≤1055:=by
 obtain ⟨_,_,_,_,h5,h6,h7,_⟩:=vld_en h
 have:=rnd_range (x:=(P.dz.length:Int)+P.bss) (by omega)
 unfold dsz
 omega
theorem Fl_range {ps:List PMod} (h:vlds ps):∀ i,i≤ps.length→0≤Fl ps i∧Fl ps i≤(i:Int) * 1979
 | 0,_=>by simp [Fl]
 | i+1,hi=>by
   have ih:=Fl_range h i (by omega)
   have hv:=h i (by omega)
   have h1:=tsz_range hv
   have h2:=fsum_range hv _ (Nat.le_refl _)
   have h3:=(vld_en hv).2.2.2.1
   show 0≤Fl ps i+(tsz (ps.getD i zP)+fsum (ps.getD i zP) (ps.getD i zP).bl.length)∧Fl ps i+(tsz (ps.getD i zP)+fsum (ps.getD i zP) (ps.getD i zP).bl.length)≤_
   push_cast
   omega
theorem Ra_range {ps:List PMod} (h:vlds ps):∀ i,i≤ps.length→0≤Ra ps i∧Ra ps i≤(i:Int) * 1055
 | 0,_=>by simp [Ra]
 | i+1,hi=>by
   have ih:=Ra_range h i (by omega)
   have h1:=dsz_range (h i (by omega))
   show 0≤Ra ps i+dsz (ps.getD i zP)∧Ra ps i+dsz (ps.getD i zP)≤_
   push_cast
   omega
theorem kind_no {w:World} {base n sz:Nat} {t t':TypeId} {v:Value} {xs:List Value} {k:Nat} {cs:Array Value} (h:w.ownsRow base t sz v n xs) (hk:v.ownBlock=some k) (hb:Blk w k cs t') (hne:t≠t'):False:=by
 obtain ⟨c1,k1⟩:=own_kind h hk
 exact hne (blk_kind k1 hb)
def zL:Array Value:=#[.slice none 0 0,.int .i64 0,.slice none 0 0,.int .i64 0,.int .i64 0,.slice none 0 0]
structure Lst (w W:World) (s c k d:Int) (cs:Array Value):Prop where
 be:Below w.heap.size w W
 k0:Blk W w.heap.size #[.int .i64 s,.int .i64 c,.int .i64 k,.int .i64 d] 25
 k1:Blk W (w.heap.size+1) zL 32
 k5:Blk W (w.heap.size+5) cs 32
theorem Lst.below {w W W':World} {s c k d:Int} {cs:Array Value} (h:Lst w W s c k d cs) (hb:Below W.heap.size W W'):Lst w W' s c k d cs:=⟨h.be.trans (hb.mono h.be.size),h.k0.below hb,h.k1.below hb,h.k5.below hb⟩
theorem Lst.set {w W:World} {s c k d:Int} {cs:Array Value} (h:Lst w W s c k d cs) (i:Nat) (v:Value):Lst w (W.setCell ⟨w.heap.size+5,i,none⟩ v) s c k d (cs.setIfInBounds i v):=
 ⟨below_turn h.be (turn_set W (w.heap.size+5) i v) (fun k hk=>by omega) h.be.size,turn_blk (turn_set W (w.heap.size+5) i v) h.k0 (by omega),turn_blk (turn_set W (w.heap.size+5) i v) h.k1 (by omega),h.k5.set i v⟩
theorem Lst.other {w W:World} {s c k d:Int} {cs:Array Value} (h:Lst w W s c k d cs) {g:Nat} (hg:w.heap.size+6≤g) (i:Nat) (v:Value):Lst w (W.setCell ⟨g,i,none⟩ v) s c k d cs:=
 ⟨below_turn h.be (turn_set W g i v) (fun k hk=>by omega) h.be.size,turn_blk (turn_set W g i v) h.k0 (by omega),turn_blk (turn_set W g i v) h.k1 (by omega),turn_blk (turn_set W g i v) h.k5 (by omega)⟩
theorem Lst.grown {w W W':World} {s c k d:Int} {cs:Array Value} {row:Option Nat} (h:Lst w W s c k d cs) (hg:W.grownBy W' row) (hr:∀ j,row=some j→w.heap.size+2≤j∧j≠w.heap.size+5):Lst w W' s c k d cs:=by
 have t:Turn (fun j=>row=some j) W W':=⟨hg.os,hg.tape,hg.output,hg.size,fun j hj hs=>hg.block j hj (fun e=>hs e.symm)⟩
 exact ⟨below_turn h.be t (fun j hj=>by have:=hr j hj;omega) h.be.size,turn_blk t h.k0 (fun e=>by have:=hr _ e;omega),turn_blk t h.k1 (fun e=>by have:=hr _ e;omega),turn_blk t h.k5 (fun e=>by have:=hr _ e;omega)⟩
theorem Lst.sz {w W:World} {s c k d:Int} {cs:Array Value} (h:Lst w W s c k d cs):w.heap.size+6≤W.heap.size:=h.k5.lt
theorem Lst.drew {w W:World} {s c k d:Int} {cs:Array Value} (h:Lst w W s c k d cs):Lst w W.drew s c k d cs:=⟨h.be.drew,h.k0,h.k1,h.k5⟩
structure Lrw (w W:World) (ps:List PMod) (m:Nat) (a0:Option Addr) (c0:Nat) (xs:List PB) (a5:Option Addr) (c5:Nat) (ts:List TB):Prop where
 P:OPl W (w.heap.size+2) (w.heap.size+6) (.slice a0 m c0) xs
 T:OTg W (w.heap.size+2) (w.heap.size+6) (.slice a5 m c5) ts
 S:OG 3 1 clI W (w.heap.size+2) (.slice (some ⟨w.heap.size+3,0,none⟩) 0 0) []
 pl:xs.length=m
 tl:ts.length=m
 px:xs.map (fun x=>x.1)=(List.range m).map (plc ps)
 tx:ts.map (fun x=>x.1)=(List.range m).map fun i=>tgs ps (ps.getD i zP)
def Lg (w:World) (j:Nat):Prop:=j=w.heap.size+5
theorem Lrw.kept {w W W':World} {s c k d:Int} {cs:Array Value} {ps:List PMod} {m:Nat} {a0:Option Addr} {c0:Nat} {xs:List PB} {a5:Option Addr} {c5:Nat} {ts:List TB} (h:Lrw w W ps m a0 c0 xs a5 c5 ts) (L:Lst w W s c k d cs) (t:Turn (Lg w) W W'):Lrw w W' ps m a0 c0 xs a5 c5 ts:=by
 have k5:=L.k5
 refine ⟨h.P.kept t (fun k hk e=>?_) (fun x hx k hk e=>?_),h.T.kept t (fun k hk e=>?_) (fun x hx k hk e=>?_),h.S.kept t (fun k hk e=>?_),h.pl,h.tl,h.px,h.tx⟩
 ·rw [show k=w.heap.size+5 from e] at hk;exact kind_no h.P.head hk k5 (by decide)
 ·rw [show k=w.heap.size+5 from e] at hk;exact kind_no (h.P.rows x hx) hk k5 (by decide)
 ·rw [show k=w.heap.size+5 from e] at hk;exact kind_no h.T.head hk k5 (by decide)
 ·rw [show k=w.heap.size+5 from e] at hk;exact kind_no (h.T.rows x hx) hk k5 (by decide)
 ·rw [show k=w.heap.size+5 from e] at hk;exact kind_no h.S hk k5 (by decide)
theorem Lrw.below {w W W':World} {ps:List PMod} {m:Nat} {a0:Option Addr} {c0:Nat} {xs:List PB} {a5:Option Addr} {c5:Nat} {ts:List TB} (h:Lrw w W ps m a0 c0 xs a5 c5 ts) (hb:Below W.heap.size W W'):Lrw w W' ps m a0 c0 xs a5 c5 ts:=⟨h.P.below hb,h.T.below hb,h.S.below hb,h.pl,h.tl,h.px,h.tx⟩
def bks (ps:List PMod) (i k:Nat):List Int:=(List.range k).map fun j=>Fl ps i+tsz (ps.getD i zP)+fsum (ps.getD i zP) j
theorem bks_len (ps:List PMod) (i k:Nat):(bks ps i k).length=k:=by simp [bks]
theorem bks_succ (ps:List PMod) (i k:Nat):bks ps i (k+1)=bks ps i k++[Fl ps i+tsz (ps.getD i zP)+fsum (ps.getD i zP) k]:=by simp [bks,List.range_succ]
def LkM (w:World) (ps:List PMod) (s c k d:Int) (e:Ending) (w':World):Prop:=Below w.heap.size w w'∧∃ a0 c0 xs a2 c2 a5 c5 ts,e=.returned (.tuple #[.agg (layV (lkL ps s c k d) a0 c0 xs a2 c2 a5 c5 ts),.int .i64 (lkc ps s c k d)])∧LayO w' w.heap.size (lkL ps s c k d) a0 c0 xs a2 c2 a5 c5 ts
theorem lo_zero (W:World) (base:Nat):LayO W base L0 none 0 [] none 0 none 0 []:=⟨or_nil,rfl,og_nil _ _ _ _ _,or_nil,rfl,fun k hk=>by simp [Value.ownBlock] at hk⟩
theorem lk_none {w w':World} {ps:List PMod} {s c k d V:Int} (hb:Below w.heap.size w w') (hV:lkc ps s c k d=V) (h0:V≠0):LkM w ps s c k d (.returned (.tuple #[.agg zL,.int .i64 V])) w':=by
 refine ⟨hb,none,0,[],none,0,none,0,[],?_,?_⟩
 ·unfold lkL;rw [if_neg (by rw [hV];exact h0),hV];rfl
 ·unfold lkL;rw [if_neg (by rw [hV];exact h0)];exact lo_zero _ _
theorem lkc_1 {ps:List PMod} {s w k d V:Int} (h:snd4 ps s w k d=V) (h0:V≠0):lkc ps s w k d=V:=by unfold lkc;rw [if_pos (by rw [h];exact h0),h]
theorem lkc_5 {ps:List PMod} {s w k d:Int} (h:snd4 ps s w k d=0) (h5:¬ imps ps):lkc ps s w k d=5:=by unfold lkc;rw [if_neg (by rw [h];decide),if_pos h5]
theorem lkc_6 {ps:List PMod} {s w k d:Int} (h:snd4 ps s w k d=0) (h5:imps ps) (h6:0<s∧¬ shrt ps w):lkc ps s w k d=6:=by unfold lkc;rw [if_neg (by rw [h];decide),if_neg (fun e=>e h5),if_pos h6]
theorem lkc_7 {ps:List PMod} {s w k d:Int} (h:snd4 ps s w k d=0) (h5:imps ps) (h6:¬ (0<s∧¬ shrt ps w)) (h7:16384<(lay ps s w k).flash):lkc ps s w k d=7:=by unfold lkc;rw [if_neg (by rw [h];decide),if_neg (fun e=>e h5),if_neg h6,if_pos h7]
theorem lkc_8 {ps:List PMod} {s w k d:Int} (h:snd4 ps s w k d=0) (h5:imps ps) (h6:¬ (0<s∧¬ shrt ps w)) (h7:¬ 16384<(lay ps s w k).flash) (h8:16384<(lay ps s w k).ram):lkc ps s w k d=8:=by unfold lkc;rw [if_neg (by rw [h];decide),if_neg (fun e=>e h5),if_neg h6,if_neg h7,if_pos h8]
theorem lkc_0 {ps:List PMod} {s w k d:Int} (h:snd4 ps s w k d=0) (h5:imps ps) (h6:¬ (0<s∧¬ shrt ps w)) (h7:¬ 16384<(lay ps s w k).flash) (h8:¬ 16384<(lay ps s w k).ram):lkc ps s w k d=0:=by unfold lkc;rw [if_neg (by rw [h];decide),if_neg (fun e=>e h5),if_neg h6,if_neg h7,if_neg h8]
theorem snd4_parts {ps:List PMod} {s w k d:Int} (h:snd4 ps s w k d=0):cfo s w k d=true∧ps.length≤4∧vlds ps:=by
 unfold snd4 at h
 split at h
 ·simp at h
 split at h
 ·simp at h
 split at h
 ·simp at h
 ·rename_i h1 h2 h3
  exact ⟨by simpa using h1,by omega,Classical.not_not.1 h3⟩
theorem turn_d1 {S:Nat→Prop} {a W:World} (h:Turn S a W):Turn S a W.drew:=⟨h.os,h.tape,h.output,h.size,h.block⟩
theorem cut0 {S G:Prop} (main:S→G) (pf:S):G:=main pf
theorem cut3 {S F:Nat→Nat→World→Prop} {G:Prop} (main:(∀ gp gr W,F gp gr W→S gp gr W)→G) (pf:∀ gp gr W,F gp gr W→S gp gr W):G:=main pf
theorem lay_new (w:World) (s c k d:Int) (ps:List PMod):
 Lst w ((((((w.alloc (.cells #[.int .i64 s,.int .i64 c,.int .i64 k,.int .i64 d] 25)).alloc (.cells #[.slice none 0 0,.int .i64 0,.slice none 0 0,.int .i64 0,.int .i64 0,.slice none 0 0] 32)).alloc (.cells #[] 43)).alloc (.cells #[] 3)).alloc (.cells #[] 97)).alloc (.cells #[.slice (some ⟨w.heap.size+2,0,none⟩) 0 0,.int .i64 0,.slice (some ⟨w.heap.size+3,0,none⟩) 0 0,.int .i64 0,.int .i64 0,.slice (some ⟨w.heap.size+4,0,none⟩) 0 0] 32)) s c k d #[.slice (some ⟨w.heap.size+2,0,none⟩) 0 0,.int .i64 0,.slice (some ⟨w.heap.size+3,0,none⟩) 0 0,.int .i64 0,.int .i64 0,.slice (some ⟨w.heap.size+4,0,none⟩) 0 0] ∧
 Lrw w ((((((w.alloc (.cells #[.int .i64 s,.int .i64 c,.int .i64 k,.int .i64 d] 25)).alloc (.cells #[.slice none 0 0,.int .i64 0,.slice none 0 0,.int .i64 0,.int .i64 0,.slice none 0 0] 32)).alloc (.cells #[] 43)).alloc (.cells #[] 3)).alloc (.cells #[] 97)).alloc (.cells #[.slice (some ⟨w.heap.size+2,0,none⟩) 0 0,.int .i64 0,.slice (some ⟨w.heap.size+3,0,none⟩) 0 0,.int .i64 0,.int .i64 0,.slice (some ⟨w.heap.size+4,0,none⟩) 0 0] 32)) ps 0 (some ⟨w.heap.size+2,0,none⟩) 0 [] (some ⟨w.heap.size+4,0,none⟩) 0 []:=by
 have k0:=Blk.new w #[.int .i64 s,.int .i64 c,.int .i64 k,.int .i64 d] 25
 have b0:Below w.heap.size w (w.alloc (.cells #[.int .i64 s,.int .i64 c,.int .i64 k,.int .i64 d] 25)):=(Below.refl _ _).alloc (Nat.le_refl _) _
 have s0:(w.alloc (.cells #[.int .i64 s,.int .i64 c,.int .i64 k,.int .i64 d] 25)).heap.size=w.heap.size+1:=by simp
 generalize w.alloc (.cells #[.int .i64 s,.int .i64 c,.int .i64 k,.int .i64 d] 25)=W0 at *
 have k1:=Blk.new W0 #[.slice none 0 0,.int .i64 0,.slice none 0 0,.int .i64 0,.int .i64 0,.slice none 0 0] 32
 have b1:Below W0.heap.size W0 (W0.alloc (.cells #[.slice none 0 0,.int .i64 0,.slice none 0 0,.int .i64 0,.int .i64 0,.slice none 0 0] 32)):=(Below.refl _ _).alloc (Nat.le_refl _) _
 have s1:(W0.alloc (.cells #[.slice none 0 0,.int .i64 0,.slice none 0 0,.int .i64 0,.int .i64 0,.slice none 0 0] 32)).heap.size=w.heap.size+2:=by simp [s0]
 rw [s0] at k1
 generalize W0.alloc (.cells #[.slice none 0 0,.int .i64 0,.slice none 0 0,.int .i64 0,.int .i64 0,.slice none 0 0] 32)=W1 at *
 have o2:OPl (W1.alloc (.cells #[] 43)) (w.heap.size+2) (w.heap.size+6) (.slice (some ⟨W1.heap.size,0,none⟩) 0 0) []:=or_new (by omega)
 have b2:Below W1.heap.size W1 (W1.alloc (.cells #[] 43)):=(Below.refl _ _).alloc (Nat.le_refl _) _
 have s2:(W1.alloc (.cells #[] 43)).heap.size=w.heap.size+3:=by simp [s1]
 rw [s1] at o2
 generalize W1.alloc (.cells #[] 43)=W2 at *
 have o3:=og_new' 3 1 clI W2 (w.heap.size+2) (by omega)
 have b3:Below W2.heap.size W2 (W2.alloc (.cells #[] 3)):=(Below.refl _ _).alloc (Nat.le_refl _) _
 have s3:(W2.alloc (.cells #[] 3)).heap.size=w.heap.size+4:=by simp [s2]
 rw [s2] at o3
 generalize W2.alloc (.cells #[] 3)=W3 at *
 have o4:OTg (W3.alloc (.cells #[] 97)) (w.heap.size+2) (w.heap.size+6) (.slice (some ⟨W3.heap.size,0,none⟩) 0 0) []:=or_new (by omega)
 have b4:Below W3.heap.size W3 (W3.alloc (.cells #[] 97)):=(Below.refl _ _).alloc (Nat.le_refl _) _
 have s4:(W3.alloc (.cells #[] 97)).heap.size=w.heap.size+5:=by simp [s3]
 rw [s3] at o4
 generalize W3.alloc (.cells #[] 97)=W4 at *
 have k5:=Blk.new W4 #[.slice (some ⟨w.heap.size+2,0,none⟩) 0 0,.int .i64 0,.slice (some ⟨w.heap.size+3,0,none⟩) 0 0,.int .i64 0,.int .i64 0,.slice (some ⟨w.heap.size+4,0,none⟩) 0 0] 32
 have b5:Below W4.heap.size W4 (W4.alloc (.cells #[.slice (some ⟨w.heap.size+2,0,none⟩) 0 0,.int .i64 0,.slice (some ⟨w.heap.size+3,0,none⟩) 0 0,.int .i64 0,.int .i64 0,.slice (some ⟨w.heap.size+4,0,none⟩) 0 0] 32)):=(Below.refl _ _).alloc (Nat.le_refl _) _
 rw [s4] at k5
 have c45:=b5
 have c35:=b4.trans (c45.mono (by omega))
 have c25:=b3.trans (c35.mono (by omega))
 have c15:=b2.trans (c25.mono (by omega))
 have c05:=b1.trans (c15.mono (by omega))
 exact ⟨⟨b0.trans (c05.mono (by omega)),k0.below c05,k1.below c15,k5⟩,⟨o2.below c25,o4.below c45,o3.below c35,rfl,rfl,rfl,rfl⟩⟩
def st6 (W:World) (k:Nat) (v0 v1 v2 v3 v4 v5:Value):World:=(((((W.setCell ⟨k,0,none⟩ v0).setCell ⟨k,1,none⟩ v1).setCell ⟨k,2,none⟩ v2).setCell ⟨k,3,none⟩ v3).setCell ⟨k,4,none⟩ v4).setCell ⟨k,5,none⟩ v5
theorem turn_st6 (W:World) (k:Nat) (v0 v1 v2 v3 v4 v5:Value):Turn (fun j=>j=k) W (st6 W k v0 v1 v2 v3 v4 v5):=
 (((((turn_set W k 0 v0).trans (turn_set _ k 1 v1)).trans (turn_set _ k 2 v2)).trans (turn_set _ k 3 v3)).trans (turn_set _ k 4 v4)).trans (turn_set _ k 5 v5)
theorem blk_st6 {W:World} {k:Nat} {t:TypeId} (h:Blk W k zL t) (v0 v1 v2 v3 v4 v5:Value):Blk (st6 W k v0 v1 v2 v3 v4 v5) k #[v0,v1,v2,v3,v4,v5] t:=
 (((((h.set 0 v0).set 1 v1).set 2 v2).set 3 v3).set 4 v4).set 5 v5
theorem lay_end {w W:World} (k1:Blk W (w.heap.size+1) zL 32) (v0 v1 v2 v3 v4 v5:Value) (Q:Ending→World→Prop) (tmps:Array Value) (h4:tmps[4]?=some (.pointer (some ⟨w.heap.size+1,0,none⟩))) (hQ:Q (.returned (.agg #[v0,v1,v2,v3,v4,v5])) (st6 W (w.heap.size+1) v0 v1 v2 v3 v4 v5)):
 bodyPost Tryz.prog Tryz.f57 Q Exit.ret ⟨tmps,[]⟩ (st6 W (w.heap.size+1) v0 v1 v2 v3 v4 v5):=by
 have k:=blk_st6 k1 v0 v1 v2 v3 v4 v5
 have t0:(st6 W (w.heap.size+1) v0 v1 v2 v3 v4 v5).cell? ⟨w.heap.size+1,0,none⟩=some v0:=k.cell 0
 have t1:(st6 W (w.heap.size+1) v0 v1 v2 v3 v4 v5).cell? ⟨w.heap.size+1,1,none⟩=some v1:=k.cell 1
 have t2:(st6 W (w.heap.size+1) v0 v1 v2 v3 v4 v5).cell? ⟨w.heap.size+1,2,none⟩=some v2:=k.cell 2
 have t3:(st6 W (w.heap.size+1) v0 v1 v2 v3 v4 v5).cell? ⟨w.heap.size+1,3,none⟩=some v3:=k.cell 3
 have t4:(st6 W (w.heap.size+1) v0 v1 v2 v3 v4 v5).cell? ⟨w.heap.size+1,4,none⟩=some v4:=k.cell 4
 have t5:(st6 W (w.heap.size+1) v0 v1 v2 v3 v4 v5).cell? ⟨w.heap.size+1,5,none⟩=some v5:=k.cell 5
 refine bodyPost_ret_by (v:=.agg #[v0,v1,v2,v3,v4,v5]) ?_ rfl hQ
 simp [results,Tryz.results57,go_sem,h4,t0,t1,t2,t3,t4,t5]
end Go.Proofs.YtngdgogjlpjjpadGreat
namespace Go.Proofs.YtngdgogjlpjjpadGreat
open Go.RowKit
open Go Go.Maps Go.WideShapes
set_option linter.unusedVariables false
set_option linter.unusedSimpArgs false
set_option maxRecDepth 100000
set_option maxHeartbeats 1000000 in
theorem roundUp_any (x:Int) (w:World) (h0:0≤x) (h1:x≤4294967295):Calls Tryz.prog 148 #[.int .i64 x] w fun e w'=>e=.returned (.int .i64 (rnd x))∧w'=w:=by
 have hd:(x+31).tdiv 32=(x+31) / 32:=Int.tdiv_eq_ediv_of_nonneg (by omega)
 go_enter Tryz.func148,Tryz.ntmps148
 go_wp2
 go_ret
 exact ⟨ret_int (by unfold rnd;rw [show x+31=x+32 - 1 by omega]),rfl⟩
set_option maxHeartbeats 1000000 in
theorem wordBytes_any (a:Option Addr) (n cap:Nat) (w:World) (hn:n≤1048576):Calls Tryz.prog 147 #[.slice a n cap] w fun e w'=>e=.returned (.int .i64 (rnd (4 * (n:Int))))∧w'=w:=by
 have hw:IntKind.i64.wrap (4 * (n:Int))=4 * (n:Int):=wraps62 _ (by omega) (by omega)
 have HR:=hide (roundUp_any (4 * (n:Int)) w (by omega) (by omega))
 go_enter Tryz.func147,Tryz.ntmps147
 go_wp2_with fail
 refine HR.out.mono ?_
 rintro e w1 ⟨rfl,rfl⟩
 go_wp2
 go_ret
 exact ⟨rfl,rfl⟩
theorem Md.okI {m:Md} {w:World} (h:m.md w):Calls Tryz.prog 143 #[.agg #[.string m.nm,.slice m.ta m.tn m.tc,.slice m.ba m.bn m.bc,.slice m.da m.dn m.dc,.int .i64 m.bss,.slice m.ra m.rn m.rc,.slice m.ia m.im m.ic,.slice m.ea m.en m.ec]] w fun e w'=>e=.returned (.int .i64 (mdoP m.pm))∧Below w.heap.size w w':=by
 have:=iModuleOk_any _ _ _ _ _ _ _ _ _ _ _ _ _ _ _ _ _ _ _ _ _ _ _ _ _ _ w h
 rw [md_mdo h] at this
 exact this
theorem ba_ext {a b:ByteArray}:a.data.toList=b.data.toList ↔ a=b:=by
 constructor
 ·intro e
  cases a
  cases b
  simp at e
  rw [e]
 ·intro e;rw [e]
theorem nms_size {ms:List Md} {n:Nat} (hl:ms.length=n):(size (fd (mdNm ms) n)=n) ↔ nms (pmS ms):=by
 have h:=fd_size (mdNm ms) n
 have key:∀ i,i<n→((pmS ms).getD i zP).nm=(ms.getD i zMd).nm:=fun i hi=>by rw [pmS_at (by omega)];rfl
 constructor
 ·intro e
  rw [decide_eq_true e] at h
  intro i hi k hk
  rw [pmS_len,hl] at hi
  have h':=h.symm
  rw [List.all_eq_true] at h'
  have h1:=h' i (by simpa using hi)
  rw [List.all_eq_true] at h1
  have h2:=h1 k (by simpa using hk)
  rw [key k (by omega),key i hi]
  intro e'
  have e2:mdNm ms k=mdNm ms i:=by unfold mdNm;rw [e']
  rw [e2] at h2
  simp at h2
 ·intro hn
  apply of_decide_eq_true
  rw [h,List.all_eq_true]
  intro i hi
  rw [List.all_eq_true]
  intro k hk
  have hi':i<n:=by simpa using hi
  have hk':k<i:=by simpa using hk
  have:=hn i (by rw [pmS_len];omega) k hk'
  rw [key k (by omega),key i hi'] at this
  have h3:mdNm ms k≠mdNm ms i:=fun e=>this (ba_ext.1 e)
  simp [h3]
end Go.Proofs.YtngdgogjlpjjpadGreat
namespace Go.Proofs.YtngdgogjlpjjpadGreat
open Go.RowKit
set_option linter.unusedVariables false
set_option linter.unusedSimpArgs false
set_option maxRecDepth 100000
def GB (ps:List PMod) (m q R:Nat):Prop:=(∀ i,i<ps.length→∀ k,k<(ps.getD i zP).bl.length→(i<m∨(i=m∧k<q))→((ps.getD i zP).bl.getD k []).length≤R)∧(R=0∨∃ i,i<ps.length∧∃ k,k<(ps.getD i zP).bl.length∧((ps.getD i zP).bl.getD k []).length=R)
theorem gb_zero (ps:List PMod):GB ps 0 0 0:=⟨fun i _ k _ h=>by omega,.inl rfl⟩
theorem GB.next {ps:List PMod} {m q R:Nat} (h:GB ps m q R) (hq:(ps.getD m zP).bl.length≤q):GB ps (m+1) 0 R:=
 ⟨fun i hi k hk e=>h.1 i hi k hk (by
  by_cases e2:i=m
  ·subst e2;right;exact ⟨rfl,by omega⟩
  ·left;omega),h.2⟩
theorem GB.step {ps:List PMod} {m q R:Nat} (h:GB ps m q R) (hm:m<ps.length) (hq:q<(ps.getD m zP).bl.length):GB ps m (q+1) (max R ((ps.getD m zP).bl.getD q []).length):=by
 refine ⟨fun i hi k hk e=>?_,?_⟩
 ·by_cases e2:i=m∧k=q
  ·obtain ⟨rfl,rfl⟩:=e2;omega
  ·have:=h.1 i hi k hk (by omega);omega
 ·by_cases hc:((ps.getD m zP).bl.getD q []).length≤R
  ·rw [show max R ((ps.getD m zP).bl.getD q []).length=R by omega]
   exact h.2
  ·exact .inr ⟨m,hm,q,hq,by omega⟩
theorem gb_shrt {ps:List PMod} {R:Nat} (h:GB ps ps.length 0 R) (w:Int) (hw:1≤w):(w<(R:Int)) ↔ ¬ shrt ps w:=by
 constructor
 ·intro h1 hs
  rcases h.2 with h2 | ⟨i,hi,k,hk,e⟩
  ·omega
  ·have:=hs i hi k hk
   omega
 ·intro hs
  apply Classical.byContradiction
  intro hn
  exact hs (fun i hi k hk=>by have:=h.1 i hi k hk (.inl hi);omega)
set_option maxHeartbeats 4000000 in
theorem greatestBank_any (a:Option Addr) (n cap:Nat) (ms:List Md) (w:World) (h:MSD w a n cap ms) (hv:vlds (pmS ms)) (hn4:n≤4):
 Calls Tryz.prog 60 #[.slice a n cap] w fun e w'=>∃ R:Nat,e=.returned (.int .i64 (R:Int))∧GB (pmS ms) (pmS ms).length 0 R∧Below w.heap.size w w':=by
 have hl:=h.s.1
 have hpl:(pmS ms).length=n:=by rw [pmS_len,hl]
 have HH:=hide h
 have HVL:=hide hv
 clear h hv
 go_enter Tryz.func60,Tryz.ntmps60
 go_wp2
 go_loopw [3,10] (fun x i wr=>∃ (m R:Nat),m≤n∧i=.int .i64 m∧x=.int .i64 (R:Int)∧R≤64∧Hid (GB (pmS ms) m 0 R)∧Below w.heap.size w wr) (fun _ i _=>n - (intOf i).toNat)
 case atStart=>exact ⟨0,0,Nat.zero_le _,rfl,rfl,Nat.zero_le _,hide (gb_zero _),Below.refl _ _⟩
 case round=>
  obtain ⟨m,R,hm,rfl,rfl,hR,hG,B⟩:=hrel
  by_cases hlt:m<n
  ·have hlt':(m:Int)<(n:Int):=by omega
   have H:=HH.out.below B
   obtain ⟨b,off,rfl,q0,q1,q2,q3,q4,q5,q6,q7⟩:=H.s.at m hlt
   have hmd:=H.d m hlt
   obtain ⟨P,hP⟩:∃ P,P=(pmS ms).getD m zP:=⟨_,rfl⟩
   have hPM:P=(ms.getD m zMd).pm:=hP.trans (pmS_at (by omega))
   have hvm:=HVL.out m (by omega)
   rw [← hP] at hvm
   obtain ⟨_,_,_,vb,_,_,_,vbk⟩:=vld_en hvm
   have eB:(ms.getD m zMd).bn=P.bl.length:=by rw [hPM];show _=(List.map _ _).length;rw [List.length_map];exact hmd.b.1.symm
   have HBK:=hide (show ∀ j,j<P.bl.length→((ms.getD m zMd).bl.getD j zB).2.1=(P.bl.getD j []).length from fun j hj=>by rw [hPM];exact (pm_bank hmd j (by omega)).1)
   have HMB:=hide (fun (W:World) (hb:Below wr.heap.size wr W)=>(MD.below hmd hb).b)
   have HP:=hide hP
   rw [eB] at q2
   have HEB:=hide eB
   have HB:=hide B
   generalize ms.getD m zMd=M at *
   generalize M.ba=ba at *
   have al:Below wr.heap.size wr (wr.alloc (.cells #[.string M.nm,.slice M.ta M.tn M.tc,.slice ba P.bl.length M.bc,.slice M.da M.dn M.dc,.int .i64 M.bss,.slice M.ra M.rn M.rc,.slice M.ia M.im M.ic,.slice M.ea M.en M.ec] 49)):=(Below.refl _ _).alloc (Nat.le_refl _) _
   obtain ⟨g0,g1,g2,g3,g4,g5,g6,g7⟩:=(Blk.new wr #[.string M.nm,.slice M.ta M.tn M.tc,.slice ba P.bl.length M.bc,.slice M.da M.dn M.dc,.int .i64 M.bss,.slice M.ra M.rn M.rc,.slice M.ia M.im M.ic,.slice M.ea M.en M.ec] 49).eight
   have HAL:=hide al
   clear B H hmd hP hPM eB al hvm
   generalize wr=wo at *
   go_wp2_with fail
   go_loopw [3,17] (fun x i wx=>∃ (q R:Nat),q≤P.bl.length∧i=.int .i64 q∧x=.int .i64 (R:Int)∧R≤64∧Hid (GB (pmS ms) m q R)∧Below wo.heap.size wo wx) (fun _ i _=>P.bl.length - (intOf i).toNat)
   case atStart=>exact ⟨0,R,Nat.zero_le _,rfl,rfl,hR,hG,HAL.out⟩
   case round=>
    obtain ⟨q,R',hq,rfl,rfl,hR',hG',B⟩:=hrel
    by_cases hlt2:q<P.bl.length
    ·have hlt2':(q:Int)<(P.bl.length:Int):=by omega
     obtain ⟨_,_,hcb,_,_⟩:=HMB.out wr B
     obtain ⟨b2,off2,rfl,hc⟩:=hcb (by rw [HEB.out];omega)
     have cb:=hc q (by rw [HEB.out];exact hlt2)
     rw [HBK.out q hlt2] at cb
     have hLq:=vbk q hlt2
     obtain ⟨LQ,hLQ⟩:∃ LQ,LQ=(P.bl.getD q []).length:=⟨_,rfl⟩
     rw [← hLQ] at cb hLq
     have HG2:=hide (show GB (pmS ms) m (q+1) (max R' LQ) by rw [hLQ,HP.out];exact hG'.out.step (by omega) (by rw [← HP.out];exact hlt2))
     have hmx:max (R':Int) (LQ:Int)=((max R' LQ:Nat):Int):=by omega
     have HB2:=hide B
     generalize M.bl.getD q zB=bq at cb
     obtain ⟨bq1,bq2,bq3,bq4⟩:=bq
     dsimp only at cb
     clear hcb hc hLQ B
     go_wp2
     go_roundw
     case rel=>exact ⟨q+1,max R' LQ,by omega,by go_num,(by rw [← hmx];congr 1;split <;> omega),by omega,HG2,HB2.out⟩
     case measure=>simp [intOf];omega
    ·have hlt2':¬ (q:Int)<(P.bl.length:Int):=by omega
     have HG2:=hide (hG'.out.next (by rw [← HP.out];omega))
     have HB2:=hide (HB.out.trans (B.mono HB.out.size))
     clear B
     go_wp2
     go_roundw
     case rel=>exact ⟨m+1,R',by omega,by go_num,rfl,hR',HG2,HB2.out⟩
     case measure=>simp [intOf];omega
  ·have hlt':¬ (m:Int)<(n:Int):=by omega
   have HG:=hide (show GB (pmS ms) (pmS ms).length 0 R by rw [hpl,← show m=n by omega];exact hG.out)
   have HB:=hide B
   clear B hG
   go_wp2
   go_ret
   exact ⟨R,rfl,by first | exact HG.out | (have:=HG.out;rw [hpl] at this;exact this),HB.out⟩
set_option maxHeartbeats 2000000 in
theorem placeS_any (g:Nat) (x:Int) (a:Option Addr) (n cap:Nat) (w:World) (h:Blk w g #[.int .i64 x,.func (.func 147) #[] #[]] 188) (hx0:0≤x) (hx1:x≤1000000) (hn:n≤65535):
 Calls Tryz.prog 149 #[.pointer (some ⟨g,0,none⟩),.slice a n cap] w fun e w'=>e=.returned (.int .i64 x)∧Blk w' g #[.int .i64 (x+rnd (4 * (n:Int))),.func (.func 147) #[] #[]] 188∧Turn (fun j=>j=g) w w':=by
 have c0:w.cell? ⟨g,0,none⟩=some (.int .i64 x):=h.cell 0
 have c1:w.cell? ⟨g,1,none⟩=some (.func (.func 147) #[] #[]):=h.cell 1
 have f0:=h.frozen 0
 have rR:=rnd_range (x:=4 * (n:Int)) (by omega)
 obtain ⟨RR,hRR⟩:∃ RR,RR=rnd (4 * (n:Int)):=⟨_,rfl⟩
 have HW:=hide (fun W=>wordBytes_any a n cap W (by omega))
 rw [← hRR] at rR HW ⊢
 have hw:IntKind.i64.wrap (x+RR)=x+RR:=wraps62 _ (by omega) (by omega)
 have HF:=hide (show Blk ((w.setCell ⟨g,0,none⟩ (.int .i64 (x+RR))).drew) g #[.int .i64 (x+RR),.func (.func 147) #[] #[]] 188∧Turn (fun j=>j=g) w ((w.setCell ⟨g,0,none⟩ (.int .i64 (x+RR))).drew) from ⟨h.set 0 (.int .i64 (x+RR)),turn_d1 (turn_set w g 0 (.int .i64 (x+RR)))⟩)
 clear h hRR
 go_enter Tryz.func149,Tryz.ntmps149
 go_wp2_with fail
 go_region_law (first
  | (go_simp;go_at_call 147;refine (HW.out _).mono ?_;rintro e wz ⟨rfl,rfl⟩))
 all_goals
  go_wp2
  go_ret
  exact ⟨rfl,HF.out.1,HF.out.2⟩
set_option maxHeartbeats 2000000 in
theorem placeI_any (g:Nat) (x v:Int) (w:World) (h:Blk w g #[.int .i64 x,.func (.func 148) #[] #[]] 190) (hx0:0≤x) (hx1:x≤1000000) (hv0:0≤v) (hv1:v≤1000000):
 Calls Tryz.prog 151 #[.pointer (some ⟨g,0,none⟩),.int .i64 v] w fun e w'=>e=.returned (.int .i64 x)∧Blk w' g #[.int .i64 (x+rnd v),.func (.func 148) #[] #[]] 190∧Turn (fun j=>j=g) w w':=by
 have c0:w.cell? ⟨g,0,none⟩=some (.int .i64 x):=h.cell 0
 have c1:w.cell? ⟨g,1,none⟩=some (.func (.func 148) #[] #[]):=h.cell 1
 have f0:=h.frozen 0
 have rR:=rnd_range hv0
 obtain ⟨RR,hRR⟩:∃ RR,RR=rnd v:=⟨_,rfl⟩
 have HW:=hide (fun W=>roundUp_any v W hv0 (by omega))
 rw [← hRR] at rR HW ⊢
 have hw:IntKind.i64.wrap (x+RR)=x+RR:=wraps62 _ (by omega) (by omega)
 have HF:=hide (show Blk ((w.setCell ⟨g,0,none⟩ (.int .i64 (x+RR))).drew) g #[.int .i64 (x+RR),.func (.func 148) #[] #[]] 190∧Turn (fun j=>j=g) w ((w.setCell ⟨g,0,none⟩ (.int .i64 (x+RR))).drew) from ⟨h.set 0 (.int .i64 (x+RR)),turn_d1 (turn_set w g 0 (.int .i64 (x+RR)))⟩)
 clear h hRR
 go_enter Tryz.func151,Tryz.ntmps151
 go_wp2_with fail
 go_region_law (first
  | (go_simp;go_at_call 148;refine (HW.out _).mono ?_;rintro e wz ⟨rfl,rfl⟩))
 all_goals
  go_wp2
  go_ret
  exact ⟨rfl,HF.out.1,HF.out.2⟩
def bkx (P:PMod) (x:Int) (k:Nat):List Int:=(List.range k).map fun j=>x+fsum P j
theorem bkx_len (P:PMod) (x:Int) (k:Nat):(bkx P x k).length=k:=by simp [bkx]
theorem bkx_succ (P:PMod) (x:Int) (k:Nat):bkx P x (k+1)=bkx P x k++[x+fsum P k]:=by simp [bkx,List.range_succ]
set_option maxHeartbeats 4000000 in
theorem placeAll_any (g:Nat) (x:Int) (P:PMod) (ba:Option Addr) (bc:Nat) (bl:List Bk) (w0 w:World) (h:Blk w g #[.int .i64 x,.func (.func 147) #[] #[]] 188) (hP:mdoP P=0) (hx0:0≤x) (hx1:x≤900000) (hB:Below w0.heap.size w0 w) (hg:w0.heap.size≤g) (hb:BKS w0 ba P.bl.length bc bl) (hlen:∀ j,j<P.bl.length→(bl.getD j zB).2.1=(P.bl.getD j []).length):
 Calls Tryz.prog 150 #[.pointer (some ⟨g,0,none⟩),.slice ba P.bl.length bc] w fun e w'=>∃ a' c',e=.returned (.slice a' P.bl.length c')∧OG 3 1 clI w' w.heap.size (.slice a' P.bl.length c') (bkx P x P.bl.length)∧Blk w' g #[.int .i64 (x+fsum P P.bl.length),.func (.func 147) #[] #[]] 188∧Turn (fun j=>j=g) w w':=by
 obtain ⟨iI,hiI,hz0,hz1,hz2⟩:=info_parts infoI
 obtain ⟨_,_,_,vb,_,_,_,vbk⟩:=vld_en hP
 have HFS:=hide (fun k hk=>fsum_range hP k hk)
 have HBB:=hide (fun (W:World) (t:Turn (fun j=>j=g) w W)=>hb.below (below_turn hB t (fun j hj=>by have e:j=g:=hj;omega) hB.size))
 have HLEN:=hide hlen
 have hgl:=h.lt
 have HH:=hide h
 clear h hb hlen hB hP
 go_enter Tryz.func150,Tryz.ntmps150
 go_wp2
 go_loopw [5,10] (fun v i wr=>∃ (q:Nat) (a':Option Addr) (c':Nat),q≤P.bl.length∧i=.int .i64 q∧v=.slice a' q c'∧OG 3 1 clI wr w.heap.size (.slice a' q c') (bkx P x q)∧Blk wr g #[.int .i64 (x+fsum P q),.func (.func 147) #[] #[]] 188∧Turn (fun j=>j=g) w wr) (fun _ i _=>P.bl.length - (intOf i).toNat)
 case atStart=>exact ⟨0,none,0,Nat.zero_le _,rfl,rfl,og_nil _ _ _ _ _,by have:=HH.out;rw [show x+fsum P 0=x by simp [fsum]];exact this,Turn.refl _ _⟩
 case round=>
  obtain ⟨q,a',c',hq,rfl,rfl,O,B,T⟩:=hrel
  by_cases hlt:q<P.bl.length
  ·have hlt':(q:Int)<(P.bl.length:Int):=by omega
   obtain ⟨_,_,hcb,_,_⟩:=HBB.out wr T
   obtain ⟨b2,off2,rfl,hc⟩:=hcb (by omega)
   have cb:=hc q hlt
   rw [HLEN.out q hlt] at cb
   have hLq:=vbk q hlt
   obtain ⟨LQ,hLQ⟩:∃ LQ,LQ=(P.bl.getD q []).length:=⟨_,rfl⟩
   rw [← hLQ] at cb hLq
   have rq:=HFS.out q (by omega)
   have HFE:=hide (show x+fsum P q+rnd (4 * (LQ:Int))=x+fsum P (q+1) by rw [hLQ];show _=x+(fsum P q+rnd (4 * ((P.bl.getD q []).length:Int)));omega)
   have HSU:=hide (bkx_succ P x q)
   obtain ⟨xq,hxq⟩:∃ xq,xq=x+fsum P q:=⟨_,rfl⟩
   rw [← hxq] at HFE HSU B
   have rxq:0≤xq∧xq≤1000000:=by omega
   generalize bl.getD q zB=bq at cb
   obtain ⟨bq1,bq2,bq3,bq4⟩:=bq
   dsimp only at cb
   have HPL:=hide (placeS_any g xq bq1 LQ bq3 wr B (by omega) (by omega) (by omega))
   have HQ:=hide (And.intro O T)
   clear hcb hc hLQ hxq O B T
   go_wp2_with fail
   refine HPL.out.mono ?_
   rintro e w1 ⟨rfl,B1,T1⟩
   obtain ⟨O,T⟩:=HQ.out
   have O1:=O.turn T1 (fun j hj=>by have e:j=g:=hj;omega)
   have T2:=T.trans T1
   have al:Below w1.heap.size w1 (w1.alloc (.cells #[.int .i64 xq] 3)):=(Below.refl _ _).alloc (Nat.le_refl _) _
   have HOW:=hide (show (w1.alloc (.cells #[.int .i64 xq] 3)).ownsRow w.heap.size 3 1 (.slice a' q c') q ((bkx P x q).flatMap clI) by have:=O1.below al;unfold OG at this;rw [bkx_len] at this;exact this)
   have hs1:=T2.size
   have HR:=hide (And.intro (O1.below al) (And.intro (B1.below al) (T2.trans (turn_below al))))
   clear O T O1 T2 al B1 T1 HPL HQ cb
   go_wp2_with (at_builtin;refine wpList_append_own _ rfl _ _ 29 rfl w.heap.size 3 iI (.int .i64 0) 1 8 Tryz.underlying29 hiI hz0 hz1 hz2 rfl (by decide) (.slice a' q c') q ((bkx P x q).flatMap clI) rfl HOW.out ⟨w1.heap.size,0,none⟩ 1 1 (clI xq) rfl rfl (cells_new w1 _ _ (clI xq) rfl) (by intro u hu;simp [clI] at hu;subst hu;rfl) (by unfold maxLen;omega) (by omega) (by simp;omega) ?_;intro v' w4 hown hgr _)
   obtain ⟨O1,B1,T1⟩:=HR.out
   have hrow:∀ j,(Value.slice a' q c').ownBlock=some j→w.heap.size≤j:=fun j hj=>(O1.lt j hj).1
   have O4:OG 3 1 clI w4 w.heap.size v' (bkx P x (q+1)):=by
    unfold OG
    rw [bkx_len,HSU.out,List.flatMap_append,List.flatMap_singleton]
    exact hown
   have B4:=blk_grown B1 hgr (fun e=>by have:=hrow _ e.symm;omega)
   have T4:=turn_grown T1 hgr hrow
   obtain ⟨a4,c4,rfl⟩:=og_shape O4
   rw [bkx_len] at O4
   have HX:=hide (And.intro O4 (And.intro B4 T4))
   have HL:=hide (bkx_len P x (q+1))
   clear O1 B1 T1 hrow O4 B4 T4 hown hgr HR HOW
   go_roundw
   case rel=>exact ⟨q+1,a4,c4,by omega,by go_num,by rw [HL.out],HX.out.1,by rw [← HFE.out];exact HX.out.2.1,HX.out.2.2⟩
   case measure=>simp [intOf];omega
  ·have hlt':¬ (q:Int)<(P.bl.length:Int):=by omega
   have e:q=P.bl.length:=by omega
   rw [e] at O B
   have HX:=hide (And.intro O (And.intro B T))
   have HE:=hide e
   clear O B T e
   go_wp2
   go_ret
   exact ⟨a',c',by rw [← HE.out];rfl,HX.out.1,HX.out.2.1,HX.out.2.2⟩
structure Tf (w:World) (base g n:Nat) (f:Nat→TB):Prop where
 head:∃ cs,Blk w g cs 97∧cs.size=n∧∀ i,i<n→cs[i]?=some (svT (f i))
 rows:∀ i,i<n→OG 72 3 clG w base (svT (f i)) (f i).1
 apart:∀ i j,i<n→j<n→i≠j→∀ k,(svT (f i)).ownBlock=some k→(svT (f j)).ownBlock≠some k
theorem Tf.below {w w':World} {base g n:Nat} {f:Nat→TB} (h:Tf w base g n f) (hb:Below w.heap.size w w'):Tf w' base g n f:=
 ⟨by obtain ⟨cs,h1,h2,h3⟩:=h.head;exact ⟨cs,h1.below hb,h2,h3⟩,fun i hi=>(h.rows i hi).below hb,h.apart⟩
theorem Tf.cell {w:World} {base g n:Nat} {f:Nat→TB} (h:Tf w base g n f) (i:Nat) (hi:i<n):w.cell? ⟨g,i,none⟩=some (svT (f i))∧w.frozen? ⟨g,i,none⟩=false:=by
 obtain ⟨cs,h1,h2,h3⟩:=h.head
 exact ⟨(h1.cell i).trans (h3 i hi),h1.frozen i⟩
theorem Tf.lt {w:World} {base g n:Nat} {f:Nat→TB} (h:Tf w base g n f):g<w.heap.size∧∀ i,i<n→∀ k,(svT (f i)).ownBlock=some k→base≤k∧k<w.heap.size:=by
 obtain ⟨cs,h1,_⟩:=h.head
 exact ⟨h1.lt,fun i hi=>(h.rows i hi).lt⟩
theorem Tf.update {W W':World} {base g n m:Nat} {f:Nat→TB} {x:TB} {g4 c4:Nat} (h:Tf W base g n f) (hm:m<n) (hg:W.grownBy W' (svT (f m)).ownBlock) (hx:OG 72 3 clG W' base (svT x) x.1) (hs:svT x=.slice (some ⟨g4,0,none⟩) x.1.length c4) (hat:(svT (f m)).ownBlock=some g4∨g4=W.heap.size):Tf (W'.setCell ⟨g,m,none⟩ (svT x)) base g n (fun i=>if i=m then x else f i):=by
 obtain ⟨cs,h1,h2,h3⟩:=h.head
 have hk:∀ k,(svT (f m)).ownBlock=some k→k≠g:=fun k hk e=>by subst e;exact kind_no (h.rows m hm) hk h1 (by decide)
 have hb:Blk W' g cs 97:=blk_grown h1 hg (fun e=>hk g e.symm rfl)
 have tx:=turn_set W' g m (svT x)
 have hng:∀ (u:Value) (ys:List Tg),OG 72 3 clG W' base u ys→∀ k,u.ownBlock=some k→¬ (fun j=>j=g) k:=fun u ys ho k hk' e=>by
  have e':k=g:=e
  subst e'
  exact kind_no ho hk' hb (by decide)
 refine ⟨⟨cs.setIfInBounds m (svT x),hb.set m (svT x),by simp [h2],fun i hi=>?_⟩,fun i hi=>?_,fun i j hi hj hij k hk1=>?_⟩
 ·by_cases e:i=m
  ·subst e;simp [h2,hi]
  ·simp only [e,if_false]
   rw [Array.getElem?_setIfInBounds_ne (fun e'=>e e'.symm)]
   exact h3 i hi
 ·by_cases e:i=m
  ·simp only [e,if_true]
   exact hx.kept tx (hng _ _ hx)
  ·simp only [e,if_false]
   have o:=(h.rows i hi).kept' hg (fun k hk' e'=>h.apart i m hi hm e k hk' e')
   exact o.kept tx (hng _ _ o)
 ·have hx4:(svT x).ownBlock=some g4:=by rw [hs];rfl
  by_cases e1:i=m
  ·have e2:¬ j=m:=fun e=>hij (e1.trans e.symm)
   simp only [e1,e2,if_true,if_false] at hk1 ⊢
   rw [hx4] at hk1
   simp at hk1
   subst hk1
   rcases hat with h5 | h5
   ·exact fun e=>h.apart m j hm hj (fun e'=>e2 e'.symm) g4 h5 e
   ·exact fun e=>by have:=(h.lt.2 j hj g4 e).2;omega
  ·by_cases e2:j=m
   ·simp only [e1,e2,if_true,if_false] at hk1 ⊢
    rw [hx4]
    intro e
    simp at e
    subst e
    rcases hat with h5 | h5
    ·exact h.apart i m hi hm e1 g4 hk1 h5
    ·have:=(h.lt.2 i hi g4 hk1).2;omega
   ·simp only [e1,e2,if_false] at hk1 ⊢
    exact h.apart i j hi hj hij k hk1
theorem made_rows {w:World} {base g n:Nat} (h:w.ownsRow base 97 1 (.slice (some ⟨g,0,none⟩) n n) n (madeCells (Value.cells (.slice none 0 0)) (n * 1)).toList) (lo:Nat):Tf w lo g n (fun _=>([],none,0)):=by
 obtain ⟨hl,h | ⟨g',cap,cur,hv,hb,hh,h1,h2,h3,h4⟩⟩:=h
 ·simp at h
 ·simp at hv
  obtain ⟨rfl,rfl⟩:=hv
  have e:cur.toList=(madeCells (Value.cells (.slice none 0 0)) (n * 1)).toList:=by
   rw [← h4,List.take_of_length_le (by simp [h3])]
  have e2:cur=madeCells (Value.cells (.slice none 0 0)) (n * 1):=Array.toList_inj.1 e
  refine ⟨⟨cur,hh,by simpa using h3,fun i hi=>?_⟩,fun i hi=>og_nil _ _ _ _ _,fun i j _ _ _ k hk=>by simp [svT,Value.ownBlock] at hk⟩
  rw [e2]
  simp [madeCells,Value.cells,svT,hi,Nat.mod_one]
theorem Tf.otg {w:World} {base g n c:Nat} {f:Nat→TB} (h:Tf w base g n f) (hg:base≤g) (hn:n≤maxLen) (hc:c=n):OTg w base base (.slice (some ⟨g,0,none⟩) ((List.range n).map f).length c) ((List.range n).map f):=by
 subst hc
 obtain ⟨cs,h1,h2,h3⟩:=h.head
 refine ⟨⟨?_,.inr ⟨g,c,cs,by simp,hg,h1,by simp,hn,by simpa using h2,?_⟩⟩,fun x hx=>?_,?_⟩
 ·rw [show ((List.range c).map f).flatMap clTB=(List.range c).map (fun i=>svT (f i)) by rw [List.flatMap_map];exact flat_one _ _]
  simp
 ·apply List.ext_getElem?
  intro i
  rw [show ((List.range c).map f).flatMap clTB=(List.range c).map (fun i=>svT (f i)) by rw [List.flatMap_map];exact flat_one _ _]
  by_cases hi:i<c
  ·rw [List.getElem?_take,if_pos (by simpa using hi),Array.getElem?_toList,h3 i hi]
   simp [hi]
  ·rw [List.getElem?_eq_none (by simp;omega),List.getElem?_eq_none (by simp;omega)]
 ·simp at hx
  obtain ⟨i,hi,rfl⟩:=hx
  exact h.rows i hi
 ·rw [List.pairwise_iff_getElem]
  intro i j hi hj hij k hk
  simp at hi hj hk ⊢
  exact h.apart i j hi hj (by omega) k hk
theorem run_text (w:World) (b k c:Nat) (x:List Int) (h:BS w (some ⟨b,k,none⟩) x.length c x):(convert 22 9 (.slice (some ⟨b,k,none⟩) x.length c)).run Tryz.prog w=.ok (.string (strOf x)) w:=by
 have hl:(x.map fun z=>UInt8.ofNat z.toNat).length=x.length:=by simp
 have:=run_convert_bytes_back (P:=Tryz.prog) w 22 9 5 ⟨b,k,none⟩ c (x.map fun z=>UInt8.ofNat z.toNat) Tryz.underlying22 Tryz.underlying5 Tryz.underlying9 (fun j hj=>by
  have hj':j<x.length:=by simpa using hj
  rw [addr_add,h.at j hj']
  have hz:=h.range j
  have e1:x.getD j 0=x[j]:=by simp [List.getD_eq_getElem?_getD,hj']
  have e2:(UInt8.ofNat (x[j]).toNat).toNat=(x[j]).toNat % 256:=UInt8.toNat_ofNat'
  rw [List.getElem_map,e2,e1]
  rw [e1] at hz
  congr 2
  omega)
 rw [hl] at this
 exact this
def Byt (zs:List Int):Prop:=∀ z ∈ zs,0≤z∧z≤255
theorem Byt.drop {zs:List Int} (h:Byt zs) (k:Nat):Byt (zs.drop k):=fun z hz=>h z (List.mem_of_mem_drop hz)
theorem Byt.take {zs:List Int} (h:Byt zs) (k:Nat):Byt (zs.take k):=fun z hz=>h z (List.mem_of_mem_take hz)
theorem strOf_size (x:List Int):(strOf x).size=x.length:=by
 show (x.map fun z=>UInt8.ofNat z.toNat).toArray.size=_
 simp
def Wd (x:Int):Prop:=0≤x∧x≤4294967295
structure PmR (P:PMod):Prop where
 n:P.nm.size≤255
 t:P.tz.length≤65535∧∀ x ∈ P.tz,Wd x
 b:P.bl.length≤255∧∀ l ∈ P.bl,l.length≤65535∧∀ x ∈ l,Wd x
 d:P.dz.length≤65535∧Byt P.dz
 s:0≤P.bss∧P.bss≤65535
 r:P.rz.length≤255∧∀ x ∈ P.rz,0≤x∧x≤65535
 i:P.ss.length≤255∧∀ s ∈ P.ss,s.size≤255
 e:P.es.length≤255∧∀ x ∈ P.es,x.1.size≤255∧-1≤x.2.1∧x.2.1≤254∧0≤x.2.2∧x.2.2≤65535
structure Stay (w:World) (g:Nat) (A:World→Prop):Prop where
 turn:∀ W W',A W→Turn (fun j=>j=g) W W'→A W'
 set:∀ W k i v,k≤w.heap.size+1→A W→A (W.setCell ⟨k,i,none⟩ v)
theorem Stay.and {w:World} {g:Nat} {A B:World→Prop} (a:Stay w g A) (b:Stay w g B):Stay w g (fun W=>A W∧B W):=
 ⟨fun W W' h t=>⟨a.turn W W' h.1 t,b.turn W W' h.2 t⟩,fun W k i v hk h=>⟨a.set W k i v hk h.1,b.set W k i v hk h.2⟩⟩
def st8 (W:World) (k:Nat) (v0 v1 v2 v3 v4 v5 v6 v7:Value):World:=(((((((W.setCell ⟨k,0,none⟩ v0).setCell ⟨k,1,none⟩ v1).setCell ⟨k,2,none⟩ v2).setCell ⟨k,3,none⟩ v3).setCell ⟨k,4,none⟩ v4).setCell ⟨k,5,none⟩ v5).setCell ⟨k,6,none⟩ v6).setCell ⟨k,7,none⟩ v7
theorem Stay.st8 {w W:World} {g:Nat} {A:World→Prop} (a:Stay w g A) (h:A W) (v0 v1 v2 v3 v4 v5 v6 v7:Value):A (st8 W w.heap.size v0 v1 v2 v3 v4 v5 v6 v7):=
 a.set _ _ _ _ (by omega) (a.set _ _ _ _ (by omega) (a.set _ _ _ _ (by omega) (a.set _ _ _ _ (by omega) (a.set _ _ _ _ (by omega) (a.set _ _ _ _ (by omega) (a.set _ _ _ _ (by omega) (a.set _ _ _ _ (by omega) h)))))))
theorem Blk.eight' {w:World} {g:Nat} {v0 v1 v2 v3 v4 v5 v6 v7:Value} {t:TypeId} (h:Blk w g #[v0,v1,v2,v3,v4,v5,v6,v7] t):w.cell? ⟨g,0,none⟩=some v0∧w.cell? ⟨g,1,none⟩=some v1∧w.cell? ⟨g,2,none⟩=some v2∧w.cell? ⟨g,3,none⟩=some v3∧w.cell? ⟨g,4,none⟩=some v4∧w.cell? ⟨g,5,none⟩=some v5∧w.cell? ⟨g,6,none⟩=some v6∧w.cell? ⟨g,7,none⟩=some v7:=
 ⟨h.cell 0,h.cell 1,h.cell 2,h.cell 3,h.cell 4,h.cell 5,h.cell 6,h.cell 7⟩
theorem Blk.froz {w:World} {g:Nat} {cs:Array Value} {t:TypeId} (h:Blk w g cs t):w.frozen? ⟨g,0,none⟩=false∧w.frozen? ⟨g,1,none⟩=false∧w.frozen? ⟨g,2,none⟩=false∧w.frozen? ⟨g,3,none⟩=false∧w.frozen? ⟨g,4,none⟩=false∧w.frozen? ⟨g,5,none⟩=false∧w.frozen? ⟨g,6,none⟩=false∧w.frozen? ⟨g,7,none⟩=false:=
 ⟨h.frozen 0,h.frozen 1,h.frozen 2,h.frozen 3,h.frozen 4,h.frozen 5,h.frozen 6,h.frozen 7⟩
structure ModO (W:World) (base:Nat) (P:PMod) (a1:Option Addr) (c1:Nat) (a2:Option Addr) (c2:Nat) (bl:List Bk) (a3:Option Addr) (c3:Nat) (a5:Option Addr) (c5:Nat) (a6:Option Addr) (c6:Nat) (a7:Option Addr) (c7:Nat):Prop where
 t:OG 3 1 clI W base (.slice a1 P.tz.length c1) P.tz
 b:OBk W base (.slice a2 bl.length c2) bl
 bls:bl.map (fun B=>B.2.2.2)=P.bl
 d:OB W base (.slice a3 P.dz.length c3) P.dz
 r:OG 3 1 clI W base (.slice a5 P.rz.length c5) P.rz
 i:OG 9 1 clT W base (.slice a6 P.ss.length c6) P.ss
 e:OG 210 3 clX W base (.slice a7 P.es.length c7) P.es
 tb:∀ k,(Value.slice a1 P.tz.length c1).ownBlock=some k→∀ B ∈ bl,(Value.slice B.1 B.2.1 B.2.2.1).ownBlock≠some k
 tr:∀ k,(Value.slice a1 P.tz.length c1).ownBlock=some k→(Value.slice a5 P.rz.length c5).ownBlock≠some k
 br:∀ k,(Value.slice a5 P.rz.length c5).ownBlock=some k→∀ B ∈ bl,(Value.slice B.1 B.2.1 B.2.2.1).ownBlock≠some k
def modV (P:PMod) (a1:Option Addr) (c1:Nat) (a2:Option Addr) (c2:Nat) (bl:List Bk) (a3:Option Addr) (c3:Nat) (a5:Option Addr) (c5:Nat) (a6:Option Addr) (c6:Nat) (a7:Option Addr) (c7:Nat):Array Value:=#[.string P.nm,.slice a1 P.tz.length c1,.slice a2 bl.length c2,.slice a3 P.dz.length c3,.int .i64 P.bss,.slice a5 P.rz.length c5,.slice a6 P.ss.length c6,.slice a7 P.es.length c7]
end Go.Proofs.YtngdgogjlpjjpadGreat
