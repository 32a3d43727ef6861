import Derived.Deep.RegionLaw
import Derived.Test.YtngdgogjlpjjpaeGreatP09
import Derived.Test.YtngdgogjlpjjpaeGreatP12
set_option maxHeartbeats 4000000
namespace Go.Proofs.YtngdgogjlpjjpaeGreat
open Go.RowKit
set_option linter.unusedVariables false
set_option linter.unusedSimpArgs false
set_option maxRecDepth 100000
theorem snd4_1 {ps:List PMod}{s w k d:Int}(h:cfo s w k d=false):snd4 ps s w k d=1:=if_pos h
theorem snd4_2 {ps:List PMod}{s w k d:Int}(h:cfo s w k d=true)(h2:ps.length<1∨4<ps.length):snd4 ps s w k d=2:=by
 unfold snd4;rw [if_neg (by rw [h];decide),if_pos h2]
theorem snd4_3 {ps:List PMod}{s w k d:Int}(h:cfo s w k d=true)(h2:¬ (ps.length<1∨4<ps.length))(i:Nat)(hi:i<ps.length)(h3:mdoP (ps.getD i zP)≠0):snd4 ps s w k d=3:=by
 unfold snd4;rw [if_neg (by rw [h];decide),if_neg h2,if_pos (fun v=>h3 (v i hi))]
theorem snd4_4 {ps:List PMod}{s w k d:Int}(h:cfo s w k d=true)(h2:¬ (ps.length<1∨4<ps.length))(h3:vlds ps)(i j:Nat)(hi:i<ps.length)(hj:j<i)(h4:(ps.getD j zP).nm=(ps.getD i zP).nm):snd4 ps s w k d=4:=by
 unfold snd4;rw [if_neg (by rw [h];decide),if_neg h2,if_neg (fun v=>v h3),if_pos (fun v=>v i hi j hj h4)]
theorem snd4_0 {ps:List PMod}{s w k d:Int}(h:cfo s w k d=true)(h2:¬ (ps.length<1∨4<ps.length))(h3:vlds ps)(h4:nms ps):snd4 ps s w k d=0:=by
 unfold snd4;rw [if_neg (by rw [h];decide),if_neg h2,if_neg (fun v=>v h3),if_neg (fun v=>v h4)]
theorem below_dN {B:Nat}{a W:World}(h:Below B a W)(n:Nat):Below B a (W.drewN n):=⟨h.os,h.tape,h.output,h.size,h.block⟩
theorem str_ne {a b:ByteArray}(h:a≠b):(a.toList == b.toList)=false:=by
 rw [beq_eq_false_iff_ne]
 intro e
 apply h
 rw [ByteArray.toList_eq,ByteArray.toList_eq] at e
 cases a
 cases b
 simp at e
 rw [e]
theorem l5Round_any (x:Int)(w:World)(h0:0≤x)(h1:x≤4294967295):Calls Tryz.prog 136 #[.int .i64 x] w fun e w'=>e=.returned (.int .i64 (rnd x))∧w'=w:=by
 have hd:(x+31).tdiv 32=(x+31) / 32:=Int.tdiv_eq_ediv_of_nonneg (by omega)
 go_enter Tryz.func136,Tryz.ntmps136
 go_wp2
 go_ret
 exact ⟨ret_int (by unfold rnd;rw [show x+31=x+32 - 1 by omega]),rfl⟩
theorem Md.okS {m:Md}{w:World}(h:m.md w):Calls Tryz.prog 154 #[.agg #[.string m.nm,.slice m.ta m.tn m.tc,.slice m.ba m.bn m.bc,.slice m.da m.dn m.dc,.int .i64 m.bss,.slice m.ra m.rn m.rc,.slice m.ia m.im m.ic,.slice m.ea m.en m.ec]] w fun e w'=>e=.returned (.int .i64 (mdoP m.pm))∧Below w.heap.size w w':=by
 have:=sModuleOk_any _ _ _ _ _ _ _ _ _ _ _ _ _ _ _ _ _ _ _ _ _ _ _ _ _ _ w h
 rw [md_mdo h] at this
 exact this
theorem l5Sound_any (a:Option Addr)(n cap:Nat)(ms:List Md)(s c k d:Int)(w:World)(h:MSD w a n cap ms):
 Calls Tryz.prog 159 #[.slice a n cap,.agg #[.int .i64 s,.int .i64 c,.int .i64 k,.int .i64 d]] w fun e w'=>e=.returned (.int .i64 (snd4 (pmS ms) s c k d))∧Below w.heap.size w w':=by
 have hA:Below w.heap.size w (w.alloc (.cells #[.int .i64 s,.int .i64 c,.int .i64 k,.int .i64 d] 44)):=(Below.refl _ _).alloc (Nat.le_refl _) _
 have hl:=h.s.1
 have hm1:=h.s.2.1
 unfold maxLen at hm1
 have hpl:=pmS_len ms
 have HH:=hide h
 have HC:=hide (fun W=>sConfigOk_any s c k d W)
 clear h
 go_enter Tryz.func159,Tryz.ntmps159
 go_wp2_with fail
 refine (HC.out _).mono ?_
 rintro e w1 ⟨rfl,hb1⟩
 have HB1:=hide (hA.trans (hb1.mono (by simp)))
 clear hA hb1 HC
 cases hcf:cfo s c k d with
 | false=>
   have HS:=hide (snd4_1 (ps:=pmS ms) hcf)
   go_wp2
   go_ret
   exact ⟨ret_int HS.out.symm,HB1.out⟩
 | true=>
   by_cases hn2:n<1∨4<n
   ·have HS:=hide (snd4_2 (ps:=pmS ms) hcf (by omega))
    by_cases hn1:n<1
    ·have hn1':(n:Int)<1:=by omega
     clear hn2
     go_wp2
     go_ret
     exact ⟨ret_int HS.out.symm,HB1.out⟩
    ·have hn1':¬ (n:Int)<1:=by omega
     have hn4':(4:Int)<(n:Int):=by omega
     clear hn2
     go_wp2
     go_ret
     exact ⟨ret_int HS.out.symm,HB1.out⟩
   have hn1':¬ (n:Int)<1:=by omega
   have hn4':¬ (4:Int)<(n:Int):=by omega
   have HN2:=hide (show ¬ ((pmS ms).length<1∨4<(pmS ms).length) by rw [hpl,hl];exact hn2)
   clear hn2
   go_wp2
   go_loopw [5] (fun i wr=>∃ m:Nat,m≤n∧i=.int .i64 m∧(∀ j,j<m→mdoP ((pmS ms).getD j zP)=0)∧Below w.heap.size w wr) (fun i _=>n - (intOf i).toNat)
   case atStart=>exact ⟨0,Nat.zero_le _,rfl,fun j hj=>absurd hj (by omega),HB1.out⟩
   case round=>
    obtain ⟨m,hm,rfl,hv,B⟩:=hrel
    by_cases hlt:m<n
    ·have hlt':(m:Int)<(n:Int):=by omega
     have H:=HH.out.below B
     obtain ⟨b,off,rfl,q0,q1,q2,q3,q4,q5,q6,q7⟩:=H.s.at m hlt
     have HOK:=hide (Md.okS (H.d m hlt))
     rw [← pmS_at (by omega)] at HOK
     have HV:=hide hv
     have HB:=hide B
     obtain ⟨V,hV⟩:∃ V,V=mdoP ((pmS ms).getD m zP):=⟨_,rfl⟩
     rw [← hV] at HOK
     have HVV:=hide hV
     generalize ms.getD m zMd=M at *
     clear hv B H hV
     go_wp2_with fail
     refine HOK.out.mono ?_
     rintro e w2 ⟨rfl,hb2⟩
     have HB2:=hide (HB.out.trans (hb2.mono HB.out.size))
     clear hb2 HOK HB q0 q1 q2 q3 q4 q5 q6 q7
     by_cases hz:V=0
     ·subst hz
      have HV2:=hide (show ∀ j,j<m+1→mdoP ((pmS ms).getD j zP)=0 from fun j hj=>by
       by_cases e:j=m
       ·subst e;exact HVV.out.symm
       ·exact HV.out j (by omega))
      go_wp2
      go_roundw
      case rel=>exact ⟨m+1,by omega,by go_num,HV2.out,HB2.out⟩
      case measure=>simp [intOf];omega
     ·have hz':(V != 0)=true:=by simp [hz]
      have HS:=hide (snd4_3 (ps:=pmS ms) hcf HN2.out m (by omega) (by rw [← HVV.out];exact hz))
      go_wp2
      go_ret
      exact ⟨ret_int HS.out.symm,HB2.out⟩
    ·have hlt':¬ (m:Int)<(n:Int):=by omega
     have HV:=hide (show vlds (pmS ms) from fun i hi=>hv i (by omega))
     have HB:=hide B
     clear hv B
     go_wp2
     go_loopw [6] (fun i wr=>∃ m:Nat,m≤n∧i=.int .i64 m∧(∀ i,i<m→∀ k,k<i→((pmS ms).getD k zP).nm≠((pmS ms).getD i zP).nm)∧Below w.heap.size w wr) (fun i _=>n - (intOf i).toNat)
     case atStart=>exact ⟨0,Nat.zero_le _,rfl,fun j hj=>absurd hj (by omega),HB.out⟩
     case round=>
      obtain ⟨p,hp,rfl,hv,B⟩:=hrel
      by_cases hlt2:p<n
      ·have hlt2':(p:Int)<(n:Int):=by omega
       have HP:=hide hv
       have HB3:=hide B
       clear hv B
       go_wp2
       go_loopw [7] (fun i wr=>∃ q:Nat,q≤p∧i=.int .i64 q∧(∀ k,k<q→((pmS ms).getD k zP).nm≠((pmS ms).getD p zP).nm)∧Below w.heap.size w wr) (fun i _=>p - (intOf i).toNat)
       case atStart=>exact ⟨0,Nat.zero_le _,rfl,fun j hj=>absurd hj (by omega),HB3.out⟩
       case round=>
        obtain ⟨q,hq,rfl,hv,B⟩:=hrel
        by_cases hlt3:q<p
        ·have hlt3':(q:Int)<(p:Int):=by omega
         have hqn:(q:Int)<(n:Int):=by omega
         have H:=HH.out.below B
         obtain ⟨b,off,rfl,q0,_⟩:=H.s.at q (by omega)
         obtain ⟨b',off',e',r0,_⟩:=H.s.at p hlt2
         simp at e'
         obtain ⟨rfl,rfl⟩:=e'
         have e1:((pmS ms).getD q zP).nm=(ms.getD q zMd).nm:=by rw [pmS_at (by omega)];rfl
         have e2:((pmS ms).getD p zP).nm=(ms.getD p zMd).nm:=by rw [pmS_at (by omega)];rfl
         have HQ:=hide hv
         have HB4:=hide B
         by_cases hnm:(ms.getD q zMd).nm=(ms.getD p zMd).nm
         ·have HS:=hide (snd4_4 (ps:=pmS ms) hcf HN2.out HV.out p q (by omega) hlt3 (by rw [e1,e2];exact hnm))
          rw [hnm] at q0
          have heq:((ms.getD p zMd).nm.toList == (ms.getD p zMd).nm.toList)=true:=by simp
          generalize ms.getD p zMd=M at *
          clear hv B H e1 e2 hnm
          go_wp2_with fail
          go_quiet (fail)
          go_wp2
          go_ret
          exact ⟨ret_int HS.out.symm,below_dN HB4.out nq⟩
         ·have hne:=str_ne hnm
          have HQ2:=hide (show ∀ k,k<q+1→((pmS ms).getD k zP).nm≠((pmS ms).getD p zP).nm from fun k hk=>by
           by_cases e:k=q
           ·subst e;rw [e1,e2];exact hnm
           ·exact HQ.out k (by omega))
          generalize (ms.getD p zMd).nm=N1 at *
          generalize (ms.getD q zMd).nm=N2 at *
          clear hv B H e1 e2 hnm
          go_wp2_with fail
          go_quiet (fail)
          go_wp2
          go_roundw
          case rel=>exact ⟨q+1,by omega,by go_num,HQ2.out,below_dN HB4.out nq⟩
          case measure=>simp [intOf];omega
        ·have hlt3':¬ (q:Int)<(p:Int):=by omega
         have HQ2:=hide (show ∀ i,i<p+1→∀ k,k<i→((pmS ms).getD k zP).nm≠((pmS ms).getD i zP).nm from fun i hi k hk=>by
          by_cases e:i=p
          ·subst e;exact hv k (by omega)
          ·exact HP.out i (by omega) k hk)
         have HB4:=hide B
         clear hv B
         go_wp2
         go_roundw
         case rel=>exact ⟨p+1,by omega,by go_num,HQ2.out,HB4.out⟩
         case measure=>simp [intOf];omega
      ·have hlt2':¬ (p:Int)<(n:Int):=by omega
       have HS:=hide (snd4_0 (ps:=pmS ms) hcf HN2.out HV.out (fun i hi k hk=>hv i (by omega) k hk))
       have HB3:=hide B
       clear hv B
       go_wp2
       go_ret
       exact ⟨ret_int HS.out.symm,HB3.out⟩
def clG (t:Tg):List Value:=[.int .i64 t.1,.int .i64 t.2.1,.int .i64 t.2.2]
theorem infoG:(Tryz.prog.info? 71).map (fun i=>(i.zero,i.size,i.bytes))=some (some (.agg #[.int .i64 0,.int .i64 0,.int .i64 0]),3,24):=by kernel_rfl
theorem og_new' {α:Type}(t:TypeId)(sz:Nat)(f:α→List Value)(w:World)(base:Nat)(hb:base≤w.heap.size):OG t sz f (w.alloc (.cells #[] t)) base (.slice (some ⟨w.heap.size,0,none⟩) 0 0) []:=
 ⟨by simp,.inr ⟨w.heap.size,0,#[],rfl,hb,heap_alloc_new w _,Nat.le_refl _,by unfold maxLen;omega,by simp,by simp⟩⟩
theorem below_gr {a W W':World}{row:Option Nat}(h:Below a.heap.size a W)(hg:W.grownBy W' row)(hr:∀ k,row=some k→a.heap.size≤k):Below a.heap.size a W':=
 below_turn h ⟨hg.os,hg.tape,hg.output,hg.size,fun j hj (hs:¬ row=some j)=>hg.block j hj (fun e=>hs e.symm)⟩ hr h.size
theorem blk_grown {W W':World}{row:Option Nat}{k:Nat}{cs:Array Value}{t:TypeId}(h:Blk W k cs t)(hg:W.grownBy W' row)(hr:some k≠row):Blk W' k cs t:=
 turn_blk (S:=fun j=>row=some j) ⟨hg.os,hg.tape,hg.output,hg.size,fun j hj hs=>hg.block j hj (fun e=>hs e.symm)⟩ h (fun e=>hr e.symm)
def tgN (ps:List PMod)(P:PMod)(m:Nat):List Tg:=(List.range m).map fun i=>(tgOf ps (P.ss.getD i zS)).getD zT
theorem tgN_len (ps:List PMod)(P:PMod)(m:Nat):(tgN ps P m).length=m:=by simp [tgN]
theorem tgN_succ (ps:List PMod)(P:PMod)(m:Nat){t:Tg}(h:tgOf ps (P.ss.getD m zS)=some t):tgN ps P (m+1)=tgN ps P m++[t]:=by
 simp only [tgN,List.range_succ,List.map_append,List.map_cons,List.map_nil,h,Option.getD_some]
theorem tgN_all (ps:List PMod)(P:PMod):tgN ps P P.ss.length=tgs ps P:=rfl
theorem vld_en {P:PMod}(h:mdoP P=0):P.es.length≤16∧P.ss.length≤16∧P.tz.length≤200∧P.bl.length≤4∧P.dz.length≤512∧0≤P.bss∧P.bss≤512∧∀ k,k<P.bl.length→(P.bl.getD k []).length≤64:=by
 unfold mdoP at h
 have V:=vm_of_mdo (by simp [bkOf]) h
 refine ⟨V.e,V.i,V.t,V.b,V.d,V.s.1,V.s.2,fun k hk=>?_⟩
 have:=(V.bw k (by simp [bkOf];exact hk)).1
 simpa [bkOf,List.getD_eq_getElem?_getD,hk] using this
theorem MSD.es {w:World}{a:Option Addr}{n cap:Nat}{ms:List Md}(h:MSD w a n cap ms)(hv:vlds (pmS ms)):∀ i,i<n→ES w (ms.getD i zMd).ea (ms.getD i zMd).en (ms.getD i zMd).ec (ms.getD i zMd).es∧(ms.getD i zMd).en≤1048576:=fun i hi=>by
 have hl:=h.s.1
 have e:=(h.d i hi).e
 refine ⟨e,?_⟩
 have h1:=(vld_en (hv i (by rw [pmS_len];omega))).1
 rw [pmS_at (by omega)] at h1
 have h2:(ms.getD i zMd).pm.es.length=(ms.getD i zMd).en:=e.1
 omega
theorem MSD.resS {w:World}{a:Option Addr}{n cap:Nat}{ms:List Md}(h:MSD w a n cap ms)(hv:vlds (pmS ms))(hn:n≤4)(s:ByteArray)(hs:s.size≤1048576):Calls Tryz.prog 220 #[.slice a n cap,.string s] w fun e w'=>e=.returned (tgV (tgOf (pmS ms) s))∧Below w.heap.size w w':=by
 have:=sResolve_any a n cap ms s w h.s (by omega) hs (h.es hv)
 rw [rsv_tg h.s.1 (fun i hi=>(h.d i hi).e.1)] at this
 exact this
theorem MSD.resI {w:World}{a:Option Addr}{n cap:Nat}{ms:List Md}(h:MSD w a n cap ms)(hv:vlds (pmS ms))(hn:n≤4)(s:ByteArray)(hs:s.size≤1048576):Calls Tryz.prog 228 #[.slice a n cap,.string s] w fun e w'=>e=.returned (tgV (tgOf (pmS ms) s))∧Below w.heap.size w w':=by
 have:=iResolve_any a n cap ms s w h.s (by omega) hs (h.es hv)
 rw [rsv_tg h.s.1 (fun i hi=>(h.d i hi).e.1)] at this
 exact this
theorem l5Targets_any (a:Option Addr)(n cap:Nat)(ms:List Md)(M:Md)(w:World)(h:MSD w a n cap ms)(hv:vlds (pmS ms))(hn:n≤4)(hM:M.md w)(hok:mdoP M.pm=0):
 Calls Tryz.prog 160 #[.slice a n cap,.agg #[.string M.nm,.slice M.ta M.tn M.tc,.slice M.ba M.bn M.bc,.slice M.da M.dn M.dc,.int .i64 M.bss,.slice M.ra M.rn M.rc,.slice M.ia M.im M.ic,.slice M.ea M.en M.ec]] w fun e w'=>Below w.heap.size w w'∧((¬ tgOk (pmS ms) M.pm∧∃ v,e=.returned (.tuple #[v,.bool false]))∨(tgOk (pmS ms) M.pm∧∃ a c,e=.returned (.tuple #[.slice a (tgs (pmS ms) M.pm).length c,.bool true])∧OG 71 3 clG w' w.heap.size (.slice a (tgs (pmS ms) M.pm).length c) (tgs (pmS ms) M.pm))):=by
 obtain ⟨iG,hi,hz0,hz1,hz2⟩:=info_parts infoG
 have hA:Below w.heap.size w (w.alloc (.cells #[.string M.nm,.slice M.ta M.tn M.tc,.slice M.ba M.bn M.bc,.slice M.da M.dn M.dc,.int .i64 M.bss,.slice M.ra M.rn M.rc,.slice M.ia M.im M.ic,.slice M.ea M.en M.ec] 104)):=(Below.refl _ _).alloc (Nat.le_refl _) _
 have k0:=Blk.new w #[.string M.nm,.slice M.ta M.tn M.tc,.slice M.ba M.bn M.bc,.slice M.da M.dn M.dc,.int .i64 M.bss,.slice M.ra M.rn M.rc,.slice M.ia M.im M.ic,.slice M.ea M.en M.ec] 104
 have him:M.im≤16:=by have h1:=(vld_en hok).2.1;have h2:M.pm.ss.length=M.im:=hM.i.1;omega
 have hil:M.pm.ss.length=M.im:=hM.i.1
 have HS:=hide (fun (W:World) (hb:Below w.heap.size w W) (s:ByteArray) (hs:s.size≤1048576)=>(h.below hb).resS hv hn s hs)
 have HI:=hide hM.i
 have O0:=og_new' 71 3 clG (w.alloc (.cells #[.string M.nm,.slice M.ta M.tn M.tc,.slice M.ba M.bn M.bc,.slice M.da M.dn M.dc,.int .i64 M.bss,.slice M.ra M.rn M.rc,.slice M.ia M.im M.ic,.slice M.ea M.en M.ec] 104)) w.heap.size hA.size
 have hA2:=hA.trans (((Below.refl _ (w.alloc (.cells #[.string M.nm,.slice M.ta M.tn M.tc,.slice M.ba M.bn M.bc,.slice M.da M.dn M.dc,.int .i64 M.bss,.slice M.ra M.rn M.rc,.slice M.ia M.im M.ic,.slice M.ea M.en M.ec] 104))).alloc (Nat.le_refl _) (.cells #[] 71)).mono hA.size)
 have k1:=k0.alloc (.cells #[] 71)
 simp only [World.size_alloc] at O0
 have HP:=hide (And.intro O0 (And.intro hA2 k1))
 clear O0 hA hA2 k0 k1 h hM hok
 go_enter Tryz.func160,Tryz.ntmps160
 go_wp2_with fail
 go_loopw [6,7] (fun x i wr=>∃ m:Nat,m≤M.im∧i=.int .i64 m∧(∀ j,j<m→(tgOf (pmS ms) (M.pm.ss.getD j zS)).isSome=true)∧OG 71 3 clG wr w.heap.size x (tgN (pmS ms) M.pm m)∧Below w.heap.size w wr∧Blk wr w.heap.size #[.string M.nm,.slice M.ta M.tn M.tc,.slice M.ba M.bn M.bc,.slice M.da M.dn M.dc,.int .i64 M.bss,.slice M.ra M.rn M.rc,.slice M.ia M.im M.ic,.slice M.ea M.en M.ec] 104) (fun _ i _=>M.im - (intOf i).toNat)
 case atStart=>exact ⟨0,Nat.zero_le _,rfl,fun j hj=>absurd hj (by omega),HP.out.1,HP.out.2.1,HP.out.2.2⟩
 case round=>
  clear HP
  obtain ⟨m,hm,rfl,hs,O,B,k⟩:=hrel
  have q6:wr.cell? ⟨w.heap.size,6,none⟩=some (.slice M.ia M.im M.ic):=k.cell 6
  obtain ⟨a',c',rfl⟩:=og_shape O
  rw [tgN_len] at *
  by_cases hlt:m<M.im
  ·have hlt':(m:Int)<(M.im:Int):=by omega
   obtain ⟨_,_,hsz,hcs,_⟩:=HI.out
   obtain ⟨b,off,hia,hc⟩:=hcs (by omega)
   have c0:=((B.cell (World.block_lt_of_cell? w _ (hc m hlt))).trans (hc m hlt))
   have hss:(M.ss.getD m zS).size≤1048576:=hsz _ (by have:=HI.out.1;simp [List.getD_eq_getElem?_getD,show m<M.ss.length by omega])
   have HR:=hide (HS.out wr B (M.ss.getD m zS) hss)
   rw [hia] at q6
   clear hia
   have HQ:=hide (And.intro O (And.intro B k))
   have HSS:=hide hs
   have HTS:=hide (fun t (h:tgOf (pmS ms) (M.ss.getD m zS)=some t)=>tgN_succ (ps:=pmS ms) (P:=M.pm) m h)
   have HBAD:=hide (fun (h:tgOf (pmS ms) (M.ss.getD m zS)=none)=>(show ¬ tgOk (pmS ms) M.pm from fun hk=>by have:=hk m (by rw [hil];exact hlt);rw [show M.pm.ss.getD m zS=M.ss.getD m zS from rfl,h] at this;cases this))
   have HGO:=hide (fun t (h:tgOf (pmS ms) (M.ss.getD m zS)=some t)=>(show ∀ j,j<m+1→(tgOf (pmS ms) (M.pm.ss.getD j zS)).isSome=true from fun j hj=>by
    by_cases e:j=m
    ·subst e;rw [show M.pm.ss.getD j zS=M.ss.getD j zS from rfl,h];rfl
    ·exact HSS.out j (by omega)))
   generalize M.ss.getD m zS=str at *
   clear O B k hs hc hsz hcs HI HSS
   go_wp2_with fail
   refine HR.out.mono ?_
   rintro e w1 ⟨rfl,hb1⟩
   obtain ⟨O,B,k⟩:=HQ.out
   have B1:=B.trans (hb1.mono B.size)
   cases ho:tgOf (pmS ms) str with
   | none=>
     have HF:=hide (And.intro (B1.trans (((Below.refl _ w1).alloc (Nat.le_refl _) (.cells #[.int .i64 0,.int .i64 0,.int .i64 0] 71)).mono B1.size)) (HBAD.out ho))
     clear O B k hb1 B1 HQ HR HTS HBAD HGO q6 c0
     unfold tgV
     go_wp2
     go_ret2
     exact ⟨HF.out.1,.inl ⟨HF.out.2,_,rfl⟩⟩
   | some t=>
     obtain ⟨t1,t2,t3⟩:=t
     have al1:Below w1.heap.size w1 (w1.alloc (.cells #[.int .i64 t1,.int .i64 t2,.int .i64 t3] 71)):=(Below.refl _ _).alloc (Nat.le_refl _) _
     have hs1:(w1.alloc (.cells #[.int .i64 t1,.int .i64 t2,.int .i64 t3] 71)).heap.size=w1.heap.size+1:=by simp
     have k1:=Blk.new w1 #[.int .i64 t1,.int .i64 t2,.int .i64 t3] 71
     have O2:=(O.below hb1).below al1
     have B2:=B1.trans (al1.mono B1.size)
     have kk2:=(k.below hb1).below al1
     have HT2:=hide (HTS.out _ ho)
     have HG2:=hide (HGO.out _ ho)
     obtain ⟨x0,x1,x2,_⟩:=k1.three
     clear O B k hb1 B1 HQ HR HTS HBAD HGO q6 c0 al1
     generalize hW1:w1.alloc (.cells #[.int .i64 t1,.int .i64 t2,.int .i64 t3] 71)=W1 at *
     have HOW:=hide (show (W1.alloc (.cells #[.int .i64 t1,.int .i64 t2,.int .i64 t3] 71)).ownsRow w.heap.size 71 3 (.slice a' m c') m ((tgN (pmS ms) M.pm m).flatMap clG) by have:=O2.below ((Below.refl _ _).alloc (Nat.le_refl _) (.cells #[.int .i64 t1,.int .i64 t2,.int .i64 t3] 71));unfold OG at this;rw [tgN_len] at this;exact this)
     have HX:=hide (And.intro O2 (And.intro B2 kk2))
     have hsB:=B2.size
     rw [← hW1] at x0 x1 x2
     have HW1:=hide hW1
     clear O2 B2 kk2 k1 hW1
     unfold tgV
     go_wp2_with (at_builtin;rw [HW1.out];refine wpList_append_own _ rfl _ _ 189 rfl w.heap.size 71 iG (.agg #[.int .i64 0,.int .i64 0,.int .i64 0]) 3 24 Tryz.underlying189 hi hz0 hz1 hz2 rfl (by decide) (.slice a' m c') m ((tgN (pmS ms) M.pm m).flatMap clG) rfl HOW.out ⟨w1.heap.size+1,0,none⟩ 1 1 (clG (t1,t2,t3)) rfl rfl (by rw [← hs1];exact cells_new W1 _ _ (clG (t1,t2,t3)) rfl) (by intro u hu;simp [clG] at hu;rcases hu with rfl | rfl | rfl <;> rfl) (by unfold maxLen;omega) (by omega) (by simp;omega) ?_;intro v' w4 hown hgr _)
     obtain ⟨O2,B2,kk2⟩:=HX.out
     have al2:Below W1.heap.size W1 (W1.alloc (.cells #[.int .i64 t1,.int .i64 t2,.int .i64 t3] 71)):=(Below.refl _ _).alloc (Nat.le_refl _) _
     have hrow:∀ j,(Value.slice a' m c').ownBlock=some j→w.heap.size≤j:=fun j hj=>(O2.lt j hj).1
     have O4:OG 71 3 clG w4 w.heap.size v' (tgN (pmS ms) M.pm (m+1)):=by
      unfold OG
      rw [tgN_len,HT2.out,List.flatMap_append,List.flatMap_singleton]
      exact hown
     have B4:=below_gr (B2.trans (al2.mono B2.size)) hgr hrow
     have k4:=blk_grown (kk2.below al2) hgr (fun e=>by
      obtain ⟨cs,hk⟩:=own_kind O2 e.symm
      exact absurd (blk_kind kk2 hk) (by decide))
     have HF:=hide (And.intro HG2.out (And.intro O4 (And.intro B4 k4)))
     clear O2 B2 kk2 al2 hrow O4 B4 k4 hown hgr HX HOW x0 x1 x2
     go_roundw
     case rel=>exact ⟨m+1,by omega,by go_num,HF.out.1,HF.out.2.1,HF.out.2.2.1,HF.out.2.2.2⟩
     case measure=>simp [intOf];omega
  ·have hlt':¬ (m:Int)<(M.im:Int):=by omega
   have HK:=hide (show tgOk (pmS ms) M.pm from fun j hj=>hs j (by omega))
   have HX:=hide (And.intro B O)
   have HEQ:=hide (show tgN (pmS ms) M.pm m=tgs (pmS ms) M.pm by rw [← tgN_all,hil,show m=M.im by omega])
   have HLN:=hide (show m=(tgs (pmS ms) M.pm).length by rw [← HEQ.out,tgN_len])
   clear B O k hs
   go_wp2
   go_ret2
   refine ⟨HX.out.1,.inr ⟨HK.out,a',c',by rw [← HLN.out];rfl,?_⟩⟩
   have:=HX.out.2
   rw [HEQ.out] at this
   rw [← HLN.out]
   exact this
theorem OG.kept' {α:Type}{t:TypeId}{sz:Nat}{f:α→List Value}{w w':World}{base:Nat}{v:Value}{xs:List α}{row:Option Nat}(h:OG t sz f w base v xs)(hg:w.grownBy w' row)(hk:∀ k,v.ownBlock=some k→row≠some k):OG t sz f w' base v xs:=
 h.kept (S:=fun j=>row=some j) ⟨hg.os,hg.tape,hg.output,hg.size,fun j hj hs=>hg.block j hj (fun e=>hs e.symm)⟩ (fun k hk' e=>hk k hk' e)
structure OR {α β:Type}(th:TypeId)(hs:Nat)(hc:α→List Value)(tr:TypeId)(rs:Nat)(rc:β→List Value)(sv:α→Value)(ct:α→List β)(w:World)(base lo:Nat)(v:Value)(xs:List α):Prop where
 head:OG th hs hc w base v xs
 rows:∀ x ∈ xs,OG tr rs rc w lo (sv x) (ct x)
 apart:xs.Pairwise fun A B=>∀ k,(sv A).ownBlock=some k→(sv B).ownBlock≠some k
section
variable {α β:Type}{th:TypeId}{hs:Nat}{hc:α→List Value}{tr:TypeId}{rs:Nat}{rc:β→List Value}{sv:α→Value}{ct:α→List β}{w w':World}{base lo:Nat}{v:Value}{xs:List α}
theorem OR.below (h:OR th hs hc tr rs rc sv ct w base lo v xs)(hb:Below w.heap.size w w'):OR th hs hc tr rs rc sv ct w' base lo v xs:=⟨h.head.below hb,fun x hx=>(h.rows x hx).below hb,h.apart⟩
theorem OR.mono {base' lo':Nat}(h:OR th hs hc tr rs rc sv ct w base lo v xs)(hb:base'≤base)(hl:lo'≤lo):OR th hs hc tr rs rc sv ct w base' lo' v xs:=⟨h.head.mono hb,fun x hx=>(h.rows x hx).mono hl,h.apart⟩
theorem OR.kept {S:Nat→Prop}(h:OR th hs hc tr rs rc sv ct w base lo v xs)(t:Turn S w w')(h1:∀ k,v.ownBlock=some k→¬ S k)(h2:∀ x ∈ xs,∀ k,(sv x).ownBlock=some k→¬ S k):OR th hs hc tr rs rc sv ct w' base lo v xs:=⟨h.head.kept t h1,fun x hx=>(h.rows x hx).kept t (h2 x hx),h.apart⟩
theorem OR.lt (h:OR th hs hc tr rs rc sv ct w base lo v xs):(∀ k,v.ownBlock=some k→base≤k∧k<w.heap.size)∧∀ x ∈ xs,∀ k,(sv x).ownBlock=some k→lo≤k∧k<w.heap.size:=⟨h.head.lt,fun x hx=>(h.rows x hx).lt⟩
theorem or_nil:OR th hs hc tr rs rc sv ct w base lo (.slice none 0 0) []:=⟨og_nil _ _ _ _ _,by simp,by simp⟩
theorem or_new (hb:base≤w.heap.size):OR th hs hc tr rs rc sv ct (w.alloc (.cells #[] th)) base lo (.slice (some ⟨w.heap.size,0,none⟩) 0 0) []:=⟨og_new' _ _ _ _ _ hb,by simp,by simp⟩
theorem OR.push {lo':Nat}{a:Option Addr}{k c:Nat}{v':Value}{x:α}(h:OR th hs hc tr rs rc sv ct w base lo (.slice a k c) xs)(hl:xs.length=k)(hx:OG tr rs rc w lo' (sv x) (ct x))(hb:lo≤lo')(hlo:∀ A ∈ xs,∀ j,(sv A).ownBlock=some j→j<lo')(hown:w'.ownsRow base th hs v' (k+1) (xs.flatMap hc++hc x))(hg:w.grownBy w' (Value.slice a k c).ownBlock)(hne:th≠tr):OR th hs hc tr rs rc sv ct w' base lo v' (xs++[x]):=by
 have key:∀ (u:Value) (ys:List β) (l:Nat),OG tr rs rc w l u ys→∀ j,u.ownBlock=some j→(Value.slice a k c).ownBlock≠some j:=fun u ys l ho j hj e=>by
  obtain ⟨c1,k1⟩:=own_kind ho hj
  obtain ⟨c2,k2⟩:=own_kind h.head e
  exact hne (blk_kind k2 k1)
 refine ⟨?_,?_,?_⟩
 ·unfold OG
  rw [List.length_append,hl,List.flatMap_append,List.flatMap_singleton]
  exact hown
 ·intro B hB
  rcases List.mem_append.1 hB with hB | hB
  ·exact (h.rows B hB).kept' hg (key _ _ _ (h.rows B hB))
  ·simp at hB
   subst hB
   exact (hx.kept' hg (key _ _ _ hx)).mono hb
 ·rw [List.pairwise_append]
  refine ⟨h.apart,by simp,fun B hB X hX j hj e=>?_⟩
  simp at hX
  subst hX
  have h1:=hlo B hB j hj
  have h2:=(hx.lt j e).1
  omega
end
abbrev PB:=Pl × Option Addr × Nat
def svP (x:PB):Value:=.slice x.2.1 x.1.banks.length x.2.2
def clP (x:PB):List Value:=[.int .i64 x.1.text,svP x,.int .i64 x.1.data,.int .i64 x.1.size]
def ctP (x:PB):List Int:=x.1.banks
abbrev OPl:=OR 138 4 clP 3 1 clI svP ctP
abbrev TB:=List Tg × Option Addr × Nat
def svT (x:TB):Value:=.slice x.2.1 x.1.length x.2.2
def clTB (x:TB):List Value:=[svT x]
def ctT (x:TB):List Tg:=x.1
abbrev OTg:=OR 189 1 clTB 71 3 clG svT ctT
structure LayO (W:World)(base:Nat)(L:Lay)(a0:Option Addr)(c0:Nat)(xs:List PB)(a2:Option Addr)(c2:Nat)(a5:Option Addr)(c5:Nat)(ts:List TB):Prop where
 p:OPl W base base (.slice a0 xs.length c0) xs
 ps:xs.map (fun x=>x.1)=L.places
 s:OG 3 1 clI W base (.slice a2 L.slots.length c2) L.slots
 t:OTg W base base (.slice a5 ts.length c5) ts
 tt:ts.map (fun x=>x.1)=L.targets
 sp:∀ k,(Value.slice a2 L.slots.length c2).ownBlock=some k→∀ x ∈ xs,(svP x).ownBlock≠some k
def layV (L:Lay)(a0:Option Addr)(c0:Nat)(xs:List PB)(a2:Option Addr)(c2:Nat)(a5:Option Addr)(c5:Nat)(ts:List TB):Array Value:=#[.slice a0 xs.length c0,.int .i64 L.stack,.slice a2 L.slots.length c2,.int .i64 L.flash,.int .i64 L.ram,.slice a5 ts.length c5]
theorem infoP:(Tryz.prog.info? 138).map (fun i=>(i.zero,i.size,i.bytes))=some (some (.agg #[.int .i64 0,.slice none 0 0,.int .i64 0,.int .i64 0]),4,48):=by kernel_rfl
theorem infoTB:(Tryz.prog.info? 189).map (fun i=>(i.zero,i.size,i.bytes))=some (some (.slice none 0 0),1,24):=by kernel_rfl
theorem pm_bank {m:Md}{w:World}(h:m.md w)(k:Nat)(hk:k<m.bn):(m.bl.getD k zB).2.1=(m.pm.bl.getD k []).length∧m.pm.bl.length=m.bn:=by
 have hb:=h.b.1
 refine ⟨?_,by simp [Md.pm,hb]⟩
 have e:m.pm.bl.getD k []=(m.bl.getD k zB).2.2.2:=getD_map _ _ _ zB _ (by omega)
 rw [e]
 exact (h.b.2.2.2.1 k hk).1.symm
theorem l5TooLong_any (a:Option Addr)(n cap:Nat)(ms:List Md)(s c k d:Int)(w:World)(h:MSD w a n cap ms):
 Calls Tryz.prog 161 #[.slice a n cap,.agg #[.int .i64 s,.int .i64 c,.int .i64 k,.int .i64 d]] w fun e w'=>e=.returned (.bool (decide (0<s∧¬ shrt (pmS ms) c)))∧Below w.heap.size w w':=by
 have hA:Below w.heap.size w (w.alloc (.cells #[.int .i64 s,.int .i64 c,.int .i64 k,.int .i64 d] 44)):=(Below.refl _ _).alloc (Nat.le_refl _) _
 have k0:=Blk.new w #[.int .i64 s,.int .i64 c,.int .i64 k,.int .i64 d] 44
 have hl:=h.s.1
 have hm1:=h.s.2.1
 unfold maxLen at hm1
 have hpl:=pmS_len ms
 have HH:=hide h
 obtain ⟨R,hR⟩:∃ R,R=decide (0<s∧¬ shrt (pmS ms) c):=⟨_,rfl⟩
 rw [← hR]
 have HR:=hide hR
 clear hR
 have HB1:=hide (And.intro hA k0)
 clear h hA k0
 go_enter Tryz.func161,Tryz.ntmps161
 go_wp2
 go_loopw [5] (fun i wr=>∃ m:Nat,m≤n∧i=.int .i64 m∧(0<s→∀ j,j<m→∀ k,k<((pmS ms).getD j zP).bl.length→((((pmS ms).getD j zP).bl.getD k []).length:Int)≤c)∧Below w.heap.size w wr∧Blk wr w.heap.size #[.int .i64 s,.int .i64 c,.int .i64 k,.int .i64 d] 44) (fun i _=>n - (intOf i).toNat)
 case atStart=>exact ⟨0,Nat.zero_le _,rfl,fun _ j hj=>absurd hj (by omega),HB1.out.1,HB1.out.2⟩
 case round=>
  obtain ⟨m,hm,rfl,hv,B,kk⟩:=hrel
  by_cases hlt:m<n
  ·have hlt':(m:Int)<(n:Int):=by omega
   have HV:=hide hv
   have HB2:=hide (And.intro B kk)
   clear hv B kk HB1
   go_wp2
   go_loopw [6] (fun i wr=>∃ q:Nat,q≤(ms.getD m zMd).bn∧i=.int .i64 q∧(0<s→∀ k,k<q→((((pmS ms).getD m zP).bl.getD k []).length:Int)≤c)∧Below w.heap.size w wr∧Blk wr w.heap.size #[.int .i64 s,.int .i64 c,.int .i64 k,.int .i64 d] 44) (fun i _=>(ms.getD m zMd).bn - (intOf i).toNat)
   case atStart=>exact ⟨0,Nat.zero_le _,rfl,fun _ j hj=>absurd hj (by omega),HB2.out.1,HB2.out.2⟩
   case round=>
    obtain ⟨q,hq,rfl,hw,B,kk⟩:=hrel
    have H:=HH.out.below B
    obtain ⟨b,off,rfl,q0,q1,q2,_⟩:=H.s.at m hlt
    have hmd:=H.d m hlt
    have hbl:((pmS ms).getD m zP).bl.length=(ms.getD m zMd).bn:=by rw [pmS_at (by omega)];show (List.map _ _).length=_;rw [List.length_map];exact hmd.b.1
    have HW:=hide hw
    have hbn:(ms.getD m zMd).bn≤9223372036854775807:=by have:=hmd.b.2.1;unfold maxLen at this;omega
    by_cases hlt2:q<(ms.getD m zMd).bn
    ·have hlt2':(q:Int)<((ms.getD m zMd).bn:Int):=by omega
     obtain ⟨_,_,hcb,hrb,_⟩:=hmd.b
     obtain ⟨b2,off2,hba,hc⟩:=hcb (by omega)
     have c0:=hc q hlt2
     have hlen:=(pm_bank hmd q hlt2).1
     rw [← pmS_at (by omega)] at hlen
     rw [hba] at q2
     have y0:wr.cell? ⟨w.heap.size,0,none⟩=some (.int .i64 s):=kk.cell 0
     have y1:wr.cell? ⟨w.heap.size,1,none⟩=some (.int .i64 c):=kk.cell 1
     have HB3:=hide (And.intro B kk)
     obtain ⟨L,hL⟩:∃ L:Nat,L=(((pmS ms).getD m zP).bl.getD q []).length:=⟨_,rfl⟩
     rw [← hL] at hlen
     rw [hlen] at c0
     have hmx:L≤9223372036854775807:=by have:=(hrb q hlt2).2.1;rw [hlen] at this;unfold maxLen at this;omega
     have HSH:=hide (show (0<s→(L:Int)≤c)→0<s→∀ k,k<q+1→((((pmS ms).getD m zP).bl.getD k []).length:Int)≤c from fun h1 h2 k hk=>by
      by_cases e:k=q
      ·subst e;rw [← hL];exact h1 h2
      ·exact HW.out h2 k (by omega))
     have HBD:=hide (show 0<s→c<(L:Int)→0<s∧¬ shrt (pmS ms) c from fun h1 h2=>⟨h1,fun hs=>by have:=hs m (by omega) q (by omega);rw [← hL] at this;omega⟩)
     generalize (ms.getD m zMd).bl.getD q zB=bq at *
     generalize (ms.getD m zMd).bn=bn at *
     obtain ⟨bq1,bq2,bq3,bq4⟩:=bq
     dsimp only at c0 hlen
     clear hw B H hmd hbl hba hc hcb hrb hL hlen q0 q1 kk
     by_cases hs0:0<s
     ·by_cases hcl:c<(L:Int)
      ·have HF:=hide (HBD.out hs0 hcl)
       go_wp2_with fail
       go_quiet (fail)
       go_wp2
       go_ret
       exact ⟨ret_bool (by rw [HR.out,decide_eq_true HF.out]),below_dN HB3.out.1 nq⟩
      ·have HF:=hide (HSH.out (fun _=>by omega))
       go_wp2_with fail
       go_quiet (fail)
       go_wp2
       go_roundw
       case rel=>exact ⟨q+1,by omega,by go_num,HF.out,below_dN HB3.out.1 nq,HB3.out.2⟩
       case measure=>simp [intOf];omega
     ·have HF:=hide (HSH.out (fun e=>absurd e hs0))
      have hs2:decide (0<s)=false:=decide_eq_false hs0
      go_wp2_with fail
      go_quiet (fail)
      go_wp2
      go_roundw
      case rel=>exact ⟨q+1,by omega,by go_num,HF.out,below_dN HB3.out.1 nq,HB3.out.2⟩
      case measure=>simp [intOf];omega
    ·have hlt2':¬ (q:Int)<((ms.getD m zMd).bn:Int):=by omega
     have HV2:=hide (show 0<s→∀ j,j<m+1→∀ k,k<((pmS ms).getD j zP).bl.length→((((pmS ms).getD j zP).bl.getD k []).length:Int)≤c from fun h1 j hj k hk=>by
      by_cases e:j=m
      ·subst e;exact HW.out h1 k (by omega)
      ·exact HV.out h1 j (by omega) k hk)
     have HB3:=hide (And.intro B kk)
     generalize (ms.getD m zMd).bn=bn at *
     clear hw B H hmd hbl q0 q1 kk
     go_wp2
     go_roundw
     case rel=>exact ⟨m+1,by omega,by go_num,HV2.out,HB3.out.1,HB3.out.2⟩
     case measure=>simp [intOf];omega
  ·have hlt':¬ (m:Int)<(n:Int):=by omega
   have HF:=hide (show ¬ (0<s∧¬ shrt (pmS ms) c) from fun h=>h.2 (fun i hi k hk=>hv h.1 i (by omega) k hk))
   have HB2:=hide B
   clear hv B kk HB1
   go_wp2
   go_ret
   exact ⟨ret_bool (by rw [HR.out,decide_eq_false HF.out]),HB2.out⟩
theorem rnd_range {x:Int}(h:0≤x):x≤rnd x∧rnd x≤x+31:=by unfold rnd;omega
theorem tsz_range {P:PMod}(h:mdoP P=0):0≤tsz P∧tsz P≤831:=by
 have h1:=(vld_en h).2.2.1
 have:=rnd_range (x:=4 * (P.tz.length:Int)) (by omega)
 unfold tsz
 omega
theorem fsum_range {P:PMod}(h:mdoP P=0):∀ k,k≤P.bl.length→0≤fsum P k∧fsum P k≤(k:Int) * 287
 | 0,_=>by simp [fsum]
 | k+1,hk=>by
   have ih:=fsum_range h k (by omega)
   have h1:=(vld_en h).2.2.2.2.2.2.2 k (by omega)
   have:=rnd_range (x:=4 * ((P.bl.getD k []).length:Int)) (by omega)
   show 0≤fsum P k+rnd (4 * ((P.bl.getD k []).length:Int))∧fsum P k+rnd (4 * ((P.bl.getD k []).length:Int))≤_
   push_cast
   omega
theorem dsz_range {P:PMod}(h:mdoP P=0):0≤dsz P∧dsz P≤1055:=by
 obtain ⟨_,_,_,_,h5,h6,h7,_⟩:=vld_en h
 have:=rnd_range (x:=(P.dz.length:Int)+P.bss) (by omega)
 unfold dsz
 omega
theorem Fl_range {ps:List PMod}(h:vlds ps):∀ i,i≤ps.length→0≤Fl ps i∧Fl ps i≤(i:Int) * 1979
 | 0,_=>by simp [Fl]
 | i+1,hi=>by
   have ih:=Fl_range h i (by omega)
   have hv:=h i (by omega)
   have h1:=tsz_range hv
   have h2:=fsum_range hv _ (Nat.le_refl _)
   have h3:=(vld_en hv).2.2.2.1
   show 0≤Fl ps i+(tsz (ps.getD i zP)+fsum (ps.getD i zP) (ps.getD i zP).bl.length)∧Fl ps i+(tsz (ps.getD i zP)+fsum (ps.getD i zP) (ps.getD i zP).bl.length)≤_
   push_cast
   omega
theorem Ra_range {ps:List PMod}(h:vlds ps):∀ i,i≤ps.length→0≤Ra ps i∧Ra ps i≤(i:Int) * 1055
 | 0,_=>by simp [Ra]
 | i+1,hi=>by
   have ih:=Ra_range h i (by omega)
   have h1:=dsz_range (h i (by omega))
   show 0≤Ra ps i+dsz (ps.getD i zP)∧Ra ps i+dsz (ps.getD i zP)≤_
   push_cast
   omega
theorem kind_no {w:World}{base n sz:Nat}{t t':TypeId}{v:Value}{xs:List Value}{k:Nat}{cs:Array Value}(h:w.ownsRow base t sz v n xs)(hk:v.ownBlock=some k)(hb:Blk w k cs t')(hne:t≠t'):False:=by
 obtain ⟨c1,k1⟩:=own_kind h hk
 exact hne (blk_kind k1 hb)
def zL:Array Value:=#[.slice none 0 0,.int .i64 0,.slice none 0 0,.int .i64 0,.int .i64 0,.slice none 0 0]
structure Lst (w W:World)(s c k d:Int)(cs:Array Value):Prop where
 be:Below w.heap.size w W
 k0:Blk W w.heap.size #[.int .i64 s,.int .i64 c,.int .i64 k,.int .i64 d] 44
 k1:Blk W (w.heap.size+1) zL 36
 k5:Blk W (w.heap.size+5) cs 36
theorem Lst.below {w W W':World}{s c k d:Int}{cs:Array Value}(h:Lst w W s c k d cs)(hb:Below W.heap.size W W'):Lst w W' s c k d cs:=⟨h.be.trans (hb.mono h.be.size),h.k0.below hb,h.k1.below hb,h.k5.below hb⟩
theorem Lst.set {w W:World}{s c k d:Int}{cs:Array Value}(h:Lst w W s c k d cs)(i:Nat)(v:Value):Lst w (W.setCell ⟨w.heap.size+5,i,none⟩ v) s c k d (cs.setIfInBounds i v):=
 ⟨below_turn h.be (turn_set W (w.heap.size+5) i v) (fun k hk=>by omega) h.be.size,turn_blk (turn_set W (w.heap.size+5) i v) h.k0 (by omega),turn_blk (turn_set W (w.heap.size+5) i v) h.k1 (by omega),h.k5.set i v⟩
theorem Lst.other {w W:World}{s c k d:Int}{cs:Array Value}(h:Lst w W s c k d cs){g:Nat}(hg:w.heap.size+6≤g)(i:Nat)(v:Value):Lst w (W.setCell ⟨g,i,none⟩ v) s c k d cs:=
 ⟨below_turn h.be (turn_set W g i v) (fun k hk=>by omega) h.be.size,turn_blk (turn_set W g i v) h.k0 (by omega),turn_blk (turn_set W g i v) h.k1 (by omega),turn_blk (turn_set W g i v) h.k5 (by omega)⟩
theorem Lst.grown {w W W':World}{s c k d:Int}{cs:Array Value}{row:Option Nat}(h:Lst w W s c k d cs)(hg:W.grownBy W' row)(hr:∀ j,row=some j→w.heap.size+2≤j∧j≠w.heap.size+5):Lst w W' s c k d cs:=by
 have t:Turn (fun j=>row=some j) W W':=⟨hg.os,hg.tape,hg.output,hg.size,fun j hj hs=>hg.block j hj (fun e=>hs e.symm)⟩
 exact ⟨below_turn h.be t (fun j hj=>by have:=hr j hj;omega) h.be.size,turn_blk t h.k0 (fun e=>by have:=hr _ e;omega),turn_blk t h.k1 (fun e=>by have:=hr _ e;omega),turn_blk t h.k5 (fun e=>by have:=hr _ e;omega)⟩
theorem Lst.sz {w W:World}{s c k d:Int}{cs:Array Value}(h:Lst w W s c k d cs):w.heap.size+6≤W.heap.size:=h.k5.lt
theorem Lst.drew {w W:World}{s c k d:Int}{cs:Array Value}(h:Lst w W s c k d cs):Lst w W.drew s c k d cs:=⟨h.be.drew,h.k0,h.k1,h.k5⟩
structure Lrw (w W:World)(ps:List PMod)(m:Nat)(a0:Option Addr)(c0:Nat)(xs:List PB)(a5:Option Addr)(c5:Nat)(ts:List TB):Prop where
 P:OPl W (w.heap.size+2) (w.heap.size+6) (.slice a0 m c0) xs
 T:OTg W (w.heap.size+2) (w.heap.size+6) (.slice a5 m c5) ts
 S:OG 3 1 clI W (w.heap.size+2) (.slice (some ⟨w.heap.size+3,0,none⟩) 0 0) []
 pl:xs.length=m
 tl:ts.length=m
 px:xs.map (fun x=>x.1)=(List.range m).map (plc ps)
 tx:ts.map (fun x=>x.1)=(List.range m).map fun i=>tgs ps (ps.getD i zP)
def Lg (w:World)(j:Nat):Prop:=j=w.heap.size+5
theorem Lrw.kept {w W W':World}{s c k d:Int}{cs:Array Value}{ps:List PMod}{m:Nat}{a0:Option Addr}{c0:Nat}{xs:List PB}{a5:Option Addr}{c5:Nat}{ts:List TB}(h:Lrw w W ps m a0 c0 xs a5 c5 ts)(L:Lst w W s c k d cs)(t:Turn (Lg w) W W'):Lrw w W' ps m a0 c0 xs a5 c5 ts:=by
 have k5:=L.k5
 refine ⟨h.P.kept t (fun k hk e=>?_) (fun x hx k hk e=>?_),h.T.kept t (fun k hk e=>?_) (fun x hx k hk e=>?_),h.S.kept t (fun k hk e=>?_),h.pl,h.tl,h.px,h.tx⟩
 ·rw [show k=w.heap.size+5 from e] at hk;exact kind_no h.P.head hk k5 (by decide)
 ·rw [show k=w.heap.size+5 from e] at hk;exact kind_no (h.P.rows x hx) hk k5 (by decide)
 ·rw [show k=w.heap.size+5 from e] at hk;exact kind_no h.T.head hk k5 (by decide)
 ·rw [show k=w.heap.size+5 from e] at hk;exact kind_no (h.T.rows x hx) hk k5 (by decide)
 ·rw [show k=w.heap.size+5 from e] at hk;exact kind_no h.S hk k5 (by decide)
theorem Lrw.below {w W W':World}{ps:List PMod}{m:Nat}{a0:Option Addr}{c0:Nat}{xs:List PB}{a5:Option Addr}{c5:Nat}{ts:List TB}(h:Lrw w W ps m a0 c0 xs a5 c5 ts)(hb:Below W.heap.size W W'):Lrw w W' ps m a0 c0 xs a5 c5 ts:=⟨h.P.below hb,h.T.below hb,h.S.below hb,h.pl,h.tl,h.px,h.tx⟩
def bks (ps:List PMod)(i k:Nat):List Int:=(List.range k).map fun j=>Fl ps i+tsz (ps.getD i zP)+fsum (ps.getD i zP) j
theorem bks_len (ps:List PMod)(i k:Nat):(bks ps i k).length=k:=by simp [bks]
theorem bks_succ (ps:List PMod)(i k:Nat):bks ps i (k+1)=bks ps i k++[Fl ps i+tsz (ps.getD i zP)+fsum (ps.getD i zP) k]:=by simp [bks,List.range_succ]
theorem turn_d1 {S:Nat→Prop}{a W:World}(h:Turn S a W):Turn S a W.drew:=⟨h.os,h.tape,h.output,h.size,h.block⟩
theorem cut0 {S G:Prop}(main:S→G)(pf:S):G:=main pf
theorem cut3 {S F:Nat→Nat→World→Prop}{G:Prop}(main:(∀ gp gr W,F gp gr W→S gp gr W)→G)(pf:∀ gp gr W,F gp gr W→S gp gr W):G:=main pf
theorem lay_new (w:World)(s c k d:Int)(ps:List PMod):
 Lst w ((((((w.alloc (.cells #[.int .i64 s,.int .i64 c,.int .i64 k,.int .i64 d] 44)).alloc (.cells #[.slice none 0 0,.int .i64 0,.slice none 0 0,.int .i64 0,.int .i64 0,.slice none 0 0] 36)).alloc (.cells #[] 138)).alloc (.cells #[] 3)).alloc (.cells #[] 189)).alloc (.cells #[.slice (some ⟨w.heap.size+2,0,none⟩) 0 0,.int .i64 0,.slice (some ⟨w.heap.size+3,0,none⟩) 0 0,.int .i64 0,.int .i64 0,.slice (some ⟨w.heap.size+4,0,none⟩) 0 0] 36)) s c k d #[.slice (some ⟨w.heap.size+2,0,none⟩) 0 0,.int .i64 0,.slice (some ⟨w.heap.size+3,0,none⟩) 0 0,.int .i64 0,.int .i64 0,.slice (some ⟨w.heap.size+4,0,none⟩) 0 0] ∧
 Lrw w ((((((w.alloc (.cells #[.int .i64 s,.int .i64 c,.int .i64 k,.int .i64 d] 44)).alloc (.cells #[.slice none 0 0,.int .i64 0,.slice none 0 0,.int .i64 0,.int .i64 0,.slice none 0 0] 36)).alloc (.cells #[] 138)).alloc (.cells #[] 3)).alloc (.cells #[] 189)).alloc (.cells #[.slice (some ⟨w.heap.size+2,0,none⟩) 0 0,.int .i64 0,.slice (some ⟨w.heap.size+3,0,none⟩) 0 0,.int .i64 0,.int .i64 0,.slice (some ⟨w.heap.size+4,0,none⟩) 0 0] 36)) ps 0 (some ⟨w.heap.size+2,0,none⟩) 0 [] (some ⟨w.heap.size+4,0,none⟩) 0 []:=by
 have k0:=Blk.new w #[.int .i64 s,.int .i64 c,.int .i64 k,.int .i64 d] 44
 have b0:Below w.heap.size w (w.alloc (.cells #[.int .i64 s,.int .i64 c,.int .i64 k,.int .i64 d] 44)):=(Below.refl _ _).alloc (Nat.le_refl _) _
 have s0:(w.alloc (.cells #[.int .i64 s,.int .i64 c,.int .i64 k,.int .i64 d] 44)).heap.size=w.heap.size+1:=by simp
 generalize w.alloc (.cells #[.int .i64 s,.int .i64 c,.int .i64 k,.int .i64 d] 44)=W0 at *
 have k1:=Blk.new W0 #[.slice none 0 0,.int .i64 0,.slice none 0 0,.int .i64 0,.int .i64 0,.slice none 0 0] 36
 have b1:Below W0.heap.size W0 (W0.alloc (.cells #[.slice none 0 0,.int .i64 0,.slice none 0 0,.int .i64 0,.int .i64 0,.slice none 0 0] 36)):=(Below.refl _ _).alloc (Nat.le_refl _) _
 have s1:(W0.alloc (.cells #[.slice none 0 0,.int .i64 0,.slice none 0 0,.int .i64 0,.int .i64 0,.slice none 0 0] 36)).heap.size=w.heap.size+2:=by simp [s0]
 rw [s0] at k1
 generalize W0.alloc (.cells #[.slice none 0 0,.int .i64 0,.slice none 0 0,.int .i64 0,.int .i64 0,.slice none 0 0] 36)=W1 at *
 have o2:OPl (W1.alloc (.cells #[] 138)) (w.heap.size+2) (w.heap.size+6) (.slice (some ⟨W1.heap.size,0,none⟩) 0 0) []:=or_new (by omega)
 have b2:Below W1.heap.size W1 (W1.alloc (.cells #[] 138)):=(Below.refl _ _).alloc (Nat.le_refl _) _
 have s2:(W1.alloc (.cells #[] 138)).heap.size=w.heap.size+3:=by simp [s1]
 rw [s1] at o2
 generalize W1.alloc (.cells #[] 138)=W2 at *
 have o3:=og_new' 3 1 clI W2 (w.heap.size+2) (by omega)
 have b3:Below W2.heap.size W2 (W2.alloc (.cells #[] 3)):=(Below.refl _ _).alloc (Nat.le_refl _) _
 have s3:(W2.alloc (.cells #[] 3)).heap.size=w.heap.size+4:=by simp [s2]
 rw [s2] at o3
 generalize W2.alloc (.cells #[] 3)=W3 at *
 have o4:OTg (W3.alloc (.cells #[] 189)) (w.heap.size+2) (w.heap.size+6) (.slice (some ⟨W3.heap.size,0,none⟩) 0 0) []:=or_new (by omega)
 have b4:Below W3.heap.size W3 (W3.alloc (.cells #[] 189)):=(Below.refl _ _).alloc (Nat.le_refl _) _
 have s4:(W3.alloc (.cells #[] 189)).heap.size=w.heap.size+5:=by simp [s3]
 rw [s3] at o4
 generalize W3.alloc (.cells #[] 189)=W4 at *
 have k5:=Blk.new W4 #[.slice (some ⟨w.heap.size+2,0,none⟩) 0 0,.int .i64 0,.slice (some ⟨w.heap.size+3,0,none⟩) 0 0,.int .i64 0,.int .i64 0,.slice (some ⟨w.heap.size+4,0,none⟩) 0 0] 36
 have b5:Below W4.heap.size W4 (W4.alloc (.cells #[.slice (some ⟨w.heap.size+2,0,none⟩) 0 0,.int .i64 0,.slice (some ⟨w.heap.size+3,0,none⟩) 0 0,.int .i64 0,.int .i64 0,.slice (some ⟨w.heap.size+4,0,none⟩) 0 0] 36)):=(Below.refl _ _).alloc (Nat.le_refl _) _
 rw [s4] at k5
 have c45:=b5
 have c35:=b4.trans (c45.mono (by omega))
 have c25:=b3.trans (c35.mono (by omega))
 have c15:=b2.trans (c25.mono (by omega))
 have c05:=b1.trans (c15.mono (by omega))
 exact ⟨⟨b0.trans (c05.mono (by omega)),k0.below c05,k1.below c15,k5⟩,⟨o2.below c25,o4.below c45,o3.below c35,rfl,rfl,rfl,rfl⟩⟩
def st6 (W:World)(k:Nat)(v0 v1 v2 v3 v4 v5:Value):World:=(((((W.setCell ⟨k,0,none⟩ v0).setCell ⟨k,1,none⟩ v1).setCell ⟨k,2,none⟩ v2).setCell ⟨k,3,none⟩ v3).setCell ⟨k,4,none⟩ v4).setCell ⟨k,5,none⟩ v5
theorem turn_st6 (W:World)(k:Nat)(v0 v1 v2 v3 v4 v5:Value):Turn (fun j=>j=k) W (st6 W k v0 v1 v2 v3 v4 v5):=
 (((((turn_set W k 0 v0).trans (turn_set _ k 1 v1)).trans (turn_set _ k 2 v2)).trans (turn_set _ k 3 v3)).trans (turn_set _ k 4 v4)).trans (turn_set _ k 5 v5)
theorem blk_st6 {W:World}{k:Nat}{t:TypeId}(h:Blk W k zL t)(v0 v1 v2 v3 v4 v5:Value):Blk (st6 W k v0 v1 v2 v3 v4 v5) k #[v0,v1,v2,v3,v4,v5] t:=
 (((((h.set 0 v0).set 1 v1).set 2 v2).set 3 v3).set 4 v4).set 5 v5
theorem lay_end {w W:World}(k1:Blk W (w.heap.size+1) zL 36)(v0 v1 v2 v3 v4 v5:Value)(Q:Ending→World→Prop)(tmps:Array Value)(h4:tmps[4]?=some (.pointer (some ⟨w.heap.size+1,0,none⟩)))(hQ:Q (.returned (.agg #[v0,v1,v2,v3,v4,v5])) (st6 W (w.heap.size+1) v0 v1 v2 v3 v4 v5)):
 bodyPost Tryz.prog Tryz.f162 Q Exit.ret ⟨tmps,[]⟩ (st6 W (w.heap.size+1) v0 v1 v2 v3 v4 v5):=by
 have k:=blk_st6 k1 v0 v1 v2 v3 v4 v5
 have t0:(st6 W (w.heap.size+1) v0 v1 v2 v3 v4 v5).cell? ⟨w.heap.size+1,0,none⟩=some v0:=k.cell 0
 have t1:(st6 W (w.heap.size+1) v0 v1 v2 v3 v4 v5).cell? ⟨w.heap.size+1,1,none⟩=some v1:=k.cell 1
 have t2:(st6 W (w.heap.size+1) v0 v1 v2 v3 v4 v5).cell? ⟨w.heap.size+1,2,none⟩=some v2:=k.cell 2
 have t3:(st6 W (w.heap.size+1) v0 v1 v2 v3 v4 v5).cell? ⟨w.heap.size+1,3,none⟩=some v3:=k.cell 3
 have t4:(st6 W (w.heap.size+1) v0 v1 v2 v3 v4 v5).cell? ⟨w.heap.size+1,4,none⟩=some v4:=k.cell 4
 have t5:(st6 W (w.heap.size+1) v0 v1 v2 v3 v4 v5).cell? ⟨w.heap.size+1,5,none⟩=some v5:=k.cell 5
 refine bodyPost_ret_by (v:=.agg #[v0,v1,v2,v3,v4,v5]) ?_ rfl hQ
 simp [results,Tryz.results162,go_sem,h4,t0,t1,t2,t3,t4,t5]
end Go.Proofs.YtngdgogjlpjjpaeGreat
