import Derived.Test.YtngdgogjlpjjpadGreatP00
import Derived.Test.YtngdgogjlpjjpadGreatP01
import Derived.Test.YtngdgogjlpjjpadGreatP10
import Derived.Test.YtngdgogjlpjjpadGreatP11
import Derived.Test.YtngdgogjlpjjpadGreatP12
namespace Go.Proofs.YtngdgogjlpjjpadGreat
open Go.RowKit
set_option linter.unusedVariables false
set_option linter.unusedSimpArgs false
set_option maxRecDepth 100000
structure MD (w:World) (nm:ByteArray) (ta:Option Addr) (tn tc:Nat) (tz:List Int) (ba:Option Addr) (bn bc:Nat) (bl:List Bk) (da:Option Addr) (dn dc:Nat) (dz:List Int) (bss:Int) (ra:Option Addr) (rn rc:Nat) (rz:List Int) (ia:Option Addr) (im ic:Nat) (ss:List ByteArray) (ea:Option Addr) (en ec:Nat) (es:List Ex):Prop where
 n:nm.size≤1048576
 t:IS w ta tn tc tz
 b:BKS w ba bn bc bl
 d:BS w da dn dc dz
 s:wfi bss
 r:IS w ra rn rc rz
 i:SS w ia im ic ss
 e:ES w ea en ec es
theorem MD.below {w w':World} {nm:ByteArray} {ta:Option Addr} {tn tc:Nat} {tz:List Int} {ba:Option Addr} {bn bc:Nat} {bl:List Bk} {da:Option Addr} {dn dc:Nat} {dz:List Int} {bss:Int} {ra:Option Addr} {rn rc:Nat} {rz:List Int} {ia:Option Addr} {im ic:Nat} {ss:List ByteArray} {ea:Option Addr} {en ec:Nat} {es:List Ex}
 (h:MD w nm ta tn tc tz ba bn bc bl da dn dc dz bss ra rn rc rz ia im ic ss ea en ec es) (hb:Below w.heap.size w w'):MD w' nm ta tn tc tz ba bn bc bl da dn dc dz bss ra rn rc rz ia im ic ss ea en ec es:=
 ⟨h.n,h.t.below hb,h.b.below hb,h.d.below hb,h.s,h.r.below hb,h.i.below hb,h.e.below hb⟩
def mdo (nm:ByteArray) (tn:Nat) (tz:List Int) (bn:Nat) (bl:List Bk) (dn:Nat) (bss:Int) (rn:Nat) (rz:List Int) (im:Nat) (ss:List ByteArray) (en:Nat) (es:List Ex):Int:=
 if nmo nm=false then 1 else if cdo tn tz bn bl=false then 2 else if 512<dn∨bss<0∨512<bss then 3 else if rlo rn rz dn=false then 4 else if imo im ss=false then 5 else if exo tn bn bl en es=false then 6 else 0
set_option maxHeartbeats 4000000 in
theorem sModuleOk_any (nm:ByteArray) (ta:Option Addr) (tn tc:Nat) (tz:List Int) (ba:Option Addr) (bn bc:Nat) (bl:List Bk) (da:Option Addr) (dn dc:Nat) (dz:List Int) (bss:Int) (ra:Option Addr) (rn rc:Nat) (rz:List Int) (ia:Option Addr) (im ic:Nat) (ss:List ByteArray) (ea:Option Addr) (en ec:Nat) (es:List Ex) (w:World)
 (h:MD w nm ta tn tc tz ba bn bc bl da dn dc dz bss ra rn rc rz ia im ic ss ea en ec es):
 Calls Tryz.prog 140 #[.agg #[.string nm,.slice ta tn tc,.slice ba bn bc,.slice da dn dc,.int .i64 bss,.slice ra rn rc,.slice ia im ic,.slice ea en ec]] w fun e w'=>e=.returned (.int .i64 (mdo nm tn tz bn bl dn bss rn rz im ss en es))∧Below w.heap.size w w':=by
 obtain ⟨W,hW⟩:∃ W,W=w.alloc (.cells #[.string nm,.slice ta tn tc,.slice ba bn bc,.slice da dn dc,.int .i64 bss,.slice ra rn rc,.slice ia im ic,.slice ea en ec] 49):=⟨_,rfl⟩
 have hB0:Below w.heap.size w W:=by rw [hW];exact (Below.refl _ _).alloc (Nat.le_refl _) _
 have kb:Blk W w.heap.size #[.string nm,.slice ta tn tc,.slice ba bn bc,.slice da dn dc,.int .i64 bss,.slice ra rn rc,.slice ia im ic,.slice ea en ec] 49:=by rw [hW];exact Blk.new _ _ _
 obtain ⟨r,hr⟩:∃ r,r=mdo nm tn tz bn bl dn bss rn rz im ss en es:=⟨_,rfl⟩
 rw [← hr]
 unfold mdo at hr
 have HRR:=hide hr
 clear hr
 have H0:=h.below hB0
 have hmd:=h.d.2.1
 have hmi:=h.i.2.1
 have htn:=h.t.2.1
 have HN:=hide (fun w=>l4NameOk_any nm w h.n)
 have HCd:=hide (fun w ht hb=>l4CodeOk_any nm ta tn tc tz ba bn bc bl (.slice da dn dc) (.slice ra rn rc) (.slice ia im ic) (.slice ea en ec) bss w ht hb)
 have HRl:=hide (fun w h=>l4RelocsOk_any nm (.slice ta tn tc) (.slice ba bn bc) da dn dc bss ra rn rc rz (.slice ia im ic) (.slice ea en ec) w hmd h)
 have HEx:=hide (fun w hb h=>l4ExportsOk_any nm ta tn tc ba bn bc bl (.slice da dn dc) (.slice ra rn rc) (.slice ia im ic) bss ea en ec es w htn hb h)
 unfold maxLen at hmd hmi
 have hsz:=h.i.size
 have HFU:=hide (fun k w=>l4FullOk_any (ss.getD k zS) w (hsz k))
 obtain ⟨s0,s1⟩:=h.s
 clear h hsz htn
 have HW:=hide hW
 clear hW
 generalize nmo nm=a1 at *
 generalize cdo tn tz bn bl=a2 at *
 generalize rlo rn rz dn=a4 at *
 generalize exo tn bn bl en es=a6 at *
 obtain ⟨q0,q1,q2,q3,q4,q5,q6,q7⟩:=kb.eight
 go_enter Tryz.func140,Tryz.ntmps140
 go_wp2_with (first | (rw [← HW.out]) | (go_at_call 199;refine (HN.out _).mono ?_;rintro e w1 ⟨rfl,rfl⟩;cases a1))
 ·have e:=hide (show r=1 from by rw [HRR.out];simp)
  go_ret
  exact ⟨ret_int e.out.symm,hB0⟩
 ·refine (HCd.out _ H0.t H0.b).mono ?_
  rintro e w2 ⟨rfl,hb2⟩
  have kb2:=kb.below hb2
  have H2:=H0.below hb2
  have hB2:=hB0.trans (hb2.mono hB0.size)
  clear hb2 kb H0 hB0 q0 q1 q2 q3 q4 q5 q6 q7
  obtain ⟨q0,q1,q2,q3,q4,q5,q6,q7⟩:=kb2.eight
  cases a2
  ·have e:=hide (show r=2 from by rw [HRR.out];simp)
   go_wp2
   go_ret
   exact ⟨ret_int e.out.symm,hB2⟩
  ·by_cases c1:512<dn
   ·have e:=hide (show r=3 from by rw [HRR.out];simp [c1])
    have c1':(512:Int)<(dn:Int):=by omega
    go_wp2
    go_ret
    exact ⟨ret_int e.out.symm,hB2⟩
   ·have c1':¬ (512:Int)<(dn:Int):=by omega
    by_cases c2:bss<0
    ·have e:=hide (show r=3 from by rw [HRR.out];simp [c2])
     go_wp2
     go_ret
     exact ⟨ret_int e.out.symm,hB2⟩
    ·by_cases c3:512<bss
     ·have e:=hide (show r=3 from by rw [HRR.out];simp [c3])
      go_wp2
      go_ret
      exact ⟨ret_int e.out.symm,hB2⟩
     ·have HR2:=hide (show r=if a4=false then 4 else if imo im ss=false then 5 else if a6=false then 6 else 0 from by
       rw [HRR.out]
       simp only [Bool.true_eq_false,if_false,show ¬ (512<dn∨bss<0∨512<bss) by omega])
      clear HRR
      go_wp2_with fail
      refine (HRl.out _ H2.r).mono ?_
      rintro e w3 ⟨rfl,hb3⟩
      have kb3:=kb2.below hb3
      have H3:=H2.below hb3
      have hB3:=hB2.trans (hb3.mono hB2.size)
      clear hb3 kb2 H2 hB2 q0 q1 q2 q3 q4 q5 q6 q7
      obtain ⟨q0,q1,q2,q3,q4,q5,q6,q7⟩:=kb3.eight
      cases a4
      ·have e:=hide (show r=4 from by rw [HR2.out];simp)
       go_wp2
       go_ret
       exact ⟨ret_int e.out.symm,hB3⟩
      ·by_cases d1:16<im
       ·have e:=hide (show r=5 from by rw [HR2.out,show imo im ss=false by unfold imo;rw [decide_eq_false (by omega)];rfl];simp)
        have d1':(16:Int)<(im:Int):=by omega
        go_wp2
        go_ret
        exact ⟨ret_int e.out.symm,hB3⟩
       ·have d1':¬ (16:Int)<(im:Int):=by omega
        have HIM:=hide (show imo im ss=(List.range im).all (fun k=>full (ss.getD k zS)) from by unfold imo;rw [decide_eq_true (by omega)];rfl)
        go_wp2_with fail
        go_loop [3] (fun i=>∃ k:Nat,k≤im∧i=.int .i64 k∧Hid (∀ j,j<k→full (ss.getD j zS)=true)) (fun i=>im - (intOf i).toNat)
        case atStart=>exact ⟨0,Nat.zero_le _,rfl,hide (fun j hj=>by omega)⟩
        case round=>
         obtain ⟨k,hk,rfl,HJ⟩:=hrel
         by_cases hlt:k<im
         ·have hlt':(k:Int)<(im:Int):=by omega
          obtain ⟨bb,off,rfl⟩:=H3.i.addr (by omega)
          have hck:=H3.i.at k hlt
          have HZ:=hide (rng_bad (fun k=>full (ss.getD k zS)) im k hlt)
          have HG:=hide (show full (ss.getD k zS)=true→∀ j,j<k+1→full (ss.getD j zS)=true from fun h j hj=>by
           by_cases e:j=k
           ·subst e;exact h
           ·exact HJ.out j (by omega))
          have HF:=hide (HFU.out k)
          generalize ss.getD k zS=s at *
          cases hf:full s
          ·rw [hf] at HF
           have e:=hide (show r=5 from by rw [HR2.out,HIM.out,HZ.out hf];simp)
           go_wp2_with (go_at_call 202;refine (HF.out _).mono ?_;rintro e w4 ⟨rfl,rfl⟩)
           go_ret
           exact ⟨ret_int e.out.symm,hB3⟩
          ·rw [hf] at HF
           go_wp2_with (go_at_call 202;refine (HF.out _).mono ?_;rintro e w4 ⟨rfl,rfl⟩)
           go_round
           case rel=>exact ⟨k+1,by omega,by go_num,hide (HG.out hf)⟩
           case measure=>simp [intOf];omega
         ·have HI:=hide (show imo im ss=true from by rw [HIM.out];exact rng_good (fun k=>full (ss.getD k zS)) im (fun j hj=>HJ.out j (by omega)))
          go_wp2_with fail
          refine (HEx.out _ H3.b H3.e).mono ?_
          rintro e w5 ⟨rfl,hb5⟩
          have hB5:=hB3.trans (hb5.mono hB3.size)
          cases a6
          ·have e:=hide (show r=6 from by rw [HR2.out,HI.out];simp)
           go_wp2
           go_ret
           exact ⟨ret_int e.out.symm,hB5⟩
          ·have e:=hide (show r=0 from by rw [HR2.out,HI.out];simp)
           go_wp2
           go_ret
           exact ⟨ret_int e.out.symm,hB5⟩
def TS (w:World) (a:Option Addr) (n cap:Nat) (ss:List ByteArray):Prop:=
 ss.length=n∧n≤maxLen∧(∀ i,(ss.getD i zS).size≤maxLen)∧(n≠0→∃ b off,a=some ⟨b,off,none⟩∧∀ i,i<n→w.cell? ⟨b,off+i,none⟩=some (.string (ss.getD i zS)))∧n≤cap
theorem TS.below {w w':World} {a:Option Addr} {n cap:Nat} {ss:List ByteArray} (h:TS w a n cap ss) (hb:Below w.heap.size w w'):TS w' a n cap ss:=by
 obtain ⟨h1,h2,h3,h4,h5⟩:=h
 refine ⟨h1,h2,h3,fun hn=>?_,h5⟩
 obtain ⟨b,off,e,hc⟩:=h4 hn
 exact ⟨b,off,e,fun i hi=>(hb.cell (World.block_lt_of_cell? w _ (hc i hi))).trans (hc i hi)⟩
theorem TS.at {w:World} {a:Option Addr} {n cap:Nat} {ss:List ByteArray} (h:TS w a n cap ss) (i:Nat) (hi:i<n):∃ b off,a=some ⟨b,off,none⟩∧w.cell? ⟨b,off+i,none⟩=some (.string (ss.getD i zS)):=by
 obtain ⟨b,off,e,hc⟩:=h.2.2.2.1 (by omega)
 exact ⟨b,off,e,hc i hi⟩
theorem TS.ss {w:World} {a:Option Addr} {n cap:Nat} {ss:List ByteArray} (h:TS w a n cap ss) (hs:upS (fun j=>(ss.getD j zS).size) n≤1048576):SS w a n cap ss:=by
 refine ⟨h.1,h.2.1,fun s hm=>?_,h.2.2.2.1,h.2.2.2.2⟩
 obtain ⟨i,hi,rfl⟩:=List.getElem_of_mem hm
 have h1:=upS_mono (fun j=>(ss.getD j zS).size) (i+1) n (by have:=h.1;omega)
 have h2:upS (fun j=>(ss.getD j zS).size) (i+1)=upS (fun j=>(ss.getD j zS).size) i+(ss.getD i zS).size:=rfl
 have h3:(ss.getD i zS).size=ss[i].size:=by simp [List.getD_eq_getElem?_getD,hi]
 omega
def TE (w:World) (a:Option Addr) (n cap:Nat) (es:List Ex):Prop:=
 es.length=n∧n≤maxLen∧(∀ i,(es.getD i zE).1.size≤maxLen)∧(n≠0→∃ b off,a=some ⟨b,off,none⟩∧∀ i,i<n→w.cell? ⟨b,off+i * 3,none⟩=some (.string (es.getD i zE).1)∧w.cell? ⟨b,off+i * 3+1,none⟩=some (.int .i64 (es.getD i zE).2.1)∧w.cell? ⟨b,off+i * 3+2,none⟩=some (.int .i64 (es.getD i zE).2.2))∧n≤cap
theorem TE.below {w w':World} {a:Option Addr} {n cap:Nat} {es:List Ex} (h:TE w a n cap es) (hb:Below w.heap.size w w'):TE w' a n cap es:=by
 obtain ⟨h1,h2,h3,h4,h5⟩:=h
 refine ⟨h1,h2,h3,fun hn=>?_,h5⟩
 obtain ⟨b,off,e,hc⟩:=h4 hn
 have key:∀ o v,w.cell? ⟨b,o,none⟩=some v→w'.cell? ⟨b,o,none⟩=some v:=fun o v hv=>(hb.cell (World.block_lt_of_cell? w _ hv)).trans hv
 exact ⟨b,off,e,fun i hi=>⟨key _ _ (hc i hi).1,key _ _ (hc i hi).2.1,key _ _ (hc i hi).2.2⟩⟩
theorem TE.at {w:World} {a:Option Addr} {n cap:Nat} {es:List Ex} (h:TE w a n cap es) (i:Nat) (hi:i<n):∃ b off,a=some ⟨b,off,none⟩∧w.cell? ⟨b,off+i * 3,none⟩=some (.string (es.getD i zE).1)∧w.cell? ⟨b,off+i * 3+1,none⟩=some (.int .i64 (es.getD i zE).2.1)∧w.cell? ⟨b,off+i * 3+2,none⟩=some (.int .i64 (es.getD i zE).2.2):=by
 obtain ⟨b,off,e,hc⟩:=h.2.2.2.1 (by omega)
 exact ⟨b,off,e,hc i hi⟩
theorem TE.es {w:World} {a:Option Addr} {n cap:Nat} {es:List Ex} (h:TE w a n cap es) (hs:upS (fun j=>(es.getD j zE).1.size) n≤1048576):ES w a n cap es:=by
 refine ⟨h.1,h.2.1,fun s hm=>?_,h.2.2.2.1,h.2.2.2.2⟩
 obtain ⟨i,hi,rfl⟩:=List.getElem_of_mem hm
 have h1:=upS_mono (fun j=>(es.getD j zE).1.size) (i+1) n (by have:=h.1;omega)
 have h2:upS (fun j=>(es.getD j zE).1.size) (i+1)=upS (fun j=>(es.getD j zE).1.size) i+(es.getD i zE).1.size:=rfl
 have h3:(es.getD i zE).1.size=es[i].1.size:=by simp [List.getD_eq_getElem?_getD,hi]
 omega
structure MT (w:World) (nm:ByteArray) (ta:Option Addr) (tn tc:Nat) (tz:List Int) (ba:Option Addr) (bn bc:Nat) (bl:List Bk) (da:Option Addr) (dn dc:Nat) (dz:List Int) (bss:Int) (ra:Option Addr) (rn rc:Nat) (rz:List Int) (ia:Option Addr) (im ic:Nat) (ss:List ByteArray) (ea:Option Addr) (en ec:Nat) (es:List Ex):Prop where
 n:nm.size≤maxLen
 t:IS w ta tn tc tz
 b:BKS w ba bn bc bl
 d:BS w da dn dc dz
 s:wfi bss
 r:IS w ra rn rc rz
 i:TS w ia im ic ss
 e:TE w ea en ec es
theorem MT.below {w w':World} {nm:ByteArray} {ta:Option Addr} {tn tc:Nat} {tz:List Int} {ba:Option Addr} {bn bc:Nat} {bl:List Bk} {da:Option Addr} {dn dc:Nat} {dz:List Int} {bss:Int} {ra:Option Addr} {rn rc:Nat} {rz:List Int} {ia:Option Addr} {im ic:Nat} {ss:List ByteArray} {ea:Option Addr} {en ec:Nat} {es:List Ex} (h:MT w nm ta tn tc tz ba bn bc bl da dn dc dz bss ra rn rc rz ia im ic ss ea en ec es) (hb:Below w.heap.size w w'):MT w' nm ta tn tc tz ba bn bc bl da dn dc dz bss ra rn rc rz ia im ic ss ea en ec es:=
 ⟨h.n,h.t.below hb,h.b.below hb,h.d.below hb,h.s,h.r.below hb,h.i.below hb,h.e.below hb⟩
def mdSize (nm:ByteArray) (tn bn:Nat) (bl:List Bk) (dn rn im:Nat) (ss:List ByteArray) (en:Nat) (es:List Ex):Nat:=
 nm.size+tn+(bn+upS (fun j=>(bl.getD j zB).2.1) bn)+dn+rn+(im+upS (fun j=>(ss.getD j zS).size) im)+(en+upS (fun j=>(es.getD j zE).1.size) en)
def RowT (w:World) (g:Nat) (zs:List ByteArray):Prop:=w.heap[g]?=some (.cells (zs.map (Value.string)).toArray 9 (0,0))
theorem RowT.cell {w:World} {g:Nat} {zs:List ByteArray} (h:RowT w g zs) (i:Nat) (hi:i<zs.length):w.cell? ⟨g,i,none⟩=some (.string (zs.getD i zS)):=by
 rw [cell_of_row w g i _ _ _ h];simp [List.getD_eq_getElem?_getD,hi]
theorem RowT.frozen {w:World} {g:Nat} {zs:List ByteArray} (h:RowT w g zs) (i:Nat):w.frozen? ⟨g,i,none⟩=false:=frozen_of_row w g i _ _ h
theorem RowT.set {w:World} {g:Nat} {zs:List ByteArray} (h:RowT w g zs) (i:Nat) (z:ByteArray):RowT (w.setCell ⟨g,i,none⟩ (.string z)) g (zs.set i z):=by
 unfold RowT at *
 rw [heap_setCell_same w g i _ _ _ h]
 simp [List.map_set]
theorem RowT.lt {w:World} {g:Nat} {zs:List ByteArray} (h:RowT w g zs):g<w.heap.size:=by
 unfold RowT at h
 by_cases hg:g<w.heap.size
 ·exact hg
 ·simp [Array.getElem?_eq_none (Nat.le_of_not_lt hg)] at h
theorem RowT.below {w w':World} {g:Nat} {zs:List ByteArray} (h:RowT w g zs) (hb:Below w.heap.size w w'):RowT w' g zs:=by
 have:=hb.block g h.lt
 unfold RowT at *
 rw [this];exact h
theorem infoT:(Tryz.prog.info? 9).map (fun i=>(i.zero,i.size,i.bytes))=some (some (.string ⟨#[]⟩),1,16):=by kernel_rfl
def RowB (w:World) (g n:Nat) (gs:List Nat) (bl:List Bk):Prop:=
 (∃ cur,Blk w g cur 29∧cur.size=n∧∀ i,i<gs.length→cur[i]?=some (.slice (some ⟨gs.getD i 0,0,none⟩) (bl.getD i zB).2.1 (bl.getD i zB).2.1))∧(∀ i,i<gs.length→RowI w (gs.getD i 0) (bl.getD i zB).2.2.2∧g<gs.getD i 0)∧(∀ i j,i<j→j<gs.length→gs.getD i 0<gs.getD j 0)
theorem RowB.below {w w':World} {g n:Nat} {gs:List Nat} {bl:List Bk} (h:RowB w g n gs bl) (hb:Below w.heap.size w w'):RowB w' g n gs bl:=by
 obtain ⟨⟨cur,h1,h2,h3⟩,h4,h5⟩:=h
 exact ⟨⟨cur,h1.below hb,h2,h3⟩,fun i hi=>⟨(h4 i hi).1.below hb,(h4 i hi).2⟩,h5⟩
theorem RowB.cell {w:World} {g n:Nat} {gs:List Nat} {bl:List Bk} (h:RowB w g n gs bl) (k:Nat) (hk:k<n):∃ v,w.cell? ⟨g,k,none⟩=some v:=by
 obtain ⟨⟨cur,h1,h2,h3⟩,h4,h5⟩:=h
 refine ⟨cur[k],?_⟩
 rw [h1.cell]
 simp [h2,hk]
theorem RowB.frozen {w:World} {g n:Nat} {gs:List Nat} {bl:List Bk} (h:RowB w g n gs bl) (k:Nat):w.frozen? ⟨g,k,none⟩=false:=by
 obtain ⟨⟨cur,h1,h2,h3⟩,h4,h5⟩:=h
 exact h1.frozen k
theorem getD_snoc_lt (gs:List Nat) (x i:Nat) (h:i<gs.length):(gs++[x]).getD i 0=gs.getD i 0:=by
 simp [List.getD_eq_getElem?_getD,List.getElem?_append_left h]
theorem getD_snoc (gs:List Nat) (x:Nat):(gs++[x]).getD gs.length 0=x:=by
 simp [List.getD_eq_getElem?_getD]
theorem RowB.push {w:World} {g n x:Nat} {gs:List Nat} {bl:List Bk} (h:RowB w g n gs bl) (hk:gs.length<n) (hr:RowI w x (bl.getD gs.length zB).2.2.2) (hx:g<x) (hi:∀ i,i<gs.length→gs.getD i 0<x):
 RowB (w.setCell ⟨g,gs.length,none⟩ (.slice (some ⟨x,0,none⟩) (bl.getD gs.length zB).2.1 (bl.getD gs.length zB).2.1)) g n (gs++[x]) bl:=by
 obtain ⟨⟨cur,h1,h2,h3⟩,h4,h5⟩:=h
 have key:∀ y zs,RowI w y zs→g≠y→RowI (w.setCell ⟨g,gs.length,none⟩ (.slice (some ⟨x,0,none⟩) (bl.getD gs.length zB).2.1 (bl.getD gs.length zB).2.1)) y zs:=fun y zs hy hne=>by
  unfold RowI at *
  rw [heap_setCell_other _ _ _ _ (by dsimp only;omega)]
  exact hy
 refine ⟨⟨_,h1.set gs.length _,by simp [h2],fun i hi'=>?_⟩,fun i hi'=>?_,fun i j hij hj=>?_⟩
 ·simp only [List.length_append,List.length_cons,List.length_nil] at hi'
  by_cases e:i=gs.length
  ·subst e
   rw [getD_snoc]
   simp [h2,hk]
  ·rw [getD_snoc_lt _ _ _ (by omega),← h3 i (by omega)]
   rw [Array.getElem?_setIfInBounds_ne (by omega)]
 ·simp only [List.length_append,List.length_cons,List.length_nil] at hi'
  by_cases e:i=gs.length
  ·subst e
   rw [getD_snoc]
   exact ⟨key _ _ hr (by omega),hx⟩
  ·rw [getD_snoc_lt _ _ _ (by omega)]
   exact ⟨key _ _ (h4 i (by omega)).1 (by have:=(h4 i (by omega)).2;omega),(h4 i (by omega)).2⟩
 ·simp only [List.length_append,List.length_cons,List.length_nil] at hj
  by_cases e:j=gs.length
  ·subst e
   rw [getD_snoc,getD_snoc_lt _ _ _ hij]
   exact hi i hij
  ·rw [getD_snoc_lt _ _ _ (by omega),getD_snoc_lt _ _ _ (by omega)]
   exact h5 i j hij (by omega)
def reb (gs:List Nat) (bl:List Bk):List Bk:=(List.range bl.length).map fun i=>(some ⟨gs.getD i 0,0,none⟩,(bl.getD i zB).2.1,(bl.getD i zB).2.1,(bl.getD i zB).2.2.2)
theorem reb_len (gs:List Nat) (bl:List Bk):(reb gs bl).length=bl.length:=by simp [reb]
theorem reb_at (gs:List Nat) (bl:List Bk) (i:Nat) (hi:i<bl.length):(reb gs bl).getD i zB=(some ⟨gs.getD i 0,0,none⟩,(bl.getD i zB).2.1,(bl.getD i zB).2.1,(bl.getD i zB).2.2.2):=by
 simp [reb,List.getD_eq_getElem?_getD,hi]
theorem RowB.bks {w w0:World} {g n cap:Nat} {a:Option Addr} {gs:List Nat} {bl:List Bk} (h:RowB w g n gs bl) (hb:BKS w0 a n cap bl) (hg:gs.length=n):BKS w (some ⟨g,0,none⟩) n n (reb gs bl):=by
 obtain ⟨b1,b2,b3,b4,b5⟩:=hb
 obtain ⟨⟨cur,h1,h2,h3⟩,h4,h5⟩:=h
 refine ⟨by rw [reb_len,b1],b2,fun _=>⟨g,0,rfl,fun i hi=>?_⟩,fun i hi=>?_,Nat.le_refl _⟩
 ·rw [reb_at _ _ _ (by omega),Nat.zero_add,h1.cell]
  exact h3 i (by omega)
 ·rw [reb_at _ _ _ (by omega)]
  obtain ⟨c1,c2,c3,c4,c5⟩:=b4 i hi
  have hr:=(h4 i (by omega)).1
  exact ⟨c1,c2,c3,fun _=>⟨gs.getD i 0,0,rfl,fun j hj=>by rw [Nat.zero_add];exact hr.cell j (by rw [c1];exact hj)⟩,Nat.le_refl _⟩
theorem reb_bko (gs:List Nat) (bl:List Bk):(reb gs bl).all bko=bl.all bko:=by
 have key:∀ i,i<bl.length→bko ((reb gs bl).getD i zB)=bko (bl.getD i zB):=fun i hi=>by rw [reb_at _ _ _ hi];rfl
 cases h:bl.all bko
 ·obtain ⟨x,hx,hb⟩:=List.all_eq_false.1 h
  obtain ⟨i,hi,rfl⟩:=List.getElem_of_mem hx
  exact all_bad _ i (by rw [reb_len];exact hi) (by rw [key i hi];simpa [List.getD_eq_getElem?_getD,hi] using hb)
 ·refine all_good _ fun j hj=>?_
  rw [reb_len] at hj
  rw [key j hj]
  have:=List.all_eq_true.1 h _ (List.getElem_mem hj)
  simpa [List.getD_eq_getElem?_getD,hj] using this
theorem reb_cdo (gs:List Nat) (tn:Nat) (tz:List Int) (bn:Nat) (bl:List Bk):cdo tn tz bn (reb gs bl)=cdo tn tz bn bl:=by unfold cdo;rw [reb_bko]
theorem reb_pcn (gs:List Nat) (tn bn:Nat) (bl:List Bk) (b:Int) (h:bl.length=bn):pcn tn bn (reb gs bl) b=pcn tn bn bl b:=by
 unfold pcn
 split
 ·rfl
 ·split
  ·rename_i h1 h2
   rw [reb_at _ _ _ (by omega)]
  ·rfl
theorem reb_exo (gs:List Nat) (tn bn:Nat) (bl:List Bk) (n:Nat) (es:List Ex) (h:bl.length=bn):exo tn bn (reb gs bl) n es=exo tn bn bl n es:=by
 unfold exo ex1
 congr 2
 funext i
 rw [reb_pcn _ _ _ _ _ h]
theorem reb_mdo (gs:List Nat) (nm:ByteArray) (tn:Nat) (tz:List Int) (bn:Nat) (bl:List Bk) (dn:Nat) (bss:Int) (rn:Nat) (rz:List Int) (im:Nat) (ss:List ByteArray) (en:Nat) (es:List Ex) (h:bl.length=bn):
 mdo nm tn tz bn (reb gs bl) dn bss rn rz im ss en es=mdo nm tn tz bn bl dn bss rn rz im ss en es:=by
 unfold mdo
 rw [reb_cdo,reb_exo _ _ _ _ _ _ h]
theorem infoB:(Tryz.prog.info? 29).map (fun i=>(i.zero,i.size,i.bytes))=some (some (.slice none 0 0),1,24):=by kernel_rfl
theorem cellO {w:World} {g o o' b:Nat} {v:Value} (h:b≠g∨o'≠o):(w.setCell ⟨g,o,none⟩ v).cell? ⟨b,o',none⟩=w.cell? ⟨b,o',none⟩:=
 World.cell?_setCell_other _ _ _ _ (by intro e;injection e;rcases h with h | h <;> simp_all)
theorem cellS {w:World} {g o:Nat} {u v:Value} (h:w.cell? ⟨g,o,none⟩=some u):(w.setCell ⟨g,o,none⟩ v).cell? ⟨g,o,none⟩=some v:=World.cell?_setCell_same _ _ _ h
def At3 (w:World) (g o:Nat) (x:Ex):Prop:=w.cell? ⟨g,o,none⟩=some (.string x.1)∧w.cell? ⟨g,o+1,none⟩=some (.int .i64 x.2.1)∧w.cell? ⟨g,o+2,none⟩=some (.int .i64 x.2.2)
def set3 (w:World) (g o:Nat) (x:Ex):World:=((w.setCell ⟨g,o,none⟩ (.string x.1)).setCell ⟨g,o+1,none⟩ (.int .i64 x.2.1)).setCell ⟨g,o+2,none⟩ (.int .i64 x.2.2)
theorem set3_other (w:World) (g o b o':Nat) (r:Ex) (h:b≠g∨o'<o∨o+3≤o'):(set3 w g o r).cell? ⟨b,o',none⟩=w.cell? ⟨b,o',none⟩:=by
 unfold set3
 rw [cellO (by omega),cellO (by omega),cellO (by omega)]
theorem set3_at {w:World} {g o:Nat} {q:Ex} (h:At3 w g o q) (r:Ex):At3 (set3 w g o r) g o r:=by
 obtain ⟨h1,h2,h3⟩:=h
 unfold set3
 refine ⟨?_,?_,?_⟩
 ·rw [cellO (by omega),cellO (by omega)];exact cellS h1
 ·rw [cellO (by omega)];exact cellS (by rw [cellO (by omega)];exact h2)
 ·exact cellS (by rw [cellO (by omega),cellO (by omega)];exact h3)
theorem set3_far {w:World} {g o b o':Nat} {q:Ex} (h:At3 w b o' q) (r:Ex) (hf:b≠g∨o'+3≤o∨o+3≤o'):At3 (set3 w g o r) b o' q:=by
 unfold At3
 rw [set3_other _ _ _ _ _ _ (by omega),set3_other _ _ _ _ _ _ (by omega),set3_other _ _ _ _ _ _ (by omega)]
 exact h
theorem set3_blk {w:World} {g:Nat} {cur:Array Value} {t:TypeId} (h:Blk w g cur t) (o:Nat) (r:Ex):∃ cur',Blk (set3 w g o r) g cur' t∧cur'.size=cur.size:=
 ⟨_,(((h.set o _).set (o+1) _).set (o+2) _),by simp⟩
theorem At3.below {w w':World} {g o:Nat} {x:Ex} (h:At3 w g o x) (hb:Below w.heap.size w w'):At3 w' g o x:=by
 have key:∀ o v,w.cell? ⟨g,o,none⟩=some v→w'.cell? ⟨g,o,none⟩=some v:=fun o v hv=>(hb.cell (World.block_lt_of_cell? w _ hv)).trans hv
 exact ⟨key _ _ h.1,key _ _ h.2.1,key _ _ h.2.2⟩
def RowX (w:World) (g:Nat) (es:List Ex):Prop:=
 (∃ cur,Blk w g cur 210∧cur.size=es.length * 3)∧∀ i,i<es.length→At3 w g (i * 3) (es.getD i zE)
theorem RowX.lt {w:World} {g:Nat} {es:List Ex} (h:RowX w g es):g<w.heap.size:=by obtain ⟨⟨cur,hb,_⟩,_⟩:=h;exact hb.lt
theorem RowX.below {w w':World} {g:Nat} {es:List Ex} (h:RowX w g es) (hb:Below w.heap.size w w'):RowX w' g es:=by
 obtain ⟨⟨cur,hc,hs⟩,hr⟩:=h
 exact ⟨⟨cur,hc.below hb,hs⟩,fun i hi=>(hr i hi).below hb⟩
theorem RowX.frozen {w:World} {g:Nat} {es:List Ex} (h:RowX w g es) (i:Nat):w.frozen? ⟨g,i,none⟩=false:=by obtain ⟨⟨cur,hb,_⟩,_⟩:=h;exact hb.frozen i
theorem RowX.set {w:World} {g:Nat} {es:List Ex} (h:RowX w g es) (i:Nat) (hi:i<es.length) (r:Ex):RowX (set3 w g (i * 3) r) g (es.set i r):=by
 obtain ⟨⟨cur,hc,hs⟩,hr⟩:=h
 obtain ⟨cur',hc',hs'⟩:=set3_blk hc (i * 3) r
 refine ⟨⟨cur',hc',by rw [hs',hs,List.length_set]⟩,fun j hj=>?_⟩
 rw [List.length_set] at hj
 by_cases e:i=j
 ·subst e
  have:(es.set i r).getD i zE=r:=by simp [List.getD_eq_getElem?_getD,hi]
  rw [this]
  exact set3_at (hr i hi) r
 ·have:(es.set i r).getD j zE=es.getD j zE:=by simp [List.getD_eq_getElem?_getD,e]
  rw [this]
  exact set3_far (hr j hj) r (by omega)
theorem RowX.te {w w0:World} {g n cap:Nat} {a:Option Addr} {es:List Ex} (h:RowX w g es) (k:TE w0 a n cap es):TE w (some ⟨g,0,none⟩) n n es:=by
 obtain ⟨h1,h2,h3,h4,h5⟩:=k
 exact ⟨h1,h2,h3,fun _=>⟨g,0,rfl,fun i hi=>by rw [Nat.zero_add];exact h.2 i (by omega)⟩,Nat.le_refl _⟩
theorem infoX:(Tryz.prog.info? 210).map (fun i=>(i.zero,i.size,i.bytes))=some (some (.agg #[.string ⟨#[]⟩,.int .i64 0,.int .i64 0]),3,32):=by kernel_rfl
theorem turn_at (c:Nat) (w:World) (r i:Nat) (v:Value) (h:r≤c):Turn (fun j=>j≤c) w (w.setCell ⟨r,i,none⟩ v):=⟨rfl,rfl,rfl,by rw [size_setCell];exact Nat.le_refl _,fun j hj hn=>heap_setCell_other _ _ _ _ (fun e=>hn (by dsimp only at e;omega))⟩
def Stab (c:Nat) (R:World→Prop):Prop:=∀ W W',Turn (fun j=>j≤c) W W'→R W→R W'
theorem stab_i {c g:Nat} {zs:List Int} (h:c<g):Stab c (fun W=>RowI W g zs):=fun W W' t r=>turn_blk t r (by show ¬ g≤c;omega)
theorem stab_8 {c g:Nat} {zs:List Int} (h:c<g):Stab c (fun W=>Row8 W g zs):=fun W W' t r=>turn_blk t r (by show ¬ g≤c;omega)
theorem stab_t {c g:Nat} {zs:List ByteArray} (h:c<g):Stab c (fun W=>RowT W g zs):=fun W W' t r=>turn_blk t r (by show ¬ g≤c;omega)
theorem stab_x {c g:Nat} {es:List Ex} (h:c<g):Stab c (fun W=>RowX W g es):=fun W W' t r=>by
 obtain ⟨⟨cur,h2,h3⟩,h4⟩:=r
 have e:W'.heap[g]?=W.heap[g]?:=t.block g h2.lt (by show ¬ g≤c;omega)
 have key:∀ o,W'.cell? ⟨g,o,none⟩=W.cell? ⟨g,o,none⟩:=fun o=>World.cell?_of_block (w:=W) e
 refine ⟨⟨cur,turn_blk t h2 (by show ¬ g≤c;omega),h3⟩,fun i hi=>?_⟩
 obtain ⟨y1,y2,y3⟩:=h4 i hi
 exact ⟨(key _).trans y1,(key _).trans y2,(key _).trans y3⟩
theorem Stab.and {c:Nat} {R S:World→Prop} (h:Stab c R) (k:Stab c S):Stab c (fun W=>R W∧S W):=fun W W' t r=>⟨h W W' t r.1,k W W' t r.2⟩
structure TM (w W:World) (arg cs:Array Value) (R:World→Prop):Prop where
 kb:Blk W w.heap.size arg 164
 kr:Blk W (w.heap.size+1) #[.string ⟨#[]⟩,.slice none 0 0,.slice none 0 0,.slice none 0 0,.int .i64 0,.slice none 0 0,.slice none 0 0,.slice none 0 0] 49
 ko:Blk W (w.heap.size+1+1) cs 49
 hB:Below w.heap.size w W
 rows:R W
 st:Stab (w.heap.size+1+1) R
theorem TM.below {w W W':World} {arg cs:Array Value} {R:World→Prop} (h:TM w W arg cs R) (hb:Below W.heap.size W W'):TM w W' arg cs R:=
 ⟨h.kb.below hb,h.kr.below hb,h.ko.below hb,h.hB.trans (hb.mono h.hB.size),h.st _ _ (turn_below hb) h.rows,h.st⟩
theorem TM.set {w W:World} {arg cs:Array Value} {R:World→Prop} (h:TM w W arg cs R) (i:Nat) (v:Value):TM w (W.setCell ⟨w.heap.size+1+1,i,none⟩ v) arg (cs.setIfInBounds i v) R:=
 ⟨h.kb.other _ _ (by dsimp only;omega),h.kr.other _ _ (by dsimp only;omega),h.ko.set i v,h.hB.setCell (by dsimp only;omega) _,h.st _ _ (turn_at _ _ _ _ _ (Nat.le_refl _)) h.rows,h.st⟩
theorem TM.add {w W:World} {arg cs:Array Value} {R S:World→Prop} (h:TM w W arg cs R) (r:S W) (s:Stab (w.heap.size+1+1) S):TM w W arg cs (fun W=>R W∧S W):=
 ⟨h.kb,h.kr,h.ko,h.hB,⟨h.rows,r⟩,h.st.and s⟩
structure PMod where
 nm:ByteArray
 tz:List Int
 bl:List (List Int)
 dz:List Int
 bss:Int
 rz:List Int
 ss:List ByteArray
 es:List Ex
def bkOf (bl:List (List Int)):List Bk:=bl.map fun l=>(none,l.length,l.length,l)
def mdoP (P:PMod):Int:=mdo P.nm P.tz.length P.tz P.bl.length (bkOf P.bl) P.dz.length P.bss P.rz.length P.rz P.ss.length P.ss P.es.length P.es
theorem mdo_bks {nm:ByteArray} {tn:Nat} {tz:List Int} {bl bl':List Bk} {dn:Nat} {bss:Int} {rn:Nat} {rz:List Int} {im:Nat} {ss:List ByteArray} {en:Nat} {es:List Ex} (hl:bl.length=bl'.length) (h:∀ i,i<bl.length→(bl.getD i zB).2.1=(bl'.getD i zB).2.1∧(bl.getD i zB).2.2.2=(bl'.getD i zB).2.2.2):
 mdo nm tn tz bl.length bl dn bss rn rz im ss en es=mdo nm tn tz bl.length bl' dn bss rn rz im ss en es:=by
 have e:reb [] bl=reb [] bl':=by
  unfold reb
  rw [← hl]
  apply List.map_congr_left
  intro i hi
  have:=h i (by simpa using hi)
  rw [this.1,this.2]
 rw [← reb_mdo [] nm tn tz bl.length bl dn bss rn rz im ss en es rfl,e,reb_mdo [] nm tn tz bl.length bl' dn bss rn rz im ss en es hl.symm]
structure Md where
 nm:ByteArray
 ta:Option Addr
 tn:Nat
 tc:Nat
 tz:List Int
 ba:Option Addr
 bn:Nat
 bc:Nat
 bl:List Bk
 da:Option Addr
 dn:Nat
 dc:Nat
 dz:List Int
 bss:Int
 ra:Option Addr
 rn:Nat
 rc:Nat
 rz:List Int
 ia:Option Addr
 im:Nat
 ic:Nat
 ss:List ByteArray
 ea:Option Addr
 en:Nat
 ec:Nat
 es:List Ex
def zMd:Md:=⟨⟨#[]⟩,none,0,0,[],none,0,0,[],none,0,0,[],0,none,0,0,[],none,0,0,[],none,0,0,[]⟩
def Md.mt (m:Md) (w:World):Prop:=MT w m.nm m.ta m.tn m.tc m.tz m.ba m.bn m.bc m.bl m.da m.dn m.dc m.dz m.bss m.ra m.rn m.rc m.rz m.ia m.im m.ic m.ss m.ea m.en m.ec m.es
def Md.size (m:Md):Nat:=mdSize m.nm m.tn m.bn m.bl m.dn m.rn m.im m.ss m.en m.es
def Md.cells (m:Md):Array Value:=#[.string m.nm,.slice m.ta m.tn m.tc,.slice m.ba m.bn m.bc,.slice m.da m.dn m.dc,.int .i64 m.bss,.slice m.ra m.rn m.rc,.slice m.ia m.im m.ic,.slice m.ea m.en m.ec]
def At8 (w:World) (b o:Nat) (m:Md):Prop:=
 w.cell? ⟨b,o,none⟩=some (.string m.nm)∧w.cell? ⟨b,o+1,none⟩=some (.slice m.ta m.tn m.tc)∧w.cell? ⟨b,o+2,none⟩=some (.slice m.ba m.bn m.bc)∧w.cell? ⟨b,o+3,none⟩=some (.slice m.da m.dn m.dc)∧w.cell? ⟨b,o+4,none⟩=some (.int .i64 m.bss)∧w.cell? ⟨b,o+5,none⟩=some (.slice m.ra m.rn m.rc)∧w.cell? ⟨b,o+6,none⟩=some (.slice m.ia m.im m.ic)∧w.cell? ⟨b,o+7,none⟩=some (.slice m.ea m.en m.ec)
theorem At8.below {w w':World} {b o:Nat} {m:Md} (h:At8 w b o m) (hb:Below w.heap.size w w'):At8 w' b o m:=by
 have key:∀ o v,w.cell? ⟨b,o,none⟩=some v→w'.cell? ⟨b,o,none⟩=some v:=fun o v hv=>(hb.cell (World.block_lt_of_cell? w _ hv)).trans hv
 obtain ⟨h0,h1,h2,h3,h4,h5,h6,h7⟩:=h
 exact ⟨key _ _ h0,key _ _ h1,key _ _ h2,key _ _ h3,key _ _ h4,key _ _ h5,key _ _ h6,key _ _ h7⟩
theorem Md.below {m:Md} {w w':World} (h:m.mt w) (hb:Below w.heap.size w w'):m.mt w':=MT.below h hb
def MS (w:World) (a:Option Addr) (n cap:Nat) (ms:List Md):Prop:=
 ms.length=n∧n≤maxLen∧(n≠0→∃ b off,a=some ⟨b,off,none⟩∧∀ i,i<n→At8 w b (off+i * 8) (ms.getD i zMd))∧(∀ i,i<n→(ms.getD i zMd).mt w)∧n≤cap
theorem MS.below {w w':World} {a:Option Addr} {n cap:Nat} {ms:List Md} (h:MS w a n cap ms) (hb:Below w.heap.size w w'):MS w' a n cap ms:=by
 obtain ⟨h1,h2,h3,h4,h5⟩:=h
 refine ⟨h1,h2,fun hn=>?_,fun i hi=>Md.below (h4 i hi) hb,h5⟩
 obtain ⟨b,off,e,hc⟩:=h3 hn
 exact ⟨b,off,e,fun i hi=>(hc i hi).below hb⟩
theorem MS.at {w:World} {a:Option Addr} {n cap:Nat} {ms:List Md} (h:MS w a n cap ms) (i:Nat) (hi:i<n):∃ b off,a=some ⟨b,off,none⟩∧At8 w b (off+i * 8) (ms.getD i zMd):=by
 obtain ⟨b,off,e,hc⟩:=h.2.2.1 (by omega)
 exact ⟨b,off,e,hc i hi⟩
theorem turn_set (w:World) (g i:Nat) (v:Value):Turn (fun j=>j=g) w (w.setCell ⟨g,i,none⟩ v):=⟨rfl,rfl,rfl,by rw [size_setCell];exact Nat.le_refl _,fun k _ hk=>heap_setCell_other _ _ _ _ hk⟩
def OG {α:Type} (t:TypeId) (sz:Nat) (f:α→List Value) (w:World) (base:Nat) (v:Value) (xs:List α):Prop:=w.ownsRow base t sz v xs.length (xs.flatMap f)
theorem OG.below {α:Type} {t:TypeId} {sz:Nat} {f:α→List Value} {w w':World} {base:Nat} {v:Value} {xs:List α} (h:OG t sz f w base v xs) (hb:Below w.heap.size w w'):OG t sz f w' base v xs:=by
 obtain ⟨hl,h0 | ⟨g,cap,cur,hv,hg,hh,h1,h2,h3,h4⟩⟩:=h
 ·exact ⟨hl,.inl h0⟩
 ·exact ⟨hl,.inr ⟨g,cap,cur,hv,hg,Blk.below (w:=w) hh hb,h1,h2,h3,h4⟩⟩
theorem OG.mono {α:Type} {t:TypeId} {sz:Nat} {f:α→List Value} {w:World} {base base':Nat} {v:Value} {xs:List α} (h:OG t sz f w base v xs) (hb:base'≤base):OG t sz f w base' v xs:=by
 obtain ⟨hl,h0 | ⟨g,cap,cur,hv,hg,hh,h1,h2,h3,h4⟩⟩:=h
 ·exact ⟨hl,.inl h0⟩
 ·exact ⟨hl,.inr ⟨g,cap,cur,hv,by omega,hh,h1,h2,h3,h4⟩⟩
theorem OG.turn {α:Type} {t:TypeId} {sz:Nat} {f:α→List Value} {S:Nat→Prop} {w w':World} {base:Nat} {v:Value} {xs:List α} (h:OG t sz f w base v xs) (ht:Turn S w w') (hS:∀ k,S k→¬ base≤k):OG t sz f w' base v xs:=by
 obtain ⟨hl,h0 | ⟨g,cap,cur,hv,hg,hh,h1,h2,h3,h4⟩⟩:=h
 ·exact ⟨hl,.inl h0⟩
 ·exact ⟨hl,.inr ⟨g,cap,cur,hv,hg,turn_blk (w:=w) ht hh (fun s=>hS g s hg),h1,h2,h3,h4⟩⟩
theorem OG.lt {α:Type} {t:TypeId} {sz:Nat} {f:α→List Value} {w:World} {base:Nat} {v:Value} {xs:List α} (h:OG t sz f w base v xs):∀ k,v.ownBlock=some k→base≤k∧k<w.heap.size:=World.ownsRow.lt h
theorem og_nil {α:Type} (t:TypeId) (sz:Nat) (f:α→List Value) (w:World) (base:Nat):OG t sz f w base (.slice none 0 0) []:=⟨by simp,.inl ⟨rfl,rfl⟩⟩
theorem og_shape {α:Type} {t:TypeId} {sz:Nat} {f:α→List Value} {w:World} {base:Nat} {v:Value} {xs:List α} (h:OG t sz f w base v xs):∃ a c,v=.slice a xs.length c:=by
 obtain ⟨hl,⟨h0,h1⟩ | ⟨g,cap,cur,hv,_⟩⟩:=h
 ·exact ⟨none,0,by rw [h0,h1]⟩
 ·exact ⟨_,_,hv⟩
theorem turn_grown {S:Nat→Prop} {w W W':World} {row:Option Nat} (h:Turn S w W) (hg:W.grownBy W' row) (hr:∀ k,row=some k→w.heap.size≤k):Turn S w W':=
 ⟨hg.os.trans h.os,hg.tape.trans h.tape,hg.output.trans h.output,Nat.le_trans h.size hg.size,fun k hk hs=>(hg.block k (Nat.lt_of_lt_of_le hk h.size) (fun e=>by have:=hr k e.symm;omega)).trans (h.block k hk hs)⟩
theorem cells_new (w:World) (cs:Array Value) (t:TypeId) (xs:List Value) (h:cs=xs.toArray):∀ j u,xs[j]?=some u→(w.alloc (.cells cs t)).cell? ((⟨w.heap.size,0,none⟩:Addr).add j)=some u:=by
 intro j u hj
 subst h
 rw [addr_add,Nat.zero_add,Blk.cell (Blk.new w _ _)]
 simpa using hj
def clI (x:Int):List Value:=[.int .i64 x]
def clT (x:ByteArray):List Value:=[.string x]
def clX (x:Ex):List Value:=[.string x.1,.int .i64 x.2.1,.int .i64 x.2.2]
theorem turn_new' {S:Nat→Prop} {w W:World} (h:Turn S w W) {k:Nat} (hk:w.heap.size≤k) (i:Nat) (v:Value):Turn S w (W.setCell ⟨k,i,none⟩ v):=
 ⟨h.os,h.tape,h.output,by rw [size_setCell];exact h.size,fun j hj hs=>by rw [heap_setCell_other _ _ _ _ (by show j≠k;omega)];exact h.block j hj hs⟩
structure OBk (w:World) (base:Nat) (v:Value) (bl:List Bk):Prop where
 head:w.ownsRow base 29 1 v bl.length (bl.map fun B=>Value.slice B.1 B.2.1 B.2.2.1)
 rows:∀ B ∈ bl,B.2.1=B.2.2.2.length∧OG 3 1 clI w base (.slice B.1 B.2.1 B.2.2.1) B.2.2.2
 apart:bl.Pairwise fun A B=>∀ k,(Value.slice A.1 A.2.1 A.2.2.1).ownBlock=some k→(Value.slice B.1 B.2.1 B.2.2.1).ownBlock≠some k
theorem own_kind {w:World} {base n sz:Nat} {t:TypeId} {v:Value} {xs:List Value} {k:Nat} (h:w.ownsRow base t sz v n xs) (hk:v.ownBlock=some k):∃ cur,Blk w k cur t:=by
 obtain ⟨hl,⟨h0,_⟩ | ⟨g,cap,cur,hv,_,hh,_⟩⟩:=h
 ·subst h0;simp [Value.ownBlock] at hk
 ·subst hv
  simp [Value.ownBlock] at hk
  subst hk
  exact ⟨cur,hh⟩
theorem blk_kind {w:World} {k:Nat} {cs cs':Array Value} {t t':TypeId} (h:Blk w k cs t) (h':Blk w k cs' t'):t=t':=by
 unfold Blk at h h'
 rw [h] at h'
 simp at h'
 exact h'.2
theorem OG.grown {α:Type} {t:TypeId} {sz:Nat} {f:α→List Value} {w w':World} {base:Nat} {v:Value} {xs:List α} {row:Option Nat} (h:OG t sz f w base v xs) (hg:w.grownBy w' row) (hk:v.ownBlock=none∨v.ownBlock≠row):OG t sz f w' base v xs:=World.ownsRow.kept h hg hk
theorem OBk.turn {S:Nat→Prop} {w w':World} {base:Nat} {v:Value} {bl:List Bk} (h:OBk w base v bl) (ht:Turn S w w') (hS:∀ k,S k→¬ base≤k):OBk w' base v bl:=by
 refine ⟨?_,fun B hB=>⟨(h.rows B hB).1,(h.rows B hB).2.turn ht hS⟩,h.apart⟩
 obtain ⟨hl,h0 | ⟨g,cap,cur,hv,hg,hh,h1,h2,h3,h4⟩⟩:=h.head
 ·exact ⟨hl,.inl h0⟩
 ·exact ⟨hl,.inr ⟨g,cap,cur,hv,hg,turn_blk (w:=w) ht hh (fun s=>hS g s hg),h1,h2,h3,h4⟩⟩
theorem OBk.lt {w:World} {base:Nat} {v:Value} {bl:List Bk} (h:OBk w base v bl):∀ k,v.ownBlock=some k→base≤k∧k<w.heap.size:=h.head.lt
theorem OBk.push {W W':World} {base lo:Nat} {a:Option Addr} {k c:Nat} {bl:List Bk} {v':Value} {A:Option Addr} {C:Nat} {x:List Int} (h:OBk W base (.slice a k c) bl) (hl:bl.length=k) (hx:OG 3 1 clI W lo (.slice A x.length C) x) (hb:base≤lo) (hlo:∀ B ∈ bl,∀ j,(Value.slice B.1 B.2.1 B.2.2.1).ownBlock=some j→j<lo)
 (hown:W'.ownsRow base 29 1 v' (k+1) (bl.map (fun B=>Value.slice B.1 B.2.1 B.2.2.1)++[.slice A x.length C])) (hg:W.grownBy W' (Value.slice a k c).ownBlock):OBk W' base v' (bl++[(A,x.length,C,x)]):=by
 have hne:∀ (v:Value) (xs:List Int) (lo:Nat),OG 3 1 clI W lo v xs→v.ownBlock=none∨v.ownBlock≠(Value.slice a k c).ownBlock:=fun v xs lo ho=>by
  cases e:v.ownBlock with
  | none=>exact .inl rfl
  | some j=>
    refine .inr (fun e'=>?_)
    obtain ⟨c1,k1⟩:=own_kind ho e
    obtain ⟨c2,k2⟩:=own_kind h.head e'.symm
    exact absurd (blk_kind k1 k2) (by decide)
 refine ⟨?_,?_,?_⟩
 ·rw [List.length_append,hl,List.map_append]
  exact hown
 ·intro B hB
  rcases List.mem_append.1 hB with hB | hB
  ·exact ⟨(h.rows B hB).1,(h.rows B hB).2.grown hg (hne _ _ _ (h.rows B hB).2)⟩
  ·simp at hB
   subst hB
   exact ⟨rfl,(hx.grown hg (hne _ _ _ hx)).mono hb⟩
 ·rw [List.pairwise_append]
  refine ⟨h.apart,by simp,fun B hB X hX j hj e=>?_⟩
  simp at hX
  subst hX
  have h1:=hlo B hB j hj
  have h2:=(hx.lt j e).1
  omega
theorem OBk.mono {w:World} {base base':Nat} {v:Value} {bl:List Bk} (h:OBk w base v bl) (hb:base'≤base):OBk w base' v bl:=by
 refine ⟨?_,fun B hB=>⟨(h.rows B hB).1,(h.rows B hB).2.mono hb⟩,h.apart⟩
 obtain ⟨hl,h0 | ⟨g,cap,cur,hv,hg,hh,h1,h2,h3,h4⟩⟩:=h.head
 ·exact ⟨hl,.inl h0⟩
 ·exact ⟨hl,.inr ⟨g,cap,cur,hv,by omega,hh,h1,h2,h3,h4⟩⟩
theorem flat_one {α:Type} (f:α→Value):∀ xs:List α,xs.flatMap (fun x=>[f x])=xs.map f
 | []=>rfl
 | x :: xs=>by rw [List.flatMap_cons,flat_one f xs];rfl
theorem flat_clI (xs:List Int):xs.flatMap clI=xs.map (Value.int .i64):=flat_one _ xs
theorem flat_clT (xs:List ByteArray):xs.flatMap clT=xs.map Value.string:=flat_one _ xs
theorem flat_clX:∀ (xs:List Ex) (i:Nat),i<xs.length→(xs.flatMap clX)[i * 3]?=some (.string (xs.getD i zE).1)∧(xs.flatMap clX)[i * 3+1]?=some (.int .i64 (xs.getD i zE).2.1)∧(xs.flatMap clX)[i * 3+2]?=some (.int .i64 (xs.getD i zE).2.2)
 | [],i,h=>by simp at h
 | x :: xs,0,h=>⟨rfl,rfl,rfl⟩
 | x :: xs,i+1,h=>by
   have ih:=flat_clX xs i (by simpa using h)
   have e:∀ d,((x :: xs).flatMap clX)[(i+1) * 3+d]?=(xs.flatMap clX)[i * 3+d]?:=fun d=>by
    rw [List.flatMap_cons,List.getElem?_append_right (by simp [clX];omega)]
    congr 1
    simp [clX]
    omega
   have e0:=e 0
   simp only [Nat.add_zero] at e0
   refine ⟨e0.trans ih.1,(e 1).trans ih.2.1,(e 2).trans ih.2.2⟩
theorem og_parts {α:Type} {t:TypeId} {sz:Nat} {f:α→List Value} {w:World} {base n c:Nat} {a:Option Addr} {xs:List α} (h:OG t sz f w base (.slice a n c) xs):xs.length=n∧n≤maxLen∧n≤c∧(n≠0→∃ g,a=some ⟨g,0,none⟩∧∀ j u,(xs.flatMap f)[j]?=some u→w.cell? ⟨g,j,none⟩=some u):=by
 have hc:=fun g hg=>World.ownsRow.cells h (g:=g) hg
 obtain ⟨hl,⟨h0,h1⟩ | ⟨g,cap,cur,hv,hg,hh,h1,h2,h3,h4⟩⟩:=h
 ·simp at h0
  obtain ⟨rfl,rfl,rfl⟩:=h0
  exact ⟨h1,Nat.zero_le _,Nat.le_refl _,fun hn=>absurd rfl hn⟩
 ·simp at hv
  obtain ⟨rfl,rfl,rfl⟩:=hv
  refine ⟨rfl,by omega,h1,fun hn=>⟨g,rfl,fun j u hj=>?_⟩⟩
  have:=hc g rfl j u hj
  rwa [addr_add,Nat.zero_add] at this
theorem og_is {w:World} {base n c:Nat} {a:Option Addr} {xs:List Int} (h:OG 3 1 clI w base (.slice a n c) xs) (hx:∀ z ∈ xs,wfi z):IS w a n c xs:=by
 obtain ⟨h1,h2,h3,h4⟩:=og_parts h
 refine ⟨h1,h2,hx,fun hn=>?_,h3⟩
 obtain ⟨g,rfl,hc⟩:=h4 hn
 refine ⟨g,0,rfl,fun i hi=>?_⟩
 rw [Nat.zero_add]
 refine hc i _ ?_
 rw [flat_clI]
 simp [List.getD_eq_getElem?_getD,show i<xs.length by omega]
theorem og_ss {w:World} {base n c:Nat} {a:Option Addr} {xs:List ByteArray} (h:OG 9 1 clT w base (.slice a n c) xs) (hx:∀ s ∈ xs,s.size≤1048576):SS w a n c xs:=by
 obtain ⟨h1,h2,h3,h4⟩:=og_parts h
 refine ⟨h1,h2,hx,fun hn=>?_,h3⟩
 obtain ⟨g,rfl,hc⟩:=h4 hn
 refine ⟨g,0,rfl,fun i hi=>?_⟩
 rw [Nat.zero_add]
 refine hc i _ ?_
 rw [flat_clT]
 simp [List.getD_eq_getElem?_getD,show i<xs.length by omega]
theorem og_es {w:World} {base n c:Nat} {a:Option Addr} {xs:List Ex} (h:OG 210 3 clX w base (.slice a n c) xs) (hx:∀ s ∈ xs,s.1.size≤1048576):ES w a n c xs:=by
 obtain ⟨h1,h2,h3,h4⟩:=og_parts h
 refine ⟨h1,h2,hx,fun hn=>?_,h3⟩
 obtain ⟨g,rfl,hc⟩:=h4 hn
 refine ⟨g,0,rfl,fun i hi=>?_⟩
 rw [Nat.zero_add]
 obtain ⟨f0,f1,f2⟩:=flat_clX xs i (by omega)
 exact ⟨hc _ _ f0,hc _ _ f1,hc _ _ f2⟩
theorem obk_bks {w:World} {base n c:Nat} {a:Option Addr} {bl:List Bk} (h:OBk w base (.slice a n c) bl) (hx:∀ B ∈ bl,∀ z ∈ B.2.2.2,wfi z):BKS w a n c bl:=by
 have hh:OG 29 1 (fun B:Bk=>[Value.slice B.1 B.2.1 B.2.2.1]) w base (.slice a n c) bl:=by unfold OG;rw [flat_one];exact h.head
 obtain ⟨h1,h2,h3,h4⟩:=og_parts hh
 refine ⟨h1,h2,fun hn=>?_,fun i hi=>?_,h3⟩
 ·obtain ⟨g,rfl,hc⟩:=h4 hn
  refine ⟨g,0,rfl,fun i hi=>?_⟩
  rw [Nat.zero_add]
  refine hc i _ ?_
  rw [flat_one]
  simp [List.getD_eq_getElem?_getD,show i<bl.length by omega]
 ·have hm:bl.getD i zB ∈ bl:=by simp [List.getD_eq_getElem?_getD,show i<bl.length by omega]
  obtain ⟨e,o⟩:=h.rows _ hm
  exact og_is o (hx _ hm)
theorem OG.kept {α:Type} {t:TypeId} {sz:Nat} {f:α→List Value} {S:Nat→Prop} {w w':World} {base:Nat} {v:Value} {xs:List α} (h:OG t sz f w base v xs) (ht:Turn S w w') (hk:∀ k,v.ownBlock=some k→¬ S k):OG t sz f w' base v xs:=by
 obtain ⟨hl,h0 | ⟨g,cap,cur,hv,hg,hh,h1,h2,h3,h4⟩⟩:=h
 ·exact ⟨hl,.inl h0⟩
 ·exact ⟨hl,.inr ⟨g,cap,cur,hv,hg,turn_blk (w:=w) ht hh (hk g (by rw [hv];rfl)),h1,h2,h3,h4⟩⟩
structure Vm (nm:ByteArray) (tn:Nat) (tz:List Int) (bn:Nat) (bl:List Bk) (dn:Nat) (bss:Int) (rn:Nat) (rz:List Int) (im:Nat) (ss:List ByteArray) (en:Nat) (es:List Ex):Prop where
 n:nm.size≤12
 t:tn≤200
 tw:∀ z ∈ tz,0≤z∧z≤4294967295
 b:bn≤4
 bw:∀ i,i<bl.length→(bl.getD i zB).2.1≤64∧∀ z ∈ (bl.getD i zB).2.2.2,0≤z∧z≤4294967295
 d:dn≤512
 s:0≤bss∧bss≤512
 r:rn≤16
 rw:∀ i,i<rn→0≤rz.getD i 0∧rz.getD i 0≤512
 i:im≤16
 iw:∀ i,i<im→(ss.getD i zS).size≤25
 e:en≤16
 ew:∀ i,i<en→(es.getD i zE).1.size≤12∧-1≤(es.getD i zE).2.1∧(es.getD i zE).2.1≤4∧0≤(es.getD i zE).2.2∧(es.getD i zE).2.2≤200
theorem wds_all {zs:List Int} (h:wds zs=true):∀ z ∈ zs,0≤z∧z≤4294967295:=fun z hz=>by
 unfold wds at h
 rw [List.all_eq_true] at h
 simpa using h z hz
theorem nmo_size {s:ByteArray} (h:nmo s=true):s.size≤12:=by
 unfold nmo at h
 simp at h
 omega
theorem full_size {s:ByteArray} (h:full s=true):s.size≤25:=by
 unfold full at h
 simp only [Bool.and_eq_true,decide_eq_true_eq] at h
 obtain ⟨h0,h1,h2⟩:=h
 have a1:=nmo_size h1
 have a2:=nmo_size h2
 have hd:=dot_range s
 unfold cutA at a1
 unfold cutB at a2
 simp only [ByteArray.size_extract] at a1 a2
 omega
theorem rng_all {f:Nat→Bool} {n:Nat} (h:(List.range n).all f=true) (i:Nat) (hi:i<n):f i=true:=by
 rw [List.all_eq_true] at h
 exact h i (by simpa using hi)
theorem vm_of_mdo {nm:ByteArray} {tn:Nat} {tz:List Int} {bn:Nat} {bl:List Bk} {dn:Nat} {bss:Int} {rn:Nat} {rz:List Int} {im:Nat} {ss:List ByteArray} {en:Nat} {es:List Ex} (hbl:bl.length=bn) (h:mdo nm tn tz bn bl dn bss rn rz im ss en es=0):Vm nm tn tz bn bl dn bss rn rz im ss en es:=by
 unfold mdo at h
 by_cases c1:nmo nm=false
 ·rw [if_pos c1] at h;simp at h
 rw [if_neg c1] at h
 by_cases c2:cdo tn tz bn bl=false
 ·rw [if_pos c2] at h;simp at h
 rw [if_neg c2] at h
 by_cases c3:512<dn∨bss<0∨512<bss
 ·rw [if_pos c3] at h;simp at h
 rw [if_neg c3] at h
 by_cases c4:rlo rn rz dn=false
 ·rw [if_pos c4] at h;simp at h
 rw [if_neg c4] at h
 by_cases c5:imo im ss=false
 ·rw [if_pos c5] at h;simp at h
 rw [if_neg c5] at h
 by_cases c6:exo tn bn bl en es=false
 ·rw [if_pos c6] at h;simp at h
 simp only [Bool.not_eq_false] at c1 c2 c4 c5 c6
 unfold cdo at c2
 unfold rlo at c4
 unfold imo at c5
 unfold exo at c6
 simp only [Bool.and_eq_true,decide_eq_true_eq] at c2 c4 c5 c6
 obtain ⟨⟨t1,t2⟩,t3,t4⟩:=c2
 have hb:∀ i,i<bl.length→(bl.getD i zB).2.1≤64∧∀ z ∈ (bl.getD i zB).2.2.2,0≤z∧z≤4294967295:=fun i hi=>by
  rw [List.all_eq_true] at t4
  have hm:bl.getD i zB ∈ bl:=by simp [List.getD_eq_getElem?_getD,hi]
  have:=t4 _ hm
  unfold bko at this
  simp only [Bool.and_eq_true,decide_eq_true_eq] at this
  exact ⟨this.1.2,wds_all this.2⟩
 refine ⟨nmo_size c1,t1,wds_all t3,t2,hb,by omega,by omega,c4.1,fun i hi=>?_,c5.1,fun i hi=>full_size (rng_all c5.2 i hi),c6.1,fun i hi=>?_⟩
 ·have:=rng_all c4.2 i hi
  unfold rlk at this
  simp only [Bool.and_eq_true,decide_eq_true_eq] at this
  omega
 ·have:=rng_all c6.2 i hi
  unfold ex1 at this
  simp only [Bool.and_eq_true,decide_eq_true_eq] at this
  obtain ⟨⟨n1,a1,a2⟩,_⟩:=this
  have n2:=nmo_size n1
  have hp:pcn tn bn bl (es.getD i zE).2.1≤200∧(0<pcn tn bn bl (es.getD i zE).2.1→-1≤(es.getD i zE).2.1∧(es.getD i zE).2.1≤4):=by
   unfold pcn
   split
   ·omega
   ·split
    ·next h1 h2=>
     have:=(hb (es.getD i zE).2.1.toNat (by omega)).1
     omega
    ·omega
  have:=hp.2 (by omega)
  omega
abbrev Rw3:=Option Addr × Nat × Nat
def svR (r:Rw3):Value:=.slice r.1 r.2.1 r.2.2
def Ar4 (cs:Array Value) (o:Nat) (v:Int × Int × Int) (r:Rw3):Prop:=cs[o]?=some (.int .i64 v.1)∧cs[o+1]?=some (svR r)∧cs[o+2]?=some (.int .i64 v.2.1)∧cs[o+3]?=some (.int .i64 v.2.2)
theorem get_lt {cs:Array Value} {i:Nat} {u:Value} (h:cs[i]?=some u):i<cs.size:=by
 rcases Nat.lt_or_ge i cs.size with h1 | h1
 ·exact h1
 ·rw [Array.getElem?_eq_none h1] at h;cases h
theorem ar_other {cs:Array Value} {i j:Nat} {u v:Value} (h:cs[j]?=some u) (hn:i≠j):(cs.setIfInBounds i v)[j]?=some u:=by
 rw [Array.getElem?_setIfInBounds,if_neg hn];exact h
theorem ar_same {cs:Array Value} {i:Nat} {u v:Value} (h:cs[i]?=some u):(cs.setIfInBounds i v)[i]?=some v:=by
 rw [Array.getElem?_setIfInBounds,if_pos rfl,if_pos (get_lt h)]
theorem ar4_set {cs:Array Value} {o:Nat} {v:Int × Int × Int} {r:Rw3} (h:Ar4 cs o v r) (x y z:Int):Ar4 (((cs.setIfInBounds o (.int .i64 x)).setIfInBounds (o+2) (.int .i64 y)).setIfInBounds (o+3) (.int .i64 z)) o (x,y,z) r:=
 ⟨ar_other (ar_other (ar_same h.1) (by omega)) (by omega),ar_other (ar_other (ar_other h.2.1 (by omega)) (by omega)) (by omega),ar_other (ar_same (ar_other h.2.2.1 (by omega))) (by omega),ar_same (ar_other (ar_other h.2.2.2 (by omega)) (by omega))⟩
theorem ar4_far {cs:Array Value} {o o':Nat} {v:Int × Int × Int} {r:Rw3} (h:Ar4 cs o' v r) (hf:o'+4≤o∨o+4≤o') (x y z:Int):Ar4 (((cs.setIfInBounds o (.int .i64 x)).setIfInBounds (o+2) (.int .i64 y)).setIfInBounds (o+3) (.int .i64 z)) o' v r:=
 ⟨ar_other (ar_other (ar_other h.1 (by omega)) (by omega)) (by omega),ar_other (ar_other (ar_other h.2.1 (by omega)) (by omega)) (by omega),ar_other (ar_other (ar_other h.2.2.1 (by omega)) (by omega)) (by omega),ar_other (ar_other (ar_other h.2.2.2 (by omega)) (by omega)) (by omega)⟩
structure Rp (w:World) (base:Nat) (a:Option Addr) (n:Nat) (f:Nat→Rw3) (V:Nat→Int × Int × Int) (X:Nat→List Int):Prop where
 head:n≠0→∃ g cs,a=some ⟨g,0,none⟩∧¬ Sr f n g∧Blk w g cs 43∧∀ i,i<n→Ar4 cs (i * 4) (V i) (f i)
 rows:∀ i,i<n→OI w base (svR (f i)) (X i)
 apart:∀ i j,i<n→j<n→i≠j→∀ k,(svR (f i)).ownBlock=some k→(svR (f j)).ownBlock≠some k
 hb:n≠0→∀ g,a=some ⟨g,0,none⟩→base≤g
def Sp (a:Option Addr) (f:Nat→Rw3) (n j:Nat):Prop:=Sr f n j∨(n≠0∧∃ g,a=some ⟨g,0,none⟩∧j=g)
theorem Rp.kept {w w':World} {base:Nat} {a:Option Addr} {n:Nat} {f:Nat→Rw3} {V:Nat→Int × Int × Int} {X:Nat→List Int} {S:Nat→Prop} (h:Rp w base a n f V X) (t:Turn S w w') (hs:∀ i,i<n→∀ k,(svR (f i)).ownBlock=some k→¬ S k) (hh:n≠0→∀ g cs,a=some ⟨g,0,none⟩→Blk w g cs 43→¬ S g):Rp w' base a n f V X:=
 ⟨fun hn=>by obtain ⟨g,cs,ha,h1,h2,h3⟩:=h.head hn;exact ⟨g,cs,ha,h1,turn_blk t h2 (hh hn g cs ha h2),h3⟩,fun i hi=>turn_oi t (h.rows i hi) (hs i hi),h.apart,h.hb⟩
theorem Rp.step {wr w1:World} {base g n m:Nat} {f:Nat→Rw3} {V V':Nat→Int × Int × Int} {X X':Nat→List Int} {cs:Array Value} (h:Rp wr base (some ⟨g,0,none⟩) n f V X) (hng:¬ Sr f n g) (hb:Blk wr g cs 43) (hc:∀ i,i<n→Ar4 cs (i * 4) (V i) (f i)) (hm:m<n) (x y z:Int)
 (hV:∀ i,i≠m→V' i=V i) (hVm:V' m=(x,y,z)) (hX:∀ i,i≠m→X' i=X i) (T1:Turn (fun j=>(svR (f m)).ownBlock=some j) (wr.setCell ⟨g,m * 4,none⟩ (.int .i64 x)) w1) (O1:OI w1 base (svR (f m)) (X' m)):
 Rp ((w1.setCell ⟨g,m * 4+2,none⟩ (.int .i64 y)).setCell ⟨g,m * 4+3,none⟩ (.int .i64 z)) base (some ⟨g,0,none⟩) n f V' X':=by
 have T2:Turn (fun j=>j=g) w1 ((w1.setCell ⟨g,m * 4+2,none⟩ (.int .i64 y)).setCell ⟨g,m * 4+3,none⟩ (.int .i64 z)):=(turn_set _ _ _ _).trans (turn_set _ _ _ _)
 have T0:Turn (fun j=>j=g) wr (wr.setCell ⟨g,m * 4,none⟩ (.int .i64 x)):=turn_set _ _ _ _
 have b1:=turn_blk T1 (hb.set (m * 4) (.int .i64 x)) (fun e=>hng ⟨m,hm,e⟩)
 refine ⟨fun _=>⟨g,_,rfl,hng,(b1.set (m * 4+2) _).set (m * 4+3) _,fun i hi=>?_⟩,fun i hi=>?_,h.apart,h.hb⟩
 ·by_cases e:i=m
  ·subst e;rw [hVm];exact ar4_set (hc i hi) x y z
  ·rw [hV i e];exact ar4_far (hc i hi) (by omega) x y z
 ·by_cases e:i=m
  ·subst e
   exact turn_oi T2 O1 (fun k hk s=>hng ⟨i,hi,by rw [← s];exact hk⟩)
  ·rw [hX i e]
   have o0:=turn_oi T0 (h.rows i hi) (fun k hk s=>hng ⟨i,hi,by rw [← s];exact hk⟩)
   have o1:=turn_oi T1 o0 (fun q hq hq'=>h.apart i m hi hm e q hq hq')
   exact turn_oi T2 o1 (fun k hk s=>hng ⟨i,hi,by rw [← s];exact hk⟩)
def Ar8 (cs:Array Value) (o:Nat) (m:Md):Prop:=(∃ u,cs[o]?=some u)∧cs[o+1]?=some (.slice m.ta m.tn m.tc)∧cs[o+2]?=some (.slice m.ba m.bn m.bc)∧cs[o+3]?=some (.slice m.da m.dn m.dc)∧(∃ u,cs[o+4]?=some u)∧cs[o+5]?=some (.slice m.ra m.rn m.rc)∧cs[o+6]?=some (.slice m.ia m.im m.ic)∧cs[o+7]?=some (.slice m.ea m.en m.ec)
theorem ar_ex {cs:Array Value} {i j:Nat} {v:Value} (h:∃ u,cs[j]?=some u):∃ u,(cs.setIfInBounds i v)[j]?=some u:=by
 obtain ⟨u,h⟩:=h
 by_cases e:i=j
 ·subst e;exact ⟨v,ar_same h⟩
 ·exact ⟨u,ar_other h e⟩
theorem ar8_set {cs:Array Value} {o i j:Nat} {m:Md} {v:Value} (h:Ar8 cs (o * 8) m) (hj:j=0∨j=4):Ar8 (cs.setIfInBounds (i * 8+j) v) (o * 8) m:=
 ⟨ar_ex h.1,ar_other h.2.1 (by omega),ar_other h.2.2.1 (by omega),ar_other h.2.2.2.1 (by omega),ar_ex h.2.2.2.2.1,ar_other h.2.2.2.2.2.1 (by omega),ar_other h.2.2.2.2.2.2.1 (by omega),ar_other h.2.2.2.2.2.2.2 (by omega)⟩
structure Rws (S:Nat→Prop) (W:World) (c:Nat) (m:Md) (f:Nat→Rw3):Prop where
 t:Sl S W m.ta m.tn 1
 b:SlB S W m.ba m.bn f
 d:Sl S W m.da m.dn 1
 r:Sl S W m.ra m.rn 1
 i:Sl S W m.ia m.im 1
 e:Sl S W m.ea m.en 3
 g:∀ g o,m.ba=some ⟨g,o,none⟩→g≠c
theorem Rws.kept {S:Nat→Prop} {W W':World} {c:Nat} {m:Md} {f:Nat→Rw3} (h:Rws S W c m f) (k:Mkd S W W'):Rws S W' c m f:=
 ⟨h.t.shp k.shp,h.b.kept k,h.d.shp k.shp,h.r.shp k.shp,h.i.shp k.shp,h.e.shp k.shp,h.g⟩
theorem Rws.set {S:Nat→Prop} {W:World} {c:Nat} {m:Md} {f:Nat→Rw3} (h:Rws S W c m f) (i:Nat) (v:Value):Rws S (W.setCell ⟨c,i,none⟩ v) c m f:=
 have sh:=Shp.set W c i v
 ⟨h.t.shp sh,⟨fun hn=>by obtain ⟨g,o,cs,t,ha,hs,hb,hl⟩:=h.b.head hn;exact ⟨g,o,cs,t,ha,hs,hb.other _ _ (h.g g o ha),hl⟩,fun i hi=>(h.b.rows i hi).shp sh⟩,h.d.shp sh,h.r.shp sh,h.i.shp sh,h.e.shp sh,h.g⟩
structure Mrs (S:Nat→Prop) (W:World) (c n:Nat) (ms:List Md) (F:Nat→Nat→Rw3):Prop where
 nc:¬ S c
 head:∃ cs,Blk W c cs 49∧∀ i,i<n→Ar8 cs (i * 8) (ms.getD i zMd)
 rows:∀ i,i<n→Rws S W c (ms.getD i zMd) (F i)
theorem Mrs.kept {S:Nat→Prop} {W W':World} {c n:Nat} {ms:List Md} {F:Nat→Nat→Rw3} (h:Mrs S W c n ms F) (k:Mkd S W W'):Mrs S W' c n ms F:=
 ⟨h.nc,by obtain ⟨cs,hb,hc⟩:=h.head;exact ⟨cs,turn_blk k.turn hb h.nc,hc⟩,fun i hi=>(h.rows i hi).kept k⟩
theorem Mrs.set {S:Nat→Prop} {W:World} {c n:Nat} {ms:List Md} {F:Nat→Nat→Rw3} (h:Mrs S W c n ms F) (i j:Nat) (hj:j=0∨j=4) (v:Value):Mrs S (W.setCell ⟨c,i * 8+j,none⟩ v) c n ms F:=
 ⟨h.nc,by obtain ⟨cs,hb,hc⟩:=h.head;exact ⟨_,hb.set _ _,fun o ho=>ar8_set (hc o ho) hj⟩,fun o ho=>(h.rows o ho).set _ _⟩
theorem Mrs.at {S:Nat→Prop} {W:World} {c n:Nat} {ms:List Md} {F:Nat→Nat→Rw3} (h:Mrs S W c n ms F) (i:Nat) (hi:i<n):(∃ u,W.cell? ⟨c,i * 8,none⟩=some u)∧W.cell? ⟨c,i * 8+1,none⟩=some (.slice (ms.getD i zMd).ta (ms.getD i zMd).tn (ms.getD i zMd).tc)∧W.cell? ⟨c,i * 8+2,none⟩=some (.slice (ms.getD i zMd).ba (ms.getD i zMd).bn (ms.getD i zMd).bc)∧W.cell? ⟨c,i * 8+3,none⟩=some (.slice (ms.getD i zMd).da (ms.getD i zMd).dn (ms.getD i zMd).dc)∧(∃ u,W.cell? ⟨c,i * 8+4,none⟩=some u)∧W.cell? ⟨c,i * 8+5,none⟩=some (.slice (ms.getD i zMd).ra (ms.getD i zMd).rn (ms.getD i zMd).rc)∧W.cell? ⟨c,i * 8+6,none⟩=some (.slice (ms.getD i zMd).ia (ms.getD i zMd).im (ms.getD i zMd).ic)∧W.cell? ⟨c,i * 8+7,none⟩=some (.slice (ms.getD i zMd).ea (ms.getD i zMd).en (ms.getD i zMd).ec)∧∀ j,W.frozen? ⟨c,j,none⟩=false:=by
 obtain ⟨cs,hb,hc⟩:=h.head
 obtain ⟨⟨u,h0⟩,h1,h2,h3,⟨u4,h4⟩,h5,h6,h7⟩:=hc i hi
 exact ⟨⟨u,(hb.cell _).trans h0⟩,(hb.cell _).trans h1,(hb.cell _).trans h2,(hb.cell _).trans h3,⟨u4,(hb.cell _).trans h4⟩,(hb.cell _).trans h5,(hb.cell _).trans h6,(hb.cell _).trans h7,fun j=>hb.frozen j⟩
def Byt (zs:List Int):Prop:=∀ z ∈ zs,0≤z∧z≤255
theorem Byt.drop {zs:List Int} (h:Byt zs) (k:Nat):Byt (zs.drop k):=fun z hz=>h z (List.mem_of_mem_drop hz)
theorem Byt.take {zs:List Int} (h:Byt zs) (k:Nat):Byt (zs.take k):=fun z hz=>h z (List.mem_of_mem_take hz)
def Wd (x:Int):Prop:=0≤x∧x≤4294967295
structure PmR (P:PMod):Prop where
 n:P.nm.size≤255
 t:P.tz.length≤65535∧∀ x ∈ P.tz,Wd x
 b:P.bl.length≤255∧∀ l ∈ P.bl,l.length≤65535∧∀ x ∈ l,Wd x
 d:P.dz.length≤65535∧Byt P.dz
 s:0≤P.bss∧P.bss≤65535
 r:P.rz.length≤255∧∀ x ∈ P.rz,0≤x∧x≤65535
 i:P.ss.length≤255∧∀ s ∈ P.ss,s.size≤255
 e:P.es.length≤255∧∀ x ∈ P.es,x.1.size≤255∧-1≤x.2.1∧x.2.1≤254∧0≤x.2.2∧x.2.2≤65535
end Go.Proofs.YtngdgogjlpjjpadGreat
