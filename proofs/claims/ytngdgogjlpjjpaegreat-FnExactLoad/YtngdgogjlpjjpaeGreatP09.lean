import Derived.Test.YtngdgogjlpjjpaeGreatP01
import Derived.Test.YtngdgogjlpjjpaeGreatP02
import Derived.Test.YtngdgogjlpjjpaeGreatP08
set_option maxHeartbeats 4000000
namespace Go.Proofs.YtngdgogjlpjjpaeGreat
open Go.RowKit
set_option linter.unusedVariables false
set_option linter.unusedSimpArgs false
set_option maxRecDepth 100000
structure MD (w:World)(nm:ByteArray)(ta:Option Addr)(tn tc:Nat)(tz:List Int)(ba:Option Addr)(bn bc:Nat)(bl:List Bk)(da:Option Addr)(dn dc:Nat)(dz:List Int)(bss:Int)(ra:Option Addr)(rn rc:Nat)(rz:List Int)(ia:Option Addr)(im ic:Nat)(ss:List ByteArray)(ea:Option Addr)(en ec:Nat)(es:List Ex):Prop where
 n:nm.size≤1048576
 t:IS w ta tn tc tz
 b:BKS w ba bn bc bl
 d:BS w da dn dc dz
 s:wfi bss
 r:IS w ra rn rc rz
 i:SS w ia im ic ss
 e:ES w ea en ec es
theorem MD.below {w w':World}{nm:ByteArray}{ta:Option Addr}{tn tc:Nat}{tz:List Int}{ba:Option Addr}{bn bc:Nat}{bl:List Bk}{da:Option Addr}{dn dc:Nat}{dz:List Int}{bss:Int}{ra:Option Addr}{rn rc:Nat}{rz:List Int}{ia:Option Addr}{im ic:Nat}{ss:List ByteArray}{ea:Option Addr}{en ec:Nat}{es:List Ex}
 (h:MD w nm ta tn tc tz ba bn bc bl da dn dc dz bss ra rn rc rz ia im ic ss ea en ec es) (hb:Below w.heap.size w w'):MD w' nm ta tn tc tz ba bn bc bl da dn dc dz bss ra rn rc rz ia im ic ss ea en ec es:=
 ⟨h.n,h.t.below hb,h.b.below hb,h.d.below hb,h.s,h.r.below hb,h.i.below hb,h.e.below hb⟩
def mdo (nm:ByteArray)(tn:Nat)(tz:List Int)(bn:Nat)(bl:List Bk)(dn:Nat)(bss:Int)(rn:Nat)(rz:List Int)(im:Nat)(ss:List ByteArray)(en:Nat)(es:List Ex):Int:=
 if nmo nm=false then 1 else if cdo tn tz bn bl=false then 2 else if 512<dn∨bss<0∨512<bss then 3 else if rlo rn rz dn=false then 4 else if imo im ss=false then 5 else if exo tn bn bl en es=false then 6 else 0
theorem sModuleOk_any (nm:ByteArray)(ta:Option Addr)(tn tc:Nat)(tz:List Int)(ba:Option Addr)(bn bc:Nat)(bl:List Bk)(da:Option Addr)(dn dc:Nat)(dz:List Int)(bss:Int)(ra:Option Addr)(rn rc:Nat)(rz:List Int)(ia:Option Addr)(im ic:Nat)(ss:List ByteArray)(ea:Option Addr)(en ec:Nat)(es:List Ex)(w:World)
 (h:MD w nm ta tn tc tz ba bn bc bl da dn dc dz bss ra rn rc rz ia im ic ss ea en ec es):
 Calls Tryz.prog 154 #[.agg #[.string nm,.slice ta tn tc,.slice ba bn bc,.slice da dn dc,.int .i64 bss,.slice ra rn rc,.slice ia im ic,.slice ea en ec]] w fun e w'=>e=.returned (.int .i64 (mdo nm tn tz bn bl dn bss rn rz im ss en es))∧Below w.heap.size w w':=by
 obtain ⟨W,hW⟩:∃ W,W=w.alloc (.cells #[.string nm,.slice ta tn tc,.slice ba bn bc,.slice da dn dc,.int .i64 bss,.slice ra rn rc,.slice ia im ic,.slice ea en ec] 104):=⟨_,rfl⟩
 have hB0:Below w.heap.size w W:=by rw [hW];exact (Below.refl _ _).alloc (Nat.le_refl _) _
 have kb:Blk W w.heap.size #[.string nm,.slice ta tn tc,.slice ba bn bc,.slice da dn dc,.int .i64 bss,.slice ra rn rc,.slice ia im ic,.slice ea en ec] 104:=by rw [hW];exact Blk.new _ _ _
 obtain ⟨r,hr⟩:∃ r,r=mdo nm tn tz bn bl dn bss rn rz im ss en es:=⟨_,rfl⟩
 rw [← hr]
 unfold mdo at hr
 have HRR:=hide hr
 clear hr
 have H0:=h.below hB0
 have hmd:=h.d.2.1
 have hmi:=h.i.2.1
 have htn:=h.t.2.1
 have HN:=hide (fun w=>l4NameOk_any nm w h.n)
 have HCd:=hide (fun w ht hb=>l4CodeOk_any nm ta tn tc tz ba bn bc bl (.slice da dn dc) (.slice ra rn rc) (.slice ia im ic) (.slice ea en ec) bss w ht hb)
 have HRl:=hide (fun w h=>l4RelocsOk_any nm (.slice ta tn tc) (.slice ba bn bc) da dn dc bss ra rn rc rz (.slice ia im ic) (.slice ea en ec) w hmd h)
 have HEx:=hide (fun w hb h=>l4ExportsOk_any nm ta tn tc ba bn bc bl (.slice da dn dc) (.slice ra rn rc) (.slice ia im ic) bss ea en ec es w htn hb h)
 unfold maxLen at hmd hmi
 have hsz:=h.i.size
 have HFU:=hide (fun k w=>l4FullOk_any (ss.getD k zS) w (hsz k))
 obtain ⟨s0,s1⟩:=h.s
 clear h hsz htn
 have HW:=hide hW
 clear hW
 generalize nmo nm=a1 at *
 generalize cdo tn tz bn bl=a2 at *
 generalize rlo rn rz dn=a4 at *
 generalize exo tn bn bl en es=a6 at *
 obtain ⟨q0,q1,q2,q3,q4,q5,q6,q7⟩:=kb.eight
 go_enter Tryz.func154,Tryz.ntmps154
 go_wp2_with (first | (rw [← HW.out]) | (go_at_call 214;refine (HN.out _).mono ?_;rintro e w1 ⟨rfl,rfl⟩;cases a1))
 ·have e:=hide (show r=1 from by rw [HRR.out];simp)
  go_ret
  exact ⟨ret_int e.out.symm,hB0⟩
 ·refine (HCd.out _ H0.t H0.b).mono ?_
  rintro e w2 ⟨rfl,hb2⟩
  have kb2:=kb.below hb2
  have H2:=H0.below hb2
  have hB2:=hB0.trans (hb2.mono hB0.size)
  clear hb2 kb H0 hB0 q0 q1 q2 q3 q4 q5 q6 q7
  obtain ⟨q0,q1,q2,q3,q4,q5,q6,q7⟩:=kb2.eight
  cases a2
  ·have e:=hide (show r=2 from by rw [HRR.out];simp)
   go_wp2
   go_ret
   exact ⟨ret_int e.out.symm,hB2⟩
  ·by_cases c1:512<dn
   ·have e:=hide (show r=3 from by rw [HRR.out];simp [c1])
    have c1':(512:Int)<(dn:Int):=by omega
    go_wp2
    go_ret
    exact ⟨ret_int e.out.symm,hB2⟩
   ·have c1':¬ (512:Int)<(dn:Int):=by omega
    by_cases c2:bss<0
    ·have e:=hide (show r=3 from by rw [HRR.out];simp [c2])
     go_wp2
     go_ret
     exact ⟨ret_int e.out.symm,hB2⟩
    ·by_cases c3:512<bss
     ·have e:=hide (show r=3 from by rw [HRR.out];simp [c3])
      go_wp2
      go_ret
      exact ⟨ret_int e.out.symm,hB2⟩
     ·have HR2:=hide (show r=if a4=false then 4 else if imo im ss=false then 5 else if a6=false then 6 else 0 from by
       rw [HRR.out]
       simp only [Bool.true_eq_false,if_false,show ¬ (512<dn∨bss<0∨512<bss) by omega])
      clear HRR
      go_wp2_with fail
      refine (HRl.out _ H2.r).mono ?_
      rintro e w3 ⟨rfl,hb3⟩
      have kb3:=kb2.below hb3
      have H3:=H2.below hb3
      have hB3:=hB2.trans (hb3.mono hB2.size)
      clear hb3 kb2 H2 hB2 q0 q1 q2 q3 q4 q5 q6 q7
      obtain ⟨q0,q1,q2,q3,q4,q5,q6,q7⟩:=kb3.eight
      cases a4
      ·have e:=hide (show r=4 from by rw [HR2.out];simp)
       go_wp2
       go_ret
       exact ⟨ret_int e.out.symm,hB3⟩
      ·by_cases d1:16<im
       ·have e:=hide (show r=5 from by rw [HR2.out,show imo im ss=false by unfold imo;rw [decide_eq_false (by omega)];rfl];simp)
        have d1':(16:Int)<(im:Int):=by omega
        go_wp2
        go_ret
        exact ⟨ret_int e.out.symm,hB3⟩
       ·have d1':¬ (16:Int)<(im:Int):=by omega
        have HIM:=hide (show imo im ss=(List.range im).all (fun k=>full (ss.getD k zS)) from by unfold imo;rw [decide_eq_true (by omega)];rfl)
        go_wp2_with fail
        go_loop [3] (fun i=>∃ k:Nat,k≤im∧i=.int .i64 k∧Hid (∀ j,j<k→full (ss.getD j zS)=true)) (fun i=>im - (intOf i).toNat)
        case atStart=>exact ⟨0,Nat.zero_le _,rfl,hide (fun j hj=>by omega)⟩
        case round=>
         obtain ⟨k,hk,rfl,HJ⟩:=hrel
         by_cases hlt:k<im
         ·have hlt':(k:Int)<(im:Int):=by omega
          obtain ⟨bb,off,rfl⟩:=H3.i.addr (by omega)
          have hck:=H3.i.at k hlt
          have HZ:=hide (rng_bad (fun k=>full (ss.getD k zS)) im k hlt)
          have HG:=hide (show full (ss.getD k zS)=true→∀ j,j<k+1→full (ss.getD j zS)=true from fun h j hj=>by
           by_cases e:j=k
           ·subst e;exact h
           ·exact HJ.out j (by omega))
          have HF:=hide (HFU.out k)
          generalize ss.getD k zS=s at *
          cases hf:full s
          ·rw [hf] at HF
           have e:=hide (show r=5 from by rw [HR2.out,HIM.out,HZ.out hf];simp)
           go_wp2_with (go_at_call 217;refine (HF.out _).mono ?_;rintro e w4 ⟨rfl,rfl⟩)
           go_ret
           exact ⟨ret_int e.out.symm,hB3⟩
          ·rw [hf] at HF
           go_wp2_with (go_at_call 217;refine (HF.out _).mono ?_;rintro e w4 ⟨rfl,rfl⟩)
           go_round
           case rel=>exact ⟨k+1,by omega,by go_num,hide (HG.out hf)⟩
           case measure=>simp [intOf];omega
         ·have HI:=hide (show imo im ss=true from by rw [HIM.out];exact rng_good (fun k=>full (ss.getD k zS)) im (fun j hj=>HJ.out j (by omega)))
          go_wp2_with fail
          refine (HEx.out _ H3.b H3.e).mono ?_
          rintro e w5 ⟨rfl,hb5⟩
          have hB5:=hB3.trans (hb5.mono hB3.size)
          cases a6
          ·have e:=hide (show r=6 from by rw [HR2.out,HI.out];simp)
           go_wp2
           go_ret
           exact ⟨ret_int e.out.symm,hB5⟩
          ·have e:=hide (show r=0 from by rw [HR2.out,HI.out];simp)
           go_wp2
           go_ret
           exact ⟨ret_int e.out.symm,hB5⟩
theorem getD_snoc_lt (gs:List Nat)(x i:Nat)(h:i<gs.length):(gs++[x]).getD i 0=gs.getD i 0:=by
 simp [List.getD_eq_getElem?_getD,List.getElem?_append_left h]
theorem getD_snoc (gs:List Nat)(x:Nat):(gs++[x]).getD gs.length 0=x:=by
 simp [List.getD_eq_getElem?_getD]
def reb (gs:List Nat)(bl:List Bk):List Bk:=(List.range bl.length).map fun i=>(some ⟨gs.getD i 0,0,none⟩,(bl.getD i zB).2.1,(bl.getD i zB).2.1,(bl.getD i zB).2.2.2)
theorem reb_len (gs:List Nat)(bl:List Bk):(reb gs bl).length=bl.length:=by simp [reb]
theorem reb_at (gs:List Nat)(bl:List Bk)(i:Nat)(hi:i<bl.length):(reb gs bl).getD i zB=(some ⟨gs.getD i 0,0,none⟩,(bl.getD i zB).2.1,(bl.getD i zB).2.1,(bl.getD i zB).2.2.2):=by
 simp [reb,List.getD_eq_getElem?_getD,hi]
theorem reb_bko (gs:List Nat)(bl:List Bk):(reb gs bl).all bko=bl.all bko:=by
 have key:∀ i,i<bl.length→bko ((reb gs bl).getD i zB)=bko (bl.getD i zB):=fun i hi=>by rw [reb_at _ _ _ hi];rfl
 cases h:bl.all bko
 ·obtain ⟨x,hx,hb⟩:=List.all_eq_false.1 h
  obtain ⟨i,hi,rfl⟩:=List.getElem_of_mem hx
  exact all_bad _ i (by rw [reb_len];exact hi) (by rw [key i hi];simpa [List.getD_eq_getElem?_getD,hi] using hb)
 ·refine all_good _ fun j hj=>?_
  rw [reb_len] at hj
  rw [key j hj]
  have:=List.all_eq_true.1 h _ (List.getElem_mem hj)
  simpa [List.getD_eq_getElem?_getD,hj] using this
theorem reb_cdo (gs:List Nat)(tn:Nat)(tz:List Int)(bn:Nat)(bl:List Bk):cdo tn tz bn (reb gs bl)=cdo tn tz bn bl:=by unfold cdo;rw [reb_bko]
theorem reb_pcn (gs:List Nat)(tn bn:Nat)(bl:List Bk)(b:Int)(h:bl.length=bn):pcn tn bn (reb gs bl) b=pcn tn bn bl b:=by
 unfold pcn
 split
 ·rfl
 ·split
  ·rename_i h1 h2
   rw [reb_at _ _ _ (by omega)]
  ·rfl
theorem reb_exo (gs:List Nat)(tn bn:Nat)(bl:List Bk)(n:Nat)(es:List Ex)(h:bl.length=bn):exo tn bn (reb gs bl) n es=exo tn bn bl n es:=by
 unfold exo ex1
 congr 2
 funext i
 rw [reb_pcn _ _ _ _ _ h]
theorem reb_mdo (gs:List Nat)(nm:ByteArray)(tn:Nat)(tz:List Int)(bn:Nat)(bl:List Bk)(dn:Nat)(bss:Int)(rn:Nat)(rz:List Int)(im:Nat)(ss:List ByteArray)(en:Nat)(es:List Ex)(h:bl.length=bn):
 mdo nm tn tz bn (reb gs bl) dn bss rn rz im ss en es=mdo nm tn tz bn bl dn bss rn rz im ss en es:=by
 unfold mdo
 rw [reb_cdo,reb_exo _ _ _ _ _ _ h]
theorem infoB:(Tryz.prog.info? 24).map (fun i=>(i.zero,i.size,i.bytes))=some (some (.slice none 0 0),1,24):=by kernel_rfl
theorem eqIntSS_same (a a':Option Addr)(n cap cap':Nat)(bl bl':List Bk)(w:World)(h:BKS w a n cap bl)(h':BKS w a' n cap' bl')(hz:∀ i,i<n→(bl'.getD i zB).2.1=(bl.getD i zB).2.1∧(bl'.getD i zB).2.2.2=(bl.getD i zB).2.2.2):
 Calls Tryz.prog 144 #[.slice a n cap,.slice a' n cap'] w fun e w'=>e=.returned (.bool true)∧Below w.heap.size w w':=by
 have hmx:=h.2.1
 unfold maxLen at hmx
 have hne:((n:Int) != (n:Int))=false:=by simp
 go_enter Tryz.func144,Tryz.ntmps144
 go_wp2
 go_loopw [5] (fun i wr=>∃ k:Nat,k≤n∧i=.int .i64 k∧Below w.heap.size w wr) (fun i _=>n - (intOf i).toNat)
 case atStart=>exact ⟨0,Nat.zero_le _,rfl,Below.refl _ _⟩
 case round=>
  obtain ⟨k,hk,rfl,hB⟩:=hrel
  by_cases hlt:k<n
  ·have hlt':(k:Int)<(n:Int):=by omega
   obtain ⟨b,off,rfl⟩:=h.addr (by omega)
   obtain ⟨b',off',rfl⟩:=h'.addr (by omega)
   have q1:=(h.below hB).at k hlt
   have p1:=(h'.below hB).at k hlt
   have i1:=(h.below hB).2.2.2.1 k hlt
   have i2:=(h'.below hB).2.2.2.1 k hlt
   obtain ⟨z1,z2⟩:=hz k hlt
   rw [z1,z2] at i2
   rw [z1] at p1
   clear z1 z2
   generalize (bl.getD k zB).1=xa at *
   generalize (bl.getD k zB).2.1=xn at *
   generalize (bl.getD k zB).2.2.1=xc at *
   generalize (bl.getD k zB).2.2.2=xz at *
   generalize (bl'.getD k zB).1=ya at *
   generalize (bl'.getD k zB).2.2.1=yc at *
   have HE:=hide (fun w h k=>eqIntS_any xa ya xn xc xn yc xz xz w h k)
   rw [decide_eq_true rfl] at HE
   go_wp2
   go_region_held3 (fun w'=>w'.cell? ⟨b,off+k,none⟩=some (.slice xa xn xc)∧w'.cell? ⟨b',off'+k,none⟩=some (.slice ya xn yc)) (go_keep)
    (first
      | (go_at_call 60;refine (HE.out _ (by exact i1) (by exact i2)).mono ?_;rintro e w1 ⟨rfl,hb1⟩;replace hb1:=undrew hb1;obtain ⟨hc1,hf1⟩:=bcell hb1;have hlb:=World.block_lt_of_cell? _ _ q1;have hlb':=World.block_lt_of_cell? _ _ p1))
   clear hc1 hf1 q1 p1
   go_wp2
   go_roundw
   case rel=>exact ⟨k+1,by omega,by go_num,hB.trans (hb1.mono hB.size)⟩
   case measure=>simp [intOf];omega
  ·go_wp2
   go_ret
   exact ⟨rfl,hB⟩
structure PMod where
 nm:ByteArray
 tz:List Int
 bl:List (List Int)
 dz:List Int
 bss:Int
 rz:List Int
 ss:List ByteArray
 es:List Ex
def bkOf (bl:List (List Int)):List Bk:=bl.map fun l=>(none,l.length,l.length,l)
def mdoP (P:PMod):Int:=mdo P.nm P.tz.length P.tz P.bl.length (bkOf P.bl) P.dz.length P.bss P.rz.length P.rz P.ss.length P.ss P.es.length P.es
theorem mdo_bks {nm:ByteArray}{tn:Nat}{tz:List Int}{bl bl':List Bk}{dn:Nat}{bss:Int}{rn:Nat}{rz:List Int}{im:Nat}{ss:List ByteArray}{en:Nat}{es:List Ex}(hl:bl.length=bl'.length)(h:∀ i,i<bl.length→(bl.getD i zB).2.1=(bl'.getD i zB).2.1∧(bl.getD i zB).2.2.2=(bl'.getD i zB).2.2.2):
 mdo nm tn tz bl.length bl dn bss rn rz im ss en es=mdo nm tn tz bl.length bl' dn bss rn rz im ss en es:=by
 have e:reb [] bl=reb [] bl':=by
  unfold reb
  rw [← hl]
  apply List.map_congr_left
  intro i hi
  have:=h i (by simpa using hi)
  rw [this.1,this.2]
 rw [← reb_mdo [] nm tn tz bl.length bl dn bss rn rz im ss en es rfl,e,reb_mdo [] nm tn tz bl.length bl' dn bss rn rz im ss en es hl.symm]
theorem turn_set (w:World)(g i:Nat)(v:Value):Turn (fun j=>j=g) w (w.setCell ⟨g,i,none⟩ v):=⟨rfl,rfl,rfl,by rw [size_setCell];exact Nat.le_refl _,fun k _ hk=>heap_setCell_other _ _ _ _ hk⟩
def OG {α:Type}(t:TypeId)(sz:Nat)(f:α→List Value)(w:World)(base:Nat)(v:Value)(xs:List α):Prop:=w.ownsRow base t sz v xs.length (xs.flatMap f)
theorem OG.below {α:Type}{t:TypeId}{sz:Nat}{f:α→List Value}{w w':World}{base:Nat}{v:Value}{xs:List α}(h:OG t sz f w base v xs)(hb:Below w.heap.size w w'):OG t sz f w' base v xs:=by
 obtain ⟨hl,h0 | ⟨g,cap,cur,hv,hg,hh,h1,h2,h3,h4⟩⟩:=h
 ·exact ⟨hl,.inl h0⟩
 ·exact ⟨hl,.inr ⟨g,cap,cur,hv,hg,Blk.below (w:=w) hh hb,h1,h2,h3,h4⟩⟩
theorem OG.mono {α:Type}{t:TypeId}{sz:Nat}{f:α→List Value}{w:World}{base base':Nat}{v:Value}{xs:List α}(h:OG t sz f w base v xs)(hb:base'≤base):OG t sz f w base' v xs:=by
 obtain ⟨hl,h0 | ⟨g,cap,cur,hv,hg,hh,h1,h2,h3,h4⟩⟩:=h
 ·exact ⟨hl,.inl h0⟩
 ·exact ⟨hl,.inr ⟨g,cap,cur,hv,by omega,hh,h1,h2,h3,h4⟩⟩
theorem OG.turn {α:Type}{t:TypeId}{sz:Nat}{f:α→List Value}{S:Nat→Prop}{w w':World}{base:Nat}{v:Value}{xs:List α}(h:OG t sz f w base v xs)(ht:Turn S w w')(hS:∀ k,S k→¬ base≤k):OG t sz f w' base v xs:=by
 obtain ⟨hl,h0 | ⟨g,cap,cur,hv,hg,hh,h1,h2,h3,h4⟩⟩:=h
 ·exact ⟨hl,.inl h0⟩
 ·exact ⟨hl,.inr ⟨g,cap,cur,hv,hg,turn_blk (w:=w) ht hh (fun s=>hS g s hg),h1,h2,h3,h4⟩⟩
theorem OG.lt {α:Type}{t:TypeId}{sz:Nat}{f:α→List Value}{w:World}{base:Nat}{v:Value}{xs:List α}(h:OG t sz f w base v xs):∀ k,v.ownBlock=some k→base≤k∧k<w.heap.size:=World.ownsRow.lt h
theorem og_nil {α:Type}(t:TypeId)(sz:Nat)(f:α→List Value)(w:World)(base:Nat):OG t sz f w base (.slice none 0 0) []:=⟨by simp,.inl ⟨rfl,rfl⟩⟩
theorem og_shape {α:Type}{t:TypeId}{sz:Nat}{f:α→List Value}{w:World}{base:Nat}{v:Value}{xs:List α}(h:OG t sz f w base v xs):∃ a c,v=.slice a xs.length c:=by
 obtain ⟨hl,⟨h0,h1⟩ | ⟨g,cap,cur,hv,_⟩⟩:=h
 ·exact ⟨none,0,by rw [h0,h1]⟩
 ·exact ⟨_,_,hv⟩
theorem turn_grown {S:Nat→Prop}{w W W':World}{row:Option Nat}(h:Turn S w W)(hg:W.grownBy W' row)(hr:∀ k,row=some k→w.heap.size≤k):Turn S w W':=
 ⟨hg.os.trans h.os,hg.tape.trans h.tape,hg.output.trans h.output,Nat.le_trans h.size hg.size,fun k hk hs=>(hg.block k (Nat.lt_of_lt_of_le hk h.size) (fun e=>by have:=hr k e.symm;omega)).trans (h.block k hk hs)⟩
theorem cells_new (w:World)(cs:Array Value)(t:TypeId)(xs:List Value)(h:cs=xs.toArray):∀ j u,xs[j]?=some u→(w.alloc (.cells cs t)).cell? ((⟨w.heap.size,0,none⟩:Addr).add j)=some u:=by
 intro j u hj
 subst h
 rw [addr_add,Nat.zero_add,Blk.cell (Blk.new w _ _)]
 simpa using hj
def clI (x:Int):List Value:=[.int .i64 x]
def clT (x:ByteArray):List Value:=[.string x]
def clX (x:Ex):List Value:=[.string x.1,.int .i64 x.2.1,.int .i64 x.2.2]
theorem turn_new' {S:Nat→Prop}{w W:World}(h:Turn S w W){k:Nat}(hk:w.heap.size≤k)(i:Nat)(v:Value):Turn S w (W.setCell ⟨k,i,none⟩ v):=
 ⟨h.os,h.tape,h.output,by rw [size_setCell];exact h.size,fun j hj hs=>by rw [heap_setCell_other _ _ _ _ (by show j≠k;omega)];exact h.block j hj hs⟩
structure OBk (w:World)(base:Nat)(v:Value)(bl:List Bk):Prop where
 head:w.ownsRow base 24 1 v bl.length (bl.map fun B=>Value.slice B.1 B.2.1 B.2.2.1)
 rows:∀ B ∈ bl,B.2.1=B.2.2.2.length∧OG 3 1 clI w base (.slice B.1 B.2.1 B.2.2.1) B.2.2.2
 apart:bl.Pairwise fun A B=>∀ k,(Value.slice A.1 A.2.1 A.2.2.1).ownBlock=some k→(Value.slice B.1 B.2.1 B.2.2.1).ownBlock≠some k
theorem own_kind {w:World}{base n sz:Nat}{t:TypeId}{v:Value}{xs:List Value}{k:Nat}(h:w.ownsRow base t sz v n xs)(hk:v.ownBlock=some k):∃ cur,Blk w k cur t:=by
 obtain ⟨hl,⟨h0,_⟩ | ⟨g,cap,cur,hv,_,hh,_⟩⟩:=h
 ·subst h0;simp [Value.ownBlock] at hk
 ·subst hv
  simp [Value.ownBlock] at hk
  subst hk
  exact ⟨cur,hh⟩
theorem blk_kind {w:World}{k:Nat}{cs cs':Array Value}{t t':TypeId}(h:Blk w k cs t)(h':Blk w k cs' t'):t=t':=by
 unfold Blk at h h'
 rw [h] at h'
 simp at h'
 exact h'.2
theorem OG.grown {α:Type}{t:TypeId}{sz:Nat}{f:α→List Value}{w w':World}{base:Nat}{v:Value}{xs:List α}{row:Option Nat}(h:OG t sz f w base v xs)(hg:w.grownBy w' row)(hk:v.ownBlock=none∨v.ownBlock≠row):OG t sz f w' base v xs:=World.ownsRow.kept h hg hk
theorem OBk.turn {S:Nat→Prop}{w w':World}{base:Nat}{v:Value}{bl:List Bk}(h:OBk w base v bl)(ht:Turn S w w')(hS:∀ k,S k→¬ base≤k):OBk w' base v bl:=by
 refine ⟨?_,fun B hB=>⟨(h.rows B hB).1,(h.rows B hB).2.turn ht hS⟩,h.apart⟩
 obtain ⟨hl,h0 | ⟨g,cap,cur,hv,hg,hh,h1,h2,h3,h4⟩⟩:=h.head
 ·exact ⟨hl,.inl h0⟩
 ·exact ⟨hl,.inr ⟨g,cap,cur,hv,hg,turn_blk (w:=w) ht hh (fun s=>hS g s hg),h1,h2,h3,h4⟩⟩
theorem OBk.lt {w:World}{base:Nat}{v:Value}{bl:List Bk}(h:OBk w base v bl):∀ k,v.ownBlock=some k→base≤k∧k<w.heap.size:=h.head.lt
theorem obk_nil (w:World)(base:Nat):OBk w base (.slice none 0 0) []:=⟨⟨by simp,.inl ⟨rfl,rfl⟩⟩,by simp,by simp⟩
theorem obk_shape {w:World}{base:Nat}{v:Value}{bl:List Bk}(h:OBk w base v bl):∃ a c,v=.slice a bl.length c:=by
 obtain ⟨hl,⟨h0,h1⟩ | ⟨g,cap,cur,hv,_⟩⟩:=h.head
 ·exact ⟨none,0,by rw [h0,h1]⟩
 ·exact ⟨_,_,hv⟩
theorem OBk.push {W W':World}{base lo:Nat}{a:Option Addr}{k c:Nat}{bl:List Bk}{v':Value}{A:Option Addr}{C:Nat}{x:List Int}(h:OBk W base (.slice a k c) bl)(hl:bl.length=k)(hx:OG 3 1 clI W lo (.slice A x.length C) x)(hb:base≤lo)(hlo:∀ B ∈ bl,∀ j,(Value.slice B.1 B.2.1 B.2.2.1).ownBlock=some j→j<lo)
 (hown:W'.ownsRow base 24 1 v' (k+1) (bl.map (fun B=>Value.slice B.1 B.2.1 B.2.2.1)++[.slice A x.length C])) (hg:W.grownBy W' (Value.slice a k c).ownBlock):OBk W' base v' (bl++[(A,x.length,C,x)]):=by
 have hne:∀ (v:Value) (xs:List Int) (lo:Nat),OG 3 1 clI W lo v xs→v.ownBlock=none∨v.ownBlock≠(Value.slice a k c).ownBlock:=fun v xs lo ho=>by
  cases e:v.ownBlock with
  | none=>exact .inl rfl
  | some j=>
    refine .inr (fun e'=>?_)
    obtain ⟨c1,k1⟩:=own_kind ho e
    obtain ⟨c2,k2⟩:=own_kind h.head e'.symm
    exact absurd (blk_kind k1 k2) (by decide)
 refine ⟨?_,?_,?_⟩
 ·rw [List.length_append,hl,List.map_append]
  exact hown
 ·intro B hB
  rcases List.mem_append.1 hB with hB | hB
  ·exact ⟨(h.rows B hB).1,(h.rows B hB).2.grown hg (hne _ _ _ (h.rows B hB).2)⟩
  ·simp at hB
   subst hB
   exact ⟨rfl,(hx.grown hg (hne _ _ _ hx)).mono hb⟩
 ·rw [List.pairwise_append]
  refine ⟨h.apart,by simp,fun B hB X hX j hj e=>?_⟩
  simp at hX
  subst hX
  have h1:=hlo B hB j hj
  have h2:=(hx.lt j e).1
  omega
theorem OBk.mono {w:World}{base base':Nat}{v:Value}{bl:List Bk}(h:OBk w base v bl)(hb:base'≤base):OBk w base' v bl:=by
 refine ⟨?_,fun B hB=>⟨(h.rows B hB).1,(h.rows B hB).2.mono hb⟩,h.apart⟩
 obtain ⟨hl,h0 | ⟨g,cap,cur,hv,hg,hh,h1,h2,h3,h4⟩⟩:=h.head
 ·exact ⟨hl,.inl h0⟩
 ·exact ⟨hl,.inr ⟨g,cap,cur,hv,by omega,hh,h1,h2,h3,h4⟩⟩
theorem flat_one {α:Type}(f:α→Value):∀ xs:List α,xs.flatMap (fun x=>[f x])=xs.map f
 | []=>rfl
 | x :: xs=>by rw [List.flatMap_cons,flat_one f xs];rfl
theorem flat_clI (xs:List Int):xs.flatMap clI=xs.map (Value.int .i64):=flat_one _ xs
theorem flat_clT (xs:List ByteArray):xs.flatMap clT=xs.map Value.string:=flat_one _ xs
theorem flat_clX:∀ (xs:List Ex) (i:Nat),i<xs.length→(xs.flatMap clX)[i * 3]?=some (.string (xs.getD i zE).1)∧(xs.flatMap clX)[i * 3+1]?=some (.int .i64 (xs.getD i zE).2.1)∧(xs.flatMap clX)[i * 3+2]?=some (.int .i64 (xs.getD i zE).2.2)
 | [],i,h=>by simp at h
 | x :: xs,0,h=>⟨rfl,rfl,rfl⟩
 | x :: xs,i+1,h=>by
   have ih:=flat_clX xs i (by simpa using h)
   have e:∀ d,((x :: xs).flatMap clX)[(i+1) * 3+d]?=(xs.flatMap clX)[i * 3+d]?:=fun d=>by
    rw [List.flatMap_cons,List.getElem?_append_right (by simp [clX];omega)]
    congr 1
    simp [clX]
    omega
   have e0:=e 0
   simp only [Nat.add_zero] at e0
   refine ⟨e0.trans ih.1,(e 1).trans ih.2.1,(e 2).trans ih.2.2⟩
theorem og_parts {α:Type}{t:TypeId}{sz:Nat}{f:α→List Value}{w:World}{base n c:Nat}{a:Option Addr}{xs:List α}(h:OG t sz f w base (.slice a n c) xs):xs.length=n∧n≤maxLen∧n≤c∧(n≠0→∃ g,a=some ⟨g,0,none⟩∧∀ j u,(xs.flatMap f)[j]?=some u→w.cell? ⟨g,j,none⟩=some u):=by
 have hc:=fun g hg=>World.ownsRow.cells h (g:=g) hg
 obtain ⟨hl,⟨h0,h1⟩ | ⟨g,cap,cur,hv,hg,hh,h1,h2,h3,h4⟩⟩:=h
 ·simp at h0
  obtain ⟨rfl,rfl,rfl⟩:=h0
  exact ⟨h1,Nat.zero_le _,Nat.le_refl _,fun hn=>absurd rfl hn⟩
 ·simp at hv
  obtain ⟨rfl,rfl,rfl⟩:=hv
  refine ⟨rfl,by omega,h1,fun hn=>⟨g,rfl,fun j u hj=>?_⟩⟩
  have:=hc g rfl j u hj
  rwa [addr_add,Nat.zero_add] at this
theorem og_is {w:World}{base n c:Nat}{a:Option Addr}{xs:List Int}(h:OG 3 1 clI w base (.slice a n c) xs)(hx:∀ z ∈ xs,wfi z):IS w a n c xs:=by
 obtain ⟨h1,h2,h3,h4⟩:=og_parts h
 refine ⟨h1,h2,hx,fun hn=>?_,h3⟩
 obtain ⟨g,rfl,hc⟩:=h4 hn
 refine ⟨g,0,rfl,fun i hi=>?_⟩
 rw [Nat.zero_add]
 refine hc i _ ?_
 rw [flat_clI]
 simp [List.getD_eq_getElem?_getD,show i<xs.length by omega]
theorem og_ss {w:World}{base n c:Nat}{a:Option Addr}{xs:List ByteArray}(h:OG 9 1 clT w base (.slice a n c) xs)(hx:∀ s ∈ xs,s.size≤1048576):SS w a n c xs:=by
 obtain ⟨h1,h2,h3,h4⟩:=og_parts h
 refine ⟨h1,h2,hx,fun hn=>?_,h3⟩
 obtain ⟨g,rfl,hc⟩:=h4 hn
 refine ⟨g,0,rfl,fun i hi=>?_⟩
 rw [Nat.zero_add]
 refine hc i _ ?_
 rw [flat_clT]
 simp [List.getD_eq_getElem?_getD,show i<xs.length by omega]
theorem og_es {w:World}{base n c:Nat}{a:Option Addr}{xs:List Ex}(h:OG 207 3 clX w base (.slice a n c) xs)(hx:∀ s ∈ xs,s.1.size≤1048576):ES w a n c xs:=by
 obtain ⟨h1,h2,h3,h4⟩:=og_parts h
 refine ⟨h1,h2,hx,fun hn=>?_,h3⟩
 obtain ⟨g,rfl,hc⟩:=h4 hn
 refine ⟨g,0,rfl,fun i hi=>?_⟩
 rw [Nat.zero_add]
 obtain ⟨f0,f1,f2⟩:=flat_clX xs i (by omega)
 exact ⟨hc _ _ f0,hc _ _ f1,hc _ _ f2⟩
theorem obk_bks {w:World}{base n c:Nat}{a:Option Addr}{bl:List Bk}(h:OBk w base (.slice a n c) bl)(hx:∀ B ∈ bl,∀ z ∈ B.2.2.2,wfi z):BKS w a n c bl:=by
 have hh:OG 24 1 (fun B:Bk=>[Value.slice B.1 B.2.1 B.2.2.1]) w base (.slice a n c) bl:=by unfold OG;rw [flat_one];exact h.head
 obtain ⟨h1,h2,h3,h4⟩:=og_parts hh
 refine ⟨h1,h2,fun hn=>?_,fun i hi=>?_,h3⟩
 ·obtain ⟨g,rfl,hc⟩:=h4 hn
  refine ⟨g,0,rfl,fun i hi=>?_⟩
  rw [Nat.zero_add]
  refine hc i _ ?_
  rw [flat_one]
  simp [List.getD_eq_getElem?_getD,show i<bl.length by omega]
 ·have hm:bl.getD i zB ∈ bl:=by simp [List.getD_eq_getElem?_getD,show i<bl.length by omega]
  obtain ⟨e,o⟩:=h.rows _ hm
  exact og_is o (hx _ hm)
theorem OG.kept {α:Type}{t:TypeId}{sz:Nat}{f:α→List Value}{S:Nat→Prop}{w w':World}{base:Nat}{v:Value}{xs:List α}(h:OG t sz f w base v xs)(ht:Turn S w w')(hk:∀ k,v.ownBlock=some k→¬ S k):OG t sz f w' base v xs:=by
 obtain ⟨hl,h0 | ⟨g,cap,cur,hv,hg,hh,h1,h2,h3,h4⟩⟩:=h
 ·exact ⟨hl,.inl h0⟩
 ·exact ⟨hl,.inr ⟨g,cap,cur,hv,hg,turn_blk (w:=w) ht hh (hk g (by rw [hv];rfl)),h1,h2,h3,h4⟩⟩
theorem og_addr {α:Type}{t:TypeId}{sz:Nat}{f:α→List Value}{w:World}{base n c:Nat}{a:Option Addr}{xs:List α}(h:OG t sz f w base (.slice a n c) xs)(hn:n≠0):∃ g,a=some ⟨g,0,none⟩:=by
 obtain ⟨_,_,_,h4⟩:=og_parts h
 obtain ⟨g,hg,_⟩:=h4 hn
 exact ⟨g,hg⟩
theorem ogT_set {w:World}{base g n c:Nat}{ss:List ByteArray}(h:OG 9 1 clT w base (.slice (some ⟨g,0,none⟩) n c) ss)(i:Nat)(hi:i<n)(s:ByteArray):OG 9 1 clT (w.setCell ⟨g,i,none⟩ (.string s)) base (.slice (some ⟨g,0,none⟩) n c) (ss.set i s):=by
 unfold OG at *
 rw [flat_clT] at *
 obtain ⟨hl,⟨h0,_⟩ | ⟨g',cap',cur,hv,hg,hh,h1,h2,h3,h4⟩⟩:=h
 ·simp at h0
 ·simp at hv
  obtain ⟨rfl,rfl,rfl⟩:=hv
  refine ⟨by simp,.inr ⟨g,c,cur.setIfInBounds i (.string s),by simp,hg,Blk.set (w:=w) hh i _,by simpa using h1,h2,by simpa using h3,?_⟩⟩
  rw [List.length_set,Array.toList_setIfInBounds,List.take_set,h4,List.map_set]
def marksT (k n:Nat):List ByteArray:=(List.range n).map fun i=>mtx (k+i)
def mixedT (zs:List ByteArray)(k m:Nat):List ByteArray:=(List.range zs.length).map fun i=>if i<m then mtx (k+i) else zs.getD i zS
theorem mixedT_zero (zs:List ByteArray)(k:Nat):mixedT zs k 0=zs:=by
 apply List.ext_getElem
 ·simp [mixedT]
 ·intro i h1 h2;simp [mixedT,h2]
theorem mixedT_all (zs:List ByteArray)(k:Nat):mixedT zs k zs.length=marksT k zs.length:=by
 apply List.ext_getElem
 ·simp [mixedT,marksT]
 ·intro i h1 h2
  simp [marksT] at h2
  simp [mixedT,marksT,h2]
theorem mixedT_set (zs:List ByteArray)(k m:Nat)(h:m<zs.length):(mixedT zs k m).set m (mtx (k+m))=mixedT zs k (m+1):=by
 apply List.ext_getElem
 ·simp [mixedT]
 ·intro i h1 h2
  simp only [mixedT,List.getElem_set,List.getElem_map,List.getElem_range]
  by_cases hik:m=i
  ·subst hik;simp
  ·by_cases h3:i<m
   ·simp [hik,h3,show i<m+1 by omega]
   ·simp [hik,h3,show ¬ i<m+1 by omega]
theorem markStringS_some (g n cap base:Nat)(zs:List ByteArray)(k:Nat)(w:World)(h:OG 9 1 clT w base (.slice (some ⟨g,0,none⟩) n cap) zs)(hn:n≤1048576)(h0:0<k)(hk:k≤4194304):
 Calls Tryz.prog 93 #[.slice (some ⟨g,0,none⟩) n cap,.int .i64 k] w fun e w'=>e=.returned (.int .i64 ((k+n:Nat):Int))∧OG 9 1 clT w' base (.slice (some ⟨g,0,none⟩) n cap) (marksT k n)∧Turn (fun j=>j=g) w w':=by
 have hl:=(og_parts h).1
 go_enter Tryz.func93,Tryz.ntmps93
 go_wp2
 go_loopw [1,5] (fun x i wr=>∃ m:Nat,m≤n∧i=.int .i64 m∧x=.int .i64 ((k+m:Nat):Int)∧OG 9 1 clT wr base (.slice (some ⟨g,0,none⟩) n cap) (mixedT zs k m)∧Turn (fun j=>j=g) w wr) (fun _ i _=>n - (intOf i).toNat)
 case atStart=>exact ⟨0,Nat.zero_le _,rfl,rfl,by rw [mixedT_zero];exact h,Turn.refl _ _⟩
 case round=>
  obtain ⟨m,hm,rfl,rfl,O,T⟩:=hrel
  by_cases hlt:m<n
  ·have hlt':(m:Int)<(n:Int):=by omega
   have HT:=hide (markText_is (k+m) wr (by omega) (by omega))
   go_wp2_with fail
   refine HT.out.mono ?_
   rintro e w1 ⟨rfl,hb⟩
   have O1:=O.below hb
   have T1:=T.trans (turn_below hb)
   have hsl:Sl (fun j=>j=g) w1 (some ⟨g,0,none⟩) n 1:=by
    obtain ⟨_,⟨h0',_⟩ | ⟨g',cap',cur,hv,_,hh,h1,_,h3,_⟩⟩:=O1
    ·simp at h0'
    ·simp at hv
     obtain ⟨rfl,rfl,rfl⟩:=hv
     refine Sl.ofBlk (c:=0) hh rfl ?_
     simp at h1 h3
     omega
   obtain ⟨⟨u,c0⟩,f0,_⟩:=hsl.cell (by omega) m (by omega)
   rw [Nat.zero_add] at c0 f0
   have O2:=ogT_set O1 m hlt (mtx (k+m))
   rw [mixedT_set zs k m (by omega)] at O2
   have T2:=T1.trans (turn_set w1 g m (.string (mtx (k+m))))
   have HX:=hide (And.intro O2 T2)
   clear O T O1 T1 O2 T2 hb HT hsl
   go_wp2
   go_roundw
   case rel=>exact ⟨m+1,by omega,by go_num,by go_num,HX.out.1,HX.out.2⟩
   case measure=>simp [intOf];omega
  ·have e:Hid (m=n):=by show m=n;omega
   have HX:=hide (And.intro O T)
   clear O T
   go_wp2
   go_ret
   refine ⟨ret_int (by rw [e.out]),?_,HX.out.2⟩
   have:=HX.out.1
   rw [e.out,← hl,mixedT_all] at this
   rw [hl] at this
   exact this
theorem markStringS_zero (a:Option Addr)(cap k:Nat)(w:World):
 Calls Tryz.prog 93 #[.slice a 0 cap,.int .i64 k] w fun e w'=>e=.returned (.int .i64 k)∧w=w':=by
 go_enter Tryz.func93,Tryz.ntmps93
 go_wp2
 go_loop [1,5] (fun x i=>i=.int .i64 0∧x=.int .i64 k) (fun _ _=>0)
 case atStart=>exact ⟨rfl,rfl⟩
 case round=>
  obtain ⟨rfl,rfl⟩:=hrel
  go_wp2
  go_ret
  exact ⟨rfl,rfl⟩
theorem markStringS_any (a:Option Addr)(n cap base:Nat)(zs:List ByteArray)(k:Nat)(w:World)(h:OG 9 1 clT w base (.slice a n cap) zs)(hn:n≤1048576)(h0:0<k)(hk:k≤4194304):
 Calls Tryz.prog 93 #[.slice a n cap,.int .i64 k] w fun e w'=>e=.returned (.int .i64 ((k+n:Nat):Int))∧OG 9 1 clT w' base (.slice a n cap) (marksT k n)∧Turn (fun j=>(Value.slice a n cap).ownBlock=some j) w w':=by
 by_cases h1:n=0
 ·subst h1
  refine (markStringS_zero a cap k w).mono fun e w' he=>?_
  obtain ⟨rfl,rfl⟩:=he
  have hz:zs=[]:=List.eq_nil_of_length_eq_zero (og_parts h).1
  subst hz
  exact ⟨rfl,h,Turn.refl _ _⟩
 ·obtain ⟨g,rfl⟩:=og_addr h h1
  refine (markStringS_some g n cap base zs k w h hn h0 hk).mono fun e w' he=>⟨he.1,he.2.1,he.2.2.mono ?_⟩
  intro j hj
  subst hj
  rfl
theorem marksT_at (k n m:Nat)(h:m<n):((marksT k n).flatMap clT)[m]?=some (.string (mtx (k+m))):=by
 rw [flat_clT]
 simp [marksT,h]
theorem ogT_at {w:World}{base g n c:Nat}{xs:List ByteArray}(h:OG 9 1 clT w base (.slice (some ⟨g,0,none⟩) n c) xs)(m:Nat)(u:Value)(hu:(xs.flatMap clT)[m]?=some u):∀ W,Below w.heap.size w W→W.cell? ⟨g,m,none⟩=some u:=fun W hb=>by
 have O:=OG.below h hb
 obtain ⟨hl,_,_,h4⟩:=og_parts O
 have hn:n≠0:=fun e=>by
  subst e
  have:xs=[]:=List.eq_nil_of_length_eq_zero hl
  subst this
  simp at hu
 obtain ⟨g',hg',hc⟩:=h4 hn
 simp at hg'
 subst hg'
 exact hc m u hu
theorem heldStringS_any (a:Option Addr)(n cap base:Nat)(k:Nat)(w:World)(h:OG 9 1 clT w base (.slice a n cap) (marksT k n))(hn:n≤1048576)(h0:0<k)(hk:k≤4194304):
 Calls Tryz.prog 192 #[.slice a n cap,.int .i64 k] w fun e w'=>e=.returned (.int .i64 ((k+n:Nat):Int))∧Below w.heap.size w w':=by
 have HO:=hide h
 clear h
 go_enter Tryz.func192,Tryz.ntmps192
 go_wp2
 go_loopw [1,5] (fun x i wr=>∃ m:Nat,m≤n∧i=.int .i64 m∧x=.int .i64 ((k+m:Nat):Int)∧Below w.heap.size w wr) (fun _ i _=>n - (intOf i).toNat)
 case atStart=>exact ⟨0,Nat.zero_le _,rfl,rfl,Below.refl _ _⟩
 case round=>
  obtain ⟨m,hm,rfl,rfl,B⟩:=hrel
  by_cases hlt:m<n
  ·have hlt':(m:Int)<(n:Int):=by omega
   obtain ⟨g,rfl⟩:=og_addr HO.out (by omega)
   have HC0:=ogT_at HO.out m _ (marksT_at k n m hlt)
   have HT:=hide (fun W=>markText_is (k+m) W (by omega) (by omega))
   have HKM:=hide (show (((k+m:Nat):Int))+1=((k+(m+1):Nat):Int) by omega)
   obtain ⟨s,hs⟩:∃ s,s=mtx (k+m):=⟨_,rfl⟩
   rw [← hs] at HC0 HT
   have HC:=hide HC0
   clear hs HC0
   have c0:=HC.out wr B
   have hne:(s.toList != s.toList)=false:=by simp
   have HB:=hide B
   clear B
   go_wp2_with fail
   go_region_held3 (fun w'=>w'.cell? ⟨g,m,none⟩=some (.string s)) (go_keep) (first
    | (go_at_call 89;refine (HT.out _).mono ?_;rintro e w1 ⟨rfl,hb⟩;replace hb:=HB.out.trans ((undrew hb).mono HB.out.size);have c1:=HC.out w1 hb;have HB1:=hide hb;clear hb))
   clear c0 HB HC HT
   go_wp2
   go_roundw
   case rel=>exact ⟨m+1,by omega,by go_num,by go_num,HB1.out⟩
   case measure=>simp [intOf];omega
  ·have e:Hid (m=n):=by show m=n;omega
   have HX:=hide B
   clear B
   go_wp2
   go_ret
   exact ⟨ret_int (by rw [e.out]),HX.out⟩
structure Vm (nm:ByteArray)(tn:Nat)(tz:List Int)(bn:Nat)(bl:List Bk)(dn:Nat)(bss:Int)(rn:Nat)(rz:List Int)(im:Nat)(ss:List ByteArray)(en:Nat)(es:List Ex):Prop where
 n:nm.size≤12
 t:tn≤200
 tw:∀ z ∈ tz,0≤z∧z≤4294967295
 b:bn≤4
 bw:∀ i,i<bl.length→(bl.getD i zB).2.1≤64∧∀ z ∈ (bl.getD i zB).2.2.2,0≤z∧z≤4294967295
 d:dn≤512
 s:0≤bss∧bss≤512
 r:rn≤16
 rw:∀ i,i<rn→0≤rz.getD i 0∧rz.getD i 0≤512
 i:im≤16
 iw:∀ i,i<im→(ss.getD i zS).size≤25
 e:en≤16
 ew:∀ i,i<en→(es.getD i zE).1.size≤12∧-1≤(es.getD i zE).2.1∧(es.getD i zE).2.1≤4∧0≤(es.getD i zE).2.2∧(es.getD i zE).2.2≤200
theorem wds_all {zs:List Int}(h:wds zs=true):∀ z ∈ zs,0≤z∧z≤4294967295:=fun z hz=>by
 unfold wds at h
 rw [List.all_eq_true] at h
 simpa using h z hz
theorem nmo_size {s:ByteArray}(h:nmo s=true):s.size≤12:=by
 unfold nmo at h
 simp at h
 omega
theorem full_size {s:ByteArray}(h:full s=true):s.size≤25:=by
 unfold full at h
 simp only [Bool.and_eq_true,decide_eq_true_eq] at h
 obtain ⟨h0,h1,h2⟩:=h
 have a1:=nmo_size h1
 have a2:=nmo_size h2
 have hd:=dot_range s
 unfold cutA at a1
 unfold cutB at a2
 simp only [ByteArray.size_extract] at a1 a2
 omega
theorem rng_all {f:Nat→Bool}{n:Nat}(h:(List.range n).all f=true)(i:Nat)(hi:i<n):f i=true:=by
 rw [List.all_eq_true] at h
 exact h i (by simpa using hi)
theorem vm_of_mdo {nm:ByteArray}{tn:Nat}{tz:List Int}{bn:Nat}{bl:List Bk}{dn:Nat}{bss:Int}{rn:Nat}{rz:List Int}{im:Nat}{ss:List ByteArray}{en:Nat}{es:List Ex}(hbl:bl.length=bn)(h:mdo nm tn tz bn bl dn bss rn rz im ss en es=0):Vm nm tn tz bn bl dn bss rn rz im ss en es:=by
 unfold mdo at h
 by_cases c1:nmo nm=false
 ·rw [if_pos c1] at h;simp at h
 rw [if_neg c1] at h
 by_cases c2:cdo tn tz bn bl=false
 ·rw [if_pos c2] at h;simp at h
 rw [if_neg c2] at h
 by_cases c3:512<dn∨bss<0∨512<bss
 ·rw [if_pos c3] at h;simp at h
 rw [if_neg c3] at h
 by_cases c4:rlo rn rz dn=false
 ·rw [if_pos c4] at h;simp at h
 rw [if_neg c4] at h
 by_cases c5:imo im ss=false
 ·rw [if_pos c5] at h;simp at h
 rw [if_neg c5] at h
 by_cases c6:exo tn bn bl en es=false
 ·rw [if_pos c6] at h;simp at h
 simp only [Bool.not_eq_false] at c1 c2 c4 c5 c6
 unfold cdo at c2
 unfold rlo at c4
 unfold imo at c5
 unfold exo at c6
 simp only [Bool.and_eq_true,decide_eq_true_eq] at c2 c4 c5 c6
 obtain ⟨⟨t1,t2⟩,t3,t4⟩:=c2
 have hb:∀ i,i<bl.length→(bl.getD i zB).2.1≤64∧∀ z ∈ (bl.getD i zB).2.2.2,0≤z∧z≤4294967295:=fun i hi=>by
  rw [List.all_eq_true] at t4
  have hm:bl.getD i zB ∈ bl:=by simp [List.getD_eq_getElem?_getD,hi]
  have:=t4 _ hm
  unfold bko at this
  simp only [Bool.and_eq_true,decide_eq_true_eq] at this
  exact ⟨this.1.2,wds_all this.2⟩
 refine ⟨nmo_size c1,t1,wds_all t3,t2,hb,by omega,by omega,c4.1,fun i hi=>?_,c5.1,fun i hi=>full_size (rng_all c5.2 i hi),c6.1,fun i hi=>?_⟩
 ·have:=rng_all c4.2 i hi
  unfold rlk at this
  simp only [Bool.and_eq_true,decide_eq_true_eq] at this
  omega
 ·have:=rng_all c6.2 i hi
  unfold ex1 at this
  simp only [Bool.and_eq_true,decide_eq_true_eq] at this
  obtain ⟨⟨n1,a1,a2⟩,_⟩:=this
  have n2:=nmo_size n1
  have hp:pcn tn bn bl (es.getD i zE).2.1≤200∧(0<pcn tn bn bl (es.getD i zE).2.1→-1≤(es.getD i zE).2.1∧(es.getD i zE).2.1≤4):=by
   unfold pcn
   split
   ·omega
   ·split
    ·next h1 h2=>
     have:=(hb (es.getD i zE).2.1.toNat (by omega)).1
     omega
    ·omega
  have:=hp.2 (by omega)
  omega
end Go.Proofs.YtngdgogjlpjjpaeGreat
