import Derived.Deep.Slices
import Derived.Test.YtngdgogjlpjjpaeGreatP10
import Derived.Test.YtngdgogjlpjjpaeGreatP13
import Derived.Test.YtngdgogjlpjjpaeGreatP19
import Derived.Test.YtngdgogjlpjjpaeGreatP06
import Derived.Test.YtngdgogjlpjjpaeGreatP26
set_option maxHeartbeats 2000000
namespace Go.Proofs.YtngdgogjlpjjpaeGreat
open Go.RowKit Classical
set_option linter.unusedVariables false
set_option linter.unusedSimpArgs false
set_option maxRecDepth 100000
def put3 (w:World)(g o:Nat)(r x y:Bool):World:=((w.setCell ⟨g,o+3,none⟩ (.bool r)).setCell ⟨g,o+4,none⟩ (.bool x)).setCell ⟨g,o+5,none⟩ (.bool y)
theorem put3_other (w:World)(g o b o':Nat)(r x y:Bool)(h:b≠g∨o'<o+3∨o+6≤o'):(put3 w g o r x y).cell? ⟨b,o',none⟩=w.cell? ⟨b,o',none⟩:=by
 unfold put3
 rw [cell_other (by omega),cell_other (by omega),cell_other (by omega)]
theorem put3_at {w:World}{g o:Nat}{q:Rg}(h:At6 w g o q)(r x y:Bool):At6 (put3 w g o r x y) g o (rgt r x y q):=by
 obtain ⟨h1,h2,h3,h4,h5,h6⟩:=h
 refine ⟨?_,?_,?_,?_,?_,?_⟩
 ·rw [put3_other _ _ _ _ _ _ _ _ (by omega)];exact h1
 ·rw [put3_other _ _ _ _ _ _ _ _ (by omega)];exact h2
 ·rw [put3_other _ _ _ _ _ _ _ _ (by omega)];exact h3
 ·unfold put3;rw [cell_other (by omega),cell_other (by omega)];exact cell_same h4
 ·unfold put3;rw [cell_other (by omega)];exact cell_same (by rw [cell_other (by omega)];exact h5)
 ·unfold put3;exact cell_same (by rw [cell_other (by omega),cell_other (by omega)];exact h6)
theorem put3_far {w:World}{g o b o':Nat}{q:Rg}(h:At6 w b o' q)(r x y:Bool)(hf:b≠g∨o'+6≤o∨o+6≤o'):At6 (put3 w g o r x y) b o' q:=by
 unfold At6
 rw [put3_other _ _ _ _ _ _ _ _ (by omega),put3_other _ _ _ _ _ _ _ _ (by omega),put3_other _ _ _ _ _ _ _ _ (by omega),put3_other _ _ _ _ _ _ _ _ (by omega),put3_other _ _ _ _ _ _ _ _ (by omega),put3_other _ _ _ _ _ _ _ _ (by omega)]
 exact h
def mixT (r x y:Bool)(C:List Rg)(k:Nat):List Rg:=(rts r x y C).take k++C.drop k
theorem mixT_len (r x y:Bool)(C:List Rg)(k:Nat)(h:k≤C.length):(mixT r x y C k).length=C.length:=by
 simp [mixT,rts_len];omega
theorem mixT_at (r x y:Bool)(C:List Rg)(k i:Nat)(h:k≤C.length)(hi:i<C.length):(mixT r x y C k).getD i z6=if i<k then rgt r x y (C.getD i z6) else C.getD i z6:=by
 unfold mixT
 by_cases c:i<k
 ·rw [if_pos c,List.getD_eq_getElem?_getD,List.getElem?_append_left (by simp [rts_len];omega)]
  simp [rts,c,hi,List.getD_eq_getElem?_getD]
 ·rw [if_neg c,List.getD_eq_getElem?_getD,List.getElem?_append_right (by simp [rts_len];omega)]
  simp only [List.length_take,rts_len,List.getElem?_drop]
  rw [show k+(i - min k C.length)=i by omega,List.getD_eq_getElem?_getD]
theorem rowT_set {w:World}{g:Nat}{r x y:Bool}{C:List Rg}{k:Nat}(hk:k<C.length)(h:RowW w g (mixT r x y C k)):RowW (put3 w g (k * 6) r x y) g (mixT r x y C (k+1)):=by
 obtain ⟨⟨cur,hc⟩,hr⟩:=h
 refine ⟨⟨_,((hc.set _ _).set _ _).set _ _⟩,fun i hi=>?_⟩
 rw [mixT_len _ _ _ _ _ (by omega)] at hi
 have hq:=hr i (by rw [mixT_len _ _ _ _ _ (by omega)];exact hi)
 rw [mixT_at _ _ _ _ _ _ (by omega) hi] at hq
 rw [mixT_at _ _ _ _ _ _ (by omega) hi]
 by_cases c:i=k
 ·subst c
  rw [if_neg (by omega)] at hq
  rw [if_pos (by omega)]
  exact put3_at hq r x y
 ·by_cases c2:i<k
  ·rw [if_pos c2] at hq
   rw [if_pos (by omega)]
   exact put3_far hq r x y (by omega)
  ·rw [if_neg c2] at hq
   rw [if_neg (by omega)]
   exact put3_far hq r x y (by omega)
theorem regions_any (f s:Int)(r x y:Bool)(w:World)(hf:wfi f)(hs:wfi s):
 Calls Tryz.prog 243 #[.agg #[.int .i64 f,.int .i64 s,.bool r,.bool x,.bool y]] w fun e w'=>∃ A n cap,e=.returned (.slice A n cap)∧RS w' A n cap (rts r x y (cvL f s))∧(A=none→n=0∧cap=0)∧Below w.heap.size w w':=by
 obtain ⟨W,hW⟩:∃ W,W=w.alloc (.cells #[.int .i64 f,.int .i64 s,.bool r,.bool x,.bool y] 232):=⟨_,rfl⟩
 have HBW:=hide (show Below w.heap.size w W by rw [hW];exact (Below.refl _ _).alloc (Nat.le_refl _) _)
 have k0:Blk W w.heap.size #[.int .i64 f,.int .i64 s,.bool r,.bool x,.bool y] 232:=by rw [hW];exact Blk.new w _ _
 have sW:W.heap.size=w.heap.size+1:=by rw [hW];simp
 have d0:W.cell? ⟨w.heap.size,0,none⟩=some (.int .i64 f):=k0.cell 0
 have d1:W.cell? ⟨w.heap.size,1,none⟩=some (.int .i64 s):=k0.cell 1
 have HK:=hide k0
 have HC:=hide (iCover_any f s W (by unfold wfi at hf;omega))
 have HL:=hide (cvL_len f s)
 generalize cvL f s=C at *
 have HW:=hide hW
 clear hW k0
 go_enter Tryz.func243,Tryz.ntmps243
 go_wp2_with (rw [← HW.out])
 refine HC.out.mono ?_
 rintro e w2 ⟨c,n,cc,rfl,hC,hB2⟩
 have HN:=hide (or_rs hC).1
 have hn:n≤8192:=by have:=HN.out;have:=HL.out;omega
 have HX:=hide (And.intro hC hB2)
 by_cases h0:n=0
 ·subst h0
  clear hC hB2
  go_wp2_with fail
  go_loopw [16] (fun i wr=>i=.int .i64 0∧wr=w2) (fun _ _=>0)
  case atStart=>exact ⟨rfl,rfl⟩
  case round=>
   obtain ⟨rfl,rfl⟩:=hrel
   go_wp2
   go_ret
   have e0:C=[]:=List.eq_nil_of_length_eq_zero HN.out
   refine ⟨_,_,_,rfl,?_,fun hc=>?_,HBW.out.trans (HX.out.2.mono HBW.out.size)⟩
   rotate_left
   ·obtain ⟨hl,⟨h1,_⟩ | ⟨g',cap',cur,hv,_⟩⟩:=HX.out.1.1
    ·injection h1 with _ h1 h2;exact ⟨rfl,h2⟩
    ·injection hv with h1;rw [hc] at h1;cases h1
   have:=or_rs HX.out.1
   rw [e0] at this ⊢
   exact this
 ·have hn0:n≠0:=h0
  obtain ⟨g,ha⟩:∃ g,c=some ⟨g,0,none⟩:=by
   obtain ⟨hl,⟨h1,_⟩ | ⟨g',cap',cur,hv,_⟩⟩:=hC.1
   ·injection h1 with _ h1;exact absurd h1 hn0
   ·injection hv with h1;exact ⟨g',h1⟩
  subst ha
  have HR:=hide (or_roww hC hn0)
  have hg1:W.heap.size≤g:=by
   obtain ⟨hl,⟨h1,_⟩ | ⟨g',cap',cur,hv,hg,_⟩⟩:=hC.1
   ·injection h1 with _ h1;exact absurd h1 hn0
   ·injection hv with h1;injection h1 with h1;injection h1 with h1;omega
  clear hC hB2
  go_wp2_with fail
  go_loopw [16] (fun i wr=>∃ k:Nat,k≤n∧i=.int .i64 k∧RowW wr g (mixT r x y C k)∧Below W.heap.size W wr) (fun i _=>n - (intOf i).toNat)
  case atStart=>exact ⟨0,Nat.zero_le _,rfl,by simpa [mixT] using HR.out,HX.out.2⟩
  case round=>
   obtain ⟨k,hk,rfl,hR,hB⟩:=hrel
   by_cases hlt:k<n
   ·have hlt':(k:Int)<(n:Int):=by omega
    obtain ⟨p0,p1,p2,p3,p4,p5⟩:=hR.2 k (by rw [mixT_len _ _ _ _ _ (by rw [HN.out];omega),HN.out];exact hlt)
    have hfz:=hR.frozen
    have kk:=HK.out.below hB
    have e2:wr.cell? ⟨w.heap.size,2,none⟩=some (.bool r):=kk.cell 2
    have e3:wr.cell? ⟨w.heap.size,3,none⟩=some (.bool x):=kk.cell 3
    have e4:wr.cell? ⟨w.heap.size,4,none⟩=some (.bool y):=kk.cell 4
    have HS:=hide (rowT_set (by rw [HN.out];exact hlt) hR)
    have HB3:=hide (show Below W.heap.size W ((put3 wr g (k * 6) r x y).drew) from (((hB.setCell (p:=⟨g,k * 6+3,none⟩) hg1 _).setCell (p:=⟨g,k * 6+4,none⟩) hg1 _).setCell (p:=⟨g,k * 6+5,none⟩) hg1 _).drew)
    clear hR hB kk
    generalize (mixT r x y C k).getD k z6=G at *
    obtain ⟨g1,g2,g3,g4,g5,g6⟩:=G
    have hne:¬ g=w.heap.size:=by omega
    have hne':¬ w.heap.size=g:=by omega
    have f3:=hfz (k * 6+3)
    have f4:=hfz (k * 6+4)
    have f5:=hfz (k * 6+5)
    clear hfz
    go_wp2
    go_region_with (fail)
    all_goals
     go_wp2
     go_roundw
     case rel=>exact ⟨k+1,by omega,by go_num,HS.out,HB3.out⟩
     case measure=>simp [intOf];omega
   ·have HE:=hide (show k=n by omega)
    have HF:=hide (And.intro hR hB)
    clear hR hB
    go_wp2
    go_ret
    refine ⟨_,_,_,rfl,?_,(fun hc=>by cases hc),HBW.out.trans (HF.out.2.mono HBW.out.size)⟩
    have hRR:=HF.out.1
    have e0:mixT r x y C k=rts r x y C:=by
     have hl:=rts_len r x y C
     have:=HN.out
     unfold mixT
     rw [List.drop_eq_nil_of_le (by rw [HE.out,this];exact Nat.le_refl _),List.append_nil,List.take_of_length_le (by rw [hl,this,HE.out];exact Nat.le_refl _)]
    rw [e0] at hRR
    refine ⟨by rw [rts_len];exact HN.out,by unfold maxLen;omega,?_,fun _=>⟨g,0,rfl,fun i hi=>by have:=hRR.2 i (by rw [rts_len,HN.out];exact hi);rw [Nat.zero_add];exact this⟩,(or_rs HX.out.1).2.2.2.2⟩
    intro q hq
    simp only [rts,List.mem_map] at hq
    obtain ⟨p,hp,rfl⟩:=hq
    exact HX.out.1.2 p hp
def upN (n:Nat):List Int:=(List.range n).map (fun i:Nat=>(i:Int))
theorem upN_len (n:Nat):(upN n).length=n:=by simp [upN]
theorem upN_at (n k:Nat)(h:k<n):(upN n).getD k 0=(k:Int):=by simp [upN,List.getD_eq_getElem?_getD,h]
theorem slotsFor_many (L:Lay)(a0:Option Addr)(c0:Nat)(xs:List PB)(a2:Option Addr)(c2:Nat)(a5:Option Addr)(c5:Nat)(ts:List TB)(b:Int)(l:Nat)(w:World)(hb:¬ b=-1)(h0:¬ l=0)(h1:l≤1048576):
 Calls Tryz.prog 101 #[.agg #[.slice a0 xs.length c0,.int .i64 L.stack,.slice a2 l c2,.int .i64 L.flash,.int .i64 L.ram,.slice a5 ts.length c5],.int .i64 b] w fun e w'=>∃ g,e=.returned (.slice (some ⟨g,0,none⟩) l l)∧RowI w' g (upN l)∧Below w.heap.size w w':=by
 obtain ⟨i0,hi,hz0,hz1,hz2⟩:=info_parts infoI
 have hz:(b == -1)=false:=by simpa using hb
 have hl0:((l:Int) == 0)=false:=by simpa using h0
 obtain ⟨W,hW⟩:∃ W,W=w.alloc (.cells #[.slice a0 xs.length c0,.int .i64 L.stack,.slice a2 l c2,.int .i64 L.flash,.int .i64 L.ram,.slice a5 ts.length c5] 36):=⟨_,rfl⟩
 have HBW:=hide (show Below w.heap.size w W by rw [hW];exact (Below.refl _ _).alloc (Nat.le_refl _) _)
 have k0:Blk W w.heap.size #[.slice a0 xs.length c0,.int .i64 L.stack,.slice a2 l c2,.int .i64 L.flash,.int .i64 L.ram,.slice a5 ts.length c5] 36:=by rw [hW];exact Blk.new w _ _
 have d2:W.cell? ⟨w.heap.size,2,none⟩=some (.slice a2 l c2):=k0.cell 2
 have HW:=hide hW
 clear hW k0
 generalize xs.length=n at *
 generalize ts.length=k at *
 go_enter Tryz.func101,Tryz.ntmps101
 go_wp2_with (first | rw [← HW.out] | (at_make;refine wpList_make_full _ rfl _ _ 24 rfl W.heap.size 3 i0 (.int .i64 0) 1 Tryz.underlying24 hi hz0 hz1 .i64 .i64 _ _ l rfl rfl rfl rfl (by rw [hz2];omega) (by unfold maxLen;omega) (Nat.le_refl _) ?_;intro w1 hown hgr))
 have hrow:=rowI_of_made hown
 have hbel:=below_grown hgr
 clear hown hgr hi hz0 hz1 hz2 d2
 go_loopw [6,22] (fun _ i wr=>∃ k:Nat,k≤l∧i=.int .i64 k∧RowI wr W.heap.size (mid (upN l) k)∧Below W.heap.size W wr) (fun _ i _=>l - (intOf i).toNat)
 case atStart=>exact ⟨0,Nat.zero_le _,rfl,by rw [mid_zero,upN_len];exact hrow,hbel⟩
 case round=>
  obtain ⟨k,hk,rfl,hR,hB⟩:=hrel
  clear hrow hbel
  by_cases hlt:k<l
  ·have hlt':(k:Int)<(l:Int):=by omega
   have hgk:wr.cell? ⟨W.heap.size,k,none⟩=some (.int .i64 ((mid (upN l) k).getD k 0)):=hR.cell k (by rw [mid_len,upN_len];omega)
   have hfk:wr.frozen? ⟨W.heap.size,k,none⟩=false:=hR.frozen k
   have R':=hR.set k ((upN l).getD k 0)
   rw [mid_set (upN l) k (by rw [upN_len];omega),upN_at l k hlt] at R'
   have B':Below W.heap.size W (wr.setCell ⟨W.heap.size,k,none⟩ (.int .i64 (k:Int))):=hB.setCell (Nat.le_refl _) _
   have HR:=hide R'
   have HB:=hide B'
   generalize (mid (upN l) k).getD k 0=z0 at *
   clear hR hB R' B'
   go_wp2
   go_roundw
   case rel=>exact ⟨k+1,by omega,by go_num,HR.out,HB.out⟩
   case measure=>simp [intOf];omega
  ·have e:Hid (k=l):=by show k=l;omega
   have HX:=hide (And.intro hR hB)
   clear hR hB
   go_wp2
   go_ret
   refine ⟨_,rfl,?_,HBW.out.trans (HX.out.2.mono HBW.out.size)⟩
   have:=HX.out.1
   have e2:mid (upN l) l=upN l:=by have:=mid_all (upN l);rwa [upN_len] at this
   rw [e.out,e2] at this
   exact this
end Go.Proofs.YtngdgogjlpjjpaeGreat
namespace Go.Proofs.YtngdgogjlpjjpaeGreat
open Go.ChangeShapes Go.WideShapes Go.ChangeAt Go.RowKit Classical
set_option linter.unusedVariables false
theorem addM (b off i:Nat):(Addr.add ⟨b,off,none⟩ i)=⟨b,off+i,none⟩:=by
 simp only [Addr.add]
 split
 ·next h=>subst h;rfl
 ·rfl
set_option maxRecDepth 100000 in
theorem bbs_of_trod {H:Type}{enc:TypeId × Value→H}{w:World}{base:Nat}{held:Bool}{fuel:Nat}{cs:List Value}{x:DataW H × List MemPlace}
 (h:DataW.trod enc Tryz.prog w base (fun _=>true) held fuel 42 cs=some x):∃ a n cap bl,cs=[.slice a n cap]∧BBS w a n cap bl:=by
 have e1:Tryz.prog.cellsOf 41=1:=by kernel_rfl
 rcases Deep.open_slice Tryz.underlying42 h with ⟨hcs,_⟩ | ⟨a,len,cap,m,n,D,Pl,hcs,hb,hl,hm,hmm,hx,hd⟩
 ·exact ⟨none,0,0,[],hcs,rfl,Nat.zero_le _,fun h=>absurd rfl h,fun i hi=>by omega,Nat.le_refl _⟩
 ·simp at hmm
  rw [hmm] at hd
  rw [e1] at hd
  obtain ⟨G,hG⟩:=Deep.choose_lt (α:=Bk) (p:=fun i g=>(∃ cs',w.cells? base (a.add (i * 1)) 1=some cs'∧cs'=[Value.slice g.1 g.2.1 g.2.2.1])∧BS w g.1 g.2.1 g.2.2.1 g.2.2.2) (n:=len) (fun i hi=>by
   obtain ⟨cs',h1,h2⟩:=hd i (by omega)
   obtain ⟨a',n',c',zs',e,hI⟩:=bs_of_trod h2
   exact ⟨(a',n',c',zs'),⟨cs',h1,e⟩,hI⟩)
  have hgi:∀ i,i<len→((List.range len).map G).getD i zB=G i:=fun i hi=>by simp [List.getD_eq_getElem?_getD,hi]
  refine ⟨some a,len,cap,(List.range len).map G,hcs,by simp,by omega,?_,fun i hi=>by rw [hgi i hi];exact (hG i hi).2,hl⟩
  intro hn
  obtain ⟨b,off,spot⟩:=a
  have hspot:spot=none:=by
   obtain ⟨⟨cs',h1,h2⟩,_⟩:=hG 0 (by omega)
   have:=(World.cells?_some h1).2.2 0 (by omega)
   rw [h2] at this
   simpa [Addr.add] using World.cell?_spot this
  subst hspot
  refine ⟨b,off,rfl,fun i hi=>?_⟩
  obtain ⟨⟨cs',h1,h2⟩,_⟩:=hG i hi
  have hc:=(World.cells?_some h1).2.2
  rw [h2] at hc
  rw [hgi i hi]
  simp only [addM] at hc
  simpa using hc 0 (by omega)
set_option maxRecDepth 100000 in
theorem open_byteSS {H:Type}{enc:TypeId × Value→H}{w:World}{base b0:Nat}{held:Bool}{r:Reach}{v:Value}{d:DataW H}{p:List MemPlace}
 (hv:Value.okWide Tryz.prog w r b0 42 v) (h:DataW.Trod enc Tryz.prog w base (fun _=>true) held 42 v d p):
 ∃ a n cap bl,v=.slice a n cap∧BBS w a n cap bl:=by
 obtain ⟨a0,len0,cap0,rfl⟩:=okWide_slice Tryz.underlying42 hv
 obtain ⟨fuel,hf⟩:=h
 obtain ⟨a,n,cap,zs,hcs,hb⟩:=bbs_of_trod hf
 simp [Value.cells] at hcs
 obtain ⟨rfl,rfl,rfl⟩:=hcs
 exact ⟨_,_,_,zs,rfl,hb⟩
end Go.Proofs.YtngdgogjlpjjpaeGreat
