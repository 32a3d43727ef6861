import Derived.Test.YtngdgogjlpjjpadGreatP04
import Derived.Test.YtngdgogjlpjjpadGreatP18
namespace Go.Proofs.YtngdgogjlpjjpadGreat
open Go.RowKit
set_option linter.unusedVariables false
set_option linter.unusedSimpArgs false
set_option maxRecDepth 100000
theorem pm_bank {m:Md} {w:World} (h:m.md w) (k:Nat) (hk:k<m.bn):(m.bl.getD k zB).2.1=(m.pm.bl.getD k []).length∧m.pm.bl.length=m.bn:=by
 have hb:=h.b.1
 refine ⟨?_,by simp [Md.pm,hb]⟩
 have e:m.pm.bl.getD k []=(m.bl.getD k zB).2.2.2:=getD_map _ _ _ zB _ (by omega)
 rw [e]
 exact (h.b.2.2.2.1 k hk).1.symm
set_option maxHeartbeats 4000000 in
theorem l5TooLong_any (a:Option Addr) (n cap:Nat) (ms:List Md) (s c k d:Int) (w:World) (h:MSD w a n cap ms):
 Calls Tryz.prog 56 #[.slice a n cap,.agg #[.int .i64 s,.int .i64 c,.int .i64 k,.int .i64 d]] w fun e w'=>e=.returned (.bool (decide (0<s∧¬ shrt (pmS ms) c)))∧Below w.heap.size w w':=by
 have hA:Below w.heap.size w (w.alloc (.cells #[.int .i64 s,.int .i64 c,.int .i64 k,.int .i64 d] 25)):=(Below.refl _ _).alloc (Nat.le_refl _) _
 have k0:=Blk.new w #[.int .i64 s,.int .i64 c,.int .i64 k,.int .i64 d] 25
 have hl:=h.s.1
 have hm1:=h.s.2.1
 unfold maxLen at hm1
 have hpl:=pmS_len ms
 have HH:=hide h
 obtain ⟨R,hR⟩:∃ R,R=decide (0<s∧¬ shrt (pmS ms) c):=⟨_,rfl⟩
 rw [← hR]
 have HR:=hide hR
 clear hR
 have HB1:=hide (And.intro hA k0)
 clear h hA k0
 go_enter Tryz.func56,Tryz.ntmps56
 go_wp2
 go_loopw [5] (fun i wr=>∃ m:Nat,m≤n∧i=.int .i64 m∧(0<s→∀ j,j<m→∀ k,k<((pmS ms).getD j zP).bl.length→((((pmS ms).getD j zP).bl.getD k []).length:Int)≤c)∧Below w.heap.size w wr∧Blk wr w.heap.size #[.int .i64 s,.int .i64 c,.int .i64 k,.int .i64 d] 25) (fun i _=>n - (intOf i).toNat)
 case atStart=>exact ⟨0,Nat.zero_le _,rfl,fun _ j hj=>absurd hj (by omega),HB1.out.1,HB1.out.2⟩
 case round=>
  obtain ⟨m,hm,rfl,hv,B,kk⟩:=hrel
  by_cases hlt:m<n
  ·have hlt':(m:Int)<(n:Int):=by omega
   have HV:=hide hv
   have HB2:=hide (And.intro B kk)
   clear hv B kk HB1
   go_wp2
   go_loopw [6] (fun i wr=>∃ q:Nat,q≤(ms.getD m zMd).bn∧i=.int .i64 q∧(0<s→∀ k,k<q→((((pmS ms).getD m zP).bl.getD k []).length:Int)≤c)∧Below w.heap.size w wr∧Blk wr w.heap.size #[.int .i64 s,.int .i64 c,.int .i64 k,.int .i64 d] 25) (fun i _=>(ms.getD m zMd).bn - (intOf i).toNat)
   case atStart=>exact ⟨0,Nat.zero_le _,rfl,fun _ j hj=>absurd hj (by omega),HB2.out.1,HB2.out.2⟩
   case round=>
    obtain ⟨q,hq,rfl,hw,B,kk⟩:=hrel
    have H:=HH.out.below B
    obtain ⟨b,off,rfl,q0,q1,q2,_⟩:=H.s.at m hlt
    have hmd:=H.d m hlt
    have hbl:((pmS ms).getD m zP).bl.length=(ms.getD m zMd).bn:=by rw [pmS_at (by omega)];show (List.map _ _).length=_;rw [List.length_map];exact hmd.b.1
    have HW:=hide hw
    have hbn:(ms.getD m zMd).bn≤9223372036854775807:=by have:=hmd.b.2.1;unfold maxLen at this;omega
    by_cases hlt2:q<(ms.getD m zMd).bn
    ·have hlt2':(q:Int)<((ms.getD m zMd).bn:Int):=by omega
     obtain ⟨_,_,hcb,hrb,_⟩:=hmd.b
     obtain ⟨b2,off2,hba,hc⟩:=hcb (by omega)
     have c0:=hc q hlt2
     have hlen:=(pm_bank hmd q hlt2).1
     rw [← pmS_at (by omega)] at hlen
     rw [hba] at q2
     have y0:wr.cell? ⟨w.heap.size,0,none⟩=some (.int .i64 s):=kk.cell 0
     have y1:wr.cell? ⟨w.heap.size,1,none⟩=some (.int .i64 c):=kk.cell 1
     have HB3:=hide (And.intro B kk)
     obtain ⟨L,hL⟩:∃ L:Nat,L=(((pmS ms).getD m zP).bl.getD q []).length:=⟨_,rfl⟩
     rw [← hL] at hlen
     rw [hlen] at c0
     have hmx:L≤9223372036854775807:=by have:=(hrb q hlt2).2.1;rw [hlen] at this;unfold maxLen at this;omega
     have HSH:=hide (show (0<s→(L:Int)≤c)→0<s→∀ k,k<q+1→((((pmS ms).getD m zP).bl.getD k []).length:Int)≤c from fun h1 h2 k hk=>by
      by_cases e:k=q
      ·subst e;rw [← hL];exact h1 h2
      ·exact HW.out h2 k (by omega))
     have HBD:=hide (show 0<s→c<(L:Int)→0<s∧¬ shrt (pmS ms) c from fun h1 h2=>⟨h1,fun hs=>by have:=hs m (by omega) q (by omega);rw [← hL] at this;omega⟩)
     generalize (ms.getD m zMd).bl.getD q zB=bq at *
     generalize (ms.getD m zMd).bn=bn at *
     obtain ⟨bq1,bq2,bq3,bq4⟩:=bq
     dsimp only at c0 hlen
     clear hw B H hmd hbl hba hc hcb hrb hL hlen q0 q1 kk
     by_cases hs0:0<s
     ·by_cases hcl:c<(L:Int)
      ·have HF:=hide (HBD.out hs0 hcl)
       go_wp2_with fail
       go_quiet (fail)
       go_wp2
       go_ret
       exact ⟨ret_bool (by rw [HR.out,decide_eq_true HF.out]),below_dN HB3.out.1 nq⟩
      ·have HF:=hide (HSH.out (fun _=>by omega))
       go_wp2_with fail
       go_quiet (fail)
       go_wp2
       go_roundw
       case rel=>exact ⟨q+1,by omega,by go_num,HF.out,below_dN HB3.out.1 nq,HB3.out.2⟩
       case measure=>simp [intOf];omega
     ·have HF:=hide (HSH.out (fun e=>absurd e hs0))
      have hs2:decide (0<s)=false:=decide_eq_false hs0
      go_wp2_with fail
      go_quiet (fail)
      go_wp2
      go_roundw
      case rel=>exact ⟨q+1,by omega,by go_num,HF.out,below_dN HB3.out.1 nq,HB3.out.2⟩
      case measure=>simp [intOf];omega
    ·have hlt2':¬ (q:Int)<((ms.getD m zMd).bn:Int):=by omega
     have HV2:=hide (show 0<s→∀ j,j<m+1→∀ k,k<((pmS ms).getD j zP).bl.length→((((pmS ms).getD j zP).bl.getD k []).length:Int)≤c from fun h1 j hj k hk=>by
      by_cases e:j=m
      ·subst e;exact HW.out h1 k (by omega)
      ·exact HV.out h1 j (by omega) k hk)
     have HB3:=hide (And.intro B kk)
     generalize (ms.getD m zMd).bn=bn at *
     clear hw B H hmd hbl q0 q1 kk
     go_wp2
     go_roundw
     case rel=>exact ⟨m+1,by omega,by go_num,HV2.out,HB3.out.1,HB3.out.2⟩
     case measure=>simp [intOf];omega
  ·have hlt':¬ (m:Int)<(n:Int):=by omega
   have HF:=hide (show ¬ (0<s∧¬ shrt (pmS ms) c) from fun h=>h.2 (fun i hi k hk=>hv h.1 i (by omega) k hk))
   have HB2:=hide B
   clear hv B kk HB1
   go_wp2
   go_ret
   exact ⟨ret_bool (by rw [HR.out,decide_eq_false HF.out]),HB2.out⟩
theorem rnd_range {x:Int} (h:0≤x):x≤rnd x∧rnd x≤x+31:=by unfold rnd;omega
theorem tsz_range {P:PMod} (h:mdoP P=0):0≤tsz P∧tsz P≤831:=by
 have h1:=(vld_en h).2.2.1
 have:=rnd_range (x:=4 * (P.tz.length:Int)) (by omega)
 unfold tsz
 omega
theorem fsum_range {P:PMod} (h:mdoP P=0):∀ k,k≤P.bl.length→0≤fsum P k∧fsum P k≤(k:Int) * 287
 | 0,_=>by simp [fsum]
 | k+1,hk=>by
   have ih:=fsum_range h k (by omega)
   have h1:=(vld_en h).2.2.2.2.2.2.2 k (by omega)
   have:=rnd_range (x:=4 * ((P.bl.getD k []).length:Int)) (by omega)
   show 0≤fsum P k+rnd (4 * ((P.bl.getD k []).length:Int))∧fsum P k+rnd (4 * ((P.bl.getD k []).length:Int))≤_
   push_cast
   omega
theorem dsz_range {P:PMod} (h:mdoP P=0):0≤dsz P∧dsz P≤1055:=by
 obtain ⟨_,_,_,_,h5,h6,h7,_⟩:=vld_en h
 have:=rnd_range (x:=(P.dz.length:Int)+P.bss) (by omega)
 unfold dsz
 omega
theorem Fl_range {ps:List PMod} (h:vlds ps):∀ i,i≤ps.length→0≤Fl ps i∧Fl ps i≤(i:Int) * 1979
 | 0,_=>by simp [Fl]
 | i+1,hi=>by
   have ih:=Fl_range h i (by omega)
   have hv:=h i (by omega)
   have h1:=tsz_range hv
   have h2:=fsum_range hv _ (Nat.le_refl _)
   have h3:=(vld_en hv).2.2.2.1
   show 0≤Fl ps i+(tsz (ps.getD i zP)+fsum (ps.getD i zP) (ps.getD i zP).bl.length)∧Fl ps i+(tsz (ps.getD i zP)+fsum (ps.getD i zP) (ps.getD i zP).bl.length)≤_
   push_cast
   omega
theorem Ra_range {ps:List PMod} (h:vlds ps):∀ i,i≤ps.length→0≤Ra ps i∧Ra ps i≤(i:Int) * 1055
 | 0,_=>by simp [Ra]
 | i+1,hi=>by
   have ih:=Ra_range h i (by omega)
   have h1:=dsz_range (h i (by omega))
   show 0≤Ra ps i+dsz (ps.getD i zP)∧Ra ps i+dsz (ps.getD i zP)≤_
   push_cast
   omega
theorem kind_no {w:World} {base n sz:Nat} {t t':TypeId} {v:Value} {xs:List Value} {k:Nat} {cs:Array Value} (h:w.ownsRow base t sz v n xs) (hk:v.ownBlock=some k) (hb:Blk w k cs t') (hne:t≠t'):False:=by
 obtain ⟨c1,k1⟩:=own_kind h hk
 exact hne (blk_kind k1 hb)
def zL:Array Value:=#[.slice none 0 0,.int .i64 0,.slice none 0 0,.int .i64 0,.int .i64 0,.slice none 0 0]
structure Lst (w W:World) (s c k d:Int) (cs:Array Value):Prop where
 be:Below w.heap.size w W
 k0:Blk W w.heap.size #[.int .i64 s,.int .i64 c,.int .i64 k,.int .i64 d] 25
 k1:Blk W (w.heap.size+1) zL 32
 k5:Blk W (w.heap.size+5) cs 32
theorem Lst.below {w W W':World} {s c k d:Int} {cs:Array Value} (h:Lst w W s c k d cs) (hb:Below W.heap.size W W'):Lst w W' s c k d cs:=⟨h.be.trans (hb.mono h.be.size),h.k0.below hb,h.k1.below hb,h.k5.below hb⟩
theorem Lst.set {w W:World} {s c k d:Int} {cs:Array Value} (h:Lst w W s c k d cs) (i:Nat) (v:Value):Lst w (W.setCell ⟨w.heap.size+5,i,none⟩ v) s c k d (cs.setIfInBounds i v):=
 ⟨below_turn h.be (turn_set W (w.heap.size+5) i v) (fun k hk=>by omega) h.be.size,turn_blk (turn_set W (w.heap.size+5) i v) h.k0 (by omega),turn_blk (turn_set W (w.heap.size+5) i v) h.k1 (by omega),h.k5.set i v⟩
theorem Lst.other {w W:World} {s c k d:Int} {cs:Array Value} (h:Lst w W s c k d cs) {g:Nat} (hg:w.heap.size+6≤g) (i:Nat) (v:Value):Lst w (W.setCell ⟨g,i,none⟩ v) s c k d cs:=
 ⟨below_turn h.be (turn_set W g i v) (fun k hk=>by omega) h.be.size,turn_blk (turn_set W g i v) h.k0 (by omega),turn_blk (turn_set W g i v) h.k1 (by omega),turn_blk (turn_set W g i v) h.k5 (by omega)⟩
theorem Lst.grown {w W W':World} {s c k d:Int} {cs:Array Value} {row:Option Nat} (h:Lst w W s c k d cs) (hg:W.grownBy W' row) (hr:∀ j,row=some j→w.heap.size+2≤j∧j≠w.heap.size+5):Lst w W' s c k d cs:=by
 have t:Turn (fun j=>row=some j) W W':=⟨hg.os,hg.tape,hg.output,hg.size,fun j hj hs=>hg.block j hj (fun e=>hs e.symm)⟩
 exact ⟨below_turn h.be t (fun j hj=>by have:=hr j hj;omega) h.be.size,turn_blk t h.k0 (fun e=>by have:=hr _ e;omega),turn_blk t h.k1 (fun e=>by have:=hr _ e;omega),turn_blk t h.k5 (fun e=>by have:=hr _ e;omega)⟩
theorem Lst.sz {w W:World} {s c k d:Int} {cs:Array Value} (h:Lst w W s c k d cs):w.heap.size+6≤W.heap.size:=h.k5.lt
theorem Lst.drew {w W:World} {s c k d:Int} {cs:Array Value} (h:Lst w W s c k d cs):Lst w W.drew s c k d cs:=⟨h.be.drew,h.k0,h.k1,h.k5⟩
structure Lrw (w W:World) (ps:List PMod) (m:Nat) (a0:Option Addr) (c0:Nat) (xs:List PB) (a5:Option Addr) (c5:Nat) (ts:List TB):Prop where
 P:OPl W (w.heap.size+2) (w.heap.size+6) (.slice a0 m c0) xs
 T:OTg W (w.heap.size+2) (w.heap.size+6) (.slice a5 m c5) ts
 S:OG 3 1 clI W (w.heap.size+2) (.slice (some ⟨w.heap.size+3,0,none⟩) 0 0) []
 pl:xs.length=m
 tl:ts.length=m
 px:xs.map (fun x=>x.1)=(List.range m).map (plc ps)
 tx:ts.map (fun x=>x.1)=(List.range m).map fun i=>tgs ps (ps.getD i zP)
def Lg (w:World) (j:Nat):Prop:=j=w.heap.size+5
theorem Lrw.kept {w W W':World} {s c k d:Int} {cs:Array Value} {ps:List PMod} {m:Nat} {a0:Option Addr} {c0:Nat} {xs:List PB} {a5:Option Addr} {c5:Nat} {ts:List TB} (h:Lrw w W ps m a0 c0 xs a5 c5 ts) (L:Lst w W s c k d cs) (t:Turn (Lg w) W W'):Lrw w W' ps m a0 c0 xs a5 c5 ts:=by
 have k5:=L.k5
 refine ⟨h.P.kept t (fun k hk e=>?_) (fun x hx k hk e=>?_),h.T.kept t (fun k hk e=>?_) (fun x hx k hk e=>?_),h.S.kept t (fun k hk e=>?_),h.pl,h.tl,h.px,h.tx⟩
 ·rw [show k=w.heap.size+5 from e] at hk;exact kind_no h.P.head hk k5 (by decide)
 ·rw [show k=w.heap.size+5 from e] at hk;exact kind_no (h.P.rows x hx) hk k5 (by decide)
 ·rw [show k=w.heap.size+5 from e] at hk;exact kind_no h.T.head hk k5 (by decide)
 ·rw [show k=w.heap.size+5 from e] at hk;exact kind_no (h.T.rows x hx) hk k5 (by decide)
 ·rw [show k=w.heap.size+5 from e] at hk;exact kind_no h.S hk k5 (by decide)
theorem Lrw.below {w W W':World} {ps:List PMod} {m:Nat} {a0:Option Addr} {c0:Nat} {xs:List PB} {a5:Option Addr} {c5:Nat} {ts:List TB} (h:Lrw w W ps m a0 c0 xs a5 c5 ts) (hb:Below W.heap.size W W'):Lrw w W' ps m a0 c0 xs a5 c5 ts:=⟨h.P.below hb,h.T.below hb,h.S.below hb,h.pl,h.tl,h.px,h.tx⟩
def bks (ps:List PMod) (i k:Nat):List Int:=(List.range k).map fun j=>Fl ps i+tsz (ps.getD i zP)+fsum (ps.getD i zP) j
theorem bks_len (ps:List PMod) (i k:Nat):(bks ps i k).length=k:=by simp [bks]
theorem bks_succ (ps:List PMod) (i k:Nat):bks ps i (k+1)=bks ps i k++[Fl ps i+tsz (ps.getD i zP)+fsum (ps.getD i zP) k]:=by simp [bks,List.range_succ]
def LkM (w:World) (ps:List PMod) (s c k d:Int) (e:Ending) (w':World):Prop:=Below w.heap.size w w'∧∃ a0 c0 xs a2 c2 a5 c5 ts,e=.returned (.tuple #[.agg (layV (lkL ps s c k d) a0 c0 xs a2 c2 a5 c5 ts),.int .i64 (lkc ps s c k d)])∧LayO w' w.heap.size (lkL ps s c k d) a0 c0 xs a2 c2 a5 c5 ts
theorem lo_zero (W:World) (base:Nat):LayO W base L0 none 0 [] none 0 none 0 []:=⟨or_nil,rfl,og_nil _ _ _ _ _,or_nil,rfl,fun k hk=>by simp [Value.ownBlock] at hk⟩
theorem lk_none {w w':World} {ps:List PMod} {s c k d V:Int} (hb:Below w.heap.size w w') (hV:lkc ps s c k d=V) (h0:V≠0):LkM w ps s c k d (.returned (.tuple #[.agg zL,.int .i64 V])) w':=by
 refine ⟨hb,none,0,[],none,0,none,0,[],?_,?_⟩
 ·unfold lkL;rw [if_neg (by rw [hV];exact h0),hV];rfl
 ·unfold lkL;rw [if_neg (by rw [hV];exact h0)];exact lo_zero _ _
theorem lkc_1 {ps:List PMod} {s w k d V:Int} (h:snd4 ps s w k d=V) (h0:V≠0):lkc ps s w k d=V:=by unfold lkc;rw [if_pos (by rw [h];exact h0),h]
theorem lkc_5 {ps:List PMod} {s w k d:Int} (h:snd4 ps s w k d=0) (h5:¬ imps ps):lkc ps s w k d=5:=by unfold lkc;rw [if_neg (by rw [h];decide),if_pos h5]
theorem lkc_6 {ps:List PMod} {s w k d:Int} (h:snd4 ps s w k d=0) (h5:imps ps) (h6:0<s∧¬ shrt ps w):lkc ps s w k d=6:=by unfold lkc;rw [if_neg (by rw [h];decide),if_neg (fun e=>e h5),if_pos h6]
theorem lkc_7 {ps:List PMod} {s w k d:Int} (h:snd4 ps s w k d=0) (h5:imps ps) (h6:¬ (0<s∧¬ shrt ps w)) (h7:16384<(lay ps s w k).flash):lkc ps s w k d=7:=by unfold lkc;rw [if_neg (by rw [h];decide),if_neg (fun e=>e h5),if_neg h6,if_pos h7]
theorem lkc_8 {ps:List PMod} {s w k d:Int} (h:snd4 ps s w k d=0) (h5:imps ps) (h6:¬ (0<s∧¬ shrt ps w)) (h7:¬ 16384<(lay ps s w k).flash) (h8:16384<(lay ps s w k).ram):lkc ps s w k d=8:=by unfold lkc;rw [if_neg (by rw [h];decide),if_neg (fun e=>e h5),if_neg h6,if_neg h7,if_pos h8]
theorem lkc_0 {ps:List PMod} {s w k d:Int} (h:snd4 ps s w k d=0) (h5:imps ps) (h6:¬ (0<s∧¬ shrt ps w)) (h7:¬ 16384<(lay ps s w k).flash) (h8:¬ 16384<(lay ps s w k).ram):lkc ps s w k d=0:=by unfold lkc;rw [if_neg (by rw [h];decide),if_neg (fun e=>e h5),if_neg h6,if_neg h7,if_neg h8]
theorem snd4_parts {ps:List PMod} {s w k d:Int} (h:snd4 ps s w k d=0):cfo s w k d=true∧ps.length≤4∧vlds ps:=by
 unfold snd4 at h
 split at h
 ·simp at h
 split at h
 ·simp at h
 split at h
 ·simp at h
 ·rename_i h1 h2 h3
  exact ⟨by simpa using h1,by omega,Classical.not_not.1 h3⟩
theorem turn_d1 {S:Nat→Prop} {a W:World} (h:Turn S a W):Turn S a W.drew:=⟨h.os,h.tape,h.output,h.size,h.block⟩
theorem cut0 {S G:Prop} (main:S→G) (pf:S):G:=main pf
theorem cut3 {S F:Nat→Nat→World→Prop} {G:Prop} (main:(∀ gp gr W,F gp gr W→S gp gr W)→G) (pf:∀ gp gr W,F gp gr W→S gp gr W):G:=main pf
theorem lay_new (w:World) (s c k d:Int) (ps:List PMod):
 Lst w ((((((w.alloc (.cells #[.int .i64 s,.int .i64 c,.int .i64 k,.int .i64 d] 25)).alloc (.cells #[.slice none 0 0,.int .i64 0,.slice none 0 0,.int .i64 0,.int .i64 0,.slice none 0 0] 32)).alloc (.cells #[] 43)).alloc (.cells #[] 3)).alloc (.cells #[] 97)).alloc (.cells #[.slice (some ⟨w.heap.size+2,0,none⟩) 0 0,.int .i64 0,.slice (some ⟨w.heap.size+3,0,none⟩) 0 0,.int .i64 0,.int .i64 0,.slice (some ⟨w.heap.size+4,0,none⟩) 0 0] 32)) s c k d #[.slice (some ⟨w.heap.size+2,0,none⟩) 0 0,.int .i64 0,.slice (some ⟨w.heap.size+3,0,none⟩) 0 0,.int .i64 0,.int .i64 0,.slice (some ⟨w.heap.size+4,0,none⟩) 0 0] ∧
 Lrw w ((((((w.alloc (.cells #[.int .i64 s,.int .i64 c,.int .i64 k,.int .i64 d] 25)).alloc (.cells #[.slice none 0 0,.int .i64 0,.slice none 0 0,.int .i64 0,.int .i64 0,.slice none 0 0] 32)).alloc (.cells #[] 43)).alloc (.cells #[] 3)).alloc (.cells #[] 97)).alloc (.cells #[.slice (some ⟨w.heap.size+2,0,none⟩) 0 0,.int .i64 0,.slice (some ⟨w.heap.size+3,0,none⟩) 0 0,.int .i64 0,.int .i64 0,.slice (some ⟨w.heap.size+4,0,none⟩) 0 0] 32)) ps 0 (some ⟨w.heap.size+2,0,none⟩) 0 [] (some ⟨w.heap.size+4,0,none⟩) 0 []:=by
 have k0:=Blk.new w #[.int .i64 s,.int .i64 c,.int .i64 k,.int .i64 d] 25
 have b0:Below w.heap.size w (w.alloc (.cells #[.int .i64 s,.int .i64 c,.int .i64 k,.int .i64 d] 25)):=(Below.refl _ _).alloc (Nat.le_refl _) _
 have s0:(w.alloc (.cells #[.int .i64 s,.int .i64 c,.int .i64 k,.int .i64 d] 25)).heap.size=w.heap.size+1:=by simp
 generalize w.alloc (.cells #[.int .i64 s,.int .i64 c,.int .i64 k,.int .i64 d] 25)=W0 at *
 have k1:=Blk.new W0 #[.slice none 0 0,.int .i64 0,.slice none 0 0,.int .i64 0,.int .i64 0,.slice none 0 0] 32
 have b1:Below W0.heap.size W0 (W0.alloc (.cells #[.slice none 0 0,.int .i64 0,.slice none 0 0,.int .i64 0,.int .i64 0,.slice none 0 0] 32)):=(Below.refl _ _).alloc (Nat.le_refl _) _
 have s1:(W0.alloc (.cells #[.slice none 0 0,.int .i64 0,.slice none 0 0,.int .i64 0,.int .i64 0,.slice none 0 0] 32)).heap.size=w.heap.size+2:=by simp [s0]
 rw [s0] at k1
 generalize W0.alloc (.cells #[.slice none 0 0,.int .i64 0,.slice none 0 0,.int .i64 0,.int .i64 0,.slice none 0 0] 32)=W1 at *
 have o2:OPl (W1.alloc (.cells #[] 43)) (w.heap.size+2) (w.heap.size+6) (.slice (some ⟨W1.heap.size,0,none⟩) 0 0) []:=or_new (by omega)
 have b2:Below W1.heap.size W1 (W1.alloc (.cells #[] 43)):=(Below.refl _ _).alloc (Nat.le_refl _) _
 have s2:(W1.alloc (.cells #[] 43)).heap.size=w.heap.size+3:=by simp [s1]
 rw [s1] at o2
 generalize W1.alloc (.cells #[] 43)=W2 at *
 have o3:=og_new' 3 1 clI W2 (w.heap.size+2) (by omega)
 have b3:Below W2.heap.size W2 (W2.alloc (.cells #[] 3)):=(Below.refl _ _).alloc (Nat.le_refl _) _
 have s3:(W2.alloc (.cells #[] 3)).heap.size=w.heap.size+4:=by simp [s2]
 rw [s2] at o3
 generalize W2.alloc (.cells #[] 3)=W3 at *
 have o4:OTg (W3.alloc (.cells #[] 97)) (w.heap.size+2) (w.heap.size+6) (.slice (some ⟨W3.heap.size,0,none⟩) 0 0) []:=or_new (by omega)
 have b4:Below W3.heap.size W3 (W3.alloc (.cells #[] 97)):=(Below.refl _ _).alloc (Nat.le_refl _) _
 have s4:(W3.alloc (.cells #[] 97)).heap.size=w.heap.size+5:=by simp [s3]
 rw [s3] at o4
 generalize W3.alloc (.cells #[] 97)=W4 at *
 have k5:=Blk.new W4 #[.slice (some ⟨w.heap.size+2,0,none⟩) 0 0,.int .i64 0,.slice (some ⟨w.heap.size+3,0,none⟩) 0 0,.int .i64 0,.int .i64 0,.slice (some ⟨w.heap.size+4,0,none⟩) 0 0] 32
 have b5:Below W4.heap.size W4 (W4.alloc (.cells #[.slice (some ⟨w.heap.size+2,0,none⟩) 0 0,.int .i64 0,.slice (some ⟨w.heap.size+3,0,none⟩) 0 0,.int .i64 0,.int .i64 0,.slice (some ⟨w.heap.size+4,0,none⟩) 0 0] 32)):=(Below.refl _ _).alloc (Nat.le_refl _) _
 rw [s4] at k5
 have c45:=b5
 have c35:=b4.trans (c45.mono (by omega))
 have c25:=b3.trans (c35.mono (by omega))
 have c15:=b2.trans (c25.mono (by omega))
 have c05:=b1.trans (c15.mono (by omega))
 exact ⟨⟨b0.trans (c05.mono (by omega)),k0.below c05,k1.below c15,k5⟩,⟨o2.below c25,o4.below c45,o3.below c35,rfl,rfl,rfl,rfl⟩⟩
def st6 (W:World) (k:Nat) (v0 v1 v2 v3 v4 v5:Value):World:=(((((W.setCell ⟨k,0,none⟩ v0).setCell ⟨k,1,none⟩ v1).setCell ⟨k,2,none⟩ v2).setCell ⟨k,3,none⟩ v3).setCell ⟨k,4,none⟩ v4).setCell ⟨k,5,none⟩ v5
theorem turn_st6 (W:World) (k:Nat) (v0 v1 v2 v3 v4 v5:Value):Turn (fun j=>j=k) W (st6 W k v0 v1 v2 v3 v4 v5):=
 (((((turn_set W k 0 v0).trans (turn_set _ k 1 v1)).trans (turn_set _ k 2 v2)).trans (turn_set _ k 3 v3)).trans (turn_set _ k 4 v4)).trans (turn_set _ k 5 v5)
theorem blk_st6 {W:World} {k:Nat} {t:TypeId} (h:Blk W k zL t) (v0 v1 v2 v3 v4 v5:Value):Blk (st6 W k v0 v1 v2 v3 v4 v5) k #[v0,v1,v2,v3,v4,v5] t:=
 (((((h.set 0 v0).set 1 v1).set 2 v2).set 3 v3).set 4 v4).set 5 v5
theorem lay_end {w W:World} (k1:Blk W (w.heap.size+1) zL 32) (v0 v1 v2 v3 v4 v5:Value) (Q:Ending→World→Prop) (tmps:Array Value) (h4:tmps[4]?=some (.pointer (some ⟨w.heap.size+1,0,none⟩))) (hQ:Q (.returned (.agg #[v0,v1,v2,v3,v4,v5])) (st6 W (w.heap.size+1) v0 v1 v2 v3 v4 v5)):
 bodyPost Tryz.prog Tryz.f57 Q Exit.ret ⟨tmps,[]⟩ (st6 W (w.heap.size+1) v0 v1 v2 v3 v4 v5):=by
 have k:=blk_st6 k1 v0 v1 v2 v3 v4 v5
 have t0:(st6 W (w.heap.size+1) v0 v1 v2 v3 v4 v5).cell? ⟨w.heap.size+1,0,none⟩=some v0:=k.cell 0
 have t1:(st6 W (w.heap.size+1) v0 v1 v2 v3 v4 v5).cell? ⟨w.heap.size+1,1,none⟩=some v1:=k.cell 1
 have t2:(st6 W (w.heap.size+1) v0 v1 v2 v3 v4 v5).cell? ⟨w.heap.size+1,2,none⟩=some v2:=k.cell 2
 have t3:(st6 W (w.heap.size+1) v0 v1 v2 v3 v4 v5).cell? ⟨w.heap.size+1,3,none⟩=some v3:=k.cell 3
 have t4:(st6 W (w.heap.size+1) v0 v1 v2 v3 v4 v5).cell? ⟨w.heap.size+1,4,none⟩=some v4:=k.cell 4
 have t5:(st6 W (w.heap.size+1) v0 v1 v2 v3 v4 v5).cell? ⟨w.heap.size+1,5,none⟩=some v5:=k.cell 5
 refine bodyPost_ret_by (v:=.agg #[v0,v1,v2,v3,v4,v5]) ?_ rfl hQ
 simp [results,Tryz.results57,go_sem,h4,t0,t1,t2,t3,t4,t5]
end Go.Proofs.YtngdgogjlpjjpadGreat
namespace Go.Proofs.YtngdgogjlpjjpadGreat
open Go.RowKit
open Go Go.Maps Go.WideShapes
set_option linter.unusedVariables false
set_option linter.unusedSimpArgs false
set_option maxRecDepth 100000
set_option maxHeartbeats 1000000 in
theorem roundUp_any (x:Int) (w:World) (h0:0≤x) (h1:x≤4294967295):Calls Tryz.prog 148 #[.int .i64 x] w fun e w'=>e=.returned (.int .i64 (rnd x))∧w'=w:=by
 have hd:(x+31).tdiv 32=(x+31) / 32:=Int.tdiv_eq_ediv_of_nonneg (by omega)
 go_enter Tryz.func148,Tryz.ntmps148
 go_wp2
 go_ret
 exact ⟨ret_int (by unfold rnd;rw [show x+31=x+32 - 1 by omega]),rfl⟩
set_option maxHeartbeats 1000000 in
theorem wordBytes_any (a:Option Addr) (n cap:Nat) (w:World) (hn:n≤1048576):Calls Tryz.prog 147 #[.slice a n cap] w fun e w'=>e=.returned (.int .i64 (rnd (4 * (n:Int))))∧w'=w:=by
 have hw:IntKind.i64.wrap (4 * (n:Int))=4 * (n:Int):=wraps62 _ (by omega) (by omega)
 have HR:=hide (roundUp_any (4 * (n:Int)) w (by omega) (by omega))
 go_enter Tryz.func147,Tryz.ntmps147
 go_wp2_with fail
 refine HR.out.mono ?_
 rintro e w1 ⟨rfl,rfl⟩
 go_wp2
 go_ret
 exact ⟨rfl,rfl⟩
theorem Md.okI {m:Md} {w:World} (h:m.md w):Calls Tryz.prog 143 #[.agg #[.string m.nm,.slice m.ta m.tn m.tc,.slice m.ba m.bn m.bc,.slice m.da m.dn m.dc,.int .i64 m.bss,.slice m.ra m.rn m.rc,.slice m.ia m.im m.ic,.slice m.ea m.en m.ec]] w fun e w'=>e=.returned (.int .i64 (mdoP m.pm))∧Below w.heap.size w w':=by
 have:=iModuleOk_any _ _ _ _ _ _ _ _ _ _ _ _ _ _ _ _ _ _ _ _ _ _ _ _ _ _ w h
 rw [md_mdo h] at this
 exact this
theorem ba_ext {a b:ByteArray}:a.data.toList=b.data.toList ↔ a=b:=by
 constructor
 ·intro e
  cases a
  cases b
  simp at e
  rw [e]
 ·intro e;rw [e]
theorem nms_size {ms:List Md} {n:Nat} (hl:ms.length=n):(size (fd (mdNm ms) n)=n) ↔ nms (pmS ms):=by
 have h:=fd_size (mdNm ms) n
 have key:∀ i,i<n→((pmS ms).getD i zP).nm=(ms.getD i zMd).nm:=fun i hi=>by rw [pmS_at (by omega)];rfl
 constructor
 ·intro e
  rw [decide_eq_true e] at h
  intro i hi k hk
  rw [pmS_len,hl] at hi
  have h':=h.symm
  rw [List.all_eq_true] at h'
  have h1:=h' i (by simpa using hi)
  rw [List.all_eq_true] at h1
  have h2:=h1 k (by simpa using hk)
  rw [key k (by omega),key i hi]
  intro e'
  have e2:mdNm ms k=mdNm ms i:=by unfold mdNm;rw [e']
  rw [e2] at h2
  simp at h2
 ·intro hn
  apply of_decide_eq_true
  rw [h,List.all_eq_true]
  intro i hi
  rw [List.all_eq_true]
  intro k hk
  have hi':i<n:=by simpa using hi
  have hk':k<i:=by simpa using hk
  have:=hn i (by rw [pmS_len];omega) k hk'
  rw [key k (by omega),key i hi'] at this
  have h3:mdNm ms k≠mdNm ms i:=fun e=>this (ba_ext.1 e)
  simp [h3]
end Go.Proofs.YtngdgogjlpjjpadGreat
namespace Go.Proofs.YtngdgogjlpjjpadGreat
open Go.RowKit
set_option linter.unusedVariables false
set_option linter.unusedSimpArgs false
set_option maxRecDepth 100000
theorem flat_clG:∀ (xs:List Tg) (i:Nat),i<xs.length→(xs.flatMap clG)[i * 3]?=some (.int .i64 (xs.getD i zT).1)∧(xs.flatMap clG)[i * 3+1]?=some (.int .i64 (xs.getD i zT).2.1)∧(xs.flatMap clG)[i * 3+2]?=some (.int .i64 (xs.getD i zT).2.2)
 | [],i,h=>by simp at h
 | x :: xs,0,h=>by simp [clG]
 | x :: xs,i+1,h=>by
   obtain ⟨h1,h2,h3⟩:=flat_clG xs i (by simpa using h)
   rw [show (i+1) * 3=i * 3+1+1+1 by omega]
   simp only [List.flatMap_cons,clG,List.cons_append,List.nil_append,List.getElem?_cons_succ]
   exact ⟨h1,h2,h3⟩
theorem ogG_at {w:World} {base n c:Nat} {a:Option Addr} {xs:List Tg} (h:OG 72 3 clG w base (.slice a n c) xs) (m:Nat) (hm:m<n):∃ g,a=some ⟨g,0,none⟩∧w.cell? ⟨g,m * 3,none⟩=some (.int .i64 (xs.getD m zT).1)∧w.cell? ⟨g,m * 3+1,none⟩=some (.int .i64 (xs.getD m zT).2.1)∧w.cell? ⟨g,m * 3+2,none⟩=some (.int .i64 (xs.getD m zT).2.2):=by
 obtain ⟨hl,_,_,h4⟩:=og_parts h
 obtain ⟨g,hg,hc⟩:=h4 (by omega)
 obtain ⟨e0,e1,e2⟩:=flat_clG xs m (by omega)
 exact ⟨g,hg,hc _ _ e0,hc _ _ e1,hc _ _ e2⟩
def zTB:TB:=([],none,0)
theorem OTg.below' {w w':World} {base lo:Nat} {v:Value} {ts:List TB} (h:OTg w base lo v ts) (hb:Below w.heap.size w w'):OTg w' base lo v ts:=OR.below h hb
theorem otg_at {w:World} {base lo n c:Nat} {a:Option Addr} {ts:List TB} (h:OTg w base lo (.slice a n c) ts) (i:Nat) (hi:i<n):∃ g,a=some ⟨g,0,none⟩∧w.cell? ⟨g,i,none⟩=some (svT (ts.getD i zTB))∧OG 72 3 clG w lo (svT (ts.getD i zTB)) (ts.getD i zTB).1:=by
 obtain ⟨hl,_,_,h4⟩:=og_parts h.head
 obtain ⟨g,hg,hc⟩:=h4 (by omega)
 refine ⟨g,hg,hc i _ ?_,h.rows _ (by simp [List.getD_eq_getElem?_getD,show i<ts.length by omega])⟩
 rw [show ts.flatMap clTB=ts.map svT from flat_one _ _]
 simp [List.getD_eq_getElem?_getD,show i<ts.length by omega]
def zPB:PB:=(⟨0,[],0,0⟩,none,0)
theorem flat_clP:∀ (xs:List PB) (i:Nat),i<xs.length→(xs.flatMap clP)[i * 4]?=some (.int .i64 (xs.getD i zPB).1.text)∧(xs.flatMap clP)[i * 4+1]?=some (svP (xs.getD i zPB))∧(xs.flatMap clP)[i * 4+2]?=some (.int .i64 (xs.getD i zPB).1.data)∧(xs.flatMap clP)[i * 4+3]?=some (.int .i64 (xs.getD i zPB).1.size)
 | [],i,h=>by simp at h
 | x :: xs,0,h=>by simp [clP]
 | x :: xs,i+1,h=>by
   obtain ⟨h1,h2,h3,h4⟩:=flat_clP xs i (by simpa using h)
   rw [show (i+1) * 4=i * 4+1+1+1+1 by omega]
   simp only [List.flatMap_cons,clP,List.cons_append,List.nil_append,List.getElem?_cons_succ]
   exact ⟨h1,h2,h3,h4⟩
theorem opl_at {w:World} {base lo n c:Nat} {a:Option Addr} {xs:List PB} (h:OPl w base lo (.slice a n c) xs) (i:Nat) (hi:i<n):∃ g,a=some ⟨g,0,none⟩∧w.cell? ⟨g,i * 4,none⟩=some (.int .i64 (xs.getD i zPB).1.text)∧w.cell? ⟨g,i * 4+1,none⟩=some (svP (xs.getD i zPB))∧w.cell? ⟨g,i * 4+2,none⟩=some (.int .i64 (xs.getD i zPB).1.data)∧w.cell? ⟨g,i * 4+3,none⟩=some (.int .i64 (xs.getD i zPB).1.size)∧OG 3 1 clI w lo (svP (xs.getD i zPB)) (xs.getD i zPB).1.banks:=by
 obtain ⟨hl,_,_,h4⟩:=og_parts h.head
 obtain ⟨g,hg,hc⟩:=h4 (by omega)
 obtain ⟨e0,e1,e2,e3⟩:=flat_clP xs i (by omega)
 exact ⟨g,hg,hc _ _ e0,hc _ _ e1,hc _ _ e2,hc _ _ e3,h.rows _ (by simp [List.getD_eq_getElem?_getD,show i<xs.length by omega])⟩
def TgS (w:World) (a:Option Addr) (n cap:Nat) (zs:List Tg):Prop:=
 zs.length=n∧n≤maxLen∧(n≠0→∃ b off,a=some ⟨b,off,none⟩∧∀ i,i<n→w.cell? ⟨b,off+i * 3,none⟩=some (.int .i64 (zs.getD i zT).1)∧w.cell? ⟨b,off+i * 3+1,none⟩=some (.int .i64 (zs.getD i zT).2.1)∧w.cell? ⟨b,off+i * 3+2,none⟩=some (.int .i64 (zs.getD i zT).2.2))∧n≤cap
theorem cell_below {w w':World} (hb:Below w.heap.size w w') {b o:Nat} {v:Value} (h:w.cell? ⟨b,o,none⟩=some v):w'.cell? ⟨b,o,none⟩=some v:=(hb.cell (World.block_lt_of_cell? w _ h)).trans h
theorem TgS.below {w w':World} {a:Option Addr} {n cap:Nat} {zs:List Tg} (h:TgS w a n cap zs) (hb:Below w.heap.size w w'):TgS w' a n cap zs:=by
 obtain ⟨h1,h2,h3,h4⟩:=h
 refine ⟨h1,h2,fun hn=>?_,h4⟩
 obtain ⟨b,off,e,hc⟩:=h3 hn
 exact ⟨b,off,e,fun i hi=>⟨cell_below hb (hc i hi).1,cell_below hb (hc i hi).2.1,cell_below hb (hc i hi).2.2⟩⟩
theorem TgS.at {w:World} {a:Option Addr} {n cap:Nat} {zs:List Tg} (h:TgS w a n cap zs) (i:Nat) (hi:i<n):∃ b off,a=some ⟨b,off,none⟩∧w.cell? ⟨b,off+i * 3,none⟩=some (.int .i64 (zs.getD i zT).1)∧w.cell? ⟨b,off+i * 3+1,none⟩=some (.int .i64 (zs.getD i zT).2.1)∧w.cell? ⟨b,off+i * 3+2,none⟩=some (.int .i64 (zs.getD i zT).2.2):=by
 obtain ⟨b,off,e,hc⟩:=h.2.2.1 (by omega)
 exact ⟨b,off,e,hc i hi⟩
def TsS (w:World) (a:Option Addr) (n cap:Nat) (ts:List TB):Prop:=
 ts.length=n∧n≤maxLen∧(n≠0→∃ b off,a=some ⟨b,off,none⟩∧∀ i,i<n→w.cell? ⟨b,off+i,none⟩=some (svT (ts.getD i zTB)))∧(∀ i,i<n→TgS w (ts.getD i zTB).2.1 (ts.getD i zTB).1.length (ts.getD i zTB).2.2 (ts.getD i zTB).1)∧n≤cap
theorem TsS.below {w w':World} {a:Option Addr} {n cap:Nat} {ts:List TB} (h:TsS w a n cap ts) (hb:Below w.heap.size w w'):TsS w' a n cap ts:=by
 obtain ⟨h1,h2,h3,h4,h5⟩:=h
 refine ⟨h1,h2,fun hn=>?_,fun i hi=>(h4 i hi).below hb,h5⟩
 obtain ⟨b,off,e,hc⟩:=h3 hn
 exact ⟨b,off,e,fun i hi=>cell_below hb (hc i hi)⟩
theorem TsS.at {w:World} {a:Option Addr} {n cap:Nat} {ts:List TB} (h:TsS w a n cap ts) (i:Nat) (hi:i<n):∃ b off,a=some ⟨b,off,none⟩∧w.cell? ⟨b,off+i,none⟩=some (svT (ts.getD i zTB)):=by
 obtain ⟨b,off,e,hc⟩:=h.2.2.1 (by omega)
 exact ⟨b,off,e,hc i hi⟩
def PlS (w:World) (a:Option Addr) (n cap:Nat) (xs:List PB):Prop:=
 xs.length=n∧n≤maxLen∧(n≠0→∃ b off,a=some ⟨b,off,none⟩∧∀ i,i<n→w.cell? ⟨b,off+i * 4,none⟩=some (.int .i64 (xs.getD i zPB).1.text)∧w.cell? ⟨b,off+i * 4+1,none⟩=some (svP (xs.getD i zPB))∧w.cell? ⟨b,off+i * 4+2,none⟩=some (.int .i64 (xs.getD i zPB).1.data)∧w.cell? ⟨b,off+i * 4+3,none⟩=some (.int .i64 (xs.getD i zPB).1.size))∧(∀ i,i<n→IS w (xs.getD i zPB).2.1 (xs.getD i zPB).1.banks.length (xs.getD i zPB).2.2 (xs.getD i zPB).1.banks)∧n≤cap
theorem PlS.below {w w':World} {a:Option Addr} {n cap:Nat} {xs:List PB} (h:PlS w a n cap xs) (hb:Below w.heap.size w w'):PlS w' a n cap xs:=by
 obtain ⟨h1,h2,h3,h4,h5⟩:=h
 refine ⟨h1,h2,fun hn=>?_,fun i hi=>(h4 i hi).below hb,h5⟩
 obtain ⟨b,off,e,hc⟩:=h3 hn
 exact ⟨b,off,e,fun i hi=>⟨cell_below hb (hc i hi).1,cell_below hb (hc i hi).2.1,cell_below hb (hc i hi).2.2.1,cell_below hb (hc i hi).2.2.2⟩⟩
theorem PlS.at {w:World} {a:Option Addr} {n cap:Nat} {xs:List PB} (h:PlS w a n cap xs) (i:Nat) (hi:i<n):∃ b off,a=some ⟨b,off,none⟩∧w.cell? ⟨b,off+i * 4,none⟩=some (.int .i64 (xs.getD i zPB).1.text)∧w.cell? ⟨b,off+i * 4+1,none⟩=some (svP (xs.getD i zPB))∧w.cell? ⟨b,off+i * 4+2,none⟩=some (.int .i64 (xs.getD i zPB).1.data)∧w.cell? ⟨b,off+i * 4+3,none⟩=some (.int .i64 (xs.getD i zPB).1.size):=by
 obtain ⟨b,off,e,hc⟩:=h.2.2.1 (by omega)
 exact ⟨b,off,e,hc i hi⟩
structure LyT (w:World) (L:Lay) (a0:Option Addr) (c0:Nat) (xs:List PB) (a2:Option Addr) (c2:Nat) (a5:Option Addr) (c5:Nat) (ts:List TB):Prop where
 p:PlS w a0 xs.length c0 xs
 ps:xs.map (fun x=>x.1)=L.places
 s:IS w a2 L.slots.length c2 L.slots
 t:TsS w a5 ts.length c5 ts
 tt:ts.map (fun x=>x.1)=L.targets
 v:wfi L.stack∧wfi L.flash∧wfi L.ram
theorem LyT.below {w w':World} {L:Lay} {a0:Option Addr} {c0:Nat} {xs:List PB} {a2:Option Addr} {c2:Nat} {a5:Option Addr} {c5:Nat} {ts:List TB} (h:LyT w L a0 c0 xs a2 c2 a5 c5 ts) (hb:Below w.heap.size w w'):LyT w' L a0 c0 xs a2 c2 a5 c5 ts:=⟨h.p.below hb,h.ps,h.s.below hb,h.t.below hb,h.tt,h.v⟩
end Go.Proofs.YtngdgogjlpjjpadGreat
