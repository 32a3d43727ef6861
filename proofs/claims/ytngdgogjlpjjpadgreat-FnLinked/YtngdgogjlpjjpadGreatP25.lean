import Derived.Deep.OwnRows
import Derived.Test.YtngdgogjlpjjpadGreatP24
namespace Go.Proofs.YtngdgogjlpjjpadGreat
open Go.RowKit
set_option linter.unusedVariables false
set_option linter.unusedSimpArgs false
set_option maxRecDepth 100000
structure DoR (P:PMod):Prop where
 n:P.nm.size≤13
 t:P.tz.length≤201∧∀ z ∈ P.tz,-1≤z∧z≤4294967296
 b:P.bl.length≤5∧∀ l ∈ P.bl,l.length≤65∧∀ z ∈ l,0≤z∧z≤4294967295
 d:P.dz.length≤513∧Byt P.dz
 s:-1≤P.bss∧P.bss≤513
 r:P.rz.length≤2∧∀ z ∈ P.rz,-4≤z∧z≤512
 i:P.ss.length≤17∧∀ s ∈ P.ss,s.size≤6
 e:P.es.length≤17∧∀ x ∈ P.es,x.1.size≤2∧-2≤x.2.1∧x.2.1≤3∧0≤x.2.2∧x.2.2≤3
theorem DnR.dor {P:PMod} (h:DnR P):DoR P:=by
 refine ⟨by have:=h.n;omega,⟨by have:=h.t.1;omega,fun z hz=>by have:=h.t.2 z hz;omega⟩,⟨by have:=h.b.1;omega,fun l hl=>⟨by have:=(h.b.2 l hl).1;omega,(h.b.2 l hl).2⟩⟩,⟨by have:=h.d.1;omega,h.d.2⟩,by have:=h.s;omega,?_,⟨by have:=h.i.1;omega,h.i.2⟩,⟨by have:=h.e.1;omega,fun x hx=>by have:=h.e.2 x hx;omega⟩⟩
 rcases h.r with e | e <;> rw [e] <;> simp
def MoP (w:World) (r:Nat) (a:Option Addr) (n c:Nat) (zs:List Int) (P:PMod) (k':Nat) (e:Ending) (w':World):Prop:=∃ M:Ma,e=.returned (.agg (modV P M.a1 M.c1 M.a2 M.c2 M.bl M.a3 M.c3 M.a5 M.c5 M.a6 M.c6 M.a7 M.c7))∧Dst w w' r a n c zs k'∧MO w' w.heap.size P M∧∃ db,M.a3=some ⟨db,0,none⟩
def SpFn (zs:List Int) (k:Nat) (P P':PMod) (k':Nat):Prop:=∀ (w W:World) (r:Nat) (a:Option Addr) (n c:Nat) (M:Ma) (D:Dst w W r a n c zs k) (o:MO W w.heap.size P M) (ds:∃ db,M.a3=some ⟨db,0,none⟩),Calls Tryz.prog 136 #[.pointer (some ⟨r,0,none⟩),.agg #[.string P.nm,.slice M.a1 P.tz.length M.c1,.slice M.a2 M.bl.length M.c2,.slice M.a3 P.dz.length M.c3,.int .i64 P.bss,.slice M.a5 P.rz.length M.c5,.slice M.a6 P.ss.length M.c6,.slice M.a7 P.es.length M.c7]] W (MoP w r a n c zs P' k')
theorem mr_spoil {w W:World} {r:Nat} {a:Option Addr} {n c:Nat} {zs:List Int} {k:Nat} {P:PMod} {M:Ma} (D:Dst w W r a n c zs k) (o:MO W w.heap.size P M) (ds:∃ db,M.a3=some ⟨db,0,none⟩):
 MR w ((W.alloc (.cells #[.string P.nm,.slice M.a1 P.tz.length M.c1,.slice M.a2 M.bl.length M.c2,.slice M.a3 P.dz.length M.c3,.int .i64 P.bss,.slice M.a5 P.rz.length M.c5,.slice M.a6 P.ss.length M.c6,.slice M.a7 P.es.length M.c7] 49)).alloc (.cells #[.string ⟨#[]⟩,.slice none 0 0,.slice none 0 0,.slice none 0 0,.int .i64 0,.slice none 0 0,.slice none 0 0,.slice none 0 0] 49)) r a n c zs k W.heap.size (W.heap.size+1) P M:=by
 have hs:=D.sz
 have b1:=al_below W (.cells #[.string P.nm,.slice M.a1 P.tz.length M.c1,.slice M.a2 M.bl.length M.c2,.slice M.a3 P.dz.length M.c3,.int .i64 P.bss,.slice M.a5 P.rz.length M.c5,.slice M.a6 P.ss.length M.c6,.slice M.a7 P.es.length M.c7] 49)
 have k1:=Blk.new W #[.string P.nm,.slice M.a1 P.tz.length M.c1,.slice M.a2 M.bl.length M.c2,.slice M.a3 P.dz.length M.c3,.int .i64 P.bss,.slice M.a5 P.rz.length M.c5,.slice M.a6 P.ss.length M.c6,.slice M.a7 P.es.length M.c7] 49
 have s1:(W.alloc (.cells #[.string P.nm,.slice M.a1 P.tz.length M.c1,.slice M.a2 M.bl.length M.c2,.slice M.a3 P.dz.length M.c3,.int .i64 P.bss,.slice M.a5 P.rz.length M.c5,.slice M.a6 P.ss.length M.c6,.slice M.a7 P.es.length M.c7] 49)).heap.size=W.heap.size+1:=by simp
 generalize W.alloc (.cells #[.string P.nm,.slice M.a1 P.tz.length M.c1,.slice M.a2 M.bl.length M.c2,.slice M.a3 P.dz.length M.c3,.int .i64 P.bss,.slice M.a5 P.rz.length M.c5,.slice M.a6 P.ss.length M.c6,.slice M.a7 P.es.length M.c7] 49)=u1 at *
 have b2:=al_below u1 (.cells #[.string ⟨#[]⟩,.slice none 0 0,.slice none 0 0,.slice none 0 0,.int .i64 0,.slice none 0 0,.slice none 0 0,.slice none 0 0] 49)
 have k2:=Blk.new u1 #[.string ⟨#[]⟩,.slice none 0 0,.slice none 0 0,.slice none 0 0,.int .i64 0,.slice none 0 0,.slice none 0 0,.slice none 0 0] 49
 rw [s1] at k2
 exact ⟨⟨(D.below b1).below b2,k1.below b2,hs,(o.below b1).below b2,ds⟩,k2,by omega,by omega⟩
theorem spl_end {W:World} {q:Nat} {cs:Array Value} (k1:Blk W q cs 49) (hs:cs.size=8) (v0 v1 v2 v3 v4 v5 v6 v7:Value) (Q:Ending→World→Prop) (tmps:Array Value) (h4:tmps[4]?=some (.pointer (some ⟨q,0,none⟩))) (hQ:Q (.returned (.agg #[v0,v1,v2,v3,v4,v5,v6,v7])) (st8 W q v0 v1 v2 v3 v4 v5 v6 v7)):
 bodyPost Tryz.prog Tryz.f136 Q Exit.ret ⟨tmps,[]⟩ (st8 W q v0 v1 v2 v3 v4 v5 v6 v7):=by
 obtain ⟨t0,t1,t2,t3,t4,t5,t6,t7⟩:=(blk_st8 k1 hs v0 v1 v2 v3 v4 v5 v6 v7).eight'
 refine bodyPost_ret_by (v:=.agg #[v0,v1,v2,v3,v4,v5,v6,v7]) ?_ rfl hQ
 simp [results,Tryz.results136,go_sem,h4,t0,t1,t2,t3,t4,t5,t6,t7]
theorem spl_fin {w W:World} {r:Nat} {a:Option Addr} {n c:Nat} {zs:List Int} {k g q:Nat} {P:PMod} {M:Ma} (h:MR w W r a n c zs k g q P M) (v0 v1 v2 v3 v4 v5 v6 v7:Value) (e:#[v0,v1,v2,v3,v4,v5,v6,v7]=modV P M.a1 M.c1 M.a2 M.c2 M.bl M.a3 M.c3 M.a5 M.c5 M.a6 M.c6 M.a7 M.c7):MoP w r a n c zs P k (.returned (.agg #[v0,v1,v2,v3,v4,v5,v6,v7])) (st8 W q v0 v1 v2 v3 v4 v5 v6 v7):=
 ⟨M,by rw [e],h.m.d.grow ((turn_st8 W q _ _ _ _ _ _ _ _).mono (fun j hj=>by subst hj;exact h.hq)),h.m.o.kept (turn_st8 W q _ _ _ _ _ _ _ _) (fun j hj=>.inr (by subst hj;exact ⟨_,h.res⟩)),h.m.ds⟩
theorem MR.lay {w W:World} {r:Nat} {a:Option Addr} {n c:Nat} {zs:List Int} {k g q i:Nat} {P P':PMod} {M M':Ma} {v':Value} (h:MR w W r a n c zs k g q P M) (o:MO W w.heap.size P' M') (ds:∃ db,M'.a3=some ⟨db,0,none⟩) (e:(modV P M.a1 M.c1 M.a2 M.c2 M.bl M.a3 M.c3 M.a5 M.c5 M.a6 M.c6 M.a7 M.c7).setIfInBounds i v'=modV P' M'.a1 M'.c1 M'.a2 M'.c2 M'.bl M'.a3 M'.c3 M'.a5 M'.c5 M'.a6 M'.c6 M'.a7 M'.c7):MR w (W.setCell ⟨g,i,none⟩ v') r a n c zs k g q P' M':=
 ⟨MB.put h.m.d h.m.hg h.m.box o ds e,turn_blk (turn_set W g i v') h.res h.ne,h.hq,h.ne⟩
theorem MR.setnm {w W:World} {r:Nat} {a:Option Addr} {n c:Nat} {zs:List Int} {k g q:Nat} {P:PMod} {M:Ma} (h:MR w W r a n c zs k g q P M) (nm:ByteArray):MR w (W.setCell ⟨g,0,none⟩ (.string nm)) r a n c zs k g q { P with nm:=nm } M:=
 h.lay ⟨h.m.o.t,h.m.o.b,h.m.o.bls,h.m.o.d,h.m.o.r,h.m.o.i,h.m.o.e,h.m.o.tb,h.m.o.tr,h.m.o.br⟩ h.m.ds (by simp [modV])
theorem MR.setbss {w W:World} {r:Nat} {a:Option Addr} {n c:Nat} {zs:List Int} {k g q:Nat} {P:PMod} {M:Ma} (h:MR w W r a n c zs k g q P M) (x:Int):MR w (W.setCell ⟨g,4,none⟩ (.int .i64 x)) r a n c zs k g q { P with bss:=x } M:=
 h.lay ⟨h.m.o.t,h.m.o.b,h.m.o.bls,h.m.o.d,h.m.o.r,h.m.o.i,h.m.o.e,h.m.o.tb,h.m.o.tr,h.m.o.br⟩ h.m.ds (by simp [modV])
def zin (n:Nat):Array Value:=((List.replicate n (0:Int)).flatMap clI).toArray
def zb8 (n:Nat):Array Value:=((List.replicate n (0:Int)).map (Value.int .u8)).toArray
theorem og_zin (W:World) (base n:Nat) (hb:base≤W.heap.size) (hn:n≤1000):OG 3 1 clI (W.alloc (.cells (zin n) 3)) base (.slice (some ⟨W.heap.size,0,none⟩) n n) (List.replicate n 0):=by
 have:=og_mk 3 1 clI W base hb (List.replicate n 0) (zin n) rfl (by rw [flat_clI];simp) (by unfold maxLen;simp;omega)
 rwa [List.length_replicate] at this
theorem ob_zb8 (W:World) (base n:Nat) (hb:base≤W.heap.size) (hn:n≤1000):OB (W.alloc (.cells (zb8 n) 5)) base (.slice (some ⟨W.heap.size,0,none⟩) n n) (List.replicate n 0):=by
 refine ⟨⟨by simp,.inr ⟨W.heap.size,n,zb8 n,by simp,hb,heap_alloc_new W _,by simp,by unfold maxLen;omega,by simp [zb8],?_⟩⟩,fun z hz=>by have:=List.eq_of_mem_replicate hz;omega⟩
 unfold zb8
 simp only [List.toList_toArray,List.length_replicate,Nat.mul_one]
 exact List.take_of_length_le (by simp)
theorem mk8 (n:Nat) (hn:n≤1000) (W:World):(Instr.makeSlice 22 (.int .i64 (n:Int)) (.int .i64 (n:Int))).run Tryz.prog W=.ok (.slice (some ⟨W.heap.size,0,none⟩) n n) (W.alloc (.cells (zb8 n) 5)):=by
 rw [run_make_row' 22 5 (.int .u8 0) 1 Tryz.underlying22 info8 rfl .i64 .i64 n (by omega) (by omega) W]
 have:=made8 n
 rw [Nat.mul_one] at this
 unfold zb8
 rw [← this]
 rfl
theorem madeIn (n:Nat):(madeCells (Value.cells (.int .i64 0)) (n * 1))=((List.replicate n (0:Int)).map (Value.int .i64)).toArray:=by
 apply Array.ext
 ·simp [size_madeCells]
 ·intro i h1 h2
  simp [madeCells,Value.cells,Nat.mod_one]
theorem mkI (n:Nat) (hn:n≤1000) (W:World):(Instr.makeSlice 29 (.int .i64 (n:Int)) (.int .i64 (n:Int))).run Tryz.prog W=.ok (.slice (some ⟨W.heap.size,0,none⟩) n n) (W.alloc (.cells (zin n) 3)):=by
 rw [run_make_row' 29 3 (.int .i64 0) 8 Tryz.underlying29 infoI rfl .i64 .i64 n (by omega) (by omega) W]
 have:=madeIn n
 rw [Nat.mul_one] at this
 unfold zin
 rw [flat_clI,← this]
 rfl
theorem MR.newtext {w W:World} {r:Nat} {a:Option Addr} {n c:Nat} {zs:List Int} {k g q:Nat} {P:PMod} {M:Ma} (h:MR w W r a n c zs k g q P M) (m:Nat) (hm:m≤1000):MR w ((W.alloc (.cells (zin m) 3)).setCell ⟨g,1,none⟩ (.slice (some ⟨W.heap.size,0,none⟩) m m)) r a n c zs k g q { P with tz:=List.replicate m 0 } { M with a1:=some ⟨W.heap.size,0,none⟩,c1:=m }:=by
 have h1:=h.below (al_below W (.cells (zin m) 3))
 refine h1.lay ⟨by have:=og_zin W w.heap.size m h.m.d.sz hm;simpa using this,h1.m.o.b,h1.m.o.bls,h1.m.o.d,h1.m.o.r,h1.m.o.i,h1.m.o.e,fun j hj B hB e=>?_,fun j hj e=>?_,h1.m.o.br⟩ h.m.ds (by simp [modV])
 ·have e':some W.heap.size=some j:=hj
  injection e' with e'
  have:=((h.m.o.b.rows B hB).2.lt j e).2
  omega
 ·have e':some W.heap.size=some j:=hj
  injection e' with e'
  have:=(h.m.o.r.lt j e).2
  omega
theorem MR.newdata {w W:World} {r:Nat} {a:Option Addr} {n c:Nat} {zs:List Int} {k g q:Nat} {P:PMod} {M:Ma} (h:MR w W r a n c zs k g q P M) (m:Nat) (hm:m≤1000):MR w ((W.alloc (.cells (zb8 m) 5)).setCell ⟨g,3,none⟩ (.slice (some ⟨W.heap.size,0,none⟩) m m)) r a n c zs k g q { P with dz:=List.replicate m 0 } { M with a3:=some ⟨W.heap.size,0,none⟩,c3:=m }:=by
 have h1:=h.below (al_below W (.cells (zb8 m) 5))
 exact h1.lay ⟨h1.m.o.t,h1.m.o.b,h1.m.o.bls,by have:=ob_zb8 W w.heap.size m h.m.d.sz hm;simpa using this,h1.m.o.r,h1.m.o.i,h1.m.o.e,h1.m.o.tb,h1.m.o.tr,h1.m.o.br⟩ ⟨_,rfl⟩ (by simp [modV])
theorem MR.bankX {w W X w4:World} {r:Nat} {a:Option Addr} {n c:Nat} {zs:List Int} {k g q:Nat} {P:PMod} {M:Ma} {g4 c4 lo:Nat} {A:Option Addr} {Cp m:Nat} {x:List Int} (h:MR w W r a n c zs k g q P M) (hX:MR w X r a n c zs k g q P M) (hm:x.length=m) (ox:OG 3 1 clI X lo (.slice A m Cp) x) (hlo:W.heap.size≤lo)
 (hown:w4.ownsRow w.heap.size 29 1 (.slice (some ⟨g4,0,none⟩) (M.bl.length+1) c4) (M.bl.length+1) (M.bl.map (fun B=>Value.slice B.1 B.2.1 B.2.2.1)++[.slice A m Cp])) (hg:X.grownBy w4 (Value.slice M.a2 M.bl.length M.c2).ownBlock):
 MR w (w4.setCell ⟨g,2,none⟩ (.slice (some ⟨g4,0,none⟩) (M.bl.length+1) c4)) r a n c zs k g q { P with bl:=P.bl++[x] } { M with a2:=some ⟨g4,0,none⟩,c2:=c4,bl:=M.bl++[(A,x.length,Cp,x)] }:=by
 subst hm
 have mo:=hX.m.o.grow_b (v':=.slice none 0 0) ox (Nat.le_trans h.m.d.sz hlo) (fun B hB j hj=>Nat.lt_of_lt_of_le ((h.m.o.b.rows B hB).2.lt j hj).2 hlo) (fun j hj=>Nat.lt_of_lt_of_le (h.m.o.t.lt j hj).2 hlo) (fun j hj=>Nat.lt_of_lt_of_le (h.m.o.r.lt j hj).2 hlo) hown hg
 exact MR.put (base:=w.heap.size) hX hX.m.o.b.head (by decide) hg mo h.m.ds (by simp [modV])
def lenAt (W:World) (g i:Nat):Nat:=match W.cell? ⟨g,i,none⟩ with
 | some (.slice _ n _)=>n
 | _=>0
theorem lenAt_of {W:World} {g i n c:Nat} {a:Option Addr} (h:W.cell? ⟨g,i,none⟩=some (.slice a n c)):lenAt W g i=n:=by unfold lenAt;rw [h]
theorem drw_sz (w:World):w.drew.heap.size=w.heap.size:=rfl
theorem cells_at (w:World) (g:Nat) (cs:Array Value) (t:TypeId) (xs:List Value) (h:cs=xs.toArray) (hg:g=w.heap.size):∀ j u,xs[j]?=some u→(w.alloc (.cells cs t)).cell? ((⟨g,0,none⟩:Addr).add j)=some u:=by
 subst hg
 exact cells_new w cs t xs h
theorem og_zat (W:World) (g base n:Nat) (hg:g=W.heap.size) (hb:base≤g) (hn:n≤1000):OG 3 1 clI (W.alloc (.cells (zin n) 3)) base (.slice (some ⟨g,0,none⟩) n n) (List.replicate n 0):=by
 subst hg
 exact og_zin W base n hb hn
theorem OG.drew {α:Type} {t:TypeId} {sz:Nat} {f:α→List Value} {w:World} {base:Nat} {v:Value} {xs:List α} (h:OG t sz f w base v xs):OG t sz f w.drew base v xs:=h
theorem MR.newbanks {w W X:World} {r:Nat} {a:Option Addr} {n c:Nat} {zs:List Int} {k g q m cp:Nat} {P:PMod} {M:Ma} {g4:Nat} {bl:List Bk} (h:MR w W r a n c zs k g q P M) (hX:MR w X r a n c zs k g q P M) (hb:OBk X W.heap.size (.slice (some ⟨g4,0,none⟩) m cp) bl) (hm:bl.length=m) (ls:List (List Int)) (hl:bl.map (fun B=>B.2.2.2)=ls):
 MR w (X.setCell ⟨g,2,none⟩ (.slice (some ⟨g4,0,none⟩) m cp)) r a n c zs k g q { P with bl:=ls } { M with a2:=some ⟨g4,0,none⟩,c2:=cp,bl:=bl }:=by
 subst hm
 refine hX.lay ⟨hX.m.o.t,hb.mono h.m.d.sz,hl,hX.m.o.d,hX.m.o.r,hX.m.o.i,hX.m.o.e,fun j hj B hB e=>?_,hX.m.o.tr,fun j hj B hB e=>?_⟩ h.m.ds (by simp [modV])
 ·have h1:=((hb.rows B hB).2.lt j e).1
  have h2:=(h.m.o.t.lt j hj).2
  omega
 ·have h1:=((hb.rows B hB).2.lt j e).1
  have h2:=(h.m.o.r.lt j hj).2
  omega
end Go.Proofs.YtngdgogjlpjjpadGreat
