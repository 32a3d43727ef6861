import Derived.Test.YtngdgogjlpjjpaeGreatP19
import Derived.Test.YtngdgogjlpjjpaeGreatP24
import Derived.Test.YtngdgogjlpjjpaeGreatP27
import Derived.Test.YtngdgogjlpjjpaeGreatP26
import Derived.Test.YtngdgogjlpjjpaeGreatP28
import Derived.Test.YtngdgogjlpjjpaeGreatP29
import Derived.Test.YtngdgogjlpjjpaeGreatP30
set_option maxHeartbeats 8000000
namespace Go.Proofs.YtngdgogjlpjjpaeGreat
open Go.RowKit Classical
set_option linter.unusedVariables false
set_option linter.unusedSimpArgs false
set_option maxRecDepth 100000
theorem markModuleS_any (a:Option Addr)(n cap base k:Nat)(Q:Nat→Prop)(hs:List Hd)(L:List (Hd × Ct))(β:Nat→Nat)(w:World)(H:OMs w base (.slice a n cap) L β)(hL:L.map (fun x=>x.1)=hs)(hl:L.length=n)(h0:0<k)(hz:k+upS (fun j=>cntH (hs.getD j zHd)) n≤1048576)(hb:∀ i,i<n→(hs.getD i zHd).bn≤1048576)(hn:n≤1048576)(hg:∀ j,(Value.slice a n cap).ownBlock=some j→Q j)(hsh:∀ i,i<n→∀ j,Sh (hs.getD i zHd) j→Q j):
 Calls Tryz.prog 25 #[.slice a n cap,.int .i64 k] w fun e w'=>e=.returned (.int .i64 ((k+upS (fun j=>cntH (hs.getD j zHd)) n:Nat):Int))∧∃ L',Mkg w w' base Q (.slice a n cap) hs L' β k n:=by
 by_cases e:n=0
 ·subst e
  refine (markModuleS_zero a cap k w).mono fun e w' he=>?_
  obtain ⟨rfl,rfl⟩:=he
  exact ⟨rfl,L,H,hL,fun i hi=>absurd hi (Nat.not_lt_zero _),Turn.refl _ _⟩
 ·obtain ⟨g,rfl⟩:=og_addr H.o e
  exact markModuleS_some g n cap base k Q hs L β w H hL hl h0 hz hb hn (hg g rfl) hsh
theorem heldModuleS_any (a:Option Addr)(n cap base k:Nat)(hs:List Hd)(L:List (Hd × Ct))(β:Nat→Nat)(w:World)(H:OMs w base (.slice a n cap) L β)(hd:∀ i,i<n→L[i]?=some (hs.getD i zHd,mkC (hs.getD i zHd) (k+upS (fun j=>cntH (hs.getD j zHd)) i)))(h0:0<k)(hz:k+upS (fun j=>cntH (hs.getD j zHd)) n≤1048576)(hb:∀ i,i<n→(hs.getD i zHd).bn≤1048576)(hn:n≤1048576):
 Calls Tryz.prog 113 #[.slice a n cap,.int .i64 k] w fun e w'=>e=.returned (.int .i64 ((k+upS (fun j=>cntH (hs.getD j zHd)) n:Nat):Int))∧Below w.heap.size w w':=by
 by_cases e:n=0
 ·subst e
  refine (heldModuleS_zero a cap k w).mono fun e w' he=>?_
  obtain ⟨rfl,rfl⟩:=he
  exact ⟨rfl,Below.refl _ _⟩
 ·obtain ⟨g,rfl⟩:=og_addr H.o e
  exact heldModuleS_some g n cap base k hs L β w H hd h0 hz hb hn
theorem markMachine_any (M:Mn)(base:Nat)(hs:List Hd)(L:List (Hd × Ct))(β:Nat→Nat)(K F R O:List Int)(S:List SlT)(H:List FrT)(w:World)(h:MnO w base (.slice M.ma M.mn M.mc) hs L β (.slice M.ka M.kn M.kc) (.slice M.fa M.fn M.fc) (.slice M.ra M.rn M.rc) (.slice M.oa M.on M.oc) (.slice M.la M.ln M.lc) (.slice M.ha M.hn M.hc) K F R O S H)(hl:L.length=M.mn)(hz:1+upS (fun j=>cntH (hs.getD j zHd)) M.mn+M.kn+M.fn+M.rn+M.on+4 * M.ln+4 * M.hn≤1048576)(hb:∀ i,i<M.mn→(hs.getD i zHd).bn≤1048576)(hn:M.mn≤1048576):
 Calls Tryz.prog 41 #[.agg #[.slice M.ma M.mn M.mc,.int .i64 M.cs,.int .i64 M.cw,.int .i64 M.ck,.int .i64 M.cd,.int .i64 M.pc,.slice M.ka M.kn M.kc,.slice M.fa M.fn M.fc,.slice M.ra M.rn M.rc,.slice M.oa M.on M.oc,.int .i64 M.md,.int .i64 M.bk,.slice M.la M.ln M.lc,.slice M.ha M.hn M.hc,.int .i64 M.tn],.int .i64 1] w fun e w'=>e=.returned (.int .i64 ((1+upS (fun j=>cntH (hs.getD j zHd)) M.mn+M.kn+M.fn+M.rn+M.on+4 * M.ln+4 * M.hn:Nat):Int))∧(∃ L',MnO w' base (.slice M.ma M.mn M.mc) hs L' β (.slice M.ka M.kn M.kc) (.slice M.fa M.fn M.fc) (.slice M.ra M.rn M.rc) (.slice M.oa M.on M.oc) (.slice M.la M.ln M.lc) (.slice M.ha M.hn M.hc) (marksI (1+upS (fun j=>cntH (hs.getD j zHd)) M.mn) M.kn) (marks (1+upS (fun j=>cntH (hs.getD j zHd)) M.mn+M.kn) M.fn) (marks (1+upS (fun j=>cntH (hs.getD j zHd)) M.mn+M.kn+M.fn) M.rn) (marks (1+upS (fun j=>cntH (hs.getD j zHd)) M.mn+M.kn+M.fn+M.rn) M.on) (mrkQ (mkSlot (1+upS (fun j=>cntH (hs.getD j zHd)) M.mn+M.kn+M.fn+M.rn+M.on)) M.ln) (mrkQ (mkFrame (1+upS (fun j=>cntH (hs.getD j zHd)) M.mn+M.kn+M.fn+M.rn+M.on+4 * M.ln)) M.hn)∧∀ i,i<M.mn→L'[i]?=some (hs.getD i zHd,mkC (hs.getD i zHd) (1+upS (fun j=>cntH (hs.getD j zHd)) i)))∧Turn (fun j=>(base≤j∧j<w.heap.size)∧∃ cs t,Blk w j cs t∧t≠54) w w':=by
 obtain ⟨V,hV⟩:∃ V,V=w.alloc (.cells #[.slice M.ma M.mn M.mc,.int .i64 M.cs,.int .i64 M.cw,.int .i64 M.ck,.int .i64 M.cd,.int .i64 M.pc,.slice M.ka M.kn M.kc,.slice M.fa M.fn M.fc,.slice M.ra M.rn M.rc,.slice M.oa M.on M.oc,.int .i64 M.md,.int .i64 M.bk,.slice M.la M.ln M.lc,.slice M.ha M.hn M.hc,.int .i64 M.tn] 54):=⟨_,rfl⟩
 have bV:Below w.heap.size w V:=by rw [hV];exact (Below.refl _ _).alloc (Nat.le_refl _) _
 have kV:Blk V w.heap.size #[.slice M.ma M.mn M.mc,.int .i64 M.cs,.int .i64 M.cw,.int .i64 M.ck,.int .i64 M.cd,.int .i64 M.pc,.slice M.ka M.kn M.kc,.slice M.fa M.fn M.fc,.slice M.ra M.rn M.rc,.slice M.oa M.on M.oc,.int .i64 M.md,.int .i64 M.bk,.slice M.la M.ln M.lc,.slice M.ha M.hn M.hc,.int .i64 M.tn] 54:=by rw [hV];exact Blk.new _ _ _
 have hsl:hs.length=M.mn:=by rw [← h.e,List.length_map,hl]
 have L0:∀ j,((.slice M.ma M.mn M.mc):Value).ownBlock=some j∨ShL hs j→(base≤j∧j<w.heap.size)∧∃ cs t,Blk w j cs t∧t≠54:=fun j s=>by
  rcases s with s | s
  ·obtain ⟨cs,k⟩:=own_kind h.m.o s
   exact ⟨h.m.o.lt j s,cs,_,k,by decide⟩
  ·obtain ⟨i,x,hx,hj⟩:=shl_at h s
   obtain ⟨this,cs,t,k,ht⟩:=(h.m.m i x hx).1.sh hj
   exact ⟨⟨by have:=h.lo i x hx;omega,by omega⟩,cs,t,k,by rcases ht with rfl | rfl | rfl | rfl <;> decide⟩
 have L1:∀ j,((.slice M.ka M.kn M.kc):Value).ownBlock=some j→(base≤j∧j<w.heap.size)∧∃ cs t,Blk w j cs t∧t≠54:=fun j s=>by
  obtain ⟨cs,k⟩:=own_kind h.k.1 s
  exact ⟨h.k.lt j s,cs,_,k,by decide⟩
 have L2:∀ j,Blks (.slice M.fa M.fn M.fc) (.slice M.ra M.rn M.rc) (.slice M.oa M.on M.oc) j→(base≤j∧j<w.heap.size)∧∃ cs t,Blk w j cs t∧t≠54:=fun j s=>by
  obtain ⟨cs,k⟩:=blks_kind h.q s
  exact ⟨h.q.lt s,cs,_,k,by decide⟩
 have L3:∀ j,((.slice M.la M.ln M.lc):Value).ownBlock=some j→(base≤j∧j<w.heap.size)∧∃ cs t,Blk w j cs t∧t≠54:=fun j s=>by
  obtain ⟨cs,k⟩:=own_kind h.l s
  exact ⟨h.l.lt j s,cs,_,k,by decide⟩
 have L4:∀ j,((.slice M.ha M.hn M.hc):Value).ownBlock=some j→(base≤j∧j<w.heap.size)∧∃ cs t,Blk w j cs t∧t≠54:=fun j s=>by
  obtain ⟨cs,k⟩:=own_kind h.h s
  exact ⟨h.h.lt j s,cs,_,k,by decide⟩
 have HLT:=hide (And.intro L0 (And.intro L1 (And.intro L2 (And.intro L3 L4))))
 have Z0:=h.below bV
 have T0:Turn (fun j=>(base≤j∧j<w.heap.size)∧∃ cs t,Blk w j cs t∧t≠54) w V:=turn_below bV
 have HV:=hide hV
 have HS:=hide hsl
 clear hV bV L0 L1 L2 L3 L4 h hsl
 generalize hu:upS (fun j=>cntH (hs.getD j zHd)) M.mn=u at *
 have HU:=hide hu
 have C0:=hide (markModuleS_any M.ma M.mn M.mc base 1 (fun j=>((.slice M.ma M.mn M.mc):Value).ownBlock=some j∨ShL hs j) hs L β V Z0.m Z0.e hl (by omega) (by rw [HU.out];omega) hb hn (fun j hj=>.inl hj) (fun i hi j hj=>.inr ⟨i,by rw [HS.out];exact hi,hj⟩))
 rw [HU.out] at C0
 clear hu
 obtain ⟨p0,p1,p2,p3,p4,p5,p6,p7,p8,p9,p10,p11,p12,p13,p14⟩:=kV.mc
 have HZ:=hide (And.intro Z0 (And.intro T0 kV))
 clear Z0 T0 kV
 go_enter Tryz.func41,Tryz.ntmps41
 go_wp2_with (rw [← HV.out])
 refine C0.out.mono ?_
 rintro e w1 ⟨rfl,L',G⟩
 obtain ⟨Z0,T0,kV⟩:=HZ.out
 have Z1:=Z0.mods G.o G.h G.t
 have T1:=T0.trans (G.t.mono HLT.out.1)
 have k1:=turn_blk G.t kV (fun s=>by have:=(HLT.out.1 _ s).1;omega)
 have HD:=hide G.d
 clear p0 p1 p2 p3 p4 p5 p6 p7 p8 p9 p10 p11 p12 p13 p14
 obtain ⟨p0,p1,p2,p3,p4,p5,p6,p7,p8,p9,p10,p11,p12,p13,p14⟩:=k1.mc
 have C1:=hide (markCore_k M.pc M.ka M.kn M.kc base _ (1+u) w1 Z1.k (by omega) (by omega))
 have HZ1:=hide (And.intro Z1 (And.intro T1 k1))
 clear Z0 T0 kV G Z1 T1 k1 HZ C0
 go_wp2_with fail
 refine C1.out.mono ?_
 rintro e w2 ⟨rfl,O',U⟩
 obtain ⟨Z1,T1,k1⟩:=HZ1.out
 have Z2:=Z1.core O' U
 have T2:=T1.trans (U.mono HLT.out.2.1)
 have k2:=turn_blk U k1 (fun s=>by have:=(HLT.out.2.1 _ s).1;omega)
 clear p0 p1 p2 p3 p4 p5 p6 p7 p8 p9 p10 p11 p12 p13 p14
 obtain ⟨p0,p1,p2,p3,p4,p5,p6,p7,p8,p9,p10,p11,p12,p13,p14⟩:=k2.mc
 have C2:=hide (markMem_k M.fa M.ra M.oa M.fn M.fc M.rn M.rc M.on M.oc base _ _ _ (1+u+M.kn) w2 Z2.q (by omega))
 have HZ2:=hide (And.intro Z2 (And.intro T2 k2))
 clear Z1 T1 k1 O' U Z2 T2 k2 HZ1 C1
 go_wp2_with fail
 refine C2.out.mono ?_
 rintro e w3 ⟨rfl,O',U⟩
 obtain ⟨Z2,T2,k2⟩:=HZ2.out
 have Z3:=Z2.mem O' U
 have T3:=T2.trans (U.mono HLT.out.2.2.1)
 have k3:=turn_blk U k2 (fun s=>by have:=(HLT.out.2.2.1 _ s).1;omega)
 clear p0 p1 p2 p3 p4 p5 p6 p7 p8 p9 p10 p11 p12 p13 p14
 obtain ⟨p0,p1,p2,p3,p4,p5,p6,p7,p8,p9,p10,p11,p12,p13,p14⟩:=k3.mc
 have C3:=hide (markSlotS_any M.la M.ln M.lc base _ (1+u+M.kn+M.fn+M.rn+M.on) w3 Z3.l (by omega) (by omega))
 have HZ3:=hide (And.intro Z3 (And.intro T3 k3))
 clear Z2 T2 k2 O' U Z3 T3 k3 HZ2 C2
 go_wp2_with fail
 refine C3.out.mono ?_
 rintro e w4 ⟨rfl,O',U⟩
 obtain ⟨Z3,T3,k3⟩:=HZ3.out
 have Z4:=Z3.slot O' U
 have T4:=T3.trans (U.mono HLT.out.2.2.2.1)
 have k4:=turn_blk U k3 (fun s=>by have:=(HLT.out.2.2.2.1 _ s).1;omega)
 clear p0 p1 p2 p3 p4 p5 p6 p7 p8 p9 p10 p11 p12 p13 p14
 obtain ⟨p0,p1,p2,p3,p4,p5,p6,p7,p8,p9,p10,p11,p12,p13,p14⟩:=k4.mc
 have C4:=hide (markFrameS_any M.ha M.hn M.hc base _ (1+u+M.kn+M.fn+M.rn+M.on+4 * M.ln) w4 Z4.h (by omega) (by omega))
 have HZ4:=hide (And.intro Z4 T4)
 clear Z3 T3 k3 O' U Z4 T4 k4 HZ3 C3
 go_wp2_with fail
 refine C4.out.mono ?_
 rintro e w5 ⟨rfl,O',U⟩
 obtain ⟨Z4,T4⟩:=HZ4.out
 have HE:=hide (And.intro (Z4.frame O' U) (T4.trans (U.mono HLT.out.2.2.2.2)))
 clear p0 p1 p2 p3 p4 p5 p6 p7 p8 p9 p10 p11 p12 p13 p14 Z4 T4 O' U HZ4 C4
 go_wp2
 go_ret
 exact ⟨by go_num,⟨L',HE.out.1,HD.out⟩,HE.out.2⟩
theorem heldMachine_any (M:Mn)(base:Nat)(hs:List Hd)(L:List (Hd × Ct))(β:Nat→Nat)(w:World)(h:MnO w base (.slice M.ma M.mn M.mc) hs L β (.slice M.ka M.kn M.kc) (.slice M.fa M.fn M.fc) (.slice M.ra M.rn M.rc) (.slice M.oa M.on M.oc) (.slice M.la M.ln M.lc) (.slice M.ha M.hn M.hc) (marksI (1+upS (fun j=>cntH (hs.getD j zHd)) M.mn) M.kn) (marks (1+upS (fun j=>cntH (hs.getD j zHd)) M.mn+M.kn) M.fn) (marks (1+upS (fun j=>cntH (hs.getD j zHd)) M.mn+M.kn+M.fn) M.rn) (marks (1+upS (fun j=>cntH (hs.getD j zHd)) M.mn+M.kn+M.fn+M.rn) M.on) (mrkQ (mkSlot (1+upS (fun j=>cntH (hs.getD j zHd)) M.mn+M.kn+M.fn+M.rn+M.on)) M.ln) (mrkQ (mkFrame (1+upS (fun j=>cntH (hs.getD j zHd)) M.mn+M.kn+M.fn+M.rn+M.on+4 * M.ln)) M.hn))(hd:∀ i,i<M.mn→L[i]?=some (hs.getD i zHd,mkC (hs.getD i zHd) (1+upS (fun j=>cntH (hs.getD j zHd)) i)))(hz:1+upS (fun j=>cntH (hs.getD j zHd)) M.mn+M.kn+M.fn+M.rn+M.on+4 * M.ln+4 * M.hn≤1048576)(hb:∀ i,i<M.mn→(hs.getD i zHd).bn≤1048576)(hn:M.mn≤1048576):
 Calls Tryz.prog 42 #[.agg #[.slice M.ma M.mn M.mc,.int .i64 M.cs,.int .i64 M.cw,.int .i64 M.ck,.int .i64 M.cd,.int .i64 M.pc,.slice M.ka M.kn M.kc,.slice M.fa M.fn M.fc,.slice M.ra M.rn M.rc,.slice M.oa M.on M.oc,.int .i64 M.md,.int .i64 M.bk,.slice M.la M.ln M.lc,.slice M.ha M.hn M.hc,.int .i64 M.tn],.int .i64 1] w fun e w'=>e=.returned (.int .i64 ((1+upS (fun j=>cntH (hs.getD j zHd)) M.mn+M.kn+M.fn+M.rn+M.on+4 * M.ln+4 * M.hn:Nat):Int))∧Below w.heap.size w w':=by
 obtain ⟨V,hV⟩:∃ V,V=w.alloc (.cells #[.slice M.ma M.mn M.mc,.int .i64 M.cs,.int .i64 M.cw,.int .i64 M.ck,.int .i64 M.cd,.int .i64 M.pc,.slice M.ka M.kn M.kc,.slice M.fa M.fn M.fc,.slice M.ra M.rn M.rc,.slice M.oa M.on M.oc,.int .i64 M.md,.int .i64 M.bk,.slice M.la M.ln M.lc,.slice M.ha M.hn M.hc,.int .i64 M.tn] 54):=⟨_,rfl⟩
 have bV:Below w.heap.size w V:=by rw [hV];exact (Below.refl _ _).alloc (Nat.le_refl _) _
 have kV:Blk V w.heap.size #[.slice M.ma M.mn M.mc,.int .i64 M.cs,.int .i64 M.cw,.int .i64 M.ck,.int .i64 M.cd,.int .i64 M.pc,.slice M.ka M.kn M.kc,.slice M.fa M.fn M.fc,.slice M.ra M.rn M.rc,.slice M.oa M.on M.oc,.int .i64 M.md,.int .i64 M.bk,.slice M.la M.ln M.lc,.slice M.ha M.hn M.hc,.int .i64 M.tn] 54:=by rw [hV];exact Blk.new _ _ _
 have HK:=hide (fun (X:World) (hX:Below V.heap.size V X)=>(kV.below hX).mc)
 have HZ:=hide (fun (X:World) (hX:Below V.heap.size V X)=>(h.below bV).below hX)
 have HB:=hide bV
 have HV:=hide hV
 clear hV bV
 generalize hu:upS (fun j=>cntH (hs.getD j zHd)) M.mn=u at *
 have C0:=hide (heldModuleS_any M.ma M.mn M.mc base 1 hs L β V (HZ.out V (Below.refl _ _)).m hd (by omega) (by rw [hu];omega) hb hn)
 rw [hu] at C0
 clear hu kV h hd
 have n0:¬ (((1+u:Nat):Int)<0):=by omega
 have n1:¬ (((1+u+M.kn:Nat):Int)<0):=by omega
 have n2:¬ (((1+u+M.kn+M.fn+M.rn+M.on:Nat):Int)<0):=by omega
 have n3:¬ (((1+u+M.kn+M.fn+M.rn+M.on+4 * M.ln:Nat):Int)<0):=by omega
 have n4:¬ (((1+u+M.kn+M.fn+M.rn+M.on+4 * M.ln+4 * M.hn:Nat):Int)<0):=by omega
 obtain ⟨p0,p1,p2,p3,p4,p5,p6,p7,p8,p9,p10,p11,p12,p13,p14⟩:=HK.out V (Below.refl _ _)
 go_enter Tryz.func42,Tryz.ntmps42
 go_wp2_with (rw [← HV.out])
 refine C0.out.mono ?_
 rintro e w1 ⟨rfl,b1⟩
 have Z1:=HZ.out w1 b1
 have C1:=hide (heldCore_k M.pc M.ka M.kn M.kc (1+u) w1 Z1.k.is (by omega) (by omega))
 clear p0 p1 p2 p3 p4 p5 p6 p7 p8 p9 p10 p11 p12 p13 p14
 obtain ⟨p0,p1,p2,p3,p4,p5,p6,p7,p8,p9,p10,p11,p12,p13,p14⟩:=HK.out w1 b1
 have HB1:=hide b1
 clear Z1 b1 C0
 go_wp2_with fail
 refine C1.out.mono ?_
 rintro e w2 ⟨rfl,b2⟩
 have HB2:=hide (HB1.out.trans (b2.mono HB1.out.size))
 have Z2:=HZ.out w2 HB2.out
 have C2:=hide (heldMem_k M.fa M.ra M.oa M.fn M.fc M.rn M.rc M.on M.oc (1+u+M.kn) w2 Z2.q.o1.bs Z2.q.o2.bs Z2.q.o3.bs (by omega))
 clear p0 p1 p2 p3 p4 p5 p6 p7 p8 p9 p10 p11 p12 p13 p14
 obtain ⟨p0,p1,p2,p3,p4,p5,p6,p7,p8,p9,p10,p11,p12,p13,p14⟩:=HK.out w2 HB2.out
 clear Z2 b2 C1 HB1
 go_wp2_with fail
 refine C2.out.mono ?_
 rintro e w3 ⟨rfl,b3⟩
 have HB3:=hide (HB2.out.trans (b3.mono HB2.out.size))
 have Z3:=HZ.out w3 HB3.out
 have C3:=hide (heldSlotS_any M.la M.ln M.lc base (1+u+M.kn+M.fn+M.rn+M.on) w3 Z3.l (by omega) (by omega))
 have C4:=hide (heldFrameS_any M.ha M.hn M.hc base (1+u+M.kn+M.fn+M.rn+M.on+4 * M.ln) w3 Z3.h (by omega) (by omega))
 clear p0 p1 p2 p3 p4 p5 p6 p7 p8 p9 p10 p11 p12 p13 p14
 obtain ⟨p0,p1,p2,p3,p4,p5,p6,p7,p8,p9,p10,p11,p12,p13,p14⟩:=HK.out w3 HB3.out
 clear Z3 b3 C2 HB2
 go_wp2_with fail
 refine C3.out.mono ?_
 rintro e w4 ⟨rfl,rfl⟩
 go_wp2_with fail
 refine C4.out.mono ?_
 rintro e w4 ⟨rfl,rfl⟩
 go_wp2
 go_ret
 exact ⟨by go_num,HB.out.trans (HB3.out.mono HB.out.size)⟩
structure Lc where
 ps:List PMod
 s:Int
 c:Int
 k:Int
 d:Int
 bk:Int
 kz:List Int
 F:List Int
 R:List Int
 lz:List SlT
def ldC (zss:List (List Int))(n:Nat)(s c k d:Int):Lc:=if (ldc zss n s c k d).1=0 then ⟨pal zss n,s,c,k,d,-1,List.replicate 8 0,imF (pal zss n) (lay (pal zss n) s c k),imR (pal zss n) (lay (pal zss n) s c k),List.replicate s.toNat zSl⟩ else ⟨[],0,0,0,0,0,[],[],[],[]⟩
structure LdB (C:Lc):Prop where
 v:∀ P ∈ C.ps,mdoP P=0
 n:C.ps.length≤4∧C.kz.length≤8∧C.F.length≤16384∧C.R.length≤16384∧C.lz.length≤4
theorem im_len (ps:List PMod)(L:Lay):(imF ps L).length≤16384∧(imR ps L).length≤16384:=by
 unfold imF imR
 by_cases e:Lok ps L
 ·rw [if_pos e,if_pos e]
  have K:=lok_kn e
  have h1:=flB_len ps L ps.length
  have h2:=K.fr
  have h3:=K.rr
  refine ⟨by omega,?_⟩
  have h4:∀ i,i≤ps.length→(raB ps L i).length=L.ram.toNat:=by
   intro i
   induction i with
   | zero=>intro _;simp [raB]
   | succ i ih=>
     intro hi
     have h5:=ih (by omega)
     have h6:=(K.at i (by omega)).2.2.2
     rw [raB,relB_len,ovr_len]
     ·exact h5
     ·rw [h5,K.place i (by omega)]
      omega
  have:=h4 ps.length (Nat.le_refl _)
  omega
 ·rw [if_neg e,if_neg e];simp
theorem fnz_all {f:Nat→Int}:∀ n,fnz f n=none→∀ i,i<n→f i=0
 | 0,_,i,hi=>by omega
 | n+1,h,i,hi=>by
   unfold fnz at h
   split at h
   ·simp at h
   ·rename_i h1
    by_cases e:i=n
    ·subst e
     by_cases e2:f i=0
     ·exact e2
     ·simp [e2] at h
    ·exact fnz_all n h1 i (by omega)
theorem ldb_of (zss:List (List Int))(n:Nat)(s c k d:Int):LdB (ldC zss n s c k d):=by
 unfold ldC
 by_cases h:(ldc zss n s c k d).1=0
 ·rw [if_pos h]
  have hL:=im_len (pal zss n) (lay (pal zss n) s c k)
  unfold ldc at h
  split at h
  ·simp at h
  rename_i h1
  split at h
  ·simp at h
  rename_i h2
  split at h
  ·rename_i i hi
   exfalso
   have:=pcd_range zss i
   dsimp only at h
   omega
  ·rename_i hz
   have hcf:cfo s c k d=true:=by simpa using h1
   unfold cfo at hcf
   simp at hcf
   refine ⟨fun P hP=>?_,by simp [pal];omega,by simp,hL.1,hL.2,by simp;omega⟩
   simp only [pal,List.mem_map,List.mem_range] at hP
   obtain ⟨i,hi,rfl⟩:=hP
   have:=fnz_all n hz i hi
   unfold pcd at this
   obtain ⟨P,e⟩:=prs_z this
   unfold pOf
   rw [e]
   exact (prs_some e).2.1
 ·rw [if_neg h]
  exact ⟨fun P hP=>by simp at hP,by simp⟩
structure LdO (W:World)(base mid:Nat)(C:Lc)(M:Mn)(L:List (PMod × Mb))(β:Nat→Nat):Prop where
 m:OMp W base (.slice M.ma M.mn M.mc) L β
 e:L.map (fun x=>x.1)=C.ps
 k:OI W mid (.slice M.ka M.kn M.kc) C.kz
 q:OM W mid (.slice M.fa M.fn M.fc) (.slice M.ra M.rn M.rc) (.slice M.oa M.on M.oc) C.F C.R []
 l:OG 134 4 clSl W mid (.slice M.la M.ln M.lc) C.lz
 h:OG 136 4 clFr W base (.slice M.ha M.hn M.hc) []
 bm:base≤mid
 vs:M.cs=C.s∧M.cw=C.c∧M.ck=C.k∧M.cd=C.d∧M.pc=0∧M.md=0∧M.bk=C.bk∧M.tn=0
 vz:M.ms=L.map mdP∧M.kz=C.kz∧M.fz=C.F∧M.rz=C.R∧M.oz=[]∧M.lz=C.lz∧M.hz=[]
section
variable {W W':World}{base mid base' mid':Nat}{C:Lc}{M N:Mn}{L L':List (PMod × Mb)}{β β':Nat→Nat}
theorem LdO.below (h:LdO W base mid C M L β)(hb:Below W.heap.size W W'):LdO W' base mid C M L β:=⟨h.m.below hb,h.e,h.k.below hb,h.q.below hb,h.l.below hb,h.h.below hb,h.bm,h.vs,h.vz⟩
theorem LdO.turn {S:Nat→Prop}(h:LdO W base mid C M L β)(t:Turn S W W')(hS:∀ j,S j→j<base):LdO W' base mid C M L β:=
 ⟨h.m.turn t hS,h.e,turn_oi t h.k (fun k hk s=>by have:=(h.k.lt k hk).1;have:=hS k s;have:=h.bm;omega),h.q.kept t (fun j hj s=>by have:=(h.q.lt hj).1;have:=hS j s;have:=h.bm;omega),h.l.kept t (fun k hk s=>by have:=(h.l.lt k hk).1;have:=hS k s;have:=h.bm;omega),h.h.kept t (fun k hk s=>by have:=(h.h.lt k hk).1;have:=hS k s;omega),h.bm,h.vs,h.vz⟩
theorem og_len {α:Type}{t:TypeId}{sz:Nat}{f:α→List Value}{w:World}{base n c:Nat}{a:Option Addr}{xs:List α}(h:OG t sz f w base (.slice a n c) xs):n=xs.length:=by
 obtain ⟨a',c',e⟩:=og_shape h
 simp only [Value.slice.injEq] at e
 exact e.2.1
theorem oi_len {w:World}{base n c:Nat}{a:Option Addr}{zs:List Int}(h:OI w base (.slice a n c) zs):n=zs.length:=by
 obtain ⟨_,h0 | ⟨g,cp,cur,hv,_⟩⟩:=h.1
 ·simp at h0;rw [h0.1.2.1,h0.2];rfl
 ·simp only [Value.slice.injEq] at hv;exact hv.2.1
theorem ob_len {w:World}{base n c:Nat}{a:Option Addr}{zs:List Int}(h:OB w base (.slice a n c) zs):n=zs.length:=by
 obtain ⟨_,h0 | ⟨g,cp,cur,hv,_⟩⟩:=h.1
 ·simp at h0;rw [h0.1.2.1,h0.2];rfl
 ·simp only [Value.slice.injEq] at hv;exact hv.2.1
theorem LdO.len (h:LdO W base mid C M L β)(hC:LdB C):L.length=M.mn∧L.length≤4:=by
 have h1:=og_len h.m.o
 have h2:=congrArg List.length h.e
 rw [List.length_map] at h2
 have:=hC.n.1
 exact ⟨h1.symm,by omega⟩
theorem LdO.mnd (h:LdO W base mid C M L β)(hC:LdB C):MnD W M:=by
 obtain ⟨h1,h2⟩:=h.len hC
 obtain ⟨a,cap,e,hm⟩:=h.m.msd (by omega)
 simp only [Value.slice.injEq] at e
 obtain ⟨e1,e2,e3⟩:=e
 rw [h1,← e1,← e3] at hm
 obtain ⟨v1,v2,v3,v4,v5,v6,v7⟩:=h.vz
 exact ⟨by rw [v1];exact hm,by rw [v2];exact h.k.is,by rw [v3];exact h.q.o1.bs,by rw [v4];exact h.q.o2.bs,by rw [v5];exact h.q.o3.bs,by rw [v6];exact og_qs (fun _=>rfl) h.l,by rw [v7];exact og_qs (fun _=>rfl) h.h⟩
theorem LdO.sam (h:LdO W base mid C M L β)(h':LdO W' base' mid' C N L' β')(hC:LdB C):Sam M N:=by
 obtain ⟨l1,l2⟩:=h.len hC
 obtain ⟨l1',l2'⟩:=h'.len hC
 obtain ⟨s1,s2,s3,s4,s5,s6,s7,s8⟩:=h.vs
 obtain ⟨t1,t2,t3,t4,t5,t6,t7,t8⟩:=h'.vs
 obtain ⟨v1,v2,v3,v4,v5,v6,v7⟩:=h.vz
 obtain ⟨u1,u2,u3,u4,u5,u6,u7⟩:=h'.vz
 have he:L.map (fun x=>x.1)=L'.map (fun x=>x.1):=h.e.trans h'.e.symm
 have hl:L.length=L'.length:=by have:=congrArg List.length he;simpa using this
 refine ⟨⟨by rw [s1,t1],by rw [s2,t2],by rw [s3,t3],by rw [s4,t4],by rw [s5,t5],by rw [s6,t6],by rw [s7,t7],by rw [s8,t8]⟩,⟨by omega,by rw [oi_len h.k,oi_len h'.k],by rw [ob_len h.q.o1,ob_len h'.q.o1],by rw [ob_len h.q.o2,ob_len h'.q.o2],by rw [ob_len h.q.o3,ob_len h'.q.o3],by rw [og_len h.l,og_len h'.l],by rw [og_len h.h,og_len h'.h]⟩,⟨by rw [v2,u2],by rw [v3,u3],by rw [v4,u4],by rw [v5,u5],by rw [v6,u6],by rw [v7,u7]⟩,fun i hi=>?_⟩
 rw [v1,u1]
 have hi1:i<L.length:=by omega
 have hi2:i<L'.length:=by omega
 have g1:(L.map mdP).getD i zMd=mdP L[i]:=by simp [List.getD_eq_getElem?_getD,hi1]
 have g2:(L'.map mdP).getD i zMd=mdP L'[i]:=by simp [List.getD_eq_getElem?_getD,hi2]
 rw [g1,g2]
 have m1:=(h.m.m i L[i] (List.getElem?_eq_getElem hi1)).1
 have m2:=(h'.m.m i L'[i] (List.getElem?_eq_getElem hi2)).1
 have e1:L[i].1=L'[i].1:=by
  have:=congrArg (fun l=>l[i]?) he
  simpa [hi1,hi2] using this
 generalize L[i]=x at *
 generalize L'[i]=y at *
 obtain ⟨P,x⟩:=x
 obtain ⟨P',y⟩:=y
 dsimp only at e1
 subst e1
 obtain ⟨hl2,hz⟩:=ModO.same m1 m2
 exact ⟨rfl,rfl,rfl,hl2,hz,rfl,rfl,rfl,rfl,rfl,rfl,rfl,rfl,rfl⟩
theorem LdO.mno (h:LdO W base mid C M L β)(hb:β L.length≤mid):MnO W base (.slice M.ma M.mn M.mc) ((L.map hdP).map fun x=>x.1) (L.map hdP) β (.slice M.ka M.kn M.kc) (.slice M.fa M.fn M.fc) (.slice M.ra M.rn M.rc) (.slice M.oa M.on M.oc) (.slice M.la M.ln M.lc) (.slice M.ha M.hn M.hc) C.kz C.F C.R [] C.lz []:=by
 have no:∀ j,mid≤j→¬ ShL ((L.map hdP).map fun x=>x.1) j:=fun j hj ⟨i,hi,hs⟩=>by
  simp only [List.length_map] at hi
  have e:((L.map hdP).map fun x=>x.1).getD i zHd=(hdP L[i]).1:=by simp [List.getD_eq_getElem?_getD,hi]
  rw [e] at hs
  have h1:=(h.m.m i L[i] (List.getElem?_eq_getElem hi)).2.2 j hs
  have h2:=h.m.mono (i+1) L.length (by omega) (Nat.le_refl _)
  omega
 exact ⟨h.m.oms,rfl,h.k.mono h.bm,h.q.mono h.bm,h.l.mono h.bm,h.h,fun j hj=>no j (h.k.lt j hj).1,fun j hj=>no j (h.q.lt hj).1,fun i x hx=>Nat.le_trans h.m.lo (h.m.mono 0 i (Nat.zero_le _) (by have:=lget_lt hx;rw [List.length_map] at this;omega))⟩
theorem sum_le (B:Nat):∀ (l:List Nat),(∀ x ∈ l,x≤B)→l.sum≤B * l.length
 | [],_=>by simp
 | x :: l,h=>by
   have h1:=sum_le B l (fun y hy=>h y (List.mem_cons_of_mem _ hy))
   have h2:=h x (List.mem_cons_self ..)
   simp only [List.sum_cons,List.length_cons,Nat.mul_add,Nat.mul_one]
   omega
theorem upS_cap (f:Nat→Nat)(B:Nat):∀ n,(∀ i,i<n→f i≤B)→upS f n≤B * n
 | 0,_=>by simp [upS]
 | n+1,h=>by
   have h1:=upS_cap f B n (fun i hi=>h i (by omega))
   have h2:=h n (by omega)
   rw [upS,Nat.mul_add,Nat.mul_one]
   omega
theorem LdO.cnt (h:LdO W base mid C M L β)(hC:LdB C):(1+upS (fun j=>cntH (((L.map hdP).map fun x=>x.1).getD j zHd)) M.mn+M.kn+M.fn+M.rn+M.on+4 * M.ln+4 * M.hn≤1048576)∧∀ i,i<M.mn→(((L.map hdP).map fun x=>x.1).getD i zHd).bn≤4:=by
 obtain ⟨l1,l2⟩:=h.len hC
 obtain ⟨c1,c2,c3,c4,c5⟩:=hC.n
 have k1:=oi_len h.k
 have k2:=ob_len h.q.o1
 have k3:=ob_len h.q.o2
 have k4:=ob_len h.q.o3
 have k5:=og_len h.l
 have k6:=og_len h.h
 obtain ⟨hs,ehs⟩:∃ hs,hs=(L.map hdP).map (fun x=>x.1):=⟨_,rfl⟩
 rw [← ehs]
 have key:∀ i,i<M.mn→cntH (hs.getD i zHd)≤2000∧(hs.getD i zHd).bn≤4:=fun i hi=>by
  have hi1:i<L.length:=by omega
  have e:hs.getD i zHd=(hdP L[i]).1:=by rw [ehs];simp [List.getD_eq_getElem?_getD,hi1]
  rw [e]
  obtain ⟨m1,R,_⟩:=h.m.m i L[i] (List.getElem?_eq_getElem hi1)
  have hv:mdoP L[i].1=0:=hC.v _ (by rw [← h.e];exact List.mem_map.2 ⟨L[i],List.getElem_mem hi1,rfl⟩)
  generalize L[i]=x at *
  obtain ⟨P,x⟩:=x
  dsimp only at hv R
  obtain ⟨b1,b2,b3,b4,b5,b6,b7,b8⟩:=vld_en hv
  obtain ⟨s1,s2⟩:=ModO.sum m1
  have r1:=R.r.1
  have s3:(P.bl.map List.length).sum≤64 * (P.bl.map List.length).length:=sum_le 64 _ (fun y hy=>by
   obtain ⟨l,hl,rfl⟩:=List.mem_map.1 hy
   obtain ⟨j,hj,rfl⟩:=List.getElem_of_mem hl
   have:=b8 j hj
   simpa [List.getD_eq_getElem?_getD,hj] using this)
  rw [List.length_map] at s3
  dsimp only at s1 s2
  unfold cntH hdP
  dsimp only
  rw [s1]
  clear h hC ehs e m1 R k1 k2 k3 k4 k5 k6
  omega
 have ku:=upS_cap (fun j=>cntH (hs.getD j zHd)) 2000 M.mn (fun i hi=>(key i hi).1)
 simp only [List.length_nil] at k4 k6
 refine And.intro ?_ (fun i hi=>(key i hi).2)
 generalize upS (fun j=>cntH (hs.getD j zHd)) M.mn=u at *
 generalize M.mn=mn at *
 clear key h hC ehs
 omega
end
def mnV (M:Mn):Value:=.agg #[.slice M.ma M.mn M.mc,.int .i64 M.cs,.int .i64 M.cw,.int .i64 M.ck,.int .i64 M.cd,.int .i64 M.pc,.slice M.ka M.kn M.kc,.slice M.fa M.fn M.fc,.slice M.ra M.rn M.rc,.slice M.oa M.on M.oc,.int .i64 M.md,.int .i64 M.bk,.slice M.la M.ln M.lc,.slice M.ha M.hn M.hc,.int .i64 M.tn]
def LdQ (own:Prop)(w:World)(zss:List (List Int))(n:Nat)(s c k d:Int)(e:Ending)(w':World):Prop:=Below w.heap.size w w'∧∃ M base mid L β,e=.returned (.tuple #[mnV M,.int .i64 (ldc zss n s c k d).1,.int .i64 ((ldc zss n s c k d).2:Nat)])∧LdO w' base mid (ldC zss n s c k d) M L β∧w.heap.size≤base∧(own→β L.length≤mid)
theorem om_nil (w:World)(base:Nat):OM w base (.slice none 0 0) (.slice none 0 0) (.slice none 0 0) [] [] []:=by
 have h:OB w base (.slice none 0 0) []:=⟨⟨rfl,.inl ⟨rfl,rfl⟩⟩,fun _ h=>by cases h⟩
 exact ⟨h,h,h,fun _ h=>by simp [Value.ownBlock] at h,fun _ h=>by simp [Value.ownBlock] at h,fun _ h=>by simp [Value.ownBlock] at h⟩
theorem oi_nilL (w:World)(base:Nat):OI w base (.slice none 0 0) []:=⟨⟨rfl,.inl ⟨rfl,rfl⟩⟩,fun _ h=>by cases h⟩
theorem ldq_zero {own:Prop}{w w':World}{zss:List (List Int)}{n:Nat}{s c k d:Int}(hb:Below w.heap.size w w')(h:(ldc zss n s c k d).1≠0):LdQ own w zss n s c k d (.returned (.tuple #[.agg z15L,.int .i64 (ldc zss n s c k d).1,.int .i64 ((ldc zss n s c k d).2:Nat)])) w':=by
 refine ⟨hb,⟨none,0,0,[],0,0,0,0,0,none,0,0,[],none,0,0,[],none,0,0,[],none,0,0,[],0,0,none,0,0,[],none,0,0,[],0⟩,w'.heap.size,w'.heap.size,[],fun _=>w'.heap.size,rfl,?_,hb.size,fun _=>Nat.le_refl _⟩
 unfold ldC
 rw [if_neg h]
 exact ⟨omp_nil w' _ (Nat.le_refl _),rfl,oi_nilL _ _,om_nil _ _,og_nil _ _ _ _ _,og_nil _ _ _ _ _,Nat.le_refl _,⟨rfl,rfl,rfl,rfl,rfl,rfl,rfl,rfl⟩,⟨rfl,rfl,rfl,rfl,rfl,rfl,rfl⟩⟩
theorem ldq_ok {own:Prop}{w w':World}{zss:List (List Int)}{n:Nat}{s c k d:Int}{a:Option Addr}{cap base mid:Nat}{L:List (PMod × Mb)}{β:Nat→Nat}{gk:Nat}{a1 a2 a3 ah:Option Addr}{n1 e1 n2 e2 n3 e3 gl ch:Nat}(hb:Below w.heap.size w w')(h:ldc zss n s c k d=(0,0))(om:OMp w' base (.slice a n cap) L β)(oe:L.map (fun x=>x.1)=pal zss n)(nm:NmO w' mid (pal zss n) (lay (pal zss n) s c k) s.toNat (.slice (some ⟨gk,0,none⟩) 8 8) (.slice a1 n1 e1) (.slice a2 n2 e2) (.slice a3 n3 e3) (.slice (some ⟨gl,0,none⟩) s.toNat s.toNat))(oh:OG 136 4 clFr w' base (.slice ah 0 ch) [])(hbase:w.heap.size≤base)(hmid:base≤mid)(ho:own→β L.length≤mid):LdQ own w zss n s c k d (.returned (.tuple #[.agg #[.slice a n cap,.int .i64 s,.int .i64 c,.int .i64 k,.int .i64 d,.int .i64 0,.slice (some ⟨gk,0,none⟩) 8 8,.slice a1 n1 e1,.slice a2 n2 e2,.slice a3 n3 e3,.int .i64 0,.int .i64 (-1),.slice (some ⟨gl,0,none⟩) s.toNat s.toNat,.slice ah 0 ch,.int .i64 0],.int .i64 0,.int .i64 0])) w':=by
 refine ⟨hb,⟨a,n,cap,L.map mdP,s,c,k,d,0,some ⟨gk,0,none⟩,8,8,List.replicate 8 0,a1,n1,e1,imF (pal zss n) (lay (pal zss n) s c k),a2,n2,e2,imR (pal zss n) (lay (pal zss n) s c k),a3,n3,e3,[],0,-1,some ⟨gl,0,none⟩,s.toNat,s.toNat,List.replicate s.toNat zSl,ah,0,ch,[],0⟩,base,mid,L,β,by rw [h];rfl,?_,hbase,ho⟩
 unfold ldC
 rw [if_pos (by rw [h])]
 exact ⟨om,oe,nm.k,nm.q,nm.l,oh,hmid,⟨rfl,rfl,rfl,rfl,rfl,rfl,rfl,rfl⟩,⟨rfl,rfl,rfl,rfl,rfl,rfl,rfl⟩⟩
theorem ldq_of {w:World}{zss:List (List Int)}{n:Nat}{s c k d:Int}{e:Ending}{w':World}(h:LdP w zss n s c k d (fun v _=>v=.slice none 0 0) e w'):LdQ True w zss n s c k d e w':=by
 obtain ⟨hb,⟨h1,rfl⟩ | ⟨h0,a,cap,L,β,mid,gk,a1,n1,e1,a2,n2,e2,a3,n3,e3,gl,vh,rfl,rfl,om,oe,nm,hm,hβ⟩⟩:=h
 ·exact ldq_zero hb h1
 ·have hl:L.length=n:=by have:=og_len om.o;exact this.symm
  exact ldq_ok hb h0 om oe nm (og_nil _ _ _ _ _) (Nat.le_refl _) hm (fun _=>by rw [hl];exact hβ)
theorem rowy_img {w X:World}{g n cap:Nat}{a:Option Addr}{gs:List Nat}{bl:List Bk}(r:RowY X g n gs bl)(l:gs.length=n)(h0:BBS w a n cap bl)(hz:∀ i,i<n→(bl.getD i zB).2.1≤1048576):Img X g n gs bl:=
 ⟨r.bbs h0 l,h0.1,fun i hi=>Blk.lt (r.2.1 i (by omega)).1,fun i hi=>⟨(h0.2.2.2.1 i hi).2.2.1,hz i hi⟩⟩
section
variable {zc:Array Value}{t:TypeId}{n:Nat}{bl:List Bk}{W0 X Y:World}{o:Option Nat}{g:Nat}{gs:List Nat}
end
section
variable {C:Lc}{W0 X:World}{M:Mn}{base mid:Nat}{L:List (PMod × Mb)}{β:Nat→Nat}
end
theorem rowy_sl {w X:World}{g n cap:Nat}{a:Option Addr}{gs:List Nat}{bl:List Bk}{S:Nat→Prop}(r:RowY X g n gs bl)(l:gs.length=n)(h0:BBS w a n cap bl)(hg:¬ S g)(hs:∀ i,i<n→S (gs.getD i 0)):SlB S X (some ⟨g,0,none⟩) n (bankF gs bl):=by
 obtain ⟨⟨cur,hb,hsz,hc⟩,hr,_⟩:=r
 refine ⟨fun _=>⟨g,0,cur,_,rfl,hg,hb,fun i hi=>by rw [Nat.zero_add];exact hc i (by omega)⟩,fun i hi=>?_⟩
 exact Sl.ofBlk (c:=0) (hr i (by omega)).1 (hs i hi) (by have e1:(bankF gs bl i).2.1=(bl.getD i zB).2.1:=rfl;have e2:=(h0.2.2.2.1 i hi).1;rw [e1,List.size_toArray,List.length_map,e2];omega)
theorem reb_same {w X Y:World}{g g' n cap:Nat}{a:Option Addr}{gs gs':List Nat}{bl:List Bk}(l:gs.length=n)(l':gs'.length=n)(h0:BBS w a n cap bl):∀ i,i<n→((reb gs' bl).getD i zB).2.1=((reb gs bl).getD i zB).2.1∧((reb gs' bl).getD i zB).2.2.2=((reb gs bl).getD i zB).2.2.2:=fun i hi=>by
 rw [reb_at _ _ _ (by rw [h0.1];exact hi),reb_at _ _ _ (by rw [h0.1];exact hi)]
 exact ⟨rfl,rfl⟩
structure Fin8 (C:Lc)(W0:World)(gb:Nat)(M:Mn)(base mid:Nat)(L:List (PMod × Mb))(β:Nat→Nat)(W:World):Prop where
 b:Below W0.heap.size W0 W
 k:Blk W gb #[.slice M.ma M.mn M.mc,.int .i64 M.cs,.int .i64 M.cw,.int .i64 M.ck,.int .i64 M.cd,.int .i64 M.pc,.slice M.ka M.kn M.kc,.slice M.fa M.fn M.fc,.slice M.ra M.rn M.rc,.slice M.oa M.on M.oc,.int .i64 M.md,.int .i64 M.bk,.slice M.la M.ln M.lc,.slice M.ha M.hn M.hc,.int .i64 M.tn] 54
 m:LdO W base mid C M L β
def TMx (W W':World):Prop:=Turn (fun j=>∃ cs,Blk W j cs 54) W W'
theorem ModO.keptM {S:Nat→Prop}{W W':World}{base:Nat}{x:PMod × Mb}(h:MOb W base x)(ht:Turn S W W')(hS:∀ {t:TypeId} {sz n:Nat} {v:Value} {xs:List Value},W.ownsRow base t sz v n xs→t≠54→∀ k,v.ownBlock=some k→¬ S k):MOb W' base x:=by
 have row:∀ {t:TypeId} {sz n:Nat} {v:Value} {xs:List Value},W.ownsRow base t sz v n xs→t≠54→W'.ownsRow base t sz v n xs:=fun {t} {sz} {n} {v} {xs} ho hne=>by
  have hk:=hS ho hne
  obtain ⟨hl,h0 | ⟨g,cap,cur,hv,hg,hh,h1,h2,h3,h4⟩⟩:=ho
  ·exact ⟨hl,.inl h0⟩
  ·exact ⟨hl,.inr ⟨g,cap,cur,hv,hg,turn_blk (w:=W) ht hh (hk g (by rw [hv];rfl)),h1,h2,h3,h4⟩⟩
 exact ⟨row h.t (by decide),⟨row h.b.head (by decide),fun B hB=>⟨(h.b.rows B hB).1,row (h.b.rows B hB).2 (by decide)⟩,h.b.apart⟩,h.bls,⟨row h.d.1 (by decide),h.d.2⟩,row h.r (by decide),row h.i (by decide),row h.e (by decide),h.tb,h.tr,h.br⟩
theorem no_tm {W:World}{base n sz:Nat}{t:TypeId}{v:Value}{xs:List Value}(h:W.ownsRow base t sz v n xs)(ht:t≠54):∀ k,v.ownBlock=some k→¬ ∃ cs,Blk W k cs 54:=fun k hk ⟨cs,kk⟩=>by
 obtain ⟨c1,k1⟩:=own_kind h hk
 exact ht (blk_kind k1 kk)
theorem LdO.tm {W W':World}{base mid:Nat}{C:Lc}{M:Mn}{L:List (PMod × Mb)}{β:Nat→Nat}(h:LdO W base mid C M L β)(t:TMx W W'):LdO W' base mid C M L β:=
 ⟨⟨h.m.o.kept t (no_tm h.m.o (by decide)),fun i x hx=>⟨ModO.keptM (h.m.m i x hx).1 t (fun ho hne=>no_tm ho hne),(h.m.m i x hx).2⟩,h.m.mono,h.m.lo,Nat.le_trans h.m.hi t.size⟩,h.e,turn_oi t h.k (no_tm h.k.1 (by decide)),h.q.kept t (fun j hj=>by rcases hj with e | e | e;exact no_tm h.q.o1.1 (by decide) j e;exact no_tm h.q.o2.1 (by decide) j e;exact no_tm h.q.o3.1 (by decide) j e),h.l.kept t (no_tm h.l (by decide)),h.h.kept t (no_tm h.h (by decide)),h.bm,h.vs,h.vz⟩
theorem RowY.tm {W W':World}{g n:Nat}{gs:List Nat}{bl:List Bk}(h:RowY W g n gs bl)(t:TMx W W'):RowY W' g n gs bl:=by
 obtain ⟨⟨cur,h1,h2,h3⟩,h4,h5⟩:=h
 exact ⟨⟨cur,turn_blk t h1 (fun ⟨cs,kk⟩=>absurd (blk_kind h1 kk) (by decide)),h2,h3⟩,fun i hi=>⟨turn_blk (cs:=((bl.getD i zB).2.2.2.map (Value.int .u8)).toArray) (t:=5) t (h4 i hi).1 (fun ⟨cs,kk⟩=>absurd (blk_kind (cs:=((bl.getD i zB).2.2.2.map (Value.int .u8)).toArray) (t:=5) (h4 i hi).1 kk) (by decide)),(h4 i hi).2⟩,h5⟩
theorem tm_below {W W':World}(h:Below W.heap.size W W'):TMx W W':=turn_below h
section
variable (ad:Option Addr)(n cap:Nat)(bl:List Bk)(s c k d cd ca:Int)(C:Lc)
def PL:Nat→Value→World→Prop
 | 0,v,_=>v=.slice ad n cap
 | 1,v,W=>∃ g gs,v=.slice (some ⟨g,0,none⟩) n n∧RowY W g n gs bl∧gs.length=n
 | 2,v,_=>v=.agg #[.int .i64 s,.int .i64 c,.int .i64 k,.int .i64 d]
 | 3,v,_=>v=.agg #[.int .i64 s,.int .i64 c,.int .i64 k,.int .i64 d]
 | 4,v,W=>∃ M base mid L β,v=.tuple #[.agg #[.slice M.ma M.mn M.mc,.int .i64 M.cs,.int .i64 M.cw,.int .i64 M.ck,.int .i64 M.cd,.int .i64 M.pc,.slice M.ka M.kn M.kc,.slice M.fa M.fn M.fc,.slice M.ra M.rn M.rc,.slice M.oa M.on M.oc,.int .i64 M.md,.int .i64 M.bk,.slice M.la M.ln M.lc,.slice M.ha M.hn M.hc,.int .i64 M.tn],.int .i64 cd,.int .i64 ca]∧LdO W base mid C M L β
 | 5,v,W=>∃ M base mid L β,v=.tuple #[.agg #[.slice M.ma M.mn M.mc,.int .i64 M.cs,.int .i64 M.cw,.int .i64 M.ck,.int .i64 M.cd,.int .i64 M.pc,.slice M.ka M.kn M.kc,.slice M.fa M.fn M.fc,.slice M.ra M.rn M.rc,.slice M.oa M.on M.oc,.int .i64 M.md,.int .i64 M.bk,.slice M.la M.ln M.lc,.slice M.ha M.hn M.hc,.int .i64 M.tn],.int .i64 cd,.int .i64 ca]∧LdO W base mid C M L β
 | 6,v,W=>∃ M base mid L β,v=.agg #[.slice M.ma M.mn M.mc,.int .i64 M.cs,.int .i64 M.cw,.int .i64 M.ck,.int .i64 M.cd,.int .i64 M.pc,.slice M.ka M.kn M.kc,.slice M.fa M.fn M.fc,.slice M.ra M.rn M.rc,.slice M.oa M.on M.oc,.int .i64 M.md,.int .i64 M.bk,.slice M.la M.ln M.lc,.slice M.ha M.hn M.hc,.int .i64 M.tn]∧LdO W base mid C M L β
 | 7,v,_=>v=.int .i64 cd
 | 8,v,_=>v=.int .i64 ca
 | 11,v,_=>v=.int .i64 cd
 | 12,v,_=>v=.int .i64 ca
 | _,_,_=>True
theorem pl_tm {j:Nat}{v:Value}{W W':World}(h:PL ad n cap bl s c k d cd ca C j v W)(t:TMx W W'):PL ad n cap bl s c k d cd ca C j v W':=by
 match j with
 | 0 | 2 | 3 | 7 | 8 | 9 | 10 | 11 | 12=>exact h
 | 1=>obtain ⟨g,gs,e,r,l⟩:=h;exact ⟨g,gs,e,r.tm t,l⟩
 | 4 | 5=>obtain ⟨M,base,mid,L,β,e,o⟩:=h;exact ⟨M,base,mid,L,β,e,o.tm t⟩
 | 6=>obtain ⟨M,base,mid,L,β,e,o⟩:=h;exact ⟨M,base,mid,L,β,e,o.tm t⟩
 | _+13=>exact h
structure SlOk (slot:Nat→Nat)(sl:List Nat)(size:Nat):Prop where
 m:∀ j,j<13→j≠10→slot j ∈ sl
 i:∀ i,i<13→∀ j,j<13→i≠10→j≠10→i≠j→slot j≠slot i
 s:∀ j,j<13→j≠10→slot j<size
theorem sl_m (slot:Nat→Nat)(sl:List Nat)(h:((List.range 13).all fun j=>j == 10 || sl.contains (slot j))=true):∀ j,j<13→j≠10→slot j ∈ sl:=fun j hj h10=>by
 have:=List.all_eq_true.1 h j (List.mem_range.2 hj)
 simpa [h10] using this
theorem sl_s (slot:Nat→Nat)(size:Nat)(h:((List.range 13).all fun j=>j == 10 || decide (slot j<size))=true):∀ j,j<13→j≠10→slot j<size:=fun j hj h10=>by
 have:=List.all_eq_true.1 h j (List.mem_range.2 hj)
 simpa [h10] using this
theorem sl_i (slot:Nat→Nat)(h:((List.range 13).all fun i=>(List.range 13).all fun j=>i == 10 || j == 10 || i == j || slot j != slot i)=true):∀ i,i<13→∀ j,j<13→i≠10→j≠10→i≠j→slot j≠slot i:=fun i hi j hj i10 j10 hij=>by
 have:=List.all_eq_true.1 (List.all_eq_true.1 h i (List.mem_range.2 hi)) j (List.mem_range.2 hj)
 simpa [i10,j10,hij] using this
structure IL (slot:Nat→Nat)(sl:List Nat)(W0:World)(A:Act)(listed:Array Bool)(a:Act)(W:World):Prop where
 sz:listed.size=13
 fs:a.tmps.size=A.tmps.size
 fd:a.defers=A.defers
 fo:∀ t,t ∉ sl→a.tmps.getD t undef=A.tmps.getD t undef
 b:Below W0.heap.size W0 W
 p:∀ j,j<13→j≠9→j≠10→listed.getD j false=true→PL ad n cap bl s c k d cd ca C j (a.tmps.getD (slot j) undef) W
 c:listed.getD 10 false=true→listed.getD 9 false=true
 bx:listed.getD 9 false=true→∃ gb,a.tmps.getD (slot 9) undef=.pointer (some ⟨gb,0,none⟩)∧W0.heap.size≤gb∧(listed.getD 10 false=false→Blk W gb z15 54)∧(listed.getD 10 false=true→∃ M base mid L β,Blk W gb #[.slice M.ma M.mn M.mc,.int .i64 M.cs,.int .i64 M.cw,.int .i64 M.ck,.int .i64 M.cd,.int .i64 M.pc,.slice M.ka M.kn M.kc,.slice M.fa M.fn M.fc,.slice M.ra M.rn M.rc,.slice M.oa M.on M.oc,.int .i64 M.md,.int .i64 M.bk,.slice M.la M.ln M.lc,.slice M.ha M.hn M.hc,.int .i64 M.tn] 54∧LdO W base mid C M L β)
end
section
variable {ad:Option Addr}{n cap:Nat}{bl:List Bk}{s c k d cd ca:Int}{C:Lc}{slot:Nat→Nat}{sl:List Nat}{W0 W:World}{A a:Act}{listed:Array Bool}
theorem IL.next (h:IL ad n cap bl s c k d cd ca C slot sl W0 A listed a W)(q:SlOk slot sl A.tmps.size){j:Nat}(hj:j<13)(h9:j≠9)(h10:j≠10)(v:Value)(W':World)(hb:Below W.heap.size W W')(hp:PL ad n cap bl s c k d cd ca C j v W'):IL ad n cap bl s c k d cd ca C slot sl W0 A (listed.setIfInBounds j true) (a.put (some (slot j)) v) W':=by
 refine ⟨by simp [h.sz],put_sz.trans h.fs,put_df.trans h.fd,fun t ht=>(putG (fun e=>ht (by rw [← e];exact q.m j hj h10))).trans (h.fo t ht),h.b.trans (hb.mono h.b.size),fun i hi i9 i10 hl=>?_,fun e=>?_,fun e=>?_⟩
 ·by_cases e:i=j
  ·subst e
   rw [putE (by rw [h.fs];exact q.s i hj h10)]
   exact hp
  ·rw [putG (q.i i hi j hj i10 h10 e)]
   exact pl_tm _ _ _ _ _ _ _ _ _ _ _ (h.p i hi i9 i10 ((lstS hl).resolve_left e)) (tm_below hb)
 ·rw [getD_set_ne false (by omega)] at e ⊢
  exact h.c e
 ·rw [getD_set_ne false (by omega)] at e
  obtain ⟨gb,e1,e2,e3,e4⟩:=h.bx e
  refine ⟨gb,(putG (q.i 9 (by omega) j hj (by omega) h10 (by omega))).trans e1,e2,fun f=>?_,fun f=>?_⟩
  ·rw [getD_set_ne false (by omega)] at f
   exact (e3 f).below hb
  ·rw [getD_set_ne false (by omega)] at f
   obtain ⟨M,base,mid,L,β,k1,o1⟩:=e4 f
   exact ⟨M,base,mid,L,β,k1.below hb,o1.below hb⟩
theorem IL.box (h:IL ad n cap bl s c k d cd ca C slot sl W0 A listed a W)(q:SlOk slot sl A.tmps.size)(hl:listed.getD 9 true=false):IL ad n cap bl s c k d cd ca C slot sl W0 A (listed.setIfInBounds 9 true) (a.put (some (slot 9)) (.pointer (some ⟨W.heap.size,0,none⟩))) (W.alloc (.cells z15 54)):=by
 have hb:Below W.heap.size W (W.alloc (.cells z15 54)):=(Below.refl _ _).alloc (Nat.le_refl _) _
 rw [lstT (by rw [h.sz];omega)] at hl
 have h10:listed.getD 10 false=false:=by
  cases e:listed.getD 10 false with
  | false=>rfl
  | true=>have:=h.c e;rw [hl] at this;cases this
 refine ⟨by simp [h.sz],put_sz.trans h.fs,put_df.trans h.fd,fun t ht=>(putG (fun e=>ht (by rw [← e];exact q.m 9 (by omega) (by omega)))).trans (h.fo t ht),h.b.trans (hb.mono h.b.size),fun i hi i9 i10 hl2=>?_,fun e=>?_,fun _=>?_⟩
 ·rw [putG (q.i i hi 9 (by omega) i10 (by omega) i9)]
  exact pl_tm _ _ _ _ _ _ _ _ _ _ _ (h.p i hi i9 i10 ((lstS hl2).resolve_left i9)) (tm_below hb)
 ·rw [getD_set_ne false (by omega),h10] at e
  cases e
 ·refine ⟨W.heap.size,putE (by rw [h.fs];exact q.s 9 (by omega) (by omega)),h.b.size,fun _=>Blk.new _ _ _,fun f=>?_⟩
  rw [getD_set_ne false (by omega),h10] at f
  cases f
theorem IL.store (h:IL ad n cap bl s c k d cd ca C slot sl W0 A listed a W)(hl:listed.getD 10 true=false)(h9:listed.getD 9 false=true){M:Mn}{base mid:Nat}{L:List (PMod × Mb)}{β:Nat→Nat}{gb:Nat}(o:LdO W base mid C M L β)(e1:a.tmps.getD (slot 9) undef=.pointer (some ⟨gb,0,none⟩))(e2:W0.heap.size≤gb)(kb:Blk W gb z15 54):IL ad n cap bl s c k d cd ca C slot sl W0 A (listed.setIfInBounds 10 true) (a.put none undef) (st15 W gb (.slice M.ma M.mn M.mc) (.int .i64 M.cs) (.int .i64 M.cw) (.int .i64 M.ck) (.int .i64 M.cd) (.int .i64 M.pc) (.slice M.ka M.kn M.kc) (.slice M.fa M.fn M.fc) (.slice M.ra M.rn M.rc) (.slice M.oa M.on M.oc) (.int .i64 M.md) (.int .i64 M.bk) (.slice M.la M.ln M.lc) (.slice M.ha M.hn M.hc) (.int .i64 M.tn)):=by
 have T:=turn_st15 W gb (.slice M.ma M.mn M.mc) (.int .i64 M.cs) (.int .i64 M.cw) (.int .i64 M.ck) (.int .i64 M.cd) (.int .i64 M.pc) (.slice M.ka M.kn M.kc) (.slice M.fa M.fn M.fc) (.slice M.ra M.rn M.rc) (.slice M.oa M.on M.oc) (.int .i64 M.md) (.int .i64 M.bk) (.slice M.la M.ln M.lc) (.slice M.ha M.hn M.hc) (.int .i64 M.tn)
 have tm:TMx W (st15 W gb (.slice M.ma M.mn M.mc) (.int .i64 M.cs) (.int .i64 M.cw) (.int .i64 M.ck) (.int .i64 M.cd) (.int .i64 M.pc) (.slice M.ka M.kn M.kc) (.slice M.fa M.fn M.fc) (.slice M.ra M.rn M.rc) (.slice M.oa M.on M.oc) (.int .i64 M.md) (.int .i64 M.bk) (.slice M.la M.ln M.lc) (.slice M.ha M.hn M.hc) (.int .i64 M.tn)):=T.mono (fun j hj=>by subst hj;exact ⟨_,kb⟩)
 have e10:(listed.setIfInBounds 10 true).getD 10 false=true:=by simp [h.sz]
 refine ⟨by simp [h.sz],h.fs,h.fd,h.fo,below_turn h.b T (fun j hj=>by omega) h.b.size,fun i hi i9 i10 hl2=>pl_tm _ _ _ _ _ _ _ _ _ _ _ (h.p i hi i9 i10 ((lstS hl2).resolve_left i10)) tm,fun _=>by rw [getD_set_ne false (by omega)];exact h9,fun _=>⟨gb,e1,e2,fun f=>?_,fun _=>⟨M,base,mid,L,β,blk_st15 kb _ _ _ _ _ _ _ _ _ _ _ _ _ _ _,o.tm tm⟩⟩⟩
 rw [e10] at f
 cases f
theorem IL.start (hA:A=A):IL ad n cap bl s c k d cd ca C slot sl W0 A (Array.replicate 13 false) A W0.drew:=by
 refine ⟨by simp,rfl,rfl,fun _ _=>rfl,(Below.refl _ _).drew,fun j hj _ _ hl=>absurd hl (by simp [Array.getElem?_replicate];split <;> simp),fun f=>absurd f (by simp [Array.getElem?_replicate]),fun f=>absurd f (by simp [Array.getElem?_replicate])⟩
end
theorem rs_news {w:World}{b off n cap:Nat}{rs:List Rg}(h:RS w (some ⟨b,off,none⟩) n cap rs):∀ j u,(flat rs)[j]?=some u→w.cell? ((⟨b,off,none⟩:Addr).add j)=some u:=by
 intro j u hj
 have hl:=h.1
 have hj2:j<(flat rs).length:=by
  rcases Nat.lt_or_ge j (flat rs).length with h' | h'
  ·exact h'
  ·rw [List.getElem?_eq_none h'] at hj;cases hj
 rw [flat6_len] at hj2
 have hq:j / 6<rs.length:=by omega
 have hr:j % 6<6:=Nat.mod_lt _ (by omega)
 have e:=flat6_get rs (j / 6) (j % 6) hq hr
 rw [show j / 6 * 6+j % 6=j by omega,hj] at e
 obtain ⟨h1,h2,h3,h4,h5,h6⟩:=h.at (j / 6) (by omega)
 rw [addr_add,show off+j=off+j / 6 * 6+j % 6 by omega]
 rw [e]
 generalize rs.getD (j / 6) z6=G at *
 generalize j / 6=q at *
 have c:j % 6=0∨j % 6=1∨j % 6=2∨j % 6=3∨j % 6=4∨j % 6=5:=by omega
 rcases c with c | c | c | c | c | c <;> rw [c]
 ·exact h1
 ·exact h2
 ·exact h3
 ·exact h4
 ·exact h5
 ·exact h6
theorem flat6_one (rs:List Rg):∀ u ∈ flat rs,u.oneCell'=true:=by
 intro u hu
 simp only [flat,List.mem_flatMap] at hu
 obtain ⟨g,_,hg⟩:=hu
 exact one6 g u hg
theorem flat_app (xs ys:List Rg):flat (xs++ys)=flat xs++flat ys:=by simp [flat]
abbrev Spn:=Int × Int × Bool × Bool × Bool
def spR (p:Spn):List Rg:=rts p.2.2.1 p.2.2.2.1 p.2.2.2.2 (cvL p.1 p.2.1)
def zSp:Spn:=(0,0,false,false,false)
def At5 (w:World)(b o:Nat)(p:Spn):Prop:=
 w.cell? ⟨b,o,none⟩=some (.int .i64 p.1)∧w.cell? ⟨b,o+1,none⟩=some (.int .i64 p.2.1)∧w.cell? ⟨b,o+2,none⟩=some (.bool p.2.2.1) ∧
 w.cell? ⟨b,o+3,none⟩=some (.bool p.2.2.2.1)∧w.cell? ⟨b,o+4,none⟩=some (.bool p.2.2.2.2)
theorem At5.below {w w':World}{b o:Nat}{p:Spn}(h:At5 w b o p)(hb:Below w.heap.size w w'):At5 w' b o p:=by
 obtain ⟨h1,h2,h3,h4,h5⟩:=h
 have hl:b<w.heap.size:=World.block_lt_of_cell? w _ h1
 unfold At5
 rw [hb.cell (p:=⟨b,o,none⟩) hl,hb.cell (p:=⟨b,o+1,none⟩) hl,hb.cell (p:=⟨b,o+2,none⟩) hl,hb.cell (p:=⟨b,o+3,none⟩) hl,hb.cell (p:=⟨b,o+4,none⟩) hl]
 exact ⟨h1,h2,h3,h4,h5⟩
theorem spR_len (p:Spn):(spR p).length≤8192:=by unfold spR;rw [rts_len];exact cvL_len _ _
theorem sps_len (ss:List Spn):(ss.flatMap spR).length≤8192 * ss.length:=by
 induction ss with
 | nil=>simp
 | cons p ss ih=>have:=spR_len p;simp only [List.flatMap_cons,List.length_append,List.length_cons];omega
theorem sps_step (ss:List Spn)(k:Nat)(h:k<ss.length):(ss.take (k+1)).flatMap spR=(ss.take k).flatMap spR++spR (ss.getD k zSp):=by
 rw [List.take_add_one,List.flatMap_append]
 congr 1
 simp [List.getD_eq_getElem?_getD,h]
theorem joined_any (b off n cap:Nat)(ss:List Spn)(w:World)(hn:ss.length=n)(hn4:n≤4)(hw:∀ i,i<n→wfi (ss.getD i zSp).1∧wfi (ss.getD i zSp).2.1)(h:∀ i,i<n→At5 w b (off+i * 5) (ss.getD i zSp)):
 Calls Tryz.prog 184 #[.slice (some ⟨b,off,none⟩) n cap] w fun e w'=>∃ A m cap',e=.returned (.slice A m cap')∧m=(ss.flatMap spR).length∧ORg w' w.heap.size (.slice A m cap') (ss.flatMap spR)∧Below w.heap.size w w':=by
 obtain ⟨i0,hi,hz0,hz1,hz2⟩:=info_parts infoR
 have HA:=hide h
 have HW:=hide hw
 have HN:=hide hn
 clear h hw hn
 go_enter Tryz.func184,Tryz.ntmps184
 go_wp2_with fail
 go_loopw [3,8] (fun o i wr=>∃ (A:Option Addr) (m cap' k:Nat),k≤n∧o=.slice A m cap'∧i=.int .i64 k∧ORg wr w.heap.size (.slice A m cap') ((ss.take k).flatMap spR)∧Below w.heap.size w wr) (fun _ i _=>n - (intOf i).toNat)
 case atStart=>exact ⟨none,0,0,0,Nat.zero_le _,rfl,rfl,org_nil _ _,Below.refl _ _⟩
 case round=>
  obtain ⟨A,m,cap',k,hk,rfl,rfl,hO,hB⟩:=hrel
  by_cases hlt:k<n
  ·have hlt':(k:Int)<(n:Int):=by omega
   obtain ⟨p0,p1,p2,p3,p4⟩:=(HA.out k hlt).below hB
   have HT:=hide (sps_step ss k (by rw [HN.out];exact hlt))
   have hww:=HW.out k hlt
   generalize ss.getD k zSp=G at *
   obtain ⟨f,s,r,x,y⟩:=G
   obtain ⟨V,hV⟩:∃ V,V=wr.alloc (.cells #[.int .i64 f,.int .i64 s,.bool r,.bool x,.bool y] 232):=⟨_,rfl⟩
   have KV:Blk V wr.heap.size #[.int .i64 f,.int .i64 s,.bool r,.bool x,.bool y] 232:=by rw [hV];exact Blk.new _ _ _
   have BV:Below wr.heap.size wr V:=by rw [hV];exact (Below.refl _ _).alloc (Nat.le_refl _) _
   have e0:V.cell? ⟨wr.heap.size,0,none⟩=some (.int .i64 f):=KV.cell 0
   have e1:V.cell? ⟨wr.heap.size,1,none⟩=some (.int .i64 s):=KV.cell 1
   have e2:V.cell? ⟨wr.heap.size,2,none⟩=some (.bool r):=KV.cell 2
   have e3:V.cell? ⟨wr.heap.size,3,none⟩=some (.bool x):=KV.cell 3
   have e4:V.cell? ⟨wr.heap.size,4,none⟩=some (.bool y):=KV.cell 4
   have HR:=hide (regions_any f s r x y V hww.1 hww.2)
   have HO:=hide (turn_or' (turn_below BV) hO (fun _ _ h=>h))
   have HML:=hide (or_rs hO).1
   have HMX:=hide (show m≤32768 by have h1:=sps_len (ss.take k);rw [(or_rs hO).1,List.length_take,HN.out] at h1;omega)
   have HLE:=hide (or_lt hO)
   have HBV:=hide (hB.trans (BV.mono hB.size))
   have HSV:=hide (show w.heap.size≤V.heap.size from Nat.le_trans hB.size BV.size)
   have HV:=hide hV
   have HGE:=hide (fun j hj=>or_rowle hO j hj)
   clear hV KV BV hO hB hww
   go_wp2_with (rw [← HV.out])
   refine HR.out.mono ?_
   rintro e w3 ⟨X,q,qc,rfl,hX,hnil,hB3⟩
   have HL3:=hide (show q≤8192 by have h1:=spR_len (f,s,r,x,y);have h2:=hX.1;unfold spR at h1;simp only at h1;omega)
   have HO3:=hide (turn_or' (turn_below hB3) HO.out (fun _ _ h=>h))
   have HB4:=hide (HBV.out.trans (hB3.mono HSV.out))
   have HSZ:=hide (show w.heap.size≤w3.heap.size from Nat.le_trans HSV.out hB3.size)
   have HX:=hide hX
   have HNIL:=hide hnil
   clear hX hnil hB3
   have HOW:=hide (show w3.ownsRow w.heap.size 158 6 (.slice A m cap') m (flat ((ss.take k).flatMap spR)) from by have:=HO3.out.1;rwa [HML.out] at this)
   have HSP:=hide (show spR (f,s,r,x,y)=rts r x y (cvL f s) from rfl)
   have HWF:=hide HX.out.2.2.1
   obtain ⟨M,hM⟩:∃ M,M=rts r x y (cvL f s):=⟨_,rfl⟩
   rw [← hM] at HX HSP HWF
   have HLEN:=hide (show (flat M).length=q * 6 by rw [flat6_len,HX.out.1])
   have HONE:=hide (flat6_one M)
   clear hM
   match X with
   | none=>
     obtain ⟨rfl,rfl⟩:=HNIL.out rfl
     go_wp2_with (at_builtin;refine wpList_append_own_none rfl _ _ 68 rfl w.heap.size 158 i0 6 Tryz.underlying68 hi (.slice A m cap') m (flat ((ss.take k).flatMap spR)) rfl HOW.out rfl ?_)
     refine ⟨⟨A,m,cap',k+1,by omega,rfl,by go_num,?_,HB4.out⟩,by simp [intOf];omega⟩
     rw [HT.out,HSP.out,List.eq_nil_of_length_eq_zero HX.out.1,List.append_nil]
     exact HO3.out
   | some ad=>
     have HNEWS:=hide (show ∀ j u,(flat M)[j]?=some u→w3.cell? (ad.add j)=some u from by
      by_cases hq:q=0
      ·have e:M=[]:=List.eq_nil_of_length_eq_zero (by rw [HX.out.1];exact hq)
       rw [e];intro j u hj;simp [flat] at hj
      ·obtain ⟨b',off',he⟩:=HX.out.some hq
       injection he with he
       subst he
       exact rs_news HX.out)
     go_wp2_with (at_builtin;refine wpList_append_own _ rfl _ _ 68 rfl w.heap.size 158 i0 (.agg #[.int .i64 0,.int .i64 0,.int .i64 0,.bool false,.bool false,.bool false]) 6 32 Tryz.underlying68 hi hz0 hz1 hz2 rfl (by decide) (.slice A m cap') m (flat ((ss.take k).flatMap spR)) rfl HOW.out ad q qc (flat M) rfl HLEN.out HNEWS.out HONE.out (by have:=HMX.out;have:=HL3.out;unfold maxLen;omega) (by have:=HMX.out;have:=HL3.out;omega) HSZ.out ?_;intro v' w4 hown4 hgr4 _;have HP:=hide (And.intro hown4 hgr4);clear hown4 hgr4;obtain ⟨A2,cap2,he⟩:=or_shape HP.out.1;subst he)
     refine ⟨⟨A2,m+q,cap2,k+1,by omega,rfl,by go_num,?_,below_turn HB4.out (grown_turn HP.out.2) (fun j hj=>HGE.out j hj) HSZ.out⟩,by simp [intOf];omega⟩
     rw [HT.out,HSP.out]
     refine ⟨?_,fun y hy=>?_⟩
     ·rw [List.length_append,HML.out,HX.out.1,flat_app]
      exact HP.out.1
     ·rcases List.mem_append.1 hy with hy | hy
      ·exact HO3.out.2 y hy
      ·exact HWF.out y hy
  ·have HE:=hide (show k=n by omega)
   have HF:=hide (And.intro hO hB)
   clear hO hB
   go_wp2
   go_ret
   have h1:=HF.out.1
   rw [List.take_of_length_le (by rw [HN.out,HE.out];exact Nat.le_refl _)] at h1
   exact ⟨A,m,cap',rfl,(or_rs h1).1.symm,h1,HF.out.2⟩
end Go.Proofs.YtngdgogjlpjjpaeGreat
