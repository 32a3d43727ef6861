import Derived.Defers
import Derived.Recover
import Derived.Test.YtngdgogjlpjjpaeGreatP02
import Derived.Test.YtngdgogjlpjjpaeGreatP09
import Derived.Test.YtngdgogjlpjjpaeGreatP11
import Derived.Test.YtngdgogjlpjjpaeGreatP14
import Derived.Test.YtngdgogjlpjjpaeGreatP12
import Derived.Test.YtngdgogjlpjjpaeGreatP13
set_option maxHeartbeats 8000000
namespace Go.Proofs.YtngdgogjlpjjpaeGreat
open Go.RowKit Classical
set_option linter.unusedVariables false
set_option linter.unusedSimpArgs false
set_option maxRecDepth 100000
theorem pMod_eq (zs:List Int):pMod zs=(pT zs).bind fun a=>(pL a.2).bind fun b=>(pN 1 b.2).bind fun nb=>(pM pL nb.1.toNat nb.2).bind fun c=>(pN 2 c.2).bind fun nd=>(pB nd.1.toNat nd.2).bind fun d=>(pN 2 d.2).bind fun e=>(pN 1 e.2).bind fun nr=>(pM (pN 2) nr.1.toNat nr.2).bind fun f=>(pN 1 f.2).bind fun ni=>(pM pT ni.1.toNat ni.2).bind fun g=>(pN 1 g.2).bind fun ne=>(pM pX ne.1.toNat ne.2).map fun h=>(⟨a.1,b.1,c.1,d.1,e.1,f.1,g.1,h.1⟩,h.2):=rfl
structure Stay (w:World)(g:Nat)(A:World→Prop):Prop where
 turn:∀ W W',A W→Turn (fun j=>j=g) W W'→A W'
 set:∀ W k i v,k≤w.heap.size+1→A W→A (W.setCell ⟨k,i,none⟩ v)
theorem stay_og {α:Type}{t:TypeId}{sz:Nat}{f:α→List Value}{w:World}{g base:Nat}{v:Value}{xs:List α}(hg:g<w.heap.size)(hb:w.heap.size+2≤base):Stay w g (fun W=>OG t sz f W base v xs):=
 ⟨fun W W' h t=>h.turn t (fun k hk=>by omega),fun W k i u hk h=>h.turn (turn_set W k i u) (fun j hj=>by omega)⟩
theorem stay_obk {w:World}{g base:Nat}{v:Value}{bl:List Bk}(hg:g<w.heap.size)(hb:w.heap.size+2≤base):Stay w g (fun W=>OBk W base v bl):=
 ⟨fun W W' h t=>h.turn t (fun k hk=>by omega),fun W k i u hk h=>h.turn (turn_set W k i u) (fun j hj=>by omega)⟩
theorem stay_ob {w:World}{g base:Nat}{v:Value}{zs:List Int}(hg:g<w.heap.size)(hb:w.heap.size+2≤base):Stay w g (fun W=>OB W base v zs):=
 ⟨fun W W' h t=>turn_ob t h (fun k hk e=>by have:=(h.lt k hk).1;omega),fun W k i u hk h=>turn_ob (turn_set W k i u) h (fun j hj e=>by have:=(h.lt j hj).1;omega)⟩
theorem stay_p {w:World}{g:Nat}{P:Prop}:Stay w g (fun _=>P):=⟨fun _ _ h _=>h,fun _ _ _ _ _ h=>h⟩
def st8 (W:World)(k:Nat)(v0 v1 v2 v3 v4 v5 v6 v7:Value):World:=(((((((W.setCell ⟨k,0,none⟩ v0).setCell ⟨k,1,none⟩ v1).setCell ⟨k,2,none⟩ v2).setCell ⟨k,3,none⟩ v3).setCell ⟨k,4,none⟩ v4).setCell ⟨k,5,none⟩ v5).setCell ⟨k,6,none⟩ v6).setCell ⟨k,7,none⟩ v7
theorem Stay.st8 {w W:World}{g:Nat}{A:World→Prop}(a:Stay w g A)(h:A W)(v0 v1 v2 v3 v4 v5 v6 v7:Value):A (st8 W w.heap.size v0 v1 v2 v3 v4 v5 v6 v7):=
 a.set _ _ _ _ (by omega) (a.set _ _ _ _ (by omega) (a.set _ _ _ _ (by omega) (a.set _ _ _ _ (by omega) (a.set _ _ _ _ (by omega) (a.set _ _ _ _ (by omega) (a.set _ _ _ _ (by omega) (a.set _ _ _ _ (by omega) h)))))))
theorem Es.st8 {w W:World}{g b n cap:Nat}{zs r:List Int}{t:TypeId}{z0 z1 z2 z3 z4 z5 z6 z7:Value}{cs:Array Value}(h:Es w W g b n cap zs r t #[z0,z1,z2,z3,z4,z5,z6,z7] cs)(v0 v1 v2 v3 v4 v5 v6 v7:Value):
 RdI (st8 W w.heap.size v0 v1 v2 v3 v4 v5 v6 v7) g b n cap zs r∧Turn (fun j=>j=g) w (st8 W w.heap.size v0 v1 v2 v3 v4 v5 v6 v7)∧Blk (st8 W w.heap.size v0 v1 v2 v3 v4 v5 v6 v7) w.heap.size #[v0,v1,v2,v3,v4,v5,v6,v7] t:=by
 have l1:w.heap.size≠g:=by have:=h.lo.1;omega
 have l2:n≠0→b≠w.heap.size:=fun hn=>by have:=h.lo.2 hn;omega
 refine ⟨(((((((h.rd.other l1 l2).other l1 l2).other l1 l2).other l1 l2).other l1 l2).other l1 l2).other l1 l2).other l1 l2,?_,?_⟩
 ·exact turn_new' (turn_new' (turn_new' (turn_new' (turn_new' (turn_new' (turn_new' (turn_new' h.tu (Nat.le_refl _) _ _) (Nat.le_refl _) _ _) (Nat.le_refl _) _ _) (Nat.le_refl _) _ _) (Nat.le_refl _) _ _) (Nat.le_refl _) _ _) (Nat.le_refl _) _ _) (Nat.le_refl _) _ _
 ·have k:=(((((((h.k1.set 0 v0).set 1 v1).set 2 v2).set 3 v3).set 4 v4).set 5 v5).set 6 v6).set 7 v7
  have e:(((((((#[z0,z1,z2,z3,z4,z5,z6,z7].setIfInBounds 0 v0).setIfInBounds 1 v1).setIfInBounds 2 v2).setIfInBounds 3 v3).setIfInBounds 4 v4).setIfInBounds 5 v5).setIfInBounds 6 v6).setIfInBounds 7 v7=#[v0,v1,v2,v3,v4,v5,v6,v7]:=by simp
  rw [e] at k
  exact k
theorem Blk.eight' {w:World}{g:Nat}{v0 v1 v2 v3 v4 v5 v6 v7:Value}{t:TypeId}(h:Blk w g #[v0,v1,v2,v3,v4,v5,v6,v7] t):w.cell? ⟨g,0,none⟩=some v0∧w.cell? ⟨g,1,none⟩=some v1∧w.cell? ⟨g,2,none⟩=some v2∧w.cell? ⟨g,3,none⟩=some v3∧w.cell? ⟨g,4,none⟩=some v4∧w.cell? ⟨g,5,none⟩=some v5∧w.cell? ⟨g,6,none⟩=some v6∧w.cell? ⟨g,7,none⟩=some v7:=
 ⟨h.cell 0,h.cell 1,h.cell 2,h.cell 3,h.cell 4,h.cell 5,h.cell 6,h.cell 7⟩
theorem Blk.froz {w:World}{g:Nat}{cs:Array Value}{t:TypeId}(h:Blk w g cs t):w.frozen? ⟨g,0,none⟩=false∧w.frozen? ⟨g,1,none⟩=false∧w.frozen? ⟨g,2,none⟩=false∧w.frozen? ⟨g,3,none⟩=false∧w.frozen? ⟨g,4,none⟩=false∧w.frozen? ⟨g,5,none⟩=false∧w.frozen? ⟨g,6,none⟩=false∧w.frozen? ⟨g,7,none⟩=false:=
 ⟨h.frozen 0,h.frozen 1,h.frozen 2,h.frozen 3,h.frozen 4,h.frozen 5,h.frozen 6,h.frozen 7⟩
structure ModO (W:World)(base:Nat)(P:PMod)(a1:Option Addr)(c1:Nat)(a2:Option Addr)(c2:Nat)(bl:List Bk)(a3:Option Addr)(c3:Nat)(a5:Option Addr)(c5:Nat)(a6:Option Addr)(c6:Nat)(a7:Option Addr)(c7:Nat):Prop where
 t:OG 3 1 clI W base (.slice a1 P.tz.length c1) P.tz
 b:OBk W base (.slice a2 bl.length c2) bl
 bls:bl.map (fun B=>B.2.2.2)=P.bl
 d:OB W base (.slice a3 P.dz.length c3) P.dz
 r:OG 3 1 clI W base (.slice a5 P.rz.length c5) P.rz
 i:OG 9 1 clT W base (.slice a6 P.ss.length c6) P.ss
 e:OG 207 3 clX W base (.slice a7 P.es.length c7) P.es
 tb:∀ k,(Value.slice a1 P.tz.length c1).ownBlock=some k→∀ B ∈ bl,(Value.slice B.1 B.2.1 B.2.2.1).ownBlock≠some k
 tr:∀ k,(Value.slice a1 P.tz.length c1).ownBlock=some k→(Value.slice a5 P.rz.length c5).ownBlock≠some k
 br:∀ k,(Value.slice a5 P.rz.length c5).ownBlock=some k→∀ B ∈ bl,(Value.slice B.1 B.2.1 B.2.2.1).ownBlock≠some k
def modV (P:PMod)(a1:Option Addr)(c1:Nat)(a2:Option Addr)(c2:Nat)(bl:List Bk)(a3:Option Addr)(c3:Nat)(a5:Option Addr)(c5:Nat)(a6:Option Addr)(c6:Nat)(a7:Option Addr)(c7:Nat):Array Value:=#[.string P.nm,.slice a1 P.tz.length c1,.slice a2 bl.length c2,.slice a3 P.dz.length c3,.int .i64 P.bss,.slice a5 P.rz.length c5,.slice a6 P.ss.length c6,.slice a7 P.es.length c7]
def isMod (base:Nat)(P:PMod)(v:Value)(w:World):Prop:=∃ a1 c1 a2 c2 bl a3 c3 a5 c5 a6 c6 a7 c7,v=.agg (modV P a1 c1 a2 c2 bl a3 c3 a5 c5 a6 c6 a7 c7)∧ModO w base P a1 c1 a2 c2 bl a3 c3 a5 c5 a6 c6 a7 c7
theorem module_rd (g b n cap:Nat)(zs r:List Int)(w:World)(h:RdI w g b n cap zs r):
 Calls Tryz.prog 223 #[.pointer (some ⟨g,0,none⟩)] w (RP w g b n cap zs (isMod w.heap.size) (pMod r)):=by
 have E:=Es.new (t:=104) (z:=#[.string ⟨#[]⟩,.slice none 0 0,.slice none 0 0,.slice none 0 0,.int .i64 0,.slice none 0 0,.slice none 0 0,.slice none 0 0]) h
 have hmf:∀ (fn:Fn) (first cap:Array Value) (w:World),(Instr.makeFunc fn first cap).run Tryz.prog w=.ok (.func fn first cap) w:=fun _ _ _ _=>rfl
 have HN:=hide (fun w r h=>number_rd g b n cap zs r 1 w h (Or.inl rfl))
 have HE:=hide (pMod_eq r)
 have hA:(fun _:World=>True) w:=trivial
 have st:Stay w g (fun _=>True):=stay_p
 have hg:=h.lts.1
 have HQ:=hide h.range
 clear h
 go_enter Tryz.func223,Tryz.ntmps223
 go_wp2_with fail
 refine (text_rd g b n cap zs r _ E.rd).mono ?_
 intro e w1 H
 cases hp:pT r with
 | none=>
   obtain ⟨T,rfl⟩:=H.none hp
   have ET:=E.tu.trans T
   have e0:=HE.out
   rw [hp] at e0
   have HN0:=hide (show pMod r=none from e0)
   clear e0
   unfold panicE
   go_wp2
   exact ⟨rfl,RP.ofNone HN0.out ET⟩
 | some xx=>
   obtain ⟨nm,r1⟩:=xx
   obtain ⟨T,v,rfl,hv,R⟩:=H.some hp
   have e0:=HE.out
   rw [hp] at e0
   simp only [Option.bind_some,Option.map_some] at e0
   obtain rfl:v=.string nm:=hv
   have HE0:=hide e0
   clear e0 HE
   have HE:=HE0
   clear HE0
   have E1:=E.call T R
   clear E T R H hp
   have E:=E1
   clear E1
   have q:=E.k2.cell 0
   have f:=E.k2.frozen 0
   simp at q
   have E1:=E.set 0 (.string nm)
   clear E
   have E:=E1
   clear E1
   go_wp2_with fail
   refine (words_rd g b n cap zs r1 _ E.rd).mono ?_
   intro e w2 H
   cases hp:pL r1 with
   | none=>
     obtain ⟨T,rfl⟩:=H.none hp
     have ET:=E.tu.trans T
     have e0:=HE.out
     rw [hp] at e0
     have HN0:=hide (show pMod r=none from e0)
     clear e0
     unfold panicE
     go_wp2
     exact ⟨rfl,RP.ofNone HN0.out ET⟩
   | some xx=>
     obtain ⟨tz,r2⟩:=xx
     obtain ⟨T,v,rfl,hv,R⟩:=H.some hp
     have e0:=HE.out
     rw [hp] at e0
     simp only [Option.bind_some,Option.map_some] at e0
     obtain ⟨a1,c1,rfl,o1⟩:=hv
     have hb1:w.heap.size+2≤_:=E.k2.lt
     have o1:=o1.mono hb1
     have HE0:=hide e0
     clear e0 HE
     have HE:=HE0
     clear HE0
     have E1:=E.call T R
     clear E T R H hp
     have E:=E1
     clear E1
     have o1s:=hide (stay_og hg (Nat.le_refl _):Stay w g (fun W=>OG 3 1 clI W (w.heap.size+2) (.slice a1 tz.length c1) tz))
     clear q f
     have q:=E.k2.cell 1
     have f:=E.k2.frozen 1
     simp at q
     have E1:=E.set 1 (.slice a1 tz.length c1)
     have o1:=o1s.out.set _ _ 1 (.slice a1 tz.length c1) (Nat.le_refl _) o1
     clear E
     have E:=E1
     clear E1
     go_wp2_with fail
     refine (HN.out _ r2 E.rd).mono ?_
     intro e w3 H
     cases hp:pN 1 r2 with
     | none=>
       obtain ⟨T,rfl⟩:=H.none hp
       have ET:=E.tu.trans T
       have e0:=HE.out
       rw [hp] at e0
       have HN0:=hide (show pMod r=none from e0)
       clear e0
       unfold panicE
       go_wp2
       exact ⟨rfl,RP.ofNone HN0.out ET⟩
     | some xx=>
       obtain ⟨xb,r3⟩:=xx
       obtain ⟨T,v,rfl,hv,R⟩:=H.some hp
       have e0:=HE.out
       rw [hp] at e0
       simp only [Option.bind_some,Option.map_some] at e0
       have hx:=(gives_pN1 _ _ _ E.rd.range hp).1
       obtain ⟨mb,rfl⟩:∃ mb:Nat,xb=(mb:Int):=⟨xb.toNat,by omega⟩
       have hmb:mb≤255:=by omega
       clear hx
       obtain rfl:v=.int .i64 mb:=hv
       simp only [Int.toNat_natCast] at e0
       have HE0:=hide e0
       clear e0 HE
       have HE:=HE0
       clear HE0
       have E1:=E.call T R
       have o1:=o1s.out.turn _ _ o1 T
       clear E T R H hp
       have E:=E1
       clear E1
       clear q f
       go_wp2_with fail
       refine (takenB_rd g b n cap zs mb r3 _ E.rd (by omega)).mono ?_
       intro e w4 H
       cases hp:pM pL mb r3 with
       | none=>
         obtain ⟨T,rfl⟩:=H.none hp
         have ET:=E.tu.trans T
         have e0:=HE.out
         rw [hp] at e0
         have HN0:=hide (show pMod r=none from e0)
         clear e0
         unfold panicE
         go_wp2
         exact ⟨rfl,RP.ofNone HN0.out ET⟩
       | some xx=>
         obtain ⟨xs,r4⟩:=xx
         obtain ⟨T,v,rfl,hv,R⟩:=H.some hp
         have e0:=HE.out
         rw [hp] at e0
         simp only [Option.bind_some,Option.map_some] at e0
         obtain ⟨bl,rfl,a2,c2,rfl,o2⟩:=hv
         have hb1:w.heap.size+2≤_:=E.k2.lt
         have HTB:=hide (And.intro (fun k hk=>(o1.lt k hk).2) (fun B (hB:B ∈ bl) k hk=>((o2.rows B hB).2.lt k hk).1))
         have o2:=o2.mono hb1
         have HE0:=hide e0
         clear e0 HE
         have HE:=HE0
         clear HE0
         have E1:=E.call T R
         have o1:=o1s.out.turn _ _ o1 T
         clear E T R H hp
         have E:=E1
         clear E1
         have o2s:=hide (stay_obk hg (Nat.le_refl _):Stay w g (fun W=>OBk W (w.heap.size+2) (.slice a2 bl.length c2) bl))
         have q:=E.k2.cell 2
         have f:=E.k2.frozen 2
         simp at q
         have E1:=E.set 2 (.slice a2 bl.length c2)
         have o1:=o1s.out.set _ _ 2 (.slice a2 bl.length c2) (Nat.le_refl _) o1
         have o2:=o2s.out.set _ _ 2 (.slice a2 bl.length c2) (Nat.le_refl _) o2
         clear E
         have E:=E1
         clear E1
         go_wp2_with fail
         refine (count_rd g b n cap zs r4 _ E.rd).mono ?_
         intro e w5 H
         cases hp:pN 2 r4 with
         | none=>
           obtain ⟨T,rfl⟩:=H.none hp
           have ET:=E.tu.trans T
           have e0:=HE.out
           rw [hp] at e0
           have HN0:=hide (show pMod r=none from e0)
           clear e0
           unfold panicE
           go_wp2
           exact ⟨rfl,RP.ofNone HN0.out ET⟩
         | some xx=>
           obtain ⟨xd,r5⟩:=xx
           obtain ⟨T,v,rfl,hv,R⟩:=H.some hp
           have e0:=HE.out
           rw [hp] at e0
           simp only [Option.bind_some,Option.map_some] at e0
           have hx:=(gives_pN 2 (by omega) _ _ _ E.rd.range hp).1
           obtain ⟨md,rfl⟩:∃ md:Nat,xd=(md:Int):=⟨xd.toNat,by omega⟩
           have hmd:md≤65535:=by have:=hx.2.2 (by omega);omega
           clear hx
           obtain rfl:v=.int .i64 md:=hv
           simp only [Int.toNat_natCast] at e0
           have HE0:=hide e0
           clear e0 HE
           have HE:=HE0
           clear HE0
           have E1:=E.call T R
           have o1:=o1s.out.turn _ _ o1 T
           have o2:=o2s.out.turn _ _ o2 T
           clear E T R H hp
           have E:=E1
           clear E1
           clear q f
           go_wp2_with fail
           refine (take_any g b n cap zs r5 md _ E.rd (by omega)).mono ?_
           intro e w6 H
           cases hp:pB md r5 with
           | none=>
             obtain ⟨T,rfl⟩:=H.none hp
             have ET:=E.tu.trans T
             have e0:=HE.out
             rw [hp] at e0
             have HN0:=hide (show pMod r=none from e0)
             clear e0
             unfold panicE
             go_wp2
             exact ⟨rfl,RP.ofNone HN0.out ET⟩
           | some xx=>
             obtain ⟨dz,r6⟩:=xx
             obtain ⟨T,v,rfl,hv,R⟩:=H.some hp
             have e0:=HE.out
             rw [hp] at e0
             simp only [Option.bind_some,Option.map_some] at e0
             obtain ⟨db,dk,dc,rfl,hB⟩:=hv
             have hdl:dz.length≤1048576:=by have:=(gives_pB md _ _ _ E.rd.range hp).1.1;omega
             have HE0:=hide e0
             clear e0 HE
             have HE:=HE0
             clear HE0
             have E1:=E.call T R
             have o1:=o1s.out.turn _ _ o1 T
             have o2:=o2s.out.turn _ _ o2 T
             clear E T R H hp
             have E:=E1
             clear E1
             go_wp2_with fail
             refine (clone_any db dk dz.length dc dz _ hB hdl).mono ?_
             rintro e w7 ⟨a3,c3,rfl,o3,hb⟩
             have hb1:w.heap.size+2≤_:=E.k2.lt
             have o3:=o3.mono hb1
             have T:Turn (fun j=>j=g) _ _:=turn_below hb
             have R:=E.rd.below hb
             have E1:=E.call T R
             have o1:=o1s.out.turn _ _ o1 T
             have o2:=o2s.out.turn _ _ o2 T
             clear E T R hb hB
             have E:=E1
             clear E1
             have o3s:=hide (stay_ob hg (Nat.le_refl _):Stay w g (fun W=>OB W (w.heap.size+2) (.slice a3 dz.length c3) dz))
             have q:=E.k2.cell 3
             have f:=E.k2.frozen 3
             simp at q
             have E1:=E.set 3 (.slice a3 dz.length c3)
             have o1:=o1s.out.set _ _ 3 (.slice a3 dz.length c3) (Nat.le_refl _) o1
             have o2:=o2s.out.set _ _ 3 (.slice a3 dz.length c3) (Nat.le_refl _) o2
             have o3:=o3s.out.set _ _ 3 (.slice a3 dz.length c3) (Nat.le_refl _) o3
             clear E
             have E:=E1
             clear E1
             go_wp2_with fail
             refine (count_rd g b n cap zs r6 _ E.rd).mono ?_
             intro e w8 H
             cases hp:pN 2 r6 with
             | none=>
               obtain ⟨T,rfl⟩:=H.none hp
               have ET:=E.tu.trans T
               have e0:=HE.out
               rw [hp] at e0
               have HN0:=hide (show pMod r=none from e0)
               clear e0
               unfold panicE
               go_wp2
               exact ⟨rfl,RP.ofNone HN0.out ET⟩
             | some xx=>
               obtain ⟨bss,r7⟩:=xx
               obtain ⟨T,v,rfl,hv,R⟩:=H.some hp
               have e0:=HE.out
               rw [hp] at e0
               simp only [Option.bind_some,Option.map_some] at e0
               obtain rfl:v=.int .i64 bss:=hv
               have HE0:=hide e0
               clear e0 HE
               have HE:=HE0
               clear HE0
               have E1:=E.call T R
               have o1:=o1s.out.turn _ _ o1 T
               have o2:=o2s.out.turn _ _ o2 T
               have o3:=o3s.out.turn _ _ o3 T
               clear E T R H hp
               have E:=E1
               clear E1
               clear q f
               have q:=E.k2.cell 4
               have f:=E.k2.frozen 4
               simp at q
               have E1:=E.set 4 (.int .i64 bss)
               have o1:=o1s.out.set _ _ 4 (.int .i64 bss) (Nat.le_refl _) o1
               have o2:=o2s.out.set _ _ 4 (.int .i64 bss) (Nat.le_refl _) o2
               have o3:=o3s.out.set _ _ 4 (.int .i64 bss) (Nat.le_refl _) o3
               clear E
               have E:=E1
               clear E1
               go_wp2_with fail
               refine (HN.out _ r7 E.rd).mono ?_
               intro e w9 H
               cases hp:pN 1 r7 with
               | none=>
                 obtain ⟨T,rfl⟩:=H.none hp
                 have ET:=E.tu.trans T
                 have e0:=HE.out
                 rw [hp] at e0
                 have HN0:=hide (show pMod r=none from e0)
                 clear e0
                 unfold panicE
                 go_wp2
                 exact ⟨rfl,RP.ofNone HN0.out ET⟩
               | some xx=>
                 obtain ⟨xr,r8⟩:=xx
                 obtain ⟨T,v,rfl,hv,R⟩:=H.some hp
                 have e0:=HE.out
                 rw [hp] at e0
                 simp only [Option.bind_some,Option.map_some] at e0
                 have hx:=(gives_pN1 _ _ _ E.rd.range hp).1
                 obtain ⟨mr,rfl⟩:∃ mr:Nat,xr=(mr:Int):=⟨xr.toNat,by omega⟩
                 have hmr:mr≤255:=by omega
                 clear hx
                 obtain rfl:v=.int .i64 mr:=hv
                 simp only [Int.toNat_natCast] at e0
                 have HE0:=hide e0
                 clear e0 HE
                 have HE:=HE0
                 clear HE0
                 have E1:=E.call T R
                 have o1:=o1s.out.turn _ _ o1 T
                 have o2:=o2s.out.turn _ _ o2 T
                 have o3:=o3s.out.turn _ _ o3 T
                 clear E T R H hp
                 have E:=E1
                 clear E1
                 clear q f
                 go_wp2_with fail
                 refine (takenIcount_rd g b n cap zs mr r8 _ E.rd (by omega)).mono ?_
                 intro e w10 H
                 cases hp:pM (pN 2) mr r8 with
                 | none=>
                   obtain ⟨T,rfl⟩:=H.none hp
                   have ET:=E.tu.trans T
                   have e0:=HE.out
                   rw [hp] at e0
                   have HN0:=hide (show pMod r=none from e0)
                   clear e0
                   unfold panicE
                   go_wp2
                   exact ⟨rfl,RP.ofNone HN0.out ET⟩
                 | some xx=>
                   obtain ⟨rz,r9⟩:=xx
                   obtain ⟨T,v,rfl,hv,R⟩:=H.some hp
                   have e0:=HE.out
                   rw [hp] at e0
                   simp only [Option.bind_some,Option.map_some] at e0
                   obtain ⟨a5,c5,rfl,o5⟩:=hv
                   have hb1:w.heap.size+2≤_:=E.k2.lt
                   have HTR:=hide (And.intro (fun k hk=>(o1.lt k hk).2) (And.intro (fun B (hB:B ∈ bl) k hk=>((o2.rows B hB).2.lt k hk).2) (fun k hk=>(o5.lt k hk).1)))
                   have o5:=o5.mono hb1
                   have HE0:=hide e0
                   clear e0 HE
                   have HE:=HE0
                   clear HE0
                   have E1:=E.call T R
                   have o1:=o1s.out.turn _ _ o1 T
                   have o2:=o2s.out.turn _ _ o2 T
                   have o3:=o3s.out.turn _ _ o3 T
                   clear E T R H hp
                   have E:=E1
                   clear E1
                   have o5s:=hide (stay_og hg (Nat.le_refl _):Stay w g (fun W=>OG 3 1 clI W (w.heap.size+2) (.slice a5 rz.length c5) rz))
                   have q:=E.k2.cell 5
                   have f:=E.k2.frozen 5
                   simp at q
                   have E1:=E.set 5 (.slice a5 rz.length c5)
                   have o1:=o1s.out.set _ _ 5 (.slice a5 rz.length c5) (Nat.le_refl _) o1
                   have o2:=o2s.out.set _ _ 5 (.slice a5 rz.length c5) (Nat.le_refl _) o2
                   have o3:=o3s.out.set _ _ 5 (.slice a5 rz.length c5) (Nat.le_refl _) o3
                   have o5:=o5s.out.set _ _ 5 (.slice a5 rz.length c5) (Nat.le_refl _) o5
                   clear E
                   have E:=E1
                   clear E1
                   go_wp2_with fail
                   refine (HN.out _ r9 E.rd).mono ?_
                   intro e w11 H
                   cases hp:pN 1 r9 with
                   | none=>
                     obtain ⟨T,rfl⟩:=H.none hp
                     have ET:=E.tu.trans T
                     have e0:=HE.out
                     rw [hp] at e0
                     have HN0:=hide (show pMod r=none from e0)
                     clear e0
                     unfold panicE
                     go_wp2
                     exact ⟨rfl,RP.ofNone HN0.out ET⟩
                   | some xx=>
                     obtain ⟨xi,r10⟩:=xx
                     obtain ⟨T,v,rfl,hv,R⟩:=H.some hp
                     have e0:=HE.out
                     rw [hp] at e0
                     simp only [Option.bind_some,Option.map_some] at e0
                     have hx:=(gives_pN1 _ _ _ E.rd.range hp).1
                     obtain ⟨mi,rfl⟩:∃ mi:Nat,xi=(mi:Int):=⟨xi.toNat,by omega⟩
                     have hmi:mi≤255:=by omega
                     clear hx
                     obtain rfl:v=.int .i64 mi:=hv
                     simp only [Int.toNat_natCast] at e0
                     have HE0:=hide e0
                     clear e0 HE
                     have HE:=HE0
                     clear HE0
                     have E1:=E.call T R
                     have o1:=o1s.out.turn _ _ o1 T
                     have o2:=o2s.out.turn _ _ o2 T
                     have o3:=o3s.out.turn _ _ o3 T
                     have o5:=o5s.out.turn _ _ o5 T
                     clear E T R H hp
                     have E:=E1
                     clear E1
                     clear q f
                     go_wp2_with fail
                     refine (takenTtext_rd g b n cap zs mi r10 _ E.rd (by omega)).mono ?_
                     intro e w12 H
                     cases hp:pM pT mi r10 with
                     | none=>
                       obtain ⟨T,rfl⟩:=H.none hp
                       have ET:=E.tu.trans T
                       have e0:=HE.out
                       rw [hp] at e0
                       have HN0:=hide (show pMod r=none from e0)
                       clear e0
                       unfold panicE
                       go_wp2
                       exact ⟨rfl,RP.ofNone HN0.out ET⟩
                     | some xx=>
                       obtain ⟨ss,r11⟩:=xx
                       obtain ⟨T,v,rfl,hv,R⟩:=H.some hp
                       have e0:=HE.out
                       rw [hp] at e0
                       simp only [Option.bind_some,Option.map_some] at e0
                       obtain ⟨a6,c6,rfl,o6⟩:=hv
                       have hb1:w.heap.size+2≤_:=E.k2.lt
                       have o6:=o6.mono hb1
                       have HE0:=hide e0
                       clear e0 HE
                       have HE:=HE0
                       clear HE0
                       have E1:=E.call T R
                       have o1:=o1s.out.turn _ _ o1 T
                       have o2:=o2s.out.turn _ _ o2 T
                       have o3:=o3s.out.turn _ _ o3 T
                       have o5:=o5s.out.turn _ _ o5 T
                       clear E T R H hp
                       have E:=E1
                       clear E1
                       have o6s:=hide (stay_og hg (Nat.le_refl _):Stay w g (fun W=>OG 9 1 clT W (w.heap.size+2) (.slice a6 ss.length c6) ss))
                       have q:=E.k2.cell 6
                       have f:=E.k2.frozen 6
                       simp at q
                       have E1:=E.set 6 (.slice a6 ss.length c6)
                       have o1:=o1s.out.set _ _ 6 (.slice a6 ss.length c6) (Nat.le_refl _) o1
                       have o2:=o2s.out.set _ _ 6 (.slice a6 ss.length c6) (Nat.le_refl _) o2
                       have o3:=o3s.out.set _ _ 6 (.slice a6 ss.length c6) (Nat.le_refl _) o3
                       have o5:=o5s.out.set _ _ 6 (.slice a6 ss.length c6) (Nat.le_refl _) o5
                       have o6:=o6s.out.set _ _ 6 (.slice a6 ss.length c6) (Nat.le_refl _) o6
                       clear E
                       have E:=E1
                       clear E1
                       go_wp2_with fail
                       refine (HN.out _ r11 E.rd).mono ?_
                       intro e w13 H
                       cases hp:pN 1 r11 with
                       | none=>
                         obtain ⟨T,rfl⟩:=H.none hp
                         have ET:=E.tu.trans T
                         have e0:=HE.out
                         rw [hp] at e0
                         have HN0:=hide (show pMod r=none from e0)
                         clear e0
                         unfold panicE
                         go_wp2
                         exact ⟨rfl,RP.ofNone HN0.out ET⟩
                       | some xx=>
                         obtain ⟨xe,r12⟩:=xx
                         obtain ⟨T,v,rfl,hv,R⟩:=H.some hp
                         have e0:=HE.out
                         rw [hp] at e0
                         simp only [Option.bind_some,Option.map_some] at e0
                         have hx:=(gives_pN1 _ _ _ E.rd.range hp).1
                         obtain ⟨me,rfl⟩:∃ me:Nat,xe=(me:Int):=⟨xe.toNat,by omega⟩
                         have hme:me≤255:=by omega
                         clear hx
                         obtain rfl:v=.int .i64 me:=hv
                         simp only [Int.toNat_natCast] at e0
                         have HE0:=hide e0
                         clear e0 HE
                         have HE:=HE0
                         clear HE0
                         have E1:=E.call T R
                         have o1:=o1s.out.turn _ _ o1 T
                         have o2:=o2s.out.turn _ _ o2 T
                         have o3:=o3s.out.turn _ _ o3 T
                         have o5:=o5s.out.turn _ _ o5 T
                         have o6:=o6s.out.turn _ _ o6 T
                         clear E T R H hp
                         have E:=E1
                         clear E1
                         clear q f
                         go_wp2_with fail
                         refine (takenXexport_rd g b n cap zs me r12 _ E.rd (by omega)).mono ?_
                         intro e w14 H
                         cases hp:pM pX me r12 with
                         | none=>
                           obtain ⟨T,rfl⟩:=H.none hp
                           have ET:=E.tu.trans T
                           have e0:=HE.out
                           rw [hp] at e0
                           have HN0:=hide (show pMod r=none from e0)
                           clear e0
                           unfold panicE
                           go_wp2
                           exact ⟨rfl,RP.ofNone HN0.out ET⟩
                         | some xx=>
                           obtain ⟨es,r13⟩:=xx
                           obtain ⟨T,v,rfl,hv,R⟩:=H.some hp
                           have e0:=HE.out
                           rw [hp] at e0
                           simp only [Option.bind_some,Option.map_some] at e0
                           obtain ⟨a7,c7,rfl,o7⟩:=hv
                           have hb1:w.heap.size+2≤_:=E.k2.lt
                           have o7:=o7.mono hb1
                           have HE0:=hide e0
                           clear e0 HE
                           have HE:=HE0
                           clear HE0
                           have E1:=E.call T R
                           have o1:=o1s.out.turn _ _ o1 T
                           have o2:=o2s.out.turn _ _ o2 T
                           have o3:=o3s.out.turn _ _ o3 T
                           have o5:=o5s.out.turn _ _ o5 T
                           have o6:=o6s.out.turn _ _ o6 T
                           clear E T R H hp
                           have E:=E1
                           clear E1
                           have o7s:=hide (stay_og hg (Nat.le_refl _):Stay w g (fun W=>OG 207 3 clX W (w.heap.size+2) (.slice a7 es.length c7) es))
                           have q:=E.k2.cell 7
                           have f:=E.k2.frozen 7
                           simp at q
                           have E1:=E.set 7 (.slice a7 es.length c7)
                           have o1:=o1s.out.set _ _ 7 (.slice a7 es.length c7) (Nat.le_refl _) o1
                           have o2:=o2s.out.set _ _ 7 (.slice a7 es.length c7) (Nat.le_refl _) o2
                           have o3:=o3s.out.set _ _ 7 (.slice a7 es.length c7) (Nat.le_refl _) o3
                           have o5:=o5s.out.set _ _ 7 (.slice a7 es.length c7) (Nat.le_refl _) o5
                           have o6:=o6s.out.set _ _ 7 (.slice a7 es.length c7) (Nat.le_refl _) o6
                           have o7:=o7s.out.set _ _ 7 (.slice a7 es.length c7) (Nat.le_refl _) o7
                           clear E
                           have E:=E1
                           clear E1
                           have kk:=E.k2
                           simp at kk
                           obtain ⟨u0,u1,u2,u3,u4,u5,u6,u7⟩:=kk.eight'
                           obtain ⟨p0,p1,p2,p3,p4,p5,p6,p7⟩:=E.k1.eight'
                           obtain ⟨g0,g1,g2,g3,g4,g5,g6,g7⟩:=E.k1.froz
                           have HF:=hide (E.st8 (.string nm) (.slice a1 tz.length c1) (.slice a2 bl.length c2) (.slice a3 dz.length c3) (.int .i64 bss) (.slice a5 rz.length c5) (.slice a6 ss.length c6) (.slice a7 es.length c7))
                           have o1:=o1s.out.st8 o1 (.string nm) (.slice a1 tz.length c1) (.slice a2 bl.length c2) (.slice a3 dz.length c3) (.int .i64 bss) (.slice a5 rz.length c5) (.slice a6 ss.length c6) (.slice a7 es.length c7)
                           have o2:=o2s.out.st8 o2 (.string nm) (.slice a1 tz.length c1) (.slice a2 bl.length c2) (.slice a3 dz.length c3) (.int .i64 bss) (.slice a5 rz.length c5) (.slice a6 ss.length c6) (.slice a7 es.length c7)
                           have o3:=o3s.out.st8 o3 (.string nm) (.slice a1 tz.length c1) (.slice a2 bl.length c2) (.slice a3 dz.length c3) (.int .i64 bss) (.slice a5 rz.length c5) (.slice a6 ss.length c6) (.slice a7 es.length c7)
                           have o5:=o5s.out.st8 o5 (.string nm) (.slice a1 tz.length c1) (.slice a2 bl.length c2) (.slice a3 dz.length c3) (.int .i64 bss) (.slice a5 rz.length c5) (.slice a6 ss.length c6) (.slice a7 es.length c7)
                           have o6:=o6s.out.st8 o6 (.string nm) (.slice a1 tz.length c1) (.slice a2 bl.length c2) (.slice a3 dz.length c3) (.int .i64 bss) (.slice a5 rz.length c5) (.slice a6 ss.length c6) (.slice a7 es.length c7)
                           have o7:=o7s.out.st8 o7 (.string nm) (.slice a1 tz.length c1) (.slice a2 bl.length c2) (.slice a3 dz.length c3) (.int .i64 bss) (.slice a5 rz.length c5) (.slice a6 ss.length c6) (.slice a7 es.length c7)
                           have HO:=hide (And.intro o1 (And.intro o2 (And.intro o3 (And.intro o5 (And.intro o6 o7)))))
                           clear E kk o1 o2 o3 o5 o6 o7
                           go_wp2
                           obtain ⟨FR,FT,FK⟩:=HF.out
                           obtain ⟨o1,o2,o3,o5,o6,o7⟩:=HO.out
                           obtain ⟨t0,t1,t2,t3,t4,t5,t6,t7⟩:=FK.eight'
                           refine bodyPost_ret_by (v:=.agg (modV ⟨nm,tz,bl.map (fun B=>B.2.2.2),dz,bss,rz,ss,es⟩ a1 c1 a2 c2 bl a3 c3 a5 c5 a6 c6 a7 c7)) ?_ rfl (RP.ofSome (x:=⟨nm,tz,bl.map (fun B=>B.2.2.2),dz,bss,rz,ss,es⟩) (r:=r13) HE.out FT ⟨a1,c1,a2,c2,bl,a3,c3,a5,c5,a6,c6,a7,c7,rfl,⟨o1.mono (by omega),o2.mono (by omega),rfl,o3.mono (by omega),o5.mono (by omega),o6.mono (by omega),o7.mono (by omega),?_,?_,?_⟩⟩ FR)
                           ·unfold st8 at t0 t1 t2 t3 t4 t5 t6 t7
                            simp only [results,Tryz.results223]
                            simp [go_sem,t0,t1,t2,t3,t4,t5,t6,t7,modV]
                           ·exact fun k hk B hB e=>by have h1:=HTB.out.1 k hk;have h2:=HTB.out.2 B hB k e;omega
                           ·exact fun k hk e=>by have h1:=HTR.out.1 k hk;have h2:=HTR.out.2.2 k e;omega
                           ·exact fun k hk B hB e=>by have h1:=HTR.out.2.1 B hB k e;have h2:=HTR.out.2.2 k hk;omega
def z8:Array Value:=#[.string ⟨#[]⟩,.slice none 0 0,.slice none 0 0,.slice none 0 0,.int .i64 0,.slice none 0 0,.slice none 0 0,.slice none 0 0]
theorem array8' {cs:Array Value}(h:cs.size=8):∃ c0 c1 c2 c3 c4 c5 c6 c7,cs=#[c0,c1,c2,c3,c4,c5,c6,c7]:=by
 obtain ⟨l⟩:=cs
 match l,h with
 | [a,b,c,d,e,f,g,i],_=>exact ⟨a,b,c,d,e,f,g,i,rfl⟩
def caught (W:World)(m k:Nat)(c:Int):World:=(st8 W m (.string ⟨#[]⟩) (.slice none 0 0) (.slice none 0 0) (.slice none 0 0) (.int .i64 0) (.slice none 0 0) (.slice none 0 0) (.slice none 0 0)).setCell ⟨k,0,none⟩ (.int .i64 c)
theorem run_assert (c:Int)(t:TypeId)(W:World):(Instr.typeAssert (.iface 258 (.int .i64 c)) t 258 false).run Tryz.prog W=.ok (.int .i64 c) W:=by
 simp [Instr.typeAssert,run_underlying Tryz.underlying258]
theorem catch_idle (m k:Nat)(w:World):
 CallsD Tryz.prog 221 #[.pointer (some ⟨m,0,none⟩),.pointer (some ⟨k,0,none⟩)] .returning w fun e u' w'=>e=.returned (.tuple #[])∧u'=.returning∧w'=w:=by
 refine callsD_of_wpS Tryz.func221 rfl fun c₀ cs hu=>?_
 apply wpS_seq
 apply wpS_region
 simp [wpOpsS,go_sem,recoverD,hu,Tryz.ntmps221,Exit.thenS]
 apply wpS_seq
 apply wpS_region
 simp [wpOpsS,go_sem,recoverD,hu,Tryz.ntmps221,Exit.thenS]
 refine wpS_cond (t:=false) (by simp [Act.eval,Array.replicate]) ?_
 simp only [Bool.false_eq_true,if_false]
 refine wpS_of_wp (wp_skip ?_)
 cases c₀
 simp_all [bodyPostS,results,Tryz.results221]
theorem catch_panic (m k:Nat)(c:Int)(older:List PanicEntry)(ms:Array Value)(x:Value)(w:World)(hm:Blk w m ms 104)(hs:ms.size=8)(hk:Blk w k #[x] 3):
 CallsD Tryz.prog 221 #[.pointer (some ⟨m,0,none⟩),.pointer (some ⟨k,0,none⟩)] (.panicking ({ v:=.iface 258 (.int .i64 c),recovered:=false } :: older)) w fun e u' w'=>
  e=.returned (.tuple #[])∧u'=.panicking ({ v:=.iface 258 (.int .i64 c),recovered:=true } :: older)∧w'=(caught w m k c).drew:=by
 refine callsD_of_wpS Tryz.func221 rfl fun c₀ cs hu=>?_
 apply wpS_seq
 apply wpS_region
 simp [wpOpsS,go_sem,recoverD,hu,Tryz.ntmps221,Exit.thenS]
 apply wpS_seq
 apply wpS_region
 simp [wpOpsS,go_sem,recoverD,hu,Tryz.ntmps221,Exit.thenS]
 refine wpS_cond (t:=true) (by simp [Act.eval,Array.replicate]) ?_
 simp only [if_true]
 refine wpS_of_wp ?_
 have hmk:m≠k:=fun e=>by rw [e] at hm;exact absurd (blk_kind hm hk) (by decide)
 have hkm:k≠m:=fun e=>hmk e.symm
 obtain ⟨y0,y1,y2,y3,y4,y5,y6,y7,rfl⟩:=array8' hs
 obtain ⟨p0,p1,p2,p3,p4,p5,p6,p7⟩:=hm.eight'
 obtain ⟨f0,f1,f2,f3,f4,f5,f6,f7⟩:=hm.froz
 have r0:=hk.cell 0
 have r1:=hk.frozen 0
 simp at r0
 clear hm hk hs
 change Code.wp _ _ _ ⟨#[.pointer (some ⟨m,0,none⟩),.pointer (some ⟨k,0,none⟩),.iface 258 (.int .i64 c),.iface 258 (.int .i64 c),.iface 258 (.int .i64 c),.bool true,undef,undef,undef],[]⟩ _
 have hta:=fun (t:TypeId) (W:World)=>run_assert c t W
 go_region
 cases c₀
 simp_all [bodyPostS,results,Tryz.results221,caught,st8]
def xm:ByteArray:=⟨#[88,77]⟩
def mark (zs:List Int):Bool:=decide (2≤zs.length) && decide (strOf (zs.take 2)=xm)
def BgPost (w:World)(g b n cap:Nat)(zs:List Int)(e:Ending)(w':World):Prop:=Turn (fun j=>j=g) w w'∧((20000<n∧e=panicE 3)∨(n≤20000∧mark zs=false∧e=panicE 1)∨(n≤20000∧mark zs=true∧e=.returned (.tuple #[])∧RdI w' g b n cap zs (zs.drop 2)))
theorem begin_rd (g b n cap:Nat)(zs:List Int)(w:World)(h:RdI w g b n cap zs zs):
 Calls Tryz.prog 222 #[.pointer (some ⟨g,0,none⟩)] w (BgPost w g b n cap zs):=by
 obtain ⟨k,a,hk,hr,hb,ha⟩:=h.pos
 have hl:=h.bs.1
 obtain rfl:k=0:=by
  have:=congrArg List.length hr
  rw [List.length_drop,hl] at this
  omega
 have q0:=hb.cell 0
 simp at q0
 clear hr hb ha hk
 have hsm:=h.small
 by_cases c1:20000<n
 ·have c1':(20000:Int)<(n:Int):=by omega
  clear h
  go_enter Tryz.func222,Tryz.ntmps222
  go_wp2
  exact ⟨rfl,Turn.refl _ _,.inl ⟨c1,rfl⟩⟩
 ·have c1':¬ (20000:Int)<(n:Int):=by omega
  by_cases c2:n<2
  ·have c2':(n:Int)<2:=by omega
   have HM:=hide (show mark zs=false by unfold mark;rw [decide_eq_false (by omega)];rfl)
   clear h
   go_enter Tryz.func222,Tryz.ntmps222
   go_wp2
   exact ⟨rfl,Turn.refl _ _,.inr (.inl ⟨by omega,HM.out,rfl⟩)⟩
  ·have c2':¬ (n:Int)<2:=by omega
   have HT:=hide (take_any g b n cap zs zs 2 w h (by omega))
   have hp:pB 2 zs=some (zs.take 2,zs.drop 2):=pB_some (by omega)
   have HM:=hide (show mark zs=decide (strOf (zs.take 2)=xm) by unfold mark;rw [decide_eq_true (by omega)];rfl)
   clear h
   go_enter Tryz.func222,Tryz.ntmps222
   go_wp2_with fail
   refine HT.out.mono ?_
   intro e w1 H
   obtain ⟨T1,v,rfl,⟨b',k,c',rfl,hB⟩,R1⟩:=H.some hp
   have hcv:=run_text w1 b' k c' (zs.take 2) hB
   have hlt:(zs.take 2).length=2:=by rw [List.length_take];omega
   rw [hlt] at hcv ⊢
   clear hlt
   have HR:=hide (And.intro T1 R1)
   clear T1 R1 hB H HT hp
   by_cases c3:strOf (zs.take 2)=xm
   ·rw [c3] at hcv
    rw [decide_eq_true c3] at HM
    clear c3
    unfold xm at hcv
    go_wp2
    go_end0
    exact ⟨HR.out.1,.inr (.inr ⟨by omega,HM.out,rfl,HR.out.2⟩)⟩
   ·rw [decide_eq_false c3] at HM
    generalize strOf (zs.take 2)=S at *
    have c4:(S.toList == [88,77])=false:=by
     rw [beq_eq_false_iff_ne]
     intro e
     rw [ByteArray.toList_eq] at e
     exact c3 (by cases S;rename_i d;cases d;simp at e;subst e;rfl)
    go_wp2
    exact ⟨rfl,HR.out.1,.inr (.inl ⟨by omega,HM.out,rfl⟩)⟩
theorem end_rd (g b n cap:Nat)(zs r:List Int)(w:World)(h:RdI w g b n cap zs r):
 Calls Tryz.prog 224 #[.pointer (some ⟨g,0,none⟩)] w (fun e w'=>w=w'∧((r=[]∧e=.returned (.tuple #[]))∨(r≠[]∧e=panicE 3))):=by
 obtain ⟨k,a,hk,hr,hb,ha⟩:=h.pos
 have hl:=h.bs.1
 have q0:=hb.cell 0
 simp at q0
 have hrl:r.length=n - k:=by rw [hr,List.length_drop,hl]
 by_cases c1:n - k=0
 ·have HM:=hide (List.eq_nil_of_length_eq_zero (hrl.trans c1))
  rw [c1] at q0
  clear h hr hb ha hrl
  go_enter Tryz.func224,Tryz.ntmps224
  go_wp2
  go_end0
  exact ⟨rfl,.inl ⟨HM.out,rfl⟩⟩
 ·have HM:=hide (show r≠[] from fun e=>by rw [e] at hrl;simp at hrl;omega)
  have c1':(0:Int)<((n - k:Nat):Int):=by omega
  clear h hr hb ha hrl
  go_enter Tryz.func224,Tryz.ntmps224
  go_wp2
  exact ⟨rfl,rfl,.inr ⟨HM.out,rfl⟩⟩
theorem wd_wfi {x:Int}(h:Wd x):wfi x:=by unfold Wd at h;unfold wfi;omega
theorem ModO.md {W:World}{base:Nat}{P:PMod}{a1:Option Addr}{c1:Nat}{a2:Option Addr}{c2:Nat}{bl:List Bk}{a3:Option Addr}{c3:Nat}{a5:Option Addr}{c5:Nat}{a6:Option Addr}{c6:Nat}{a7:Option Addr}{c7:Nat}(h:ModO W base P a1 c1 a2 c2 bl a3 c3 a5 c5 a6 c6 a7 c7)(R:PmR P):
 MD W P.nm a1 P.tz.length c1 P.tz a2 bl.length c2 bl a3 P.dz.length c3 P.dz P.bss a5 P.rz.length c5 P.rz a6 P.ss.length c6 P.ss a7 P.es.length c7 P.es where
 n:=by have:=R.n;omega
 t:=og_is h.t (fun z hz=>wd_wfi (R.t.2 z hz))
 b:=obk_bks h.b (fun B hB z hz=>by
  have hm:B.2.2.2 ∈ P.bl:=by rw [← h.bls];exact List.mem_map.2 ⟨B,hB,rfl⟩
  exact wd_wfi ((R.b.2 _ hm).2 z hz))
 d:=h.d.bs
 s:=by have:=R.s;unfold wfi;omega
 r:=og_is h.r (fun z hz=>by have:=R.r.2 z hz;unfold wfi;omega)
 i:=og_ss h.i (fun s hs=>by have:=R.i.2 s hs;omega)
 e:=og_es h.e (fun s hs=>by have:=(R.e.2 s hs).1;omega)
theorem ModO.mdo {W:World}{base:Nat}{P:PMod}{a1:Option Addr}{c1:Nat}{a2:Option Addr}{c2:Nat}{bl:List Bk}{a3:Option Addr}{c3:Nat}{a5:Option Addr}{c5:Nat}{a6:Option Addr}{c6:Nat}{a7:Option Addr}{c7:Nat}(h:ModO W base P a1 c1 a2 c2 bl a3 c3 a5 c5 a6 c6 a7 c7):
 mdo P.nm P.tz.length P.tz bl.length bl P.dz.length P.bss P.rz.length P.rz P.ss.length P.ss P.es.length P.es=mdoP P:=by
 have hl:bl.length=P.bl.length:=by rw [← h.bls,List.length_map]
 unfold mdoP
 rw [← hl]
 refine mdo_bks (by rw [hl];simp [bkOf]) (fun i hi=>?_)
 have hm:bl.getD i zB ∈ bl:=by simp [List.getD_eq_getElem?_getD,hi]
 have e:(bkOf P.bl).getD i zB=(none,(bl.getD i zB).2.2.2.length,(bl.getD i zB).2.2.2.length,(bl.getD i zB).2.2.2):=by
  rw [← h.bls]
  simp [bkOf,List.getD_eq_getElem?_getD,hi]
 rw [e]
 exact ⟨(h.b.rows _ hm).1,rfl⟩
def prs (zs:List Int):Int × Option PMod:=
 if 20000<zs.length then (3,none) else if mark zs=false then (1,none) else match pMod (zs.drop 2) with
  | none=>(2,none)
  | some x=>if x.2≠[] then (3,none) else if mdoP x.1≠0 then (10+mdoP x.1,none) else (0,some x.1)
theorem ModO.turn {S:Nat→Prop}{W W':World}{base:Nat}{P:PMod}{a1:Option Addr}{c1:Nat}{a2:Option Addr}{c2:Nat}{bl:List Bk}{a3:Option Addr}{c3:Nat}{a5:Option Addr}{c5:Nat}{a6:Option Addr}{c6:Nat}{a7:Option Addr}{c7:Nat}(h:ModO W base P a1 c1 a2 c2 bl a3 c3 a5 c5 a6 c6 a7 c7)(t:Turn S W W')(hS:∀ k,S k→¬ base≤k):ModO W' base P a1 c1 a2 c2 bl a3 c3 a5 c5 a6 c6 a7 c7:=
 ⟨h.t.turn t hS,h.b.turn t hS,h.bls,turn_ob t h.d (fun k hk s=>hS k s (h.d.lt k hk).1),h.r.turn t hS,h.i.turn t hS,h.e.turn t hS,h.tb,h.tr,h.br⟩
theorem ModO.mono {W:World}{base base':Nat}{P:PMod}{a1:Option Addr}{c1:Nat}{a2:Option Addr}{c2:Nat}{bl:List Bk}{a3:Option Addr}{c3:Nat}{a5:Option Addr}{c5:Nat}{a6:Option Addr}{c6:Nat}{a7:Option Addr}{c7:Nat}(h:ModO W base P a1 c1 a2 c2 bl a3 c3 a5 c5 a6 c6 a7 c7)(hb:base'≤base):ModO W base' P a1 c1 a2 c2 bl a3 c3 a5 c5 a6 c6 a7 c7:=
 ⟨h.t.mono hb,h.b.mono hb,h.bls,h.d.mono hb,h.r.mono hb,h.i.mono hb,h.e.mono hb,h.tb,h.tr,h.br⟩
theorem turn_st8 (W:World)(k:Nat)(v0 v1 v2 v3 v4 v5 v6 v7:Value):Turn (fun j=>j=k) W (st8 W k v0 v1 v2 v3 v4 v5 v6 v7):=
 ((((((((turn_set W k 0 v0).trans (turn_set _ k 1 v1)).trans (turn_set _ k 2 v2)).trans (turn_set _ k 3 v3)).trans (turn_set _ k 4 v4)).trans (turn_set _ k 5 v5)).trans (turn_set _ k 6 v6)).trans (turn_set _ k 7 v7))
theorem blk_st8 {W:World}{k:Nat}{t:TypeId}{cs:Array Value}(h:Blk W k cs t)(hs:cs.size=8)(v0 v1 v2 v3 v4 v5 v6 v7:Value):Blk (st8 W k v0 v1 v2 v3 v4 v5 v6 v7) k #[v0,v1,v2,v3,v4,v5,v6,v7] t:=by
 obtain ⟨z0,z1,z2,z3,z4,z5,z6,z7,rfl⟩:=array8' hs
 have k:=(((((((h.set 0 v0).set 1 v1).set 2 v2).set 3 v3).set 4 v4).set 5 v5).set 6 v6).set 7 v7
 have e:(((((((#[z0,z1,z2,z3,z4,z5,z6,z7].setIfInBounds 0 v0).setIfInBounds 1 v1).setIfInBounds 2 v2).setIfInBounds 3 v3).setIfInBounds 4 v4).setIfInBounds 5 v5).setIfInBounds 6 v6).setIfInBounds 7 v7=#[v0,v1,v2,v3,v4,v5,v6,v7]:=by simp
 rw [e] at k
 exact k
theorem RdI.turn {S:Nat→Prop}{W W':World}{g b n cap:Nat}{zs r:List Int}(h:RdI W g b n cap zs r)(t:Turn S W W')(hg:¬ S g)(hb:¬ S b):RdI W' g b n cap zs r:=by
 obtain ⟨k',a,p1,p2,p3,p4⟩:=h.pos
 exact ⟨⟨k',a,p1,p2,turn_blk t p3 hg,p4⟩,turn_bs t h.bs (fun j hj b' off e=>by simp at e;intro e';apply hb;rw [e.1,e'];exact hj),h.ne,h.small⟩
def PaPost (w:World)(p:Int × Option PMod)(e:Ending)(w':World):Prop:=Below w.heap.size w w'∧match p.2 with
 | none=>e=.returned (.tuple #[.agg z8,.int .i64 p.1])
 | some P=>∃ a1 c1 a2 c2 bl a3 c3 a5 c5 a6 c6 a7 c7,e=.returned (.tuple #[.agg (modV P a1 c1 a2 c2 bl a3 c3 a5 c5 a6 c6 a7 c7),.int .i64 p.1])∧ModO w' w.heap.size P a1 c1 a2 c2 bl a3 c3 a5 c5 a6 c6 a7 c7
structure Pf (w W:World)(ms:Array Value)(x:Value):Prop where
 m:Blk W w.heap.size ms 104
 s:ms.size=8
 c:Blk W (w.heap.size+1) #[x] 3
 b:Below w.heap.size w W
theorem Pf.turn {w W W':World}{ms:Array Value}{x:Value}(h:Pf w W ms x)(t:Turn (fun j=>j=w.heap.size+2) W W'):Pf w W' ms x:=
 ⟨turn_blk t h.m (by omega),h.s,turn_blk t h.c (by omega),below_turn h.b t (fun k hk=>by omega) h.b.size⟩
theorem Pf.below {w W W':World}{ms:Array Value}{x:Value}(h:Pf w W ms x)(hb:Below W.heap.size W W'):Pf w W' ms x:=
 ⟨h.m.below hb,h.s,h.c.below hb,h.b.trans (hb.mono h.b.size)⟩
theorem Pf.laid {w W:World}{ms:Array Value}{x:Value}(h:Pf w W ms x)(c:Int):Below w.heap.size w (caught W w.heap.size (w.heap.size+1) c)∧Blk (caught W w.heap.size (w.heap.size+1) c) w.heap.size z8 104∧Blk (caught W w.heap.size (w.heap.size+1) c) (w.heap.size+1) #[.int .i64 c] 3:=by
 unfold caught
 have t1:=turn_st8 W w.heap.size (.string ⟨#[]⟩) (.slice none 0 0) (.slice none 0 0) (.slice none 0 0) (.int .i64 0) (.slice none 0 0) (.slice none 0 0) (.slice none 0 0)
 have m1:=blk_st8 h.m h.s (.string ⟨#[]⟩) (.slice none 0 0) (.slice none 0 0) (.slice none 0 0) (.int .i64 0) (.slice none 0 0) (.slice none 0 0) (.slice none 0 0)
 have c1:=turn_blk t1 h.c (by omega)
 have b1:=below_turn h.b t1 (fun k hk=>by omega) h.b.size
 refine ⟨below_turn b1 (turn_set _ (w.heap.size+1) 0 _) (fun k hk=>by omega) b1.size,m1.other _ _ (by show w.heap.size≠w.heap.size+1;omega),?_⟩
 simpa using c1.set 0 (.int .i64 c)
theorem z8_cells {W:World}{k:Nat}(h:Blk W k z8 104):W.cell? ⟨k,0,none⟩=some (.string ⟨#[]⟩)∧W.cell? ⟨k,1,none⟩=some (.slice none 0 0)∧W.cell? ⟨k,2,none⟩=some (.slice none 0 0)∧W.cell? ⟨k,3,none⟩=some (.slice none 0 0)∧W.cell? ⟨k,4,none⟩=some (.int .i64 0)∧W.cell? ⟨k,5,none⟩=some (.slice none 0 0)∧W.cell? ⟨k,6,none⟩=some (.slice none 0 0)∧W.cell? ⟨k,7,none⟩=some (.slice none 0 0):=Blk.eight' h
theorem door_panic (w W:World)(ms:Array Value)(x:Value)(c:Int)(p:Int × Option PMod)(tmps:Array Value)(h2:tmps[2]?=some (.pointer (some ⟨w.heap.size,0,none⟩)))(h3:tmps[3]?=some (.pointer (some ⟨w.heap.size+1,0,none⟩)))(F:Pf w W ms x)(hp:p=(c,none)):
 bodyPostD Tryz.prog Tryz.f166 (PaPost w p) (Exit.panic [{ v:=.iface 258 (.int .i64 c),recovered:=false }]) ⟨tmps,[{ target:=.fn (.func 221) #[.pointer (some ⟨w.heap.size,0,none⟩),.pointer (some ⟨w.heap.size+1,0,none⟩)],args:=#[] }]⟩ W:=by
 obtain ⟨l1,l2,l3⟩:=F.laid c
 refine leaves_cons (f:=221) (args:=#[.pointer (some ⟨w.heap.size,0,none⟩),.pointer (some ⟨w.heap.size+1,0,none⟩)]) (by simp) (by simp [go_sem]) ?_
 refine (catch_panic w.heap.size (w.heap.size+1) c [] ms x W F.m F.s F.c).mono ?_
 rintro e u' w'' ⟨rfl,rfl,rfl⟩
 subst hp
 generalize caught W w.heap.size (w.heap.size+1) c=V at *
 obtain ⟨t0,t1,t2,t3,t4,t5,t6,t7⟩:=z8_cells l2
 have u0:=l3.cell 0
 simp at u0
 have HB:=hide l1
 simp [Leaves,settle,results,Tryz.results166,go_sem,h2,h3,t0,t1,t2,t3,t4,t5,t6,t7,u0]
 exact ⟨HB.out.drew,rfl⟩
theorem door_ret (w W:World)(v0 v1 v2 v3 v4 v5 v6 v7:Value)(c:Int)(Q:Ending→World→Prop)(tmps:Array Value)(h2:tmps[2]?=some (.pointer (some ⟨w.heap.size,0,none⟩)))(h3:tmps[3]?=some (.pointer (some ⟨w.heap.size+1,0,none⟩)))(hm:Blk W w.heap.size #[v0,v1,v2,v3,v4,v5,v6,v7] 104)(hc:Blk W (w.heap.size+1) #[.int .i64 c] 3)(hQ:Q (.returned (.tuple #[.agg #[v0,v1,v2,v3,v4,v5,v6,v7],.int .i64 c])) W):
 bodyPostD Tryz.prog Tryz.f166 Q Exit.ret ⟨tmps,[{ target:=.fn (.func 221) #[.pointer (some ⟨w.heap.size,0,none⟩),.pointer (some ⟨w.heap.size+1,0,none⟩)],args:=#[] }]⟩ W:=by
 refine leaves_cons (f:=221) (args:=#[.pointer (some ⟨w.heap.size,0,none⟩),.pointer (some ⟨w.heap.size+1,0,none⟩)]) (by simp) (by simp [go_sem]) ?_
 refine (catch_idle w.heap.size (w.heap.size+1) W).mono ?_
 rintro e u' w'' ⟨rfl,rfl,rfl⟩
 obtain ⟨t0,t1,t2,t3,t4,t5,t6,t7⟩:=hm.eight'
 have u0:=hc.cell 0
 simp at u0
 simp [Leaves,settle,results,Tryz.results166,go_sem,h2,h3,t0,t1,t2,t3,t4,t5,t6,t7,u0]
 exact hQ
theorem mdo_range (nm:ByteArray)(tn:Nat)(tz:List Int)(bn:Nat)(bl:List Bk)(dn:Nat)(bss:Int)(rn:Nat)(rz:List Int)(im:Nat)(ss:List ByteArray)(en:Nat)(es:List Ex):0≤mdo nm tn tz bn bl dn bss rn rz im ss en es∧mdo nm tn tz bn bl dn bss rn rz im ss en es≤6:=by
 unfold mdo
 split
 ·omega
 split
 ·omega
 split
 ·omega
 split
 ·omega
 split
 ·omega
 split <;> omega
theorem iParseModule_any (b n cap:Nat)(zs:List Int)(w:World)(h:BS w (some ⟨b,0,none⟩) n cap zs)(hn:n≤1048576)(hb:b<w.heap.size):
 Calls Tryz.prog 166 #[.slice (some ⟨b,0,none⟩) n cap] w (PaPost w (prs zs)):=by
 have hmf:∀ (fn:Fn) (first cap:Array Value) (w:World),(Instr.makeFunc fn first cap).run Tryz.prog w=.ok (.func fn first cap) w:=fun _ _ _ _=>rfl
 have hl:=h.1
 obtain ⟨W0,hW0⟩:∃ W0,W0=((w.alloc (.cells #[.string ⟨#[]⟩,.slice none 0 0,.slice none 0 0,.slice none 0 0,.int .i64 0,.slice none 0 0,.slice none 0 0,.slice none 0 0] 104)).alloc (.cells #[.int .i64 0] 3)).alloc (.cells #[.slice (some ⟨b,0,none⟩) n cap] 260):=⟨_,rfl⟩
 have F0:Pf w W0 z8 (.int .i64 0)∧RdI W0 (w.heap.size+2) b n cap zs zs:=by
  subst hW0
  have b1:Below w.heap.size w (w.alloc (.cells #[.string ⟨#[]⟩,.slice none 0 0,.slice none 0 0,.slice none 0 0,.int .i64 0,.slice none 0 0,.slice none 0 0,.slice none 0 0] 104)):=(Below.refl _ _).alloc (Nat.le_refl _) _
  have k1:=Blk.new w #[.string ⟨#[]⟩,.slice none 0 0,.slice none 0 0,.slice none 0 0,.int .i64 0,.slice none 0 0,.slice none 0 0,.slice none 0 0] 104
  have hs1:(w.alloc (.cells #[.string ⟨#[]⟩,.slice none 0 0,.slice none 0 0,.slice none 0 0,.int .i64 0,.slice none 0 0,.slice none 0 0,.slice none 0 0] 104)).heap.size=w.heap.size+1:=by simp
  generalize w.alloc (.cells #[.string ⟨#[]⟩,.slice none 0 0,.slice none 0 0,.slice none 0 0,.int .i64 0,.slice none 0 0,.slice none 0 0,.slice none 0 0] 104)=W1 at *
  have b2:Below W1.heap.size W1 (W1.alloc (.cells #[.int .i64 0] 3)):=(Below.refl _ _).alloc (Nat.le_refl _) _
  have k2:=Blk.new W1 #[.int .i64 0] 3
  have hs2:(W1.alloc (.cells #[.int .i64 0] 3)).heap.size=w.heap.size+2:=by simp [hs1]
  rw [hs1] at k2
  have k1:=k1.below b2
  have b1:=b1.trans (b2.mono (by omega))
  generalize W1.alloc (.cells #[.int .i64 0] 3)=W2 at *
  have b3:Below W2.heap.size W2 (W2.alloc (.cells #[.slice (some ⟨b,0,none⟩) n cap] 260)):=(Below.refl _ _).alloc (Nat.le_refl _) _
  have k3:=Blk.new W2 #[.slice (some ⟨b,0,none⟩) n cap] 260
  rw [hs2] at k3
  have hB:=b1.trans (b3.mono (by omega))
  exact ⟨⟨k1.below b3,rfl,k2.below b3,hB⟩,⟨⟨0,0,Nat.zero_le _,rfl,k3,fun _=>rfl⟩,h.below hB,by omega,hn⟩⟩
 obtain ⟨P0,R0⟩:=F0
 have HB0:=hide (begin_rd (w.heap.size+2) b n cap zs W0 R0)
 have HPR:Hid (prs zs=if 20000<zs.length then (3,none) else if mark zs=false then (1,none) else match pMod (zs.drop 2) with
  | none=>(2,none)
  | some x=>if x.2≠[] then (3,none) else if mdoP x.1≠0 then (10+mdoP x.1,none) else (0,some x.1)):=rfl
 have HBY:=hide (show Byt zs from h.2.2.1)
 have HPAN:=hide (fun (W:World) (ms:Array Value) (x:Value) (c:Int) (F:Pf w W ms x)=>catch_panic w.heap.size (w.heap.size+1) c [] ms x W F.m F.s F.c)
 clear h
 go_enter_defers Tryz.func166,Tryz.ntmps166
 go_wp2_with fail
 rw [← hW0]
 refine HB0.out.mono ?_
 rintro e w1 ⟨T1,H⟩
 have P1:=P0.turn T1
 rcases H with ⟨c1,rfl⟩ | ⟨c1,c2,rfl⟩ | ⟨c1,c2,rfl,R1⟩
 ·have HP:=hide (show prs zs=(3,none) by rw [HPR.out,if_pos (by omega)])
  have HF:=hide P1
  unfold panicE
  clear P0 R0 T1 P1 HB0 hW0 HPR
  go_wp2
  exact door_panic w w1 _ _ 3 _ _ rfl rfl HF.out HP.out
 ·have HP:=hide (show prs zs=(1,none) by rw [HPR.out,if_neg (by omega),if_pos c2])
  have HF:=hide P1
  unfold panicE
  clear P0 R0 T1 P1 HB0 hW0 HPR
  go_wp2
  exact door_panic w w1 _ _ 1 _ _ rfl rfl HF.out HP.out
 ·have hP:=HPR.out
  rw [if_neg (by omega),if_neg (by rw [c2];decide)] at hP
  have HP1:=hide hP
  clear hP HPR P0 R0 T1 HB0 hW0
  go_wp2_with fail
  refine (module_rd (w.heap.size+2) b n cap zs (zs.drop 2) w1 R1).mono ?_
  intro e w2 H
  cases hp:pMod (zs.drop 2) with
  | none=>
    obtain ⟨T2,rfl⟩:=H.none hp
    have HP:=hide (show prs zs=(2,none) by rw [HP1.out,hp])
    have HF:=hide (P1.turn T2)
    unfold panicE
    clear H T2 P1 R1 HP1
    go_wp2
    exact door_panic w w2 _ _ 2 _ _ rfl rfl HF.out HP.out
  | some x=>
    obtain ⟨P,r⟩:=x
    obtain ⟨T2,v,rfl,⟨a1,d1,a2,d2,bl,a3,d3,a5,d5,a6,d6,a7,d7,rfl,MO⟩,R2⟩:=H.some hp
    have hP:=HP1.out
    rw [hp] at hP
    dsimp only at hP
    have HP2:=hide hP
    have hR:=(pm_of (HBY.out.drop 2) hp).1
    have P2:=P1.turn T2
    have hb1:w.heap.size<w1.heap.size:=P1.m.lt
    have hb2:w.heap.size+1<w1.heap.size:=P1.c.lt
    obtain ⟨p0,p1,p2,p3,p4,p5,p6,p7⟩:=z8_cells P2.m
    obtain ⟨f0,f1,f2,f3,f4,f5,f6,f7⟩:=P2.m.froz
    have t3:=turn_st8 w2 w.heap.size (.string P.nm) (.slice a1 P.tz.length d1) (.slice a2 bl.length d2) (.slice a3 P.dz.length d3) (.int .i64 P.bss) (.slice a5 P.rz.length d5) (.slice a6 P.ss.length d6) (.slice a7 P.es.length d7)
    have P3:Pf w (st8 w2 w.heap.size (.string P.nm) (.slice a1 P.tz.length d1) (.slice a2 bl.length d2) (.slice a3 P.dz.length d3) (.int .i64 P.bss) (.slice a5 P.rz.length d5) (.slice a6 P.ss.length d6) (.slice a7 P.es.length d7)) #[.string P.nm,.slice a1 P.tz.length d1,.slice a2 bl.length d2,.slice a3 P.dz.length d3,.int .i64 P.bss,.slice a5 P.rz.length d5,.slice a6 P.ss.length d6,.slice a7 P.es.length d7] (.int .i64 0):=⟨blk_st8 P2.m P2.s _ _ _ _ _ _ _ _,rfl,turn_blk t3 P2.c (by omega),below_turn P2.b t3 (fun k hk=>by omega) P2.b.size⟩
    have R3:=R2.turn t3 (by omega) (by omega)
    have MO3:=MO.turn t3 (fun k hk=>by omega)
    have HE:=hide (end_rd (w.heap.size+2) b n cap zs r _ R3)
    clear H T2 P1 R1 R2 R3 P2 MO t3 HP1 hP
    unfold modV
    go_wp2_with fail
    refine HE.out.mono ?_
    rintro e w3 ⟨rfl,H⟩
    rcases H with ⟨hr,rfl⟩ | ⟨hr,rfl⟩
    ·subst hr
     have hP:=HP2.out
     rw [if_neg (by simp)] at hP
     have HP3:=hide hP
     have md:=MO3.md hR
     have HMD:=hide MO3.mdo
     obtain ⟨s0,s1,s2,s3,s4,s5,s6,s7⟩:=P3.m.eight'
     have HOK:=hide (iModuleOk_any _ _ _ _ _ _ _ _ _ _ _ _ _ _ _ _ _ _ _ _ _ _ _ _ _ _ _ md)
     clear HE HP2 hP p0 p1 p2 p3 p4 p5 p6 p7 f0 f1 f2 f3 f4 f5 f6 f7 md
     have hmr:=mdo_range P.nm P.tz.length P.tz bl.length bl P.dz.length P.bss P.rz.length P.rz P.ss.length P.ss P.es.length P.es
     rw [HMD.out] at HOK hmr
     generalize st8 w2 w.heap.size (.string P.nm) (.slice a1 P.tz.length d1) (.slice a2 bl.length d2) (.slice a3 P.dz.length d3) (.int .i64 P.bss) (.slice a5 P.rz.length d5) (.slice a6 P.ss.length d6) (.slice a7 P.es.length d7)=W3 at *
     go_wp2_with fail
     refine HOK.out.mono ?_
     rintro e w4 ⟨rfl,hb4⟩
     have P4:=P3.below hb4
     have MO4:=MO3.turn (S:=fun _=>False) (turn_below hb4) (fun k hk=>absurd hk id)
     clear hb4 P3 MO3 HOK s0 s1 s2 s3 s4 s5 s6 s7 HMD
     by_cases hz:mdoP P=0
     ·have HP:=hide (show prs zs=(0,some P) by rw [HP3.out,if_neg (by simp [hz])])
      rw [hz]
      obtain ⟨s0,s1,s2,s3,s4,s5,s6,s7⟩:=P4.m.eight'
      obtain ⟨f0,f1,f2,f3,f4,f5,f6,f7⟩:=P4.m.froz
      have q0:=P4.c.cell 0
      have q1:=P4.c.frozen 0
      simp at q0
      have t5:=turn_st8 w4 w.heap.size (.string P.nm) (.slice a1 P.tz.length d1) (.slice a2 bl.length d2) (.slice a3 P.dz.length d3) (.int .i64 P.bss) (.slice a5 P.rz.length d5) (.slice a6 P.ss.length d6) (.slice a7 P.es.length d7)
      have m5:=blk_st8 P4.m P4.s (.string P.nm) (.slice a1 P.tz.length d1) (.slice a2 bl.length d2) (.slice a3 P.dz.length d3) (.int .i64 P.bss) (.slice a5 P.rz.length d5) (.slice a6 P.ss.length d6) (.slice a7 P.es.length d7)
      have c5:=turn_blk t5 P4.c (by omega)
      have b5:=below_turn P4.b t5 (fun k hk=>by omega) P4.b.size
      have MO5:=MO4.turn t5 (fun k hk=>by omega)
      have t6:=turn_set (st8 w4 w.heap.size (.string P.nm) (.slice a1 P.tz.length d1) (.slice a2 bl.length d2) (.slice a3 P.dz.length d3) (.int .i64 P.bss) (.slice a5 P.rz.length d5) (.slice a6 P.ss.length d6) (.slice a7 P.es.length d7)) (w.heap.size+1) 0 (.int .i64 0)
      have m6:=turn_blk t6 m5 (by omega)
      have c6:=c5.set 0 (.int .i64 0)
      have b6:=below_turn b5 t6 (fun k hk=>by omega) b5.size
      have MO6:=(MO5.turn t6 (fun k hk=>by omega)).mono (Nat.le_of_lt hb1)
      simp at c6
      have HF:=hide (And.intro m6 (And.intro c6 (And.intro b6 MO6)))
      clear t5 m5 c5 b5 MO5 t6 m6 c6 b6 MO6 P4 MO4 HP3
      go_wp2
      refine door_ret w _ _ _ _ _ _ _ _ _ 0 _ _ rfl rfl HF.out.1 HF.out.2.1 ?_
      rw [HP.out]
      exact ⟨HF.out.2.2.1,a1,d1,a2,d2,bl,a3,d3,a5,d5,a6,d6,a7,d7,rfl,HF.out.2.2.2⟩
     ·have HP:=hide (show prs zs=(10+mdoP P,none) by rw [HP3.out,if_pos hz])
      have HF:=hide P4
      generalize mdoP P=V at *
      obtain ⟨hv0,hv1⟩:=hmr
      clear P4 MO4 HP3
      go_wp2
      exact door_panic w _ _ _ _ _ _ rfl rfl HF.out HP.out
    ·have HP:=hide (show prs zs=(3,none) by rw [HP2.out,if_pos hr])
     have HF:=hide P3
     unfold panicE
     clear P3 MO3 HP2 HE p0 p1 p2 p3 p4 p5 p6 p7 f0 f1 f2 f3 f4 f5 f6 f7
     go_wp2
     exact door_panic w _ _ _ 3 _ _ rfl rfl HF.out HP.out
structure M6 (W:World)(base:Nat)(v1 v3 v5 v6 v7:Value)(a2:Option Addr)(bn:Nat)(f:Nat→Option Addr × Nat × Nat)(T:List Int)(X:Nat→List Int)(D R:List Int)(I:List ByteArray)(E:List Ex):Prop where
 t:OI W base v1 T
 b:Rr W base a2 bn f X
 d:OB W base v3 D
 r:OI W base v5 R
 i:OG 9 1 clT W base v6 I
 e:OG 207 3 clX W base v7 E
 tr:∀ k,v1.ownBlock=some k→v5.ownBlock≠some k
 tb:∀ k,v1.ownBlock=some k→¬ Sr f bn k
 rb:∀ k,v5.ownBlock=some k→¬ Sr f bn k
theorem kind_ne {w:World}{base n sz:Nat}{t t':TypeId}{v:Value}{xs:List Value}{k:Nat}{cs:Array Value}(h:w.ownsRow base t sz v n xs)(hk:v.ownBlock=some k)(hb:Blk w k cs t')(hne:t≠t'):False:=by
 obtain ⟨c1,k1⟩:=own_kind h hk
 exact hne (blk_kind k1 hb)
theorem Rr.kind {w:World}{base:Nat}{a:Option Addr}{n:Nat}{f:Nat→Option Addr × Nat × Nat}{X:Nat→List Int}(h:Rr w base a n f X){j:Nat}(hj:Sr f n j):∃ cs,Blk w j cs 3:=by
 obtain ⟨i,hi,e⟩:=hj
 exact own_kind (h.rows i hi).1 e
theorem M6.set_t {W W':World}{base:Nat}{v1 v3 v5 v6 v7:Value}{a2:Option Addr}{bn:Nat}{f:Nat→Option Addr × Nat × Nat}{T:List Int}{X:Nat→List Int}{D R:List Int}{I:List ByteArray}{E:List Ex}{T':List Int}(h:M6 W base v1 v3 v5 v6 v7 a2 bn f T X D R I E)(O:OI W' base v1 T')(t:Turn (fun j=>v1.ownBlock=some j) W W'):M6 W' base v1 v3 v5 v6 v7 a2 bn f T' X D R I E:=
 ⟨O,(h.b.kept t (fun i hi k hk s=>h.tb k s ⟨i,hi,hk⟩) (fun hn g cs ha hb s=>by obtain ⟨c,kb⟩:=(own_kind h.t.1 s);exact absurd (blk_kind hb kb) (by decide))),(turn_ob t h.d (fun k hk s=>by obtain ⟨c,kb⟩:=(own_kind h.t.1 s);exact kind_ne h.d.1 hk kb (by decide))),(turn_oi t h.r (fun k hk s=>h.tr k s hk)),(h.i.kept t (fun k hk s=>by obtain ⟨c,kb⟩:=(own_kind h.t.1 s);exact kind_ne h.i hk kb (by decide))),(h.e.kept t (fun k hk s=>by obtain ⟨c,kb⟩:=(own_kind h.t.1 s);exact kind_ne h.e hk kb (by decide))),h.tr,h.tb,h.rb⟩
theorem M6.set_b {W W':World}{base:Nat}{v1 v3 v5 v6 v7:Value}{a2:Option Addr}{bn:Nat}{f:Nat→Option Addr × Nat × Nat}{T:List Int}{X:Nat→List Int}{D R:List Int}{I:List ByteArray}{E:List Ex}{X':Nat→List Int}(h:M6 W base v1 v3 v5 v6 v7 a2 bn f T X D R I E)(O:Rr W' base a2 bn f X')(t:Turn (fun j=>Sr f bn j) W W'):M6 W' base v1 v3 v5 v6 v7 a2 bn f T X' D R I E:=
 ⟨(turn_oi t h.t (fun k hk s=>h.tb k hk s)),O,(turn_ob t h.d (fun k hk s=>by obtain ⟨c,kb⟩:=(h.b.kind s);exact kind_ne h.d.1 hk kb (by decide))),(turn_oi t h.r (fun k hk s=>h.rb k hk s)),(h.i.kept t (fun k hk s=>by obtain ⟨c,kb⟩:=(h.b.kind s);exact kind_ne h.i hk kb (by decide))),(h.e.kept t (fun k hk s=>by obtain ⟨c,kb⟩:=(h.b.kind s);exact kind_ne h.e hk kb (by decide))),h.tr,h.tb,h.rb⟩
theorem M6.set_d {W W':World}{base:Nat}{v1 v3 v5 v6 v7:Value}{a2:Option Addr}{bn:Nat}{f:Nat→Option Addr × Nat × Nat}{T:List Int}{X:Nat→List Int}{D R:List Int}{I:List ByteArray}{E:List Ex}{D':List Int}(h:M6 W base v1 v3 v5 v6 v7 a2 bn f T X D R I E)(O:OB W' base v3 D')(t:Turn (fun j=>v3.ownBlock=some j) W W'):M6 W' base v1 v3 v5 v6 v7 a2 bn f T X D' R I E:=
 ⟨(turn_oi t h.t (fun k hk s=>by obtain ⟨c,kb⟩:=(own_kind h.d.1 s);exact kind_ne h.t.1 hk kb (by decide))),(h.b.kept t (fun i hi k hk s=>by obtain ⟨c,kb⟩:=(own_kind h.d.1 s);exact kind_ne (h.b.rows i hi).1 hk kb (by decide)) (fun hn g cs ha hb s=>by obtain ⟨c,kb⟩:=(own_kind h.d.1 s);exact absurd (blk_kind hb kb) (by decide))),O,(turn_oi t h.r (fun k hk s=>by obtain ⟨c,kb⟩:=(own_kind h.d.1 s);exact kind_ne h.r.1 hk kb (by decide))),(h.i.kept t (fun k hk s=>by obtain ⟨c,kb⟩:=(own_kind h.d.1 s);exact kind_ne h.i hk kb (by decide))),(h.e.kept t (fun k hk s=>by obtain ⟨c,kb⟩:=(own_kind h.d.1 s);exact kind_ne h.e hk kb (by decide))),h.tr,h.tb,h.rb⟩
theorem M6.set_r {W W':World}{base:Nat}{v1 v3 v5 v6 v7:Value}{a2:Option Addr}{bn:Nat}{f:Nat→Option Addr × Nat × Nat}{T:List Int}{X:Nat→List Int}{D R:List Int}{I:List ByteArray}{E:List Ex}{R':List Int}(h:M6 W base v1 v3 v5 v6 v7 a2 bn f T X D R I E)(O:OI W' base v5 R')(t:Turn (fun j=>v5.ownBlock=some j) W W'):M6 W' base v1 v3 v5 v6 v7 a2 bn f T X D R' I E:=
 ⟨(turn_oi t h.t (fun k hk s=>h.tr k hk s)),(h.b.kept t (fun i hi k hk s=>h.rb k s ⟨i,hi,hk⟩) (fun hn g cs ha hb s=>by obtain ⟨c,kb⟩:=(own_kind h.r.1 s);exact absurd (blk_kind hb kb) (by decide))),(turn_ob t h.d (fun k hk s=>by obtain ⟨c,kb⟩:=(own_kind h.r.1 s);exact kind_ne h.d.1 hk kb (by decide))),O,(h.i.kept t (fun k hk s=>by obtain ⟨c,kb⟩:=(own_kind h.r.1 s);exact kind_ne h.i hk kb (by decide))),(h.e.kept t (fun k hk s=>by obtain ⟨c,kb⟩:=(own_kind h.r.1 s);exact kind_ne h.e hk kb (by decide))),h.tr,h.tb,h.rb⟩
theorem M6.set_i {W W':World}{base:Nat}{v1 v3 v5 v6 v7:Value}{a2:Option Addr}{bn:Nat}{f:Nat→Option Addr × Nat × Nat}{T:List Int}{X:Nat→List Int}{D R:List Int}{I:List ByteArray}{E:List Ex}{I':List ByteArray}(h:M6 W base v1 v3 v5 v6 v7 a2 bn f T X D R I E)(O:OG 9 1 clT W' base v6 I')(t:Turn (fun j=>v6.ownBlock=some j) W W'):M6 W' base v1 v3 v5 v6 v7 a2 bn f T X D R I' E:=
 ⟨(turn_oi t h.t (fun k hk s=>by obtain ⟨c,kb⟩:=(own_kind h.i s);exact kind_ne h.t.1 hk kb (by decide))),(h.b.kept t (fun i hi k hk s=>by obtain ⟨c,kb⟩:=(own_kind h.i s);exact kind_ne (h.b.rows i hi).1 hk kb (by decide)) (fun hn g cs ha hb s=>by obtain ⟨c,kb⟩:=(own_kind h.i s);exact absurd (blk_kind hb kb) (by decide))),(turn_ob t h.d (fun k hk s=>by obtain ⟨c,kb⟩:=(own_kind h.i s);exact kind_ne h.d.1 hk kb (by decide))),(turn_oi t h.r (fun k hk s=>by obtain ⟨c,kb⟩:=(own_kind h.i s);exact kind_ne h.r.1 hk kb (by decide))),O,(h.e.kept t (fun k hk s=>by obtain ⟨c,kb⟩:=(own_kind h.i s);exact kind_ne h.e hk kb (by decide))),h.tr,h.tb,h.rb⟩
theorem M6.set_e {W W':World}{base:Nat}{v1 v3 v5 v6 v7:Value}{a2:Option Addr}{bn:Nat}{f:Nat→Option Addr × Nat × Nat}{T:List Int}{X:Nat→List Int}{D R:List Int}{I:List ByteArray}{E:List Ex}{E':List Ex}(h:M6 W base v1 v3 v5 v6 v7 a2 bn f T X D R I E)(O:OG 207 3 clX W' base v7 E')(t:Turn (fun j=>v7.ownBlock=some j) W W'):M6 W' base v1 v3 v5 v6 v7 a2 bn f T X D R I E':=
 ⟨(turn_oi t h.t (fun k hk s=>by obtain ⟨c,kb⟩:=(own_kind h.e s);exact kind_ne h.t.1 hk kb (by decide))),(h.b.kept t (fun i hi k hk s=>by obtain ⟨c,kb⟩:=(own_kind h.e s);exact kind_ne (h.b.rows i hi).1 hk kb (by decide)) (fun hn g cs ha hb s=>by obtain ⟨c,kb⟩:=(own_kind h.e s);exact absurd (blk_kind hb kb) (by decide))),(turn_ob t h.d (fun k hk s=>by obtain ⟨c,kb⟩:=(own_kind h.e s);exact kind_ne h.d.1 hk kb (by decide))),(turn_oi t h.r (fun k hk s=>by obtain ⟨c,kb⟩:=(own_kind h.e s);exact kind_ne h.r.1 hk kb (by decide))),(h.i.kept t (fun k hk s=>by obtain ⟨c,kb⟩:=(own_kind h.e s);exact kind_ne h.i hk kb (by decide))),O,h.tr,h.tb,h.rb⟩
theorem M6.below {W W':World}{base:Nat}{v1 v3 v5 v6 v7:Value}{a2:Option Addr}{bn:Nat}{f:Nat→Option Addr × Nat × Nat}{T:List Int}{X:Nat→List Int}{D R:List Int}{I:List ByteArray}{E:List Ex}(h:M6 W base v1 v3 v5 v6 v7 a2 bn f T X D R I E)(hb:Below W.heap.size W W'):M6 W' base v1 v3 v5 v6 v7 a2 bn f T X D R I E:=
 ⟨h.t.below hb,h.b.kept (S:=fun _=>False) (turn_below hb) (fun _ _ _ _ s=>s) (fun _ _ _ _ _ s=>s),h.d.below hb,h.r.below hb,h.i.below hb,h.e.below hb,h.tr,h.tb,h.rb⟩
theorem M6.lt {W:World}{base:Nat}{v1 v3 v5 v6 v7:Value}{a2:Option Addr}{bn:Nat}{f:Nat→Option Addr × Nat × Nat}{T:List Int}{X:Nat→List Int}{D R:List Int}{I:List ByteArray}{E:List Ex}(h:M6 W base v1 v3 v5 v6 v7 a2 bn f T X D R I E):(∀ j,v1.ownBlock=some j→base≤j∧j<W.heap.size)∧(∀ j,Sr f bn j→base≤j∧j<W.heap.size)∧(∀ j,v3.ownBlock=some j→base≤j∧j<W.heap.size)∧(∀ j,v5.ownBlock=some j→base≤j∧j<W.heap.size)∧(∀ j,v6.ownBlock=some j→base≤j∧j<W.heap.size)∧(∀ j,v7.ownBlock=some j→base≤j∧j<W.heap.size):=
 ⟨h.t.lt,fun j hj=>by obtain ⟨i,hi,e⟩:=hj;exact (h.b.rows i hi).lt j e,h.d.lt,h.r.lt,h.i.lt,h.e.lt⟩
def L0:Lay:=⟨[],0,[],0,0,[]⟩
def lkL (ps:List PMod)(s w k d:Int):Lay:=if lkc ps s w k d=0 then lay ps s w k else L0
def LkM (w:World)(ps:List PMod)(s c k d:Int)(e:Ending)(w':World):Prop:=Below w.heap.size w w'∧∃ a0 c0 xs a2 c2 a5 c5 ts,e=.returned (.tuple #[.agg (layV (lkL ps s c k d) a0 c0 xs a2 c2 a5 c5 ts),.int .i64 (lkc ps s c k d)])∧LayO w' w.heap.size (lkL ps s c k d) a0 c0 xs a2 c2 a5 c5 ts
theorem lo_zero (W:World)(base:Nat):LayO W base L0 none 0 [] none 0 none 0 []:=⟨or_nil,rfl,og_nil _ _ _ _ _,or_nil,rfl,fun k hk=>by simp [Value.ownBlock] at hk⟩
theorem lk_none {w w':World}{ps:List PMod}{s c k d V:Int}(hb:Below w.heap.size w w')(hV:lkc ps s c k d=V)(h0:V≠0):LkM w ps s c k d (.returned (.tuple #[.agg zL,.int .i64 V])) w':=by
 refine ⟨hb,none,0,[],none,0,none,0,[],?_,?_⟩
 ·unfold lkL;rw [if_neg (by rw [hV];exact h0),hV];rfl
 ·unfold lkL;rw [if_neg (by rw [hV];exact h0)];exact lo_zero _ _
theorem lkc_1 {ps:List PMod}{s w k d V:Int}(h:snd4 ps s w k d=V)(h0:V≠0):lkc ps s w k d=V:=by unfold lkc;rw [if_pos (by rw [h];exact h0),h]
theorem lkc_5 {ps:List PMod}{s w k d:Int}(h:snd4 ps s w k d=0)(h5:¬ imps ps):lkc ps s w k d=5:=by unfold lkc;rw [if_neg (by rw [h];decide),if_pos h5]
theorem lkc_6 {ps:List PMod}{s w k d:Int}(h:snd4 ps s w k d=0)(h5:imps ps)(h6:0<s∧¬ shrt ps w):lkc ps s w k d=6:=by unfold lkc;rw [if_neg (by rw [h];decide),if_neg (fun e=>e h5),if_pos h6]
theorem lkc_7 {ps:List PMod}{s w k d:Int}(h:snd4 ps s w k d=0)(h5:imps ps)(h6:¬ (0<s∧¬ shrt ps w))(h7:16384<(lay ps s w k).flash):lkc ps s w k d=7:=by unfold lkc;rw [if_neg (by rw [h];decide),if_neg (fun e=>e h5),if_neg h6,if_pos h7]
theorem lkc_8 {ps:List PMod}{s w k d:Int}(h:snd4 ps s w k d=0)(h5:imps ps)(h6:¬ (0<s∧¬ shrt ps w))(h7:¬ 16384<(lay ps s w k).flash)(h8:16384<(lay ps s w k).ram):lkc ps s w k d=8:=by unfold lkc;rw [if_neg (by rw [h];decide),if_neg (fun e=>e h5),if_neg h6,if_neg h7,if_pos h8]
theorem lkc_0 {ps:List PMod}{s w k d:Int}(h:snd4 ps s w k d=0)(h5:imps ps)(h6:¬ (0<s∧¬ shrt ps w))(h7:¬ 16384<(lay ps s w k).flash)(h8:¬ 16384<(lay ps s w k).ram):lkc ps s w k d=0:=by unfold lkc;rw [if_neg (by rw [h];decide),if_neg (fun e=>e h5),if_neg h6,if_neg h7,if_neg h8]
theorem snd4_parts {ps:List PMod}{s w k d:Int}(h:snd4 ps s w k d=0):cfo s w k d=true∧ps.length≤4∧vlds ps:=by
 unfold snd4 at h
 split at h
 ·simp at h
 split at h
 ·simp at h
 split at h
 ·simp at h
 ·rename_i h1 h2 h3
  exact ⟨by simpa using h1,by omega,Classical.not_not.1 h3⟩
end Go.Proofs.YtngdgogjlpjjpaeGreat
namespace Go.Proofs.YtngdgogjlpjjpaeGreat
open Go.RowKit Classical
open Go Go.Maps Go.WideShapes
set_option linter.unusedVariables false
set_option linter.unusedSimpArgs false
set_option maxRecDepth 100000
theorem roundUp_any (x:Int)(w:World)(h0:0≤x)(h1:x≤4294967295):Calls Tryz.prog 229 #[.int .i64 x] w fun e w'=>e=.returned (.int .i64 (rnd x))∧w'=w:=by
 have hd:(x+31).tdiv 32=(x+31) / 32:=Int.tdiv_eq_ediv_of_nonneg (by omega)
 go_enter Tryz.func229,Tryz.ntmps229
 go_wp2
 go_ret
 exact ⟨ret_int (by unfold rnd;rw [show x+31=x+32 - 1 by omega]),rfl⟩
theorem wordBytes_any (a:Option Addr)(n cap:Nat)(w:World)(hn:n≤1048576):Calls Tryz.prog 187 #[.slice a n cap] w fun e w'=>e=.returned (.int .i64 (rnd (4 * (n:Int))))∧w'=w:=by
 have hw:IntKind.i64.wrap (4 * (n:Int))=4 * (n:Int):=wraps62 _ (by omega) (by omega)
 have HR:=hide (roundUp_any (4 * (n:Int)) w (by omega) (by omega))
 go_enter Tryz.func187,Tryz.ntmps187
 go_wp2_with fail
 refine HR.out.mono ?_
 rintro e w1 ⟨rfl,rfl⟩
 go_wp2
 go_ret
 exact ⟨rfl,rfl⟩
theorem Md.okI {m:Md}{w:World}(h:m.md w):Calls Tryz.prog 225 #[.agg #[.string m.nm,.slice m.ta m.tn m.tc,.slice m.ba m.bn m.bc,.slice m.da m.dn m.dc,.int .i64 m.bss,.slice m.ra m.rn m.rc,.slice m.ia m.im m.ic,.slice m.ea m.en m.ec]] w fun e w'=>e=.returned (.int .i64 (mdoP m.pm))∧Below w.heap.size w w':=by
 have:=iModuleOk_any _ _ _ _ _ _ _ _ _ _ _ _ _ _ _ _ _ _ _ _ _ _ _ _ _ _ w h
 rw [md_mdo h] at this
 exact this
theorem ba_ext {a b:ByteArray}:a.data.toList=b.data.toList ↔ a=b:=by
 constructor
 ·intro e
  cases a
  cases b
  simp at e
  rw [e]
 ·intro e;rw [e]
theorem nms_size {ms:List Md}{n:Nat}(hl:ms.length=n):(size (fd (mdNm ms) n)=n) ↔ nms (pmS ms):=by
 have h:=fd_size (mdNm ms) n
 have key:∀ i,i<n→((pmS ms).getD i zP).nm=(ms.getD i zMd).nm:=fun i hi=>by rw [pmS_at (by omega)];rfl
 constructor
 ·intro e
  rw [decide_eq_true e] at h
  intro i hi k hk
  rw [pmS_len,hl] at hi
  have h':=h.symm
  rw [List.all_eq_true] at h'
  have h1:=h' i (by simpa using hi)
  rw [List.all_eq_true] at h1
  have h2:=h1 k (by simpa using hk)
  rw [key k (by omega),key i hi]
  intro e'
  have e2:mdNm ms k=mdNm ms i:=by unfold mdNm;rw [e']
  rw [e2] at h2
  simp at h2
 ·intro hn
  apply of_decide_eq_true
  rw [h,List.all_eq_true]
  intro i hi
  rw [List.all_eq_true]
  intro k hk
  have hi':i<n:=by simpa using hi
  have hk':k<i:=by simpa using hk
  have:=hn i (by rw [pmS_len];omega) k hk'
  rw [key k (by omega),key i hi'] at this
  have h3:mdNm ms k≠mdNm ms i:=fun e=>this (ba_ext.1 e)
  simp [h3]
end Go.Proofs.YtngdgogjlpjjpaeGreat
namespace Go.Proofs.YtngdgogjlpjjpaeGreat
open Go Go.Maps Go.WideShapes
open Go.RowKit Classical
set_option linter.unusedVariables false
set_option linter.unusedSimpArgs false
set_option maxRecDepth 100000
theorem linkFault_any (a:Option Addr)(n cap:Nat)(ms:List Md)(s c k d:Int)(w:World)(h:MSD w a n cap ms):
 Calls Tryz.prog 167 #[.slice a n cap,.agg #[.int .i64 s,.int .i64 c,.int .i64 k,.int .i64 d]] w fun e w'=>e=.returned (.int .i64 (snd4 (pmS ms) s c k d))∧Below w.heap.size w w':=by
 have hA:Below w.heap.size w (w.alloc (.cells #[.int .i64 s,.int .i64 c,.int .i64 k,.int .i64 d] 44)):=(Below.refl _ _).alloc (Nat.le_refl _) _
 have hl:=h.s.1
 have hm1:=h.s.2.1
 unfold maxLen at hm1
 have hpl:=pmS_len ms
 have HH:=hide h
 have HC:=hide (fun W=>iConfigOk_any s c k d W)
 clear h
 go_enter Tryz.func167,Tryz.ntmps167
 go_wp2_with fail
 refine (HC.out _).mono ?_
 rintro e w1 ⟨rfl,hb1⟩
 have HB1:=hide (hA.trans (hb1.mono (by simp)))
 clear hA hb1 HC
 cases hcf:cfo s c k d with
 | false=>
   have HS:=hide (snd4_1 (ps:=pmS ms) hcf)
   go_wp2
   go_ret
   exact ⟨ret_int HS.out.symm,HB1.out⟩
 | true=>
   by_cases hn2:n<1∨4<n
   ·have HS:=hide (snd4_2 (ps:=pmS ms) hcf (by omega))
    by_cases hn1:n<1
    ·have hn1':(n:Int)<1:=by omega
     clear hn2
     go_wp2
     go_ret
     exact ⟨ret_int HS.out.symm,HB1.out⟩
    ·have hn1':¬ (n:Int)<1:=by omega
     have hn4':(4:Int)<(n:Int):=by omega
     clear hn2
     go_wp2
     go_ret
     exact ⟨ret_int HS.out.symm,HB1.out⟩
   have hn1':¬ (n:Int)<1:=by omega
   have hn4':¬ (4:Int)<(n:Int):=by omega
   have HN2:=hide (show ¬ ((pmS ms).length<1∨4<(pmS ms).length) by rw [hpl,hl];exact hn2)
   clear hn2
   go_wp2
   go_loopw [20] (fun i wr=>∃ m:Nat,m≤n∧i=.int .i64 m∧(∀ j,j<m→mdoP ((pmS ms).getD j zP)=0)∧Below w.heap.size w wr) (fun i _=>n - (intOf i).toNat)
   case atStart=>exact ⟨0,Nat.zero_le _,rfl,fun j hj=>absurd hj (by omega),HB1.out⟩
   case round=>
    obtain ⟨m,hm,rfl,hv,B⟩:=hrel
    by_cases hlt:m<n
    ·have hlt':(m:Int)<(n:Int):=by omega
     have H:=HH.out.below B
     obtain ⟨b,off,rfl,q0,q1,q2,q3,q4,q5,q6,q7⟩:=H.s.at m hlt
     have HOK:=hide (fun (W:World) (hb:Below wr.heap.size wr W)=>Md.okI (MD.below (H.d m hlt) hb))
     obtain ⟨V,hV⟩:∃ V,V=mdoP (ms.getD m zMd).pm:=⟨_,rfl⟩
     rw [← hV] at HOK
     have HVV:=hide (hV.trans (by rw [← pmS_at (by omega)]))
     have HV:=hide hv
     have HB:=hide B
     generalize ms.getD m zMd=M at *
     have al:Below wr.heap.size wr (wr.alloc (.cells #[.string M.nm,.slice M.ta M.tn M.tc,.slice M.ba M.bn M.bc,.slice M.da M.dn M.dc,.int .i64 M.bss,.slice M.ra M.rn M.rc,.slice M.ia M.im M.ic,.slice M.ea M.en M.ec] 104)):=(Below.refl _ _).alloc (Nat.le_refl _) _
     obtain ⟨g0,g1,g2,g3,g4,g5,g6,g7⟩:=(Blk.new wr #[.string M.nm,.slice M.ta M.tn M.tc,.slice M.ba M.bn M.bc,.slice M.da M.dn M.dc,.int .i64 M.bss,.slice M.ra M.rn M.rc,.slice M.ia M.im M.ic,.slice M.ea M.en M.ec] 104).eight
     have HAL:=hide al
     clear hv B H hV al
     go_wp2_with fail
     refine (HOK.out _ HAL.out).mono ?_
     rintro e w2 ⟨rfl,hb2⟩
     have hb2':=HAL.out.trans (hb2.mono HAL.out.size)
     have HB2:=hide (HB.out.trans (hb2'.mono HB.out.size))
     clear hb2 hb2' HOK HB HAL q0 q1 q2 q3 q4 q5 q6 q7 g0 g1 g2 g3 g4 g5 g6 g7
     by_cases hz:V=0
     ·subst hz
      have HV2:=hide (show ∀ j,j<m+1→mdoP ((pmS ms).getD j zP)=0 from fun j hj=>by
       by_cases e:j=m
       ·subst e;exact HVV.out.symm
       ·exact HV.out j (by omega))
      go_wp2
      go_roundw
      case rel=>exact ⟨m+1,by omega,by go_num,HV2.out,HB2.out⟩
      case measure=>simp [intOf];omega
     ·have hz':(V != 0)=true:=by simp [hz]
      have HS:=hide (snd4_3 (ps:=pmS ms) hcf HN2.out m (by omega) (by rw [← HVV.out];exact hz))
      go_wp2
      go_ret
      exact ⟨ret_int HS.out.symm,HB2.out⟩
    ·have hlt':¬ (m:Int)<(n:Int):=by omega
     have HV:=hide (show vlds (pmS ms) from fun i hi=>hv i (by omega))
     have HB:=hide B
     have HF:=hide (firstOfM_any a n cap ms wr (HH.out.s.below B) (by omega))
     have hsz:=fd_size_le (mdNm ms) n
     have HNS:=hide (nms_size (ms:=ms) hl)
     obtain ⟨Sz,hSz⟩:∃ Sz,Sz=size (fd (mdNm ms) n):=⟨_,rfl⟩
     have HSZ:=hide hSz
     rw [← hSz] at hsz HNS
     clear hv B hSz
     go_wp2_with fail
     refine HF.out.mono ?_
     rintro e w2 ⟨rfl,hown,hb2⟩
     have hlen:∀ ty,(Builtin.len_ #[262] ty #[.map (some wr.heap.size)]).run Tryz.prog w2=.ok (.int .i64 (Sz:Int)) w2:=by intro ty;rw [HSZ.out];exact hown.len Tryz.underlying262 ty
     have HB2:=hide (HB.out.trans (hb2.mono HB.out.size))
     clear hown hb2 HF HB
     by_cases he:Sz=n
     ·have HS:=hide (snd4_0 (d:=d) hcf HN2.out HV.out (HNS.out.1 he))
      subst he
      have hne:((Sz:Int) != (Sz:Int))=false:=by simp
      go_wp2
      go_ret
      exact ⟨ret_int HS.out.symm,HB2.out⟩
     ·have HS:=hide (show snd4 (pmS ms) s c k d=4 by
       unfold snd4
       rw [if_neg (by rw [hcf];decide),if_neg HN2.out,if_neg (fun e=>e HV.out),if_pos (fun e=>he (HNS.out.2 e))])
      have hne:((Sz:Int) != (n:Int))=true:=by simp;omega
      go_wp2
      go_ret
      exact ⟨ret_int HS.out.symm,HB2.out⟩
end Go.Proofs.YtngdgogjlpjjpaeGreat
namespace Go.Proofs.YtngdgogjlpjjpaeGreat
open Go.RowKit Classical
set_option linter.unusedVariables false
set_option linter.unusedSimpArgs false
set_option maxRecDepth 100000
def GB (ps:List PMod)(m q R:Nat):Prop:=(∀ i,i<ps.length→∀ k,k<(ps.getD i zP).bl.length→(i<m∨(i=m∧k<q))→((ps.getD i zP).bl.getD k []).length≤R)∧(R=0∨∃ i,i<ps.length∧∃ k,k<(ps.getD i zP).bl.length∧((ps.getD i zP).bl.getD k []).length=R)
theorem gb_zero (ps:List PMod):GB ps 0 0 0:=⟨fun i _ k _ h=>by omega,.inl rfl⟩
theorem GB.next {ps:List PMod}{m q R:Nat}(h:GB ps m q R)(hq:(ps.getD m zP).bl.length≤q):GB ps (m+1) 0 R:=
 ⟨fun i hi k hk e=>h.1 i hi k hk (by
  by_cases e2:i=m
  ·subst e2;right;exact ⟨rfl,by omega⟩
  ·left;omega),h.2⟩
theorem GB.step {ps:List PMod}{m q R:Nat}(h:GB ps m q R)(hm:m<ps.length)(hq:q<(ps.getD m zP).bl.length):GB ps m (q+1) (max R ((ps.getD m zP).bl.getD q []).length):=by
 refine ⟨fun i hi k hk e=>?_,?_⟩
 ·by_cases e2:i=m∧k=q
  ·obtain ⟨rfl,rfl⟩:=e2;omega
  ·have:=h.1 i hi k hk (by omega);omega
 ·by_cases hc:((ps.getD m zP).bl.getD q []).length≤R
  ·rw [show max R ((ps.getD m zP).bl.getD q []).length=R by omega]
   exact h.2
  ·exact .inr ⟨m,hm,q,hq,by omega⟩
theorem gb_shrt {ps:List PMod}{R:Nat}(h:GB ps ps.length 0 R)(w:Int)(hw:1≤w):(w<(R:Int)) ↔ ¬ shrt ps w:=by
 constructor
 ·intro h1 hs
  rcases h.2 with h2 | ⟨i,hi,k,hk,e⟩
  ·omega
  ·have:=hs i hi k hk
   omega
 ·intro hs
  apply Classical.byContradiction
  intro hn
  exact hs (fun i hi k hk=>by have:=h.1 i hi k hk (.inl hi);omega)
theorem greatestBank_any (a:Option Addr)(n cap:Nat)(ms:List Md)(w:World)(h:MSD w a n cap ms)(hv:vlds (pmS ms))(hn4:n≤4):
 Calls Tryz.prog 169 #[.slice a n cap] w fun e w'=>∃ R:Nat,e=.returned (.int .i64 (R:Int))∧GB (pmS ms) (pmS ms).length 0 R∧Below w.heap.size w w':=by
 have hl:=h.s.1
 have hpl:(pmS ms).length=n:=by rw [pmS_len,hl]
 have HH:=hide h
 have HVL:=hide hv
 clear h hv
 go_enter Tryz.func169,Tryz.ntmps169
 go_wp2
 go_loopw [3,10] (fun x i wr=>∃ (m R:Nat),m≤n∧i=.int .i64 m∧x=.int .i64 (R:Int)∧R≤64∧Hid (GB (pmS ms) m 0 R)∧Below w.heap.size w wr) (fun _ i _=>n - (intOf i).toNat)
 case atStart=>exact ⟨0,0,Nat.zero_le _,rfl,rfl,Nat.zero_le _,hide (gb_zero _),Below.refl _ _⟩
 case round=>
  obtain ⟨m,R,hm,rfl,rfl,hR,hG,B⟩:=hrel
  by_cases hlt:m<n
  ·have hlt':(m:Int)<(n:Int):=by omega
   have H:=HH.out.below B
   obtain ⟨b,off,rfl,q0,q1,q2,q3,q4,q5,q6,q7⟩:=H.s.at m hlt
   have hmd:=H.d m hlt
   obtain ⟨P,hP⟩:∃ P,P=(pmS ms).getD m zP:=⟨_,rfl⟩
   have hPM:P=(ms.getD m zMd).pm:=hP.trans (pmS_at (by omega))
   have hvm:=HVL.out m (by omega)
   rw [← hP] at hvm
   obtain ⟨_,_,_,vb,_,_,_,vbk⟩:=vld_en hvm
   have eB:(ms.getD m zMd).bn=P.bl.length:=by rw [hPM];show _=(List.map _ _).length;rw [List.length_map];exact hmd.b.1.symm
   have HBK:=hide (show ∀ j,j<P.bl.length→((ms.getD m zMd).bl.getD j zB).2.1=(P.bl.getD j []).length from fun j hj=>by rw [hPM];exact (pm_bank hmd j (by omega)).1)
   have HMB:=hide (fun (W:World) (hb:Below wr.heap.size wr W)=>(MD.below hmd hb).b)
   have HP:=hide hP
   rw [eB] at q2
   have HEB:=hide eB
   have HB:=hide B
   generalize ms.getD m zMd=M at *
   generalize M.ba=ba at *
   have al:Below wr.heap.size wr (wr.alloc (.cells #[.string M.nm,.slice M.ta M.tn M.tc,.slice ba P.bl.length M.bc,.slice M.da M.dn M.dc,.int .i64 M.bss,.slice M.ra M.rn M.rc,.slice M.ia M.im M.ic,.slice M.ea M.en M.ec] 104)):=(Below.refl _ _).alloc (Nat.le_refl _) _
   obtain ⟨g0,g1,g2,g3,g4,g5,g6,g7⟩:=(Blk.new wr #[.string M.nm,.slice M.ta M.tn M.tc,.slice ba P.bl.length M.bc,.slice M.da M.dn M.dc,.int .i64 M.bss,.slice M.ra M.rn M.rc,.slice M.ia M.im M.ic,.slice M.ea M.en M.ec] 104).eight
   have HAL:=hide al
   clear B H hmd hP hPM eB al hvm
   generalize wr=wo at *
   go_wp2_with fail
   go_loopw [3,17] (fun x i wx=>∃ (q R:Nat),q≤P.bl.length∧i=.int .i64 q∧x=.int .i64 (R:Int)∧R≤64∧Hid (GB (pmS ms) m q R)∧Below wo.heap.size wo wx) (fun _ i _=>P.bl.length - (intOf i).toNat)
   case atStart=>exact ⟨0,R,Nat.zero_le _,rfl,rfl,hR,hG,HAL.out⟩
   case round=>
    obtain ⟨q,R',hq,rfl,rfl,hR',hG',B⟩:=hrel
    by_cases hlt2:q<P.bl.length
    ·have hlt2':(q:Int)<(P.bl.length:Int):=by omega
     obtain ⟨_,_,hcb,_,_⟩:=HMB.out wr B
     obtain ⟨b2,off2,rfl,hc⟩:=hcb (by rw [HEB.out];omega)
     have cb:=hc q (by rw [HEB.out];exact hlt2)
     rw [HBK.out q hlt2] at cb
     have hLq:=vbk q hlt2
     obtain ⟨LQ,hLQ⟩:∃ LQ,LQ=(P.bl.getD q []).length:=⟨_,rfl⟩
     rw [← hLQ] at cb hLq
     have HG2:=hide (show GB (pmS ms) m (q+1) (max R' LQ) by rw [hLQ,HP.out];exact hG'.out.step (by omega) (by rw [← HP.out];exact hlt2))
     have hmx:max (R':Int) (LQ:Int)=((max R' LQ:Nat):Int):=by omega
     have HB2:=hide B
     generalize M.bl.getD q zB=bq at cb
     obtain ⟨bq1,bq2,bq3,bq4⟩:=bq
     dsimp only at cb
     clear hcb hc hLQ B
     go_wp2
     go_roundw
     case rel=>exact ⟨q+1,max R' LQ,by omega,by go_num,(by rw [← hmx];congr 1;split <;> omega),by omega,HG2,HB2.out⟩
     case measure=>simp [intOf];omega
    ·have hlt2':¬ (q:Int)<(P.bl.length:Int):=by omega
     have HG2:=hide (hG'.out.next (by rw [← HP.out];omega))
     have HB2:=hide (HB.out.trans (B.mono HB.out.size))
     clear B
     go_wp2
     go_roundw
     case rel=>exact ⟨m+1,R',by omega,by go_num,rfl,hR',HG2,HB2.out⟩
     case measure=>simp [intOf];omega
  ·have hlt':¬ (m:Int)<(n:Int):=by omega
   have HG:=hide (show GB (pmS ms) (pmS ms).length 0 R by rw [hpl,← show m=n by omega];exact hG.out)
   have HB:=hide B
   clear B hG
   go_wp2
   go_ret
   exact ⟨R,rfl,by first | exact HG.out | (have:=HG.out;rw [hpl] at this;exact this),HB.out⟩
theorem placeS_any (g:Nat)(x:Int)(a:Option Addr)(n cap:Nat)(w:World)(h:Blk w g #[.int .i64 x,.func (.func 187) #[] #[]] 266)(hx0:0≤x)(hx1:x≤1000000)(hn:n≤65535):
 Calls Tryz.prog 230 #[.pointer (some ⟨g,0,none⟩),.slice a n cap] w fun e w'=>e=.returned (.int .i64 x)∧Blk w' g #[.int .i64 (x+rnd (4 * (n:Int))),.func (.func 187) #[] #[]] 266∧Turn (fun j=>j=g) w w':=by
 have c0:w.cell? ⟨g,0,none⟩=some (.int .i64 x):=h.cell 0
 have c1:w.cell? ⟨g,1,none⟩=some (.func (.func 187) #[] #[]):=h.cell 1
 have f0:=h.frozen 0
 have rR:=rnd_range (x:=4 * (n:Int)) (by omega)
 obtain ⟨RR,hRR⟩:∃ RR,RR=rnd (4 * (n:Int)):=⟨_,rfl⟩
 have HW:=hide (fun W=>wordBytes_any a n cap W (by omega))
 rw [← hRR] at rR HW ⊢
 have hw:IntKind.i64.wrap (x+RR)=x+RR:=wraps62 _ (by omega) (by omega)
 have HF:=hide (show Blk ((w.setCell ⟨g,0,none⟩ (.int .i64 (x+RR))).drew) g #[.int .i64 (x+RR),.func (.func 187) #[] #[]] 266∧Turn (fun j=>j=g) w ((w.setCell ⟨g,0,none⟩ (.int .i64 (x+RR))).drew) from ⟨h.set 0 (.int .i64 (x+RR)),turn_d1 (turn_set w g 0 (.int .i64 (x+RR)))⟩)
 clear h hRR
 go_enter Tryz.func230,Tryz.ntmps230
 go_wp2_with fail
 go_region_law (first
  | (go_simp;go_at_call 187;refine (HW.out _).mono ?_;rintro e wz ⟨rfl,rfl⟩))
 all_goals
  go_wp2
  go_ret
  exact ⟨rfl,HF.out.1,HF.out.2⟩
theorem placeI_any (g:Nat)(x v:Int)(w:World)(h:Blk w g #[.int .i64 x,.func (.func 229) #[] #[]] 268)(hx0:0≤x)(hx1:x≤1000000)(hv0:0≤v)(hv1:v≤1000000):
 Calls Tryz.prog 232 #[.pointer (some ⟨g,0,none⟩),.int .i64 v] w fun e w'=>e=.returned (.int .i64 x)∧Blk w' g #[.int .i64 (x+rnd v),.func (.func 229) #[] #[]] 268∧Turn (fun j=>j=g) w w':=by
 have c0:w.cell? ⟨g,0,none⟩=some (.int .i64 x):=h.cell 0
 have c1:w.cell? ⟨g,1,none⟩=some (.func (.func 229) #[] #[]):=h.cell 1
 have f0:=h.frozen 0
 have rR:=rnd_range hv0
 obtain ⟨RR,hRR⟩:∃ RR,RR=rnd v:=⟨_,rfl⟩
 have HW:=hide (fun W=>roundUp_any v W hv0 (by omega))
 rw [← hRR] at rR HW ⊢
 have hw:IntKind.i64.wrap (x+RR)=x+RR:=wraps62 _ (by omega) (by omega)
 have HF:=hide (show Blk ((w.setCell ⟨g,0,none⟩ (.int .i64 (x+RR))).drew) g #[.int .i64 (x+RR),.func (.func 229) #[] #[]] 268∧Turn (fun j=>j=g) w ((w.setCell ⟨g,0,none⟩ (.int .i64 (x+RR))).drew) from ⟨h.set 0 (.int .i64 (x+RR)),turn_d1 (turn_set w g 0 (.int .i64 (x+RR)))⟩)
 clear h hRR
 go_enter Tryz.func232,Tryz.ntmps232
 go_wp2_with fail
 go_region_law (first
  | (go_simp;go_at_call 229;refine (HW.out _).mono ?_;rintro e wz ⟨rfl,rfl⟩))
 all_goals
  go_wp2
  go_ret
  exact ⟨rfl,HF.out.1,HF.out.2⟩
structure Tf (w:World)(base g n:Nat)(f:Nat→TB):Prop where
 head:∃ cs,Blk w g cs 189∧cs.size=n∧∀ i,i<n→cs[i]?=some (svT (f i))
 rows:∀ i,i<n→OG 71 3 clG w base (svT (f i)) (f i).1
 apart:∀ i j,i<n→j<n→i≠j→∀ k,(svT (f i)).ownBlock=some k→(svT (f j)).ownBlock≠some k
theorem Tf.below {w w':World}{base g n:Nat}{f:Nat→TB}(h:Tf w base g n f)(hb:Below w.heap.size w w'):Tf w' base g n f:=
 ⟨by obtain ⟨cs,h1,h2,h3⟩:=h.head;exact ⟨cs,h1.below hb,h2,h3⟩,fun i hi=>(h.rows i hi).below hb,h.apart⟩
theorem Tf.cell {w:World}{base g n:Nat}{f:Nat→TB}(h:Tf w base g n f)(i:Nat)(hi:i<n):w.cell? ⟨g,i,none⟩=some (svT (f i))∧w.frozen? ⟨g,i,none⟩=false:=by
 obtain ⟨cs,h1,h2,h3⟩:=h.head
 exact ⟨(h1.cell i).trans (h3 i hi),h1.frozen i⟩
theorem Tf.lt {w:World}{base g n:Nat}{f:Nat→TB}(h:Tf w base g n f):g<w.heap.size∧∀ i,i<n→∀ k,(svT (f i)).ownBlock=some k→base≤k∧k<w.heap.size:=by
 obtain ⟨cs,h1,_⟩:=h.head
 exact ⟨h1.lt,fun i hi=>(h.rows i hi).lt⟩
theorem Tf.update {W W':World}{base g n m:Nat}{f:Nat→TB}{x:TB}{g4 c4:Nat}(h:Tf W base g n f)(hm:m<n)(hg:W.grownBy W' (svT (f m)).ownBlock)(hx:OG 71 3 clG W' base (svT x) x.1)(hs:svT x=.slice (some ⟨g4,0,none⟩) x.1.length c4)(hat:(svT (f m)).ownBlock=some g4∨g4=W.heap.size):Tf (W'.setCell ⟨g,m,none⟩ (svT x)) base g n (fun i=>if i=m then x else f i):=by
 obtain ⟨cs,h1,h2,h3⟩:=h.head
 have hk:∀ k,(svT (f m)).ownBlock=some k→k≠g:=fun k hk e=>by subst e;exact kind_no (h.rows m hm) hk h1 (by decide)
 have hb:Blk W' g cs 189:=blk_grown h1 hg (fun e=>hk g e.symm rfl)
 have tx:=turn_set W' g m (svT x)
 have hng:∀ (u:Value) (ys:List Tg),OG 71 3 clG W' base u ys→∀ k,u.ownBlock=some k→¬ (fun j=>j=g) k:=fun u ys ho k hk' e=>by
  have e':k=g:=e
  subst e'
  exact kind_no ho hk' hb (by decide)
 refine ⟨⟨cs.setIfInBounds m (svT x),hb.set m (svT x),by simp [h2],fun i hi=>?_⟩,fun i hi=>?_,fun i j hi hj hij k hk1=>?_⟩
 ·by_cases e:i=m
  ·subst e;simp [h2,hi]
  ·simp only [e,if_false]
   rw [Array.getElem?_setIfInBounds_ne (fun e'=>e e'.symm)]
   exact h3 i hi
 ·by_cases e:i=m
  ·simp only [e,if_true]
   exact hx.kept tx (hng _ _ hx)
  ·simp only [e,if_false]
   have o:=(h.rows i hi).kept' hg (fun k hk' e'=>h.apart i m hi hm e k hk' e')
   exact o.kept tx (hng _ _ o)
 ·have hx4:(svT x).ownBlock=some g4:=by rw [hs];rfl
  by_cases e1:i=m
  ·have e2:¬ j=m:=fun e=>hij (e1.trans e.symm)
   simp only [e1,e2,if_true,if_false] at hk1 ⊢
   rw [hx4] at hk1
   simp at hk1
   subst hk1
   rcases hat with h5 | h5
   ·exact fun e=>h.apart m j hm hj (fun e'=>e2 e'.symm) g4 h5 e
   ·exact fun e=>by have:=(h.lt.2 j hj g4 e).2;omega
  ·by_cases e2:j=m
   ·simp only [e1,e2,if_true,if_false] at hk1 ⊢
    rw [hx4]
    intro e
    simp at e
    subst e
    rcases hat with h5 | h5
    ·exact h.apart i m hi hm e1 g4 hk1 h5
    ·have:=(h.lt.2 i hi g4 hk1).2;omega
   ·simp only [e1,e2,if_false] at hk1 ⊢
    exact h.apart i j hi hj hij k hk1
theorem made_rows {w:World}{base g n:Nat}(h:w.ownsRow base 189 1 (.slice (some ⟨g,0,none⟩) n n) n (madeCells (Value.cells (.slice none 0 0)) (n * 1)).toList)(lo:Nat):Tf w lo g n (fun _=>([],none,0)):=by
 obtain ⟨hl,h | ⟨g',cap,cur,hv,hb,hh,h1,h2,h3,h4⟩⟩:=h
 ·simp at h
 ·simp at hv
  obtain ⟨rfl,rfl⟩:=hv
  have e:cur.toList=(madeCells (Value.cells (.slice none 0 0)) (n * 1)).toList:=by
   rw [← h4,List.take_of_length_le (by simp [h3])]
  have e2:cur=madeCells (Value.cells (.slice none 0 0)) (n * 1):=Array.toList_inj.1 e
  refine ⟨⟨cur,hh,by simpa using h3,fun i hi=>?_⟩,fun i hi=>og_nil _ _ _ _ _,fun i j _ _ _ k hk=>by simp [svT,Value.ownBlock] at hk⟩
  rw [e2]
  simp [madeCells,Value.cells,svT,hi,Nat.mod_one]
theorem Tf.otg {w:World}{base g n c:Nat}{f:Nat→TB}(h:Tf w base g n f)(hg:base≤g)(hn:n≤maxLen)(hc:c=n):OTg w base base (.slice (some ⟨g,0,none⟩) ((List.range n).map f).length c) ((List.range n).map f):=by
 subst hc
 obtain ⟨cs,h1,h2,h3⟩:=h.head
 refine ⟨⟨?_,.inr ⟨g,c,cs,by simp,hg,h1,by simp,hn,by simpa using h2,?_⟩⟩,fun x hx=>?_,?_⟩
 ·rw [show ((List.range c).map f).flatMap clTB=(List.range c).map (fun i=>svT (f i)) by rw [List.flatMap_map];exact flat_one _ _]
  simp
 ·apply List.ext_getElem?
  intro i
  rw [show ((List.range c).map f).flatMap clTB=(List.range c).map (fun i=>svT (f i)) by rw [List.flatMap_map];exact flat_one _ _]
  by_cases hi:i<c
  ·rw [List.getElem?_take,if_pos (by simpa using hi),Array.getElem?_toList,h3 i hi]
   simp [hi]
  ·rw [List.getElem?_eq_none (by simp;omega),List.getElem?_eq_none (by simp;omega)]
 ·simp at hx
  obtain ⟨i,hi,rfl⟩:=hx
  exact h.rows i hi
 ·rw [List.pairwise_iff_getElem]
  intro i j hi hj hij k hk
  simp at hi hj hk ⊢
  exact h.apart i j hi hj (by omega) k hk
end Go.Proofs.YtngdgogjlpjjpaeGreat
