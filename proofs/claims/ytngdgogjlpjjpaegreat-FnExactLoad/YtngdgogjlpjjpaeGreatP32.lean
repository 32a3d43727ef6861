import Derived.Test.YtngdgogjlpjjpaeGreatP24
import Derived.Test.YtngdgogjlpjjpaeGreatP27
namespace Go.Proofs.YtngdgogjlpjjpaeGreat
open Go.RowKit Classical
set_option linter.unusedVariables false
set_option linter.unusedSimpArgs false
set_option maxRecDepth 100000
theorem omp_new (W:World)(base:Nat)(hb:base≤W.heap.size):OMp (W.alloc (.cells #[] 104)) base (.slice (some ⟨W.heap.size,0,none⟩) 0 0) [] (fun _=>W.heap.size):=⟨og_new' _ _ _ _ _ hb,fun i x hx=>by simp at hx,fun _ _ _ _=>Nat.le_refl _,hb,by simp⟩
theorem OMp.src {W:World}{base g n cap:Nat}{L:List (PMod × Mb)}{β:Nat→Nat}{i:Nat}{x:PMod × Mb}(H:OMp W base (.slice (some ⟨g,0,none⟩) n cap) L β)(hx:L[i]?=some x):W.cell? ⟨g,i * 8,none⟩=some (.string x.1.nm)∧W.cell? ⟨g,i * 8+1,none⟩=some (.slice x.2.a1 x.1.tz.length x.2.c1)∧W.cell? ⟨g,i * 8+2,none⟩=some (.slice x.2.a2 x.2.bl.length x.2.c2)∧W.cell? ⟨g,i * 8+3,none⟩=some (.slice x.2.a3 x.1.dz.length x.2.c3)∧W.cell? ⟨g,i * 8+4,none⟩=some (.int .i64 x.1.bss)∧W.cell? ⟨g,i * 8+5,none⟩=some (.slice x.2.a5 x.1.rz.length x.2.c5)∧W.cell? ⟨g,i * 8+6,none⟩=some (.slice x.2.a6 x.1.ss.length x.2.c6)∧W.cell? ⟨g,i * 8+7,none⟩=some (.slice x.2.a7 x.1.es.length x.2.c7):=
 (OMs.at (x:=hdP x) H.oms (by rw [List.getElem?_map,hx];rfl)).1
def L7P (w:World)(n:Nat)(L:List (PMod × Mb))(e:Ending)(w':World):Prop:=∃ a cap L' β',e=.returned (.slice a n cap)∧OMp w' w.heap.size (.slice a n cap) L' β'∧L'.map (fun x=>x.1)=L.map (fun x=>x.1)∧Below w.heap.size w w'
theorem OMp.srcM {W:World}{base g n cap:Nat}{L:List (PMod × Mb)}{β:Nat→Nat}{i:Nat}{P:PMod}{b1 b2 b3 b5 b6 b7:Option Addr}{d1 d2 d3 d5 d6 d7:Nat}{bq:List Bk}(H:OMp W base (.slice (some ⟨g,0,none⟩) n cap) L β)(hx:L[i]?=some (P,⟨b1,d1,b2,d2,bq,b3,d3,b5,d5,b6,d6,b7,d7⟩)):
 (W.cell? ⟨g,i * 8,none⟩=some (.string P.nm)∧W.cell? ⟨g,i * 8+1,none⟩=some (.slice b1 P.tz.length d1)∧W.cell? ⟨g,i * 8+2,none⟩=some (.slice b2 bq.length d2)∧W.cell? ⟨g,i * 8+3,none⟩=some (.slice b3 P.dz.length d3)∧W.cell? ⟨g,i * 8+4,none⟩=some (.int .i64 P.bss)∧W.cell? ⟨g,i * 8+5,none⟩=some (.slice b5 P.rz.length d5)∧W.cell? ⟨g,i * 8+6,none⟩=some (.slice b6 P.ss.length d6)∧W.cell? ⟨g,i * 8+7,none⟩=some (.slice b7 P.es.length d7))∧ModO W (β i) P b1 d1 b2 d2 bq b3 d3 b5 d5 b6 d6 b7 d7∧PmR P:=⟨H.src hx,(H.m i _ hx).1,(H.m i _ hx).2.1⟩
theorem og_drew {α:Type}{t:TypeId}{sz:Nat}{f:α→List Value}{w:World}{base:Nat}{v:Value}{xs:List α}(h:OG t sz f w base v xs):OG t sz f w.drew base v xs:=h.below (Below.refl _ _).drew
theorem bank_at {W:World}{base:Nat}{b2:Option Addr}{d2:Nat}{bq:List Bk}(h:OBk W base (.slice b2 bq.length d2) bq)(k:Nat)(hk:k<bq.length):∃ gb A C zs,b2=some ⟨gb,0,none⟩∧bq[k]?=some (A,zs.length,C,zs)∧W.cell? ⟨gb,k,none⟩=some (.slice A zs.length C)∧OG 3 1 clI W base (.slice A zs.length C) zs:=by
 obtain ⟨gb,cp,e,_⟩:=World.ownsRow.form h.head (by omega)
 simp only [Value.slice.injEq] at e
 obtain ⟨rfl,-,rfl⟩:=e
 obtain ⟨A,m,C,zs,hB⟩:∃ A m C zs,bq[k]?=some (A,m,C,zs):=⟨bq[k].1,bq[k].2.1,bq[k].2.2.1,bq[k].2.2.2,List.getElem?_eq_getElem hk⟩
 obtain ⟨e1,O⟩:=h.rows _ (List.mem_of_getElem? hB)
 dsimp only at e1 O
 subst e1
 refine ⟨gb,A,C,zs,rfl,hB,?_,O⟩
 have q:=World.ownsRow.cells h.head (g:=gb) rfl k (.slice A zs.length C) (by rw [List.getElem?_map,hB];rfl)
 rwa [addr_add,Nat.zero_add] at q
theorem take_snoc {α β:Type}{f:α→β}{l:List α}{k:Nat}{x:α}(h:l[k]?=some x):(l.take (k+1)).map f=(l.take k).map f++[f x]:=by
 rw [List.take_add_one,h,List.map_append]
 rfl
theorem own_len {W:World}{base n:Nat}{v:Value}{L:List (PMod × Mb)}(hl:L.length=n)(h:OG 104 8 clB W base v L):W.ownsRow base 104 8 v n (L.flatMap clB):=by
 subst hl
 exact h
theorem push_below {w W0 X w4:World}{v:Value}{L:List (PMod × Mb)}{β:Nat→Nat}(O:OMp W0 w.heap.size v L β)(B:Below w.heap.size w W0)(B1:Below W0.heap.size W0 X)(hgr:X.grownBy w4 v.ownBlock):Below w.heap.size w w4:=
 below_turn (B.trans (B1.mono B.size)) (S:=fun q=>v.ownBlock=some q) ⟨hgr.os,hgr.tape,hgr.output,hgr.size,fun q hq hs=>hgr.block q hq (fun e=>hs e.symm)⟩ (fun q hq=>(O.o.lt q hq).1) (Nat.le_trans B.size B1.size)
set_option maxHeartbeats 16000000 in
theorem l7Mods_any (g n cap b:Nat)(L:List (PMod × Mb))(β:Nat→Nat)(w:World)(H:OMp w b (.slice (some ⟨g,0,none⟩) n cap) L β)(hl:L.length=n)(hn:n≤4):
 Calls Tryz.prog 163 #[.slice (some ⟨g,0,none⟩) n cap] w (L7P w n L):=by
 obtain ⟨iI,hiI,hI0,hI1,hI2⟩:=info_parts infoI
 obtain ⟨iB,hiB,hB0,hB1,hB2⟩:=info_parts infoB
 obtain ⟨iT,hiT,hiT0,hiT1,hiT2⟩:=info_parts infoT
 obtain ⟨iX,hiX,hiX0,hiX1,hiX2⟩:=info_parts infoX
 obtain ⟨iM,hiM,hiM0,hiM1,hiM2⟩:=info_parts infoM
 have S0:=omp_new w w.heap.size (Nat.le_refl _)
 have B0:Below w.heap.size w (w.alloc (.cells #[] 104)):=(Below.refl _ _).alloc (Nat.le_refl _) _
 have HS0:=hide (And.intro S0 B0)
 have HH:=hide H
 clear S0 B0 H
 go_enter Tryz.func163,Tryz.ntmps163
 go_wp2
 go_loopw [3,4] (fun v i wr=>∃ j:Nat,j≤n∧i=.int .i64 j∧∃ L' β',OMp wr w.heap.size v L' β'∧L'.map (fun x=>x.1)=(L.take j).map (fun x=>x.1)∧Below w.heap.size w wr) (fun _ i _=>n - (intOf i).toNat)
 case atStart=>exact ⟨0,Nat.zero_le _,rfl,[],_,HS0.out.1,by simp,HS0.out.2⟩
 case round=>
  obtain ⟨j,hj,rfl,L',β',O,hL,B⟩:=hrel
  have hl':L'.length=j:=by have:=congrArg List.length hL;simp at this;omega
  obtain ⟨av,cv,rfl⟩:=og_shape O.o
  rw [hl'] at O ⊢
  generalize wr=W0 at *
  clear HS0
  by_cases hlt:j<n
  ·have hlt':(j:Int)<(n:Int):=by omega
   obtain ⟨⟨P,⟨b1,d1,b2,d2,bq,b3,d3,b5,d5,b6,d6,b7,d7⟩⟩,hx⟩:∃ x,L[j]?=some x:=⟨L[j],List.getElem?_eq_getElem (by omega)⟩
   have HSR:=hide (fun (X:World) (hX:Below W0.heap.size W0 X)=>(HH.out.below (B.trans (hX.mono B.size))).srcM hx)
   have HO:=hide (And.intro O (And.intro hL B))
   obtain ⟨⟨s0,s1,s2,s3,s4,s5,s6,s7⟩,_⟩:=HSR.out W0 (Below.refl _ _)
   obtain ⟨w1,hw1⟩:∃ w1,w1=W0.alloc (.cells #[.string P.nm,.slice b1 P.tz.length d1,.slice b2 bq.length d2,.slice b3 P.dz.length d3,.int .i64 P.bss,.slice b5 P.rz.length d5,.slice b6 P.ss.length d6,.slice b7 P.es.length d7] 104):=⟨_,rfl⟩
   have C1:Cpm W0 w1 W0.heap.size #[.string P.nm,.slice b1 P.tz.length d1,.slice b2 bq.length d2,.slice b3 P.dz.length d3,.int .i64 P.bss,.slice b5 P.rz.length d5,.slice b6 P.ss.length d6,.slice b7 P.es.length d7]:=by rw [hw1];exact ⟨(Below.refl _ _).alloc (Nat.le_refl _) _,Blk.new _ _ _,Nat.le_refl _⟩
   have b1':Below w1.heap.size w1 (w1.alloc (.cells #[] 3)):=(Below.refl _ _).alloc (Nat.le_refl _) _
   obtain ⟨⟨q0,q1,q2,q3,q4,q5,q6,q7⟩,mo,R⟩:=HSR.out _ (C1.b.trans (b1'.mono C1.b.size))
   have HOW:=hide (og_new' 3 1 clI w1 w1.heap.size (Nat.le_refl _))
   have HSC:=hide mo.t
   have ht:=R.t.1
   have hbn:bq.length≤255:=by have h1:=R.b.1;rw [← mo.bls,List.length_map] at h1;exact h1
   have HRR:=hide R
   have HC1:=hide C1
   have HW1:=hide hw1
   have HXX:=hide hx
   clear O hL B C1 hw1 b1' mo hx R
   go_wp2_with (first | (at_builtin;refine list_copy rfl _ _ 24 rfl w1.heap.size 3 iI (.int .i64 0) 1 8 Tryz.underlying24 hiI hI0 hI1 hI2 rfl (by decide) (.slice (some ⟨w1.heap.size,0,none⟩) 0 0) [] rfl HOW.out (β j) (.slice b1 P.tz.length d1) P.tz rfl HSC.out (fun _=>rfl) (fun y u hu=>by simp [clI] at hu;subst hu;rfl) (by unfold maxLen;simp;omega) (by simp;omega) (by simp) ?_;intro v' w2 O2 G2;rw [List.nil_append] at O2;obtain ⟨t1,e1,rfl⟩:=og_shape O2;obtain ⟨k2,C2,R2,T2⟩:=HC1.out.row 1 O2 (by decide) G2;have z1:=k2.cell 1;have zf1:=k2.frozen 1;have kk:=C2.k.alloc (.cells #[] 24);have z2:=kk.cell 2;have zf2:=kk.frozen 2;have HC2:=hide (Cpb.new (v2:=.slice b2 bq.length d2) (C2:Cpm W0 _ W0.heap.size #[.string P.nm,.slice t1 P.tz.length e1,.slice b2 bq.length d2,.slice b3 P.dz.length d3,.int .i64 P.bss,.slice b5 P.rz.length d5,.slice b6 P.ss.length d6,.slice b7 P.es.length d7]) (OG.mono R2 HC1.out.b.size));clear kk k2 C2 R2 T2 O2 G2 q0 q1 q2 q3 q4 q5 q6 q7) | rw [← HW1.out])
   rw [size_setCell] at HC2
   clear s0 s1 s2 s3 s4 s5 s6 s7
   go_loopw [7] (fun i wr=>∃ (k:Nat) (a2:Option Addr) (c2:Nat) (bl:List Bk),k≤bq.length∧i=.int .i64 k∧bl.map (fun B=>B.2.2.2)=(bq.take k).map (fun B=>B.2.2.2)∧Cpb W0 wr W0.heap.size w2.heap.size t1 e1 P.tz a2 c2 bl (.string P.nm) (.slice b3 P.dz.length d3) (.int .i64 P.bss) (.slice b5 P.rz.length d5) (.slice b6 P.ss.length d6) (.slice b7 P.es.length d7)) (fun i _=>bq.length - (intOf i).toNat)
   case atStart=>exact ⟨0,_,_,[],Nat.zero_le _,rfl,by simp,HC2.out⟩
   case round=>
    obtain ⟨k,a2,c2,bl,hk,rfl,hbl,C⟩:=hrel
    have hbll:bl.length=k:=by have:=congrArg List.length hbl;simp at this;omega
    have hb255:bl.length≤255:=by omega
    have HBL:=hide hbll
    clear z1 zf1 z2 zf2 HC2 hbll
    generalize w2.heap.size=lo at *
    by_cases hkl:k<bq.length
    ·have hkl':(k:Int)<(bq.length:Int):=by omega
     have hk0:(0:Int)≤(k:Int):=by omega
     have hj0:(0:Int)≤(j:Int):=by omega
     obtain ⟨w5,hw5⟩:∃ w5,w5=wr.alloc (.cells #[] 3):=⟨_,rfl⟩
     have bw5:Below wr.heap.size wr w5:=by rw [hw5];exact (Below.refl _ _).alloc (Nat.le_refl _) _
     have ow5:OG 3 1 clI w5 wr.heap.size (.slice (some ⟨wr.heap.size,0,none⟩) 0 0) []:=by rw [hw5];exact og_new' _ _ _ _ _ (Nat.le_refl _)
     obtain ⟨⟨_,_,r2,_⟩,mo,_⟩:=HSR.out wr C.c.b
     have C5:=C.below bw5
     obtain ⟨⟨_,_,p2,_⟩,mo5,R5⟩:=HSR.out w5 C5.c.b
     obtain ⟨gb,A,Cc,zs,eb2,hB,p3,oz⟩:=bank_at mo5.b k hkl
     subst eb2
     have p1:=C5.c.k.cell 2
     simp only [Array.getElem?_eq_getElem,List.getElem?_toArray,List.getElem?_cons_succ,List.getElem?_cons_zero] at p1
     have hzl:zs.length≤65535:=(R5.b.2 zs (by rw [← mo5.bls,List.mem_map];exact ⟨_,List.mem_of_getElem? hB,rfl⟩)).1
     have HW5:=hide hw5
     have HOW5:=hide ow5
     have HOZ:=hide oz
     have HC:=hide (And.intro C bw5)
     have HBB:=hide (And.intro hB hbl)
     have HP3:=hide (fun (X:World) (hX:Below W0.heap.size W0 X)=>(show X.cell? ⟨g,j * 8+2,none⟩=some (.slice (some ⟨gb,0,none⟩) bq.length d2)∧X.cell? ⟨gb,k,none⟩=some (.slice A zs.length Cc) from by
      obtain ⟨⟨_,_,y2,_⟩,moX,_⟩:=HSR.out X hX
      obtain ⟨gb',A',Cc',zs',e',hB',y3,_⟩:=bank_at moX.b k hkl
      rw [hB] at hB'
      simp at e' hB'
      obtain ⟨rfl,_,rfl,rfl⟩:=hB'
      subst e'
      exact ⟨y2,y3⟩))
     clear hw5 bw5 ow5 mo C5 mo5 R5 oz C hB hbl
     go_wp2_with (rw [← HW5.out])
     have HSZ5:=hide HC.out.2.size
     go_region_law
      (first
        | (refine step_copy (by rfl) _ _ 24 (by rfl) wr.heap.size 3 iI (.int .i64 0) 1 8 Tryz.underlying24 hiI hI0 hI1 hI2 rfl (by decide) (.slice (some ⟨wr.heap.size,0,none⟩) 0 0) [] (by rfl) (by first | exact HOW5.out | exact og_drew HOW5.out) (β j) (.slice A zs.length Cc) zs (by rfl) (by first | exact HOZ.out | exact og_drew HOZ.out) (fun _=>rfl) (fun y u hu=>by simp [clI] at hu;subst hu;rfl) (by unfold maxLen;simp;omega) (by simp;omega) (by exact HSZ5.out) ?_;intro v' w6 O6 G6;rw [List.nil_append] at O6;obtain ⟨A6,D6,rfl⟩:=og_shape O6;have hb6:Below wr.heap.size wr w6:=(by first | exact below_row HC.out.2 HSZ5.out rfl G6 | exact below_row HC.out.2.drew HSZ5.out rfl G6);have C6:=HC.out.1.below hb6;obtain ⟨p2',p3'⟩:=HP3.out w6 C6.c.b;have p1':w6.cell? ⟨W0.heap.size,2,none⟩=some (.slice a2 bl.length c2):=C6.c.k.cell 2;have p1a:(w6.alloc (.cells #[.slice A6 zs.length D6] 24)).cell? ⟨W0.heap.size,2,none⟩=some (.slice a2 bl.length c2):=(C6.c.k.alloc _).cell 2;have HOW6:=hide (C6.below ((Below.refl _ _).alloc (Nat.le_refl _) (.cells #[.slice A6 zs.length D6] 24))).b.head;have HNW6:=hide (cells_new w6 _ 24 [.slice A6 zs.length D6] rfl);have HBK:=hide (fun w4 d hown hgr=>HC.out.1.bank (w4:=w4) (d:=d) (O6.below ((Below.refl _ _).alloc (Nat.le_refl _) (.cells #[.slice A6 zs.length D6] 24))) (hb6.trans (((Below.refl _ _).alloc (Nat.le_refl _) (.cells #[.slice A6 zs.length D6] 24)).mono hb6.size)) hown hgr);have HSZ6:=hide (C6.below ((Below.refl _ _).alloc (Nat.le_refl _) (.cells #[.slice A6 zs.length D6] 24))).lh;clear O6 G6 hb6 C6)
        | (refine step_append_lies _ (by rfl) _ _ 93 (by rfl) lo 24 iB (.slice none 0 0) 1 24 Tryz.underlying93 hiB hB0 hB1 hB2 rfl (by decide) (.slice a2 bl.length c2) bl.length (bl.map fun B=>Value.slice B.1 B.2.1 B.2.2.1) (by rfl) HOW6.out ⟨w6.heap.size,0,none⟩ 1 1 [.slice A6 zs.length D6] (by rfl) (by rfl) HNW6.out (by intro u hu;simp at hu;subst hu;rfl) (by decide) (by unfold maxLen;omega) (by omega) HSZ6.out _ rfl ?_;intro g4 c4 w4 hown hgr hat hlt4;have HB4:=hide (HBK.out w4 _ hown hgr);have HP5:=hide (HP3.out _ (HB4.out.2.choose_spec.choose_spec.2.c.b));obtain ⟨p24,p34⟩:=HP3.out w4 HB4.out.1.b;have p14:w4.cell? ⟨W0.heap.size,2,none⟩=some (.slice a2 bl.length c2):=HB4.out.1.k.cell 2;have f4:=HB4.out.1.k.frozen 2;clear hown hgr hat))
     all_goals
      clear p1 p1' p1a p14 p2 p2' p24 p3 p3' p34 f4 HOW6 HNW6 HBK HSZ6 HP5
      go_wp2
      go_roundw
      case rel=>
       obtain ⟨a',c',ed,CF⟩:=HB4.out.2
       exact ⟨k+1,a',c',_,by omega,by go_num,by rw [List.map_append,HBB.out.2,take_snoc HBB.out.1];rfl,CF⟩
      case measure=>simp [intOf];omega
    ·have hkl':¬ (k:Int)<(bq.length:Int):=by omega
     obtain rfl:k=bq.length:=by omega
     rw [List.take_length] at hbl
     have hj0:(0:Int)≤(j:Int):=by omega
     obtain ⟨⟨_,_,r2,r3,_⟩,mo,R⟩:=HSR.out wr C.c.b
     have HCA:=hide (l1Bytes_ob (β j) b3 P.dz.length d3 P.dz wr mo.d rfl (by have:=R.d.1;omega))
     have HC:=hide C
     have HBB:=hide (show bl.map (fun B=>B.2.2.2)=P.bl by rw [hbl];exact mo.bls)
     clear C mo R hbl
     go_wp2_with fail
     refine HCA.out.mono ?_
     rintro e w7 ⟨a3,c3,rfl,o7,k7⟩
     obtain ⟨C7,D7,P7,T7,_⟩:=HC.out.row (v3':=.slice a3 P.dz.length c3) (ob_og o7) k7 (by decide) 3 rfl
     have y3:=C7.c.k.cell 3
     have yf3:=C7.c.k.frozen 3
     obtain ⟨X7,hX7⟩:∃ X7,X7=w7.setCell ⟨W0.heap.size,3,none⟩ (.slice a3 P.dz.length c3):=⟨_,rfl⟩
     rw [← hX7] at D7 P7 T7
     obtain ⟨⟨_,_,_,_,_,r5,_⟩,mo7,R7⟩:=HSR.out _ (D7.below ((Below.refl _ _).alloc (Nat.le_refl _) (.cells #[] 3))).c.b
     have hrl:=R7.r.1
     have hil:=R7.i.1
     have hel:=R7.e.1
     have HOW7:=hide (og_new' 3 1 clI X7 X7.heap.size (Nat.le_refl _))
     have HSC7:=hide mo7.r
     have HD7:=hide (And.intro D7 (And.intro P7 (Nat.le_trans HC.out.c.b.size (Nat.le_refl wr.heap.size))))
     have HX7:=hide hX7
     clear C7 D7 P7 T7 hX7 mo7 R7 o7 k7 r2 r3 HCA
     go_wp2_with (first
      | (at_builtin;refine list_copy rfl _ _ 24 rfl X7.heap.size 3 iI (.int .i64 0) 1 8 Tryz.underlying24 hiI hI0 hI1 hI2 rfl (by decide) (.slice (some ⟨X7.heap.size,0,none⟩) 0 0) [] rfl HOW7.out (β j) (.slice b5 P.rz.length d5) P.rz rfl HSC7.out (fun _=>rfl) (fun y u hu=>by simp [clI] at hu;first | (subst hu;rfl) | (rcases hu with rfl | rfl | rfl <;> rfl)) (by unfold maxLen;simp;omega) (by simp;omega) (by simp) ?_;intro v' w8 O8 G8;rw [List.nil_append] at O8;obtain ⟨a5,c5,rfl⟩:=og_shape O8;obtain ⟨C8,D8,P8,T8,_⟩:=HD7.out.1.row (v5':=.slice a5 P.rz.length c5) O8 (below_grownN G8) (by decide) 5 rfl;have HAP:=hide (HD7.out.1.apart O8);have y5:=C8.c.k.cell 5;have yf5:=C8.c.k.frozen 5;obtain ⟨X8,hX8⟩:∃ X8,X8=w8.setCell ⟨W0.heap.size,5,none⟩ (.slice a5 P.rz.length c5):=⟨_,rfl⟩;rw [← hX8] at D8 P8 T8;obtain ⟨⟨_,_,_,_,_,_,r6,_⟩,mo8,_⟩:=HSR.out _ (D8.below ((Below.refl _ _).alloc (Nat.le_refl _) (.cells #[] 9))).c.b;have HOW8:=hide (og_new' 9 1 clT X8 X8.heap.size (Nat.le_refl _));have HSC8:=hide mo8.i;have HD8:=hide (And.intro D8 (And.intro P8 (row_kept T8 HD7.out.1.c.k HD7.out.2.1 (by decide))));have HX8:=hide hX8;clear C8 D8 P8 T8 hX8 mo8 O8 G8 r5)
      | (at_builtin;refine list_copy rfl _ _ 94 rfl X8.heap.size 9 iT (.string ⟨#[]⟩) 1 16 Tryz.underlying94 hiT hiT0 hiT1 hiT2 rfl (by decide) (.slice (some ⟨X8.heap.size,0,none⟩) 0 0) [] rfl HOW8.out (β j) (.slice b6 P.ss.length d6) P.ss rfl HSC8.out (fun _=>rfl) (fun y u hu=>by simp [clT] at hu;first | (subst hu;rfl) | (rcases hu with rfl | rfl | rfl <;> rfl)) (by unfold maxLen;simp;omega) (by simp;omega) (by simp) ?_;intro v' w9 O9 G9;rw [List.nil_append] at O9;obtain ⟨a6,c6,rfl⟩:=og_shape O9;obtain ⟨C9,D9,P9,T9,_⟩:=HD8.out.1.row (v6':=.slice a6 P.ss.length c6) O9 (below_grownN G9) (by decide) 6 rfl;have y6:=C9.c.k.cell 6;have yf6:=C9.c.k.frozen 6;obtain ⟨X9,hX9⟩:∃ X9,X9=w9.setCell ⟨W0.heap.size,6,none⟩ (.slice a6 P.ss.length c6):=⟨_,rfl⟩;rw [← hX9] at D9 P9 T9;obtain ⟨⟨_,_,_,_,_,_,_,r7⟩,mo9,_⟩:=HSR.out _ (D9.below ((Below.refl _ _).alloc (Nat.le_refl _) (.cells #[] 207))).c.b;have HOW9:=hide (og_new' 207 3 clX X9 X9.heap.size (Nat.le_refl _));have HSC9:=hide mo9.e;have HD9:=hide (And.intro D9 (And.intro P9 (And.intro (row_kept T9 HD8.out.1.c.k HD8.out.2.1 (by decide)) (row_kept T9 HD8.out.1.c.k HD8.out.2.2 (by decide)))));have HX9:=hide hX9;clear C9 D9 P9 T9 hX9 mo9 O9 G9 r6)
      | (at_builtin;refine list_copy rfl _ _ 102 rfl X9.heap.size 207 iX _ 3 32 Tryz.underlying102 hiX hiX0 hiX1 hiX2 rfl (by decide) (.slice (some ⟨X9.heap.size,0,none⟩) 0 0) [] rfl HOW9.out (β j) (.slice b7 P.es.length d7) P.es rfl HSC9.out (fun _=>rfl) (fun y u hu=>by simp [clX] at hu;first | (subst hu;rfl) | (rcases hu with rfl | rfl | rfl <;> rfl)) (by unfold maxLen;simp;omega) (by simp;omega) (by simp) ?_;intro v' w10 O10 G10;rw [List.nil_append] at O10;obtain ⟨a7,c7,rfl⟩:=og_shape O10;obtain ⟨C10,D10,P10,T10,_⟩:=HD9.out.1.row (v7':=.slice a7 P.es.length c7) O10 (below_grownN G10) (by decide) 7 rfl;have y7:=C10.c.k.cell 7;have yf7:=C10.c.k.frozen 7;obtain ⟨XX,hXX⟩:∃ XX,XX=w10.setCell ⟨W0.heap.size,7,none⟩ (.slice a7 P.es.length c7):=⟨_,rfl⟩;rw [← hXX] at D10 P10 T10;have HD10:=hide (And.intro D10 (And.intro P10 (And.intro (row_kept T10 HD9.out.1.c.k HD9.out.2.1 (by decide)) (And.intro (row_kept T10 HD9.out.1.c.k HD9.out.2.2.1 (by decide)) (row_kept T10 HD9.out.1.c.k HD9.out.2.2.2 (by decide))))));obtain ⟨x0,x1,x2,x3,x4,x5,x6,x7⟩:=Blk.eight' D10.c.k;have HXE:=hide hXX;have bXX:Below XX.heap.size XX (XX.alloc (.cells #[.string P.nm,.slice t1 P.tz.length e1,.slice a2 bl.length c2,.slice a3 P.dz.length c3,.int .i64 P.bss,.slice a5 P.rz.length c5,.slice a6 P.ss.length c6,.slice a7 P.es.length c7] 104)):=(Below.refl _ _).alloc (Nat.le_refl _) _;have hsX:=Nat.le_trans HO.out.2.2.size D10.c.b.size;have HOWX:=hide (own_len hl' (HO.out.1.below (D10.c.b.trans (bXX.mono D10.c.b.size))).o);have HNWX:=hide (cells_new XX #[.string P.nm,.slice t1 P.tz.length e1,.slice a2 bl.length c2,.slice a3 P.dz.length c3,.int .i64 P.bss,.slice a5 P.rz.length c5,.slice a6 P.ss.length c6,.slice a7 P.es.length c7] 104 (clB (P,(⟨t1,e1,a2,c2,bl,a3,c3,a5,c5,a6,c6,a7,c7⟩:Mb))) rfl);have hwr:=Nat.le_trans HC.out.c.b.size (Nat.le_refl wr.heap.size);have HMO:=hide (HD10.out.1.done HBB.out HRR.out.d.2 HD10.out.2.2.2.2 HC.out.c.b.size HD10.out.2.2.2.1 HD7.out.1.c.b.size HD10.out.2.2.1 HD8.out.1.c.b.size HD10.out.2.1 HD9.out.1.c.b.size HAP.out);have HPU:=hide (fun (v':Value) (w4:World) hown hgr=>And.intro (HO.out.1.push (x:=(P,(⟨t1,e1,a2,c2,bl,a3,c3,a5,c5,a6,c6,a7,c7⟩:Mb))) (v':=v') (w4:=w4) hl' HD10.out.1.c.b HMO.out HRR.out bXX hown hgr) (push_below HO.out.1 HO.out.2.2 (HD10.out.1.c.b.trans (bXX.mono HD10.out.1.c.b.size)) hgr));clear C10 D10 P10 T10 hXX O10 G10 r7 bXX hwr)
      | (at_builtin;refine wpList_append_own _ rfl _ _ 31 rfl w.heap.size 104 iM _ 8 _ Tryz.underlying31 hiM hiM0 hiM1 hiM2 rfl (by decide) (.slice av j cv) j (L'.flatMap clB) rfl HOWX.out ⟨XX.heap.size,0,none⟩ 1 1 (clB (P,(⟨t1,e1,a2,c2,bl,a3,c3,a5,c5,a6,c6,a7,c7⟩:Mb))) rfl rfl HNWX.out (by intro u hu;simp [clB,clH,hdP] at hu;rcases hu with rfl | rfl | rfl | rfl | rfl | rfl | rfl | rfl <;> rfl) (by unfold maxLen;omega) (by omega) (by simp;omega) ?_;intro v' w4 hown hgr _;have HP:=hide (HPU.out v' w4 hown hgr);clear hown hgr HPU HOWX HNWX x0 x1 x2 x3 x4 x5 x6 x7)
      | rw [← HX7.out] | rw [← HX8.out] | rw [← HX9.out] | rw [← HXE.out])
     go_roundw
     case rel=>exact ⟨j+1,by omega,by go_num,_,_,HP.out.1,by rw [List.map_append,HO.out.2.1,take_snoc HXX.out];rfl,HP.out.2⟩
     case measure=>simp [intOf];omega
  ·have hlt':¬ (j:Int)<(n:Int):=by omega
   obtain rfl:j=n:=by omega
   rw [← hl,List.take_length] at hL
   have HO:=hide (And.intro O (And.intro hL B))
   clear O hL B
   go_wp2
   go_ret
   exact ⟨av,cv,L',β',rfl,HO.out.1,HO.out.2.1,HO.out.2.2⟩
end Go.Proofs.YtngdgogjlpjjpaeGreat
