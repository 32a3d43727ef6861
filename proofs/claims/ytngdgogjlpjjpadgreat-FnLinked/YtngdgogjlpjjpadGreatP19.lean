import Derived.Test.YtngdgogjlpjjpadGreatP18
namespace Go.Proofs.YtngdgogjlpjjpadGreat
open Go.RowKit
set_option linter.unusedVariables false
set_option linter.unusedSimpArgs false
set_option maxRecDepth 100000
theorem al_below (W:World) (o:Obj):Below W.heap.size W (W.alloc o):=(Below.refl _ _).alloc (Nat.le_refl _) _
theorem MR.code {w W:World} {r:Nat} {a:Option Addr} {n c:Nat} {zs:List Int} {k g q:Nat} {P:PMod} {M:Ma} (h:MR w W r a n c zs k g q P M) {ys:List Int} {k':Nat} (CF:CodeFn zs k ys k'):
 Calls Tryz.prog 198 #[.pointer (some ⟨r,0,none⟩)] W fun e w'=>∃ A C,e=.returned (.slice A ys.length C)∧OG 3 1 clI w' W.heap.size (.slice A ys.length C) ys∧MR w w' r a n c zs k' g q P M:=
 (CF W r a n c h.m.d.fresh).mono fun e w' ⟨v,he,L⟩=>by
   obtain ⟨A,C,rfl⟩:=og_shape L.o
   exact ⟨A,C,he,L.o,h.turn L.d.t (h.m.d.trans L.d)⟩
theorem MR.cell4 {w W:World} {r:Nat} {a:Option Addr} {n c:Nat} {zs:List Int} {k g q:Nat} {P:PMod} {M:Ma} {W':World} (h:MR w W r a n c zs k g q P M) {t:TypeId} {sz m base:Nat} {v u:Value} {xs:List Value} (ho:W.ownsRow base t sz v m xs) (hg:W.grownBy W' v.ownBlock) (hne:t≠49) (i:Nat) (hu:(modV P M.a1 M.c1 M.a2 M.c2 M.bl M.a3 M.c3 M.a5 M.c5 M.a6 M.c6 M.a7 M.c7)[i]?=some u):W'.cell? ⟨g,i,none⟩=some u∧W'.frozen? ⟨g,i,none⟩=false:=by
 have b:=box_grown h.m.box ho hg hne
 exact ⟨by rw [b.cell];exact hu,b.frozen i⟩
theorem MR.bank {w W:World} {r:Nat} {a:Option Addr} {n c:Nat} {zs:List Int} {k g q:Nat} {P:PMod} {M:Ma} {wa w4:World} {k' g4 c4:Nat} {A:Option Addr} {Cp:Nat} {x:List Int} (h:MR w W r a n c zs k g q P M) (hA:MR w wa r a n c zs k' g q P M) (ox:OG 3 1 clI wa W.heap.size (.slice A x.length Cp) x)
 (hown:w4.ownsRow w.heap.size 29 1 (.slice (some ⟨g4,0,none⟩) (M.bl.length+1) c4) (M.bl.length+1) (M.bl.map (fun B=>Value.slice B.1 B.2.1 B.2.2.1)++[.slice A x.length Cp])) (hg:(wa.alloc (.cells #[.slice A x.length Cp] 29)).grownBy w4 (Value.slice M.a2 M.bl.length M.c2).ownBlock):
 MR w (w4.setCell ⟨g,2,none⟩ (.slice (some ⟨g4,0,none⟩) (M.bl.length+1) c4)) r a n c zs k' g q { P with bl:=P.bl++[x] } { M with a2:=some ⟨g4,0,none⟩,c2:=c4,bl:=M.bl++[(A,x.length,Cp,x)] }:=by
 have al:=al_below wa (.cells #[.slice A x.length Cp] 29)
 have hL:=hA.below al
 have mo:=hL.m.o.grow_b (v':=.slice none 0 0) (ox.below al) h.m.d.sz (fun B hB j hj=>((h.m.o.b.rows B hB).2.lt j hj).2) (fun j hj=>(h.m.o.t.lt j hj).2) (fun j hj=>(h.m.o.r.lt j hj).2) hown hg
 exact MR.put (base:=w.heap.size) hL hL.m.o.b.head (by decide) hg mo hA.m.ds (by show _=_;simp [modV])
theorem MR.data {w W:World} {r:Nat} {a:Option Addr} {n c:Nat} {zs:List Int} {k g q:Nat} {P:PMod} {M:Ma} {w4:World} {g4 c4:Nat} {x:Int} (h:MR w W r a n c zs k g q P M) (hx:0≤x∧x≤255)
 (hown:w4.ownsRow w.heap.size 5 1 (.slice (some ⟨g4,0,none⟩) (P.dz.length+1) c4) (P.dz.length+1) (P.dz.map (Value.int .u8)++[.int .u8 x])) (hg:W.grownBy w4 (Value.slice M.a3 P.dz.length M.c3).ownBlock):
 MR w (w4.setCell ⟨g,3,none⟩ (.slice (some ⟨g4,0,none⟩) (P.dz.length+1) c4)) r a n c zs k g q { P with dz:=P.dz++[x] } { M with a3:=some ⟨g4,0,none⟩,c3:=c4 }:=by
 have mo:=h.m.o.grow_d (X:=[x]) rfl ⟨by rw [List.length_append,List.map_append];exact hown,fun z hz=>by rcases List.mem_append.1 hz with hz | hz;exact h.m.o.d.2 z hz;simp at hz;subst hz;exact hx⟩ hg
 exact MR.put (base:=w.heap.size) h h.m.o.d.1 (by decide) hg mo ⟨g4,rfl⟩ (by show _=_;simp [modV])
theorem MR.reloc {w W:World} {r:Nat} {a:Option Addr} {n c:Nat} {zs:List Int} {k g q:Nat} {P:PMod} {M:Ma} {w4:World} {g4 c4:Nat} {x:Int} (h:MR w W r a n c zs k g q P M)
 (hown:w4.ownsRow w.heap.size 3 1 (.slice (some ⟨g4,0,none⟩) (P.rz.length+1) c4) (P.rz.length+1) (P.rz.flatMap clI++clI x)) (hg:W.grownBy w4 (Value.slice M.a5 P.rz.length M.c5).ownBlock) (hat:(Value.slice M.a5 P.rz.length M.c5).ownBlock=some g4∨g4=W.heap.size):
 MR w (w4.setCell ⟨g,5,none⟩ (.slice (some ⟨g4,0,none⟩) (P.rz.length+1) c4)) r a n c zs k g q { P with rz:=P.rz++[x] } { M with a5:=some ⟨g4,0,none⟩,c5:=c4 }:=by
 have mo:=h.m.o.grow_r (X:=[x]) rfl (by unfold OG;rw [List.length_append,List.flatMap_append];exact hown) hg hat
 exact MR.put (base:=w.heap.size) h h.m.o.r (by decide) hg mo h.m.ds (by show _=_;simp [modV])
theorem MR.text {w W:World} {r:Nat} {a:Option Addr} {n c:Nat} {zs:List Int} {k g q:Nat} {P:PMod} {M:Ma} {w4:World} {g4 c4:Nat} {x:Int} (h:MR w W r a n c zs k g q P M)
 (hown:w4.ownsRow w.heap.size 3 1 (.slice (some ⟨g4,0,none⟩) (P.tz.length+1) c4) (P.tz.length+1) (P.tz.flatMap clI++clI x)) (hg:W.grownBy w4 (Value.slice M.a1 P.tz.length M.c1).ownBlock) (hat:(Value.slice M.a1 P.tz.length M.c1).ownBlock=some g4∨g4=W.heap.size):
 MR w (w4.setCell ⟨g,1,none⟩ (.slice (some ⟨g4,0,none⟩) (P.tz.length+1) c4)) r a n c zs k g q { P with tz:=P.tz++[x] } { M with a1:=some ⟨g4,0,none⟩,c1:=c4 }:=by
 have mo:=h.m.o.grow_t (X:=[x]) rfl (by unfold OG;rw [List.length_append,List.flatMap_append];exact hown) hg hat
 exact MR.put (base:=w.heap.size) h h.m.o.t (by decide) hg mo h.m.ds (by show _=_;simp [modV])
theorem MR.imp {w W:World} {r:Nat} {a:Option Addr} {n c:Nat} {zs:List Int} {k g q:Nat} {P:PMod} {M:Ma} {w4:World} {g4 c4:Nat} {x:ByteArray} (h:MR w W r a n c zs k g q P M)
 (hown:w4.ownsRow w.heap.size 9 1 (.slice (some ⟨g4,0,none⟩) (P.ss.length+1) c4) (P.ss.length+1) (P.ss.flatMap clT++clT x)) (hg:W.grownBy w4 (Value.slice M.a6 P.ss.length M.c6).ownBlock):
 MR w (w4.setCell ⟨g,6,none⟩ (.slice (some ⟨g4,0,none⟩) (P.ss.length+1) c4)) r a n c zs k g q { P with ss:=P.ss++[x] } { M with a6:=some ⟨g4,0,none⟩,c6:=c4 }:=by
 have mo:=h.m.o.grow_i (X:=[x]) rfl (by unfold OG;rw [List.length_append,List.flatMap_append];exact hown) hg
 exact MR.put (base:=w.heap.size) h h.m.o.i (by decide) hg mo h.m.ds (by show _=_;simp [modV])
theorem MR.exp {w W:World} {r:Nat} {a:Option Addr} {n c:Nat} {zs:List Int} {k g q:Nat} {P:PMod} {M:Ma} {w4:World} {g4 c4:Nat} {x:Ex} (h:MR w W r a n c zs k g q P M)
 (hown:w4.ownsRow w.heap.size 210 3 (.slice (some ⟨g4,0,none⟩) (P.es.length+1) c4) (P.es.length+1) (P.es.flatMap clX++clX x)) (hg:W.grownBy w4 (Value.slice M.a7 P.es.length M.c7).ownBlock):
 MR w (w4.setCell ⟨g,7,none⟩ (.slice (some ⟨g4,0,none⟩) (P.es.length+1) c4)) r a n c zs k g q { P with es:=P.es++[x] } { M with a7:=some ⟨g4,0,none⟩,c7:=c4 }:=by
 have mo:=h.m.o.grow_e (X:=[x]) rfl (by unfold OG;rw [List.length_append,List.flatMap_append];exact hown) hg
 exact MR.put (base:=w.heap.size) h h.m.o.e (by decide) hg mo h.m.ds (by show _=_;simp [modV])
theorem mr_new {w w4:World} {r:Nat} {a:Option Addr} {n c:Nat} {zs:List Int} {k:Nat} {a1:Option Addr} {c1:Nat} {T:List Int} (D:Dst w w4 r a n c zs k) (O:OG 3 1 clI w4 w.heap.size (.slice a1 T.length c1) T) (R:Blk w4 w.heap.size z8 49) (nm:ByteArray) (bss:Int):
 MR w ((((((w4.alloc (.cells #[] 29)).alloc (.cells #[] 5)).alloc (.cells #[] 3)).alloc (.cells #[] 9)).alloc (.cells #[] 210)).alloc (.cells #[.string nm,.slice a1 T.length c1,.slice (some ⟨w4.heap.size,0,none⟩) 0 0,.slice (some ⟨w4.heap.size+1,0,none⟩) 0 0,.int .i64 bss,.slice (some ⟨w4.heap.size+1+1,0,none⟩) 0 0,.slice (some ⟨w4.heap.size+1+1+1,0,none⟩) 0 0,.slice (some ⟨w4.heap.size+1+1+1+1,0,none⟩) 0 0] 49)) r a n c zs k (w4.heap.size+5) w.heap.size ⟨nm,T,[],[],bss,[],[],[]⟩ ⟨a1,c1,some ⟨w4.heap.size,0,none⟩,0,[],some ⟨w4.heap.size+1,0,none⟩,0,some ⟨w4.heap.size+1+1,0,none⟩,0,some ⟨w4.heap.size+1+1+1,0,none⟩,0,some ⟨w4.heap.size+1+1+1+1,0,none⟩,0⟩:=by
 have hs:=D.sz
 have hlt:=R.lt
 have o2:=og_mk 29 1 (fun B:Bk=>[Value.slice B.1 B.2.1 B.2.2.1]) w4 w.heap.size hs [] #[] rfl rfl (by unfold maxLen;simp)
 have b1:=al_below w4 (.cells #[] 29)
 have s1:(w4.alloc (.cells #[] 29)).heap.size=w4.heap.size+1:=by simp
 generalize w4.alloc (.cells #[] 29)=u1 at *
 have o3:=og_mk 5 1 (fun z:Int=>[Value.int .u8 z]) u1 w.heap.size (by omega) [] #[] rfl rfl (by unfold maxLen;simp)
 have b2:=al_below u1 (.cells #[] 5)
 have s2:(u1.alloc (.cells #[] 5)).heap.size=w4.heap.size+1+1:=by simp [s1]
 rw [s1] at o3
 generalize u1.alloc (.cells #[] 5)=u2 at *
 have o5:=og_mk 3 1 clI u2 w.heap.size (by omega) [] #[] rfl rfl (by unfold maxLen;simp)
 have b3:=al_below u2 (.cells #[] 3)
 have s3:(u2.alloc (.cells #[] 3)).heap.size=w4.heap.size+1+1+1:=by simp [s2]
 rw [s2] at o5
 generalize u2.alloc (.cells #[] 3)=u3 at *
 have o6:=og_mk 9 1 clT u3 w.heap.size (by omega) [] #[] rfl rfl (by unfold maxLen;simp)
 have b4:=al_below u3 (.cells #[] 9)
 have s4:(u3.alloc (.cells #[] 9)).heap.size=w4.heap.size+1+1+1+1:=by simp [s3]
 rw [s3] at o6
 generalize u3.alloc (.cells #[] 9)=u4 at *
 have o7:=og_mk 210 3 clX u4 w.heap.size (by omega) [] #[] rfl rfl (by unfold maxLen;simp)
 have b5:=al_below u4 (.cells #[] 210)
 have s5:(u4.alloc (.cells #[] 210)).heap.size=w4.heap.size+1+1+1+1+1:=by simp [s4]
 rw [s4] at o7
 generalize u4.alloc (.cells #[] 210)=u5 at *
 have bx:=Blk.new u5 #[.string nm,.slice a1 T.length c1,.slice (some ⟨w4.heap.size,0,none⟩) 0 0,.slice (some ⟨w4.heap.size+1,0,none⟩) 0 0,.int .i64 bss,.slice (some ⟨w4.heap.size+1+1,0,none⟩) 0 0,.slice (some ⟨w4.heap.size+1+1+1,0,none⟩) 0 0,.slice (some ⟨w4.heap.size+1+1+1+1,0,none⟩) 0 0] 49
 have b6:=al_below u5 (.cells #[.string nm,.slice a1 T.length c1,.slice (some ⟨w4.heap.size,0,none⟩) 0 0,.slice (some ⟨w4.heap.size+1,0,none⟩) 0 0,.int .i64 bss,.slice (some ⟨w4.heap.size+1+1,0,none⟩) 0 0,.slice (some ⟨w4.heap.size+1+1+1,0,none⟩) 0 0,.slice (some ⟨w4.heap.size+1+1+1+1,0,none⟩) 0 0] 49)
 rw [s5] at bx
 refine ⟨⟨(((((D.below b1).below b2).below b3).below b4).below b5).below b6,bx,by omega,?_,⟨_,rfl⟩⟩,(((((R.below b1).below b2).below b3).below b4).below b5).below b6,Nat.le_refl _,by omega⟩
 refine ⟨(((((O.below b1).below b2).below b3).below b4).below b5).below b6,⟨?_,by simp,by simp⟩,rfl,⟨?_,by simp⟩,((o5.below b4).below b5).below b6,(o6.below b5).below b6,o7.below b6,by simp,?_,by simp⟩
 ·exact ((((o2.below b2).below b3).below b4).below b5).below b6
 ·exact (((o3.below b3).below b4).below b5).below b6
 ·intro j hj e
  have:=(O.lt j hj).2
  have e':some (w4.heap.size+1+1)=some j:=e
  injection e' with e'
  omega
end Go.Proofs.YtngdgogjlpjjpadGreat
